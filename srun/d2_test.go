package srun_test

import (
	"math"
	"testing"

	"crosswalk/api"
)

func TestD2FieldsAtFirst(t *testing.T) {
	for _, class := range []int{lower, lowest} {
		checkOut(t, []int64{0, 0, 1, 0, 1, 0}, method(
			ins(api.SNew, class), ins(api.SStore, 0, api.KRef),
			ins(api.SLoad, 0, api.KRef), ins(api.SGet, upper, 0), emitInt,
			ins(api.SLoad, 0, api.KRef), ins(api.SGet, upper, 1), emitLong,
			ins(api.SLoad, 0, api.KRef), ins(api.SGet, upper, 2), ins(api.SIfNull, 12), comeBack, putInt(1), emitInt,
			ins(api.SLoad, 0, api.KRef), ins(api.SGet, lower, 0), emitLong,
			ins(api.SLoad, 0, api.KRef), ins(api.SGet, lower, 1), ins(api.SIfNull, 21), comeBack, putInt(1), emitInt,
			ins(api.SLoad, 0, api.KRef), ins(api.SGet, lower, 2), emitInt,
			comeBack))
	}
}

func TestD2AFieldOfNothingAtFirstIsOfItsType(t *testing.T) {
	checkOut(t, []int64{0}, method(
		ins(api.SNew, upper), ins(api.SNew, upper), ins(api.SGet, upper, 2), ins(api.SPut, upper, 2),
		ins(api.SNew, lower), ins(api.SGet, lower, 1), ins(api.SIs, 0), emitInt, comeBack))
}

// fieldPuts stores in each field of an object in the local.
func fieldPuts(local int, n int64) []api.Ins {
	return code(
		ins(api.SLoad, local, api.KRef), putInt(n), ins(api.SPut, upper, 0),
		ins(api.SLoad, local, api.KRef), putLong(n+1), ins(api.SPut, upper, 1),
		ins(api.SLoad, local, api.KRef), ins(api.SLoad, local, api.KRef), ins(api.SPut, upper, 2),
		ins(api.SLoad, local, api.KRef), putLong(n+2), ins(api.SPut, lower, 0),
		ins(api.SLoad, local, api.KRef), ins(api.SNew, other), ins(api.SPut, lower, 1),
		ins(api.SLoad, local, api.KRef), putInt(n+3), ins(api.SPut, lower, 2),
	)
}

// fieldsOut lets out what fieldPuts stored; of references which class they are of.
func fieldsOut(local int) []api.Ins {
	return code(
		ins(api.SLoad, local, api.KRef), ins(api.SGet, upper, 0), emitInt,
		ins(api.SLoad, local, api.KRef), ins(api.SGet, upper, 1), emitLong,
		ins(api.SLoad, local, api.KRef), ins(api.SGet, upper, 2), ins(api.SIs, lower), emitInt,
		ins(api.SLoad, local, api.KRef), ins(api.SGet, lower, 0), emitLong,
		ins(api.SLoad, local, api.KRef), ins(api.SGet, lower, 1), ins(api.SIs, other), emitInt,
		ins(api.SLoad, local, api.KRef), ins(api.SGet, lower, 2), emitInt,
	)
}

func TestD2FieldsOfTheClassAndOfThoseAbove(t *testing.T) {
	checkOut(t, []int64{100, 101, 1, 102, 1, 103, 200, 201, 1, 202, 1, 203}, method(join(
		code(ins(api.SNew, lower), ins(api.SStore, 0, api.KRef), ins(api.SNew, lowest), ins(api.SStore, 1, api.KRef)),
		fieldPuts(0, 100), fieldPuts(1, 200), fieldsOut(0), fieldsOut(1), code(comeBack))...))
}

func TestD2AFieldBecomesWhatIsStoredLast(t *testing.T) {
	checkOut(t, []int64{300, 301, 1, 302, 1, 303}, method(join(
		code(ins(api.SNew, lower), ins(api.SStore, 0, api.KRef)),
		fieldPuts(0, 100), fieldPuts(0, 300), fieldsOut(0), code(comeBack))...))
}

func TestD2AnObjectIsSharedByItsReferences(t *testing.T) {
	checkOut(t, []int64{7, 8}, method(
		ins(api.SNew, other), ins(api.SDup), ins(api.SStore, 0, api.KRef), ins(api.SStore, 1, api.KRef),
		ins(api.SLoad, 0, api.KRef), putInt(7), ins(api.SPut, other, 0),
		ins(api.SLoad, 1, api.KRef), ins(api.SGet, other, 0), emitInt,
		ins(api.SLoad, 1, api.KRef), ins(api.SCall, 1),
		ins(api.SLoad, 0, api.KRef), ins(api.SGet, other, 0), emitInt, comeBack),
		taking([]api.Type{ref(other)}, ins(api.SLoad, 0, api.KRef), putInt(8), ins(api.SPut, other, 0), comeBack))
}

func TestD2LocalsHaveNothingInThemAtFirst(t *testing.T) {
	for kind := api.KInt; kind <= api.KRef; kind++ {
		for _, slot := range []int{0, 1, 30, api.MaxLocals - 2} {
			checkEnd(t, api.EndStuck, method(ins(api.SLoad, slot, kind), comeBack))
		}
	}
}

func TestD2EachCallHasLocalsAndAStackOfItsOwn(t *testing.T) {
	caller := method(putInt(1), ins(api.SStore, 0, api.KInt), putInt(2), ins(api.SCall, 1), emitInt, ins(api.SLoad, 0, api.KInt), emitInt, comeBack)
	checkOut(t, []int64{2, 1}, caller, method(putInt(5), ins(api.SStore, 0, api.KInt), putInt(6), comeBack))
	checkEnd(t, api.EndStuck, caller, method(ins(api.SLoad, 0, api.KInt), comeBack))
	checkEnd(t, api.EndStuck, caller, method(pop, comeBack))
}

func TestD2LocalsOfACallBegunOnceMore(t *testing.T) {
	caller := method(ins(api.SCall, 1), ins(api.SCall, 1), comeBack)
	checkOut(t, nil, caller, method(putInt(5), ins(api.SStore, 3, api.KInt), comeBack))
	called := method(ins(api.SLoad, 3, api.KInt), emitInt, putInt(5), ins(api.SStore, 3, api.KInt), comeBack)
	checkEnd(t, api.EndStuck, caller, called)
}

func TestD2ParamsStandOneBehindTheOther(t *testing.T) {
	called := taking([]api.Type{ref(upper), longType, intType, longType},
		ins(api.SLoad, 0, api.KRef), ins(api.SGet, upper, 0), emitInt,
		ins(api.SLoad, 1, api.KLong), emitLong,
		ins(api.SLoad, 3, api.KInt), emitInt,
		ins(api.SLoad, 4, api.KLong), emitLong, comeBack)
	called.Locals = 6
	caller := method(
		ins(api.SNew, lower), ins(api.SDup), putInt(9), ins(api.SPut, upper, 0),
		putLong(math.MinInt64), putInt(3), putLong(math.MaxInt64), ins(api.SCall, 1), comeBack)
	checkOut(t, []int64{9, math.MinInt64, 3, math.MaxInt64}, caller, called)
	for slot := range 6 {
		for kind := api.KInt; kind <= api.KRef; kind++ {
			if slot == 5 && kind == api.KLong {
				continue
			}
			there := [6]int{api.KRef, api.KLong, 0, api.KInt, api.KLong, 0}[slot] == kind
			called.Code = code(ins(api.SLoad, slot, kind), comeBack)
			want := api.EndStuck
			if there {
				want = api.EndDone
			}
			checkEnd(t, want, caller, called)
		}
	}
}

// store is one into a local: what is stored is its number.
type store struct{ slot, kind int }

// localsAfter says what is in each of four slots after stores: the number of the store, 0 of none. A slot that is stored into takes the long from the other one at once.
func localsAfter(stores []store) (held, kinds [4]int) {
	var mates [4]int
	for k := range mates {
		mates[k] = k
	}
	empty := func(slot int) {
		for _, s := range []int{slot, mates[slot]} {
			held[s], kinds[s] = 0, 0
		}
		mate := mates[slot]
		mates[slot], mates[mate] = slot, mate
	}
	for k, s := range stores {
		empty(s.slot)
		held[s.slot], kinds[s.slot] = k+1, s.kind
		if s.kind == api.KLong {
			empty(s.slot + 1)
			mates[s.slot], mates[s.slot+1] = s.slot+1, s.slot
		}
	}
	return held, kinds
}

func allStores() []store {
	var l []store
	for kind := api.KInt; kind <= api.KRef; kind++ {
		for slot := range 4 {
			if slot < 3 || kind != api.KLong {
				l = append(l, store{slot, kind})
			}
		}
	}
	return l
}

// storing has the number of each store in it: of a reference in a field of the object.
func storing(stores []store) []api.Ins {
	var l []api.Ins
	for k, s := range stores {
		n := int64(k + 1)
		switch s.kind {
		case api.KInt:
			l = append(l, putInt(n))
		case api.KLong:
			l = append(l, putLong(n))
		case api.KRef:
			l = append(l, ins(api.SNew, other), ins(api.SDup), putInt(n), ins(api.SPut, other, 0))
		}
		l = append(l, ins(api.SStore, s.slot, s.kind))
	}
	return l
}

func loading(s store) []api.Ins {
	out := map[int][]api.Ins{
		api.KInt:  {emitInt},
		api.KLong: {emitLong},
		api.KRef:  {ins(api.SGet, other, 0), emitInt},
	}
	return join(code(ins(api.SLoad, s.slot, s.kind)), out[s.kind], code(comeBack))
}

func checkLocals(t *testing.T, stores []store) {
	t.Helper()
	held, kinds := localsAfter(stores)
	for _, s := range allStores() {
		m := method(join(storing(stores), loading(s))...)
		m.Locals = 4
		if held[s.slot] > 0 && kinds[s.slot] == s.kind {
			checkOut(t, []int64{int64(held[s.slot])}, m)
		} else {
			checkEnd(t, api.EndStuck, m)
		}
	}
}

func TestD2WhatIsStoredInOneSlotOfALongTakesItFromTheOther(t *testing.T) {
	for _, a := range allStores() {
		checkLocals(t, []store{a})
		for _, b := range allStores() {
			checkLocals(t, []store{a, b})
			for _, c := range allStores() {
				checkLocals(t, []store{a, b, c})
			}
		}
	}
}

func TestD2ALongLostInItsFirstAndInItsSecondSlot(t *testing.T) {
	long := code(putLong(5), ins(api.SStore, 2, api.KLong))
	load := code(ins(api.SLoad, 2, api.KLong), emitLong, comeBack)
	checkOut(t, []int64{5}, method(join(long, load)...))
	for _, slot := range []int{1, 2, 3, 4} {
		want := api.EndDone
		if slot == 2 || slot == 3 {
			want = api.EndStuck
		}
		checkEnd(t, want, method(join(long, code(putInt(1), ins(api.SStore, slot, api.KInt)), load)...))
		checkEnd(t, want, method(join(long, code(putNull, ins(api.SStore, slot, api.KRef)), load)...))
	}
	for _, slot := range []int{0, 1, 3, 4} {
		want := api.EndDone
		if slot == 1 || slot == 3 {
			want = api.EndStuck
		}
		checkEnd(t, want, method(join(long, code(putLong(1), ins(api.SStore, slot, api.KLong)), load)...))
	}
}

// held is a value that the tests put.
type held struct {
	put  api.Ins
	kind int
	// class is that of the object; -1 of nothing.
	class int
}

func allHeld() []held {
	l := []held{{putInt(5), api.KInt, 0}, {putLong(6), api.KLong, 0}, {putNull, api.KRef, -1}}
	for _, class := range []int{0, upper, lower, lowest, other} {
		l = append(l, held{ins(api.SNew, class), api.KRef, class})
	}
	return l
}

const anyKind = -1

// isOf says whether a value is of a type; of anyKind each one is.
func (h held) isOf(t api.Type) bool {
	if t.Kind == anyKind {
		return true
	}
	if h.kind != t.Kind || h.kind != api.KRef || h.class < 0 {
		return h.kind == t.Kind
	}
	for up := h.class; up >= 0; up = classes()[up].Super {
		if up == t.Class {
			return true
		}
	}
	return false
}

func TestD2WhenAValueIsOfAType(t *testing.T) {
	for _, h := range allHeld() {
		for _, typ := range []api.Type{intType, longType, ref(0), ref(api.ClassNull), ref(upper), ref(lower), ref(lowest), ref(other)} {
			want := api.EndStuck
			if h.isOf(typ) {
				want = api.EndDone
			}
			checkEnd(t, want, giving(typ, h.put, comeBack))
			checkEnd(t, want, method(h.put, ins(api.SCall, 1), comeBack), taking([]api.Type{typ}, comeBack))
		}
	}
}
