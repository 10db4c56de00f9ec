package scheck_test

import (
	"testing"

	"crosswalk/api"
)

// shape says what an instruction takes and puts: where it takes none, any reference will do.
type shape struct {
	i     api.Ins
	takes []api.Type
	puts  []known
	// Of most instructions the next one is the way on.
	last bool
}

func shapes() []shape {
	one := func(t ...api.Type) []api.Type { return t }
	l := []shape{
		{i: putInt, puts: one(intType)},
		{i: putLong, puts: one(longType)},
		{i: putNull, puts: one(none)},
		{i: ins(api.SWiden), takes: one(intType), puts: one(longType)},
		{i: ins(api.SNarrow), takes: one(longType), puts: one(intType)},
		{i: ins(api.SCmp), takes: one(longType, longType), puts: one(intType)},
		{i: ins(api.SIs, upper), takes: one(none), puts: one(intType)},
		{i: ins(api.SEmit, api.KInt), takes: one(intType)},
		{i: ins(api.SEmit, api.KLong), takes: one(longType)},
		{i: ins(api.SIn), puts: one(longType)},
		{i: throwIt, takes: one(none), last: true},
		{i: comeBack, last: true},
		{i: store(9, api.KInt), takes: one(intType)},
		{i: store(9, api.KLong), takes: one(longType)},
		{i: store(9, api.KRef), takes: one(none)},
		{i: ins(api.SCall, 1)},
		{i: ins(api.SCall, 2), takes: one(intType, longType, ref(lower), ref(0)), puts: one(ref(lower))},
		{i: ins(api.SCall, 3), takes: one(longType), puts: one(longType)},
		{i: ins(api.SCall, 4), takes: one(ref(upper), ref(upper)), puts: one(intType)},
	}
	for op := api.OpAdd; op <= api.OpXor; op++ {
		l = append(l, shape{i: ins(api.SIntOp, op), takes: one(intType, intType), puts: one(intType)},
			shape{i: ins(api.SLongOp, op), takes: one(longType, longType), puts: one(longType)})
	}
	for c, class := range classes() {
		l = append(l, shape{i: putNew(c), puts: one(ref(c))}, shape{i: ins(api.SCast, c), takes: one(none), puts: one(ref(c))})
		for n, f := range class.Fields {
			l = append(l, shape{i: ins(api.SGet, c, n), takes: one(ref(c)), puts: one(f)},
				shape{i: ins(api.SPut, c, n), takes: one(ref(c), f)})
		}
	}
	return l
}

// called are the methods behind the first one, which the shapes call.
func called() []api.Method {
	l := []api.Method{
		method(comeBack),
		giving(ref(lower), putNull, comeBack),
		giving(longType, putLong, comeBack),
		giving(intType, putInt, comeBack),
	}
	l[1].Params = types(intType, longType, ref(lower), ref(0))
	l[2].Params = types(longType)
	l[3].Params = types(ref(upper), ref(upper))
	return l
}

func withCalled(m api.Method) []api.Method {
	return append([]api.Method{m}, called()...)
}

func fitsTake(k known, t api.Type) bool {
	return fits(k, t) || t == none && k.Kind == api.KRef
}

// valuesFor has values that are taken: each type is also what may be known of one.
func valuesFor(takes []api.Type) []known {
	return append([]known{}, takes...)
}

func TestE3WhatIsTakenAndPut(t *testing.T) {
	for _, x := range shapes() {
		begin := join(putAll(valuesFor(x.takes)...), code(x.i))
		accept(t, withCalled(method(join(begin, code(comeBack))...))...)
		if x.last {
			accept(t, withCalled(method(begin...))...)
			continue
		}
		refuse(t, withCalled(method(begin...))...)
		// All that was taken is gone, and all that was put is there, and no more.
		pops := times(len(x.puts), pop)
		accept(t, withCalled(method(join(begin, pops, code(comeBack))...))...)
		refuse(t, withCalled(method(join(begin, pops, code(pop, comeBack))...))...)
		for _, put := range x.puts {
			for _, want := range allTypes() {
				acceptIf(t, fits(put, want), withCalled(giving(want, join(begin, code(comeBack))...))...)
			}
		}
	}
}

// What lies under that which is taken stays.
func TestE3WhatLiesUnderItStays(t *testing.T) {
	for _, x := range shapes() {
		if x.last {
			continue
		}
		for _, under := range allKnown() {
			l := join(putAll(under), putAll(valuesFor(x.takes)...), code(x.i), times(len(x.puts), pop), code(comeBack))
			for _, want := range []api.Type{intType, longType, ref(upper)} {
				acceptIf(t, fits(under, want), withCalled(giving(want, l...))...)
			}
		}
	}
}

func TestE3EachValueInEachPlace(t *testing.T) {
	for _, x := range shapes() {
		for place, want := range x.takes {
			for _, k := range allKnown() {
				values := valuesFor(x.takes)
				values[place] = k
				acceptIf(t, fitsTake(k, want), withCalled(method(join(putAll(values...), code(x.i, comeBack))...))...)
			}
		}
	}
}

func TestE3TooFewAndNone(t *testing.T) {
	for _, x := range shapes() {
		for few := range x.takes {
			values := valuesFor(x.takes)
			refuse(t, withCalled(method(join(putAll(values[:few]...), code(x.i, comeBack))...))...)
			refuse(t, withCalled(method(join(putAll(values[few+1:]...), code(x.i, comeBack))...))...)
		}
	}
	for _, i := range []api.Ins{pop, dup, ins(api.SIf, 0, api.CondZero), ins(api.SIfNull, 0)} {
		refuse(t, method(i, comeBack))
	}
}

func TestE3RoomOnTheStack(t *testing.T) {
	for _, x := range shapes() {
		taken := slotsOf(x.takes...)
		put := slotsOf(x.puts...)
		for under := range 4 {
			l := join(times(under, putInt), putAll(valuesFor(x.takes)...), code(x.i, comeBack))
			need := under + max(taken, put)
			accept(t, withCalled(onStack(need, l...))...)
			if need > 0 {
				refuse(t, withCalled(onStack(need-1, l...))...)
			}
		}
	}
}

func TestE3TheGreatestStack(t *testing.T) {
	full := times(api.MaxStack, putInt)
	accept(t, method(join(full, code(comeBack))...))
	refuse(t, method(join(full, code(putInt, comeBack))...))
	refuse(t, method(join(full, code(dup, comeBack))...))
	longs := times(api.MaxStack/2, putLong)
	accept(t, method(join(longs, code(comeBack))...))
	refuse(t, method(join(longs, code(putInt, comeBack))...))
	odd := join(code(putInt), times(api.MaxStack/2-1, putLong))
	accept(t, method(join(odd, code(putInt, comeBack))...))
	refuse(t, method(join(odd, code(putLong, comeBack))...))
	// An int that becomes a long needs a slot more.
	refuse(t, method(join(full, code(ins(api.SWiden), comeBack))...))
	accept(t, method(join(full[1:], code(ins(api.SWiden), comeBack))...))
}

func TestE3PopAndDup(t *testing.T) {
	for _, k := range allKnown() {
		accept(t, method(putKnown(k), pop, comeBack))
		refuse(t, method(putKnown(k), pop, pop, comeBack))
		accept(t, method(putKnown(k), dup, pop, pop, comeBack))
		refuse(t, method(putKnown(k), dup, pop, pop, pop, comeBack))
		slots := slotsOf(k)
		accept(t, onStack(2*slots, putKnown(k), dup, comeBack))
		refuse(t, onStack(2*slots-1, putKnown(k), dup, comeBack))
		for _, want := range allTypes() {
			acceptIf(t, fits(k, want), giving(want, putKnown(k), dup, comeBack))
			acceptIf(t, fits(k, want), giving(want, putKnown(k), dup, pop, comeBack))
		}
	}
}

func TestE3LoadNeedsRoom(t *testing.T) {
	for _, k := range allKnown() {
		slots := slotsOf(k)
		l := code(putKnown(k), store(0, k.Kind), load(0, k.Kind), comeBack)
		accept(t, onStack(slots, l...))
		l = code(putKnown(k), store(0, k.Kind), load(0, k.Kind), load(0, k.Kind), comeBack)
		accept(t, onStack(2*slots, l...))
		refuse(t, onStack(2*slots-1, l...))
	}
}

// A load leaves the slot as it is, a store the stack below.
func TestE3LoadAndStore(t *testing.T) {
	for _, k := range allKnown() {
		accept(t, method(putKnown(k), store(0, k.Kind), load(0, k.Kind), pop, load(0, k.Kind), comeBack))
		refuse(t, method(store(0, k.Kind), comeBack))
		refuse(t, method(putKnown(k), store(0, k.Kind), pop, comeBack))
	}
}

// What is known of a slot is known of what is loaded from it: a reference to nothing stays one.
func TestE3NothingStaysNothing(t *testing.T) {
	for c := range classes() {
		accept(t, giving(ref(c), putNull, comeBack))
		accept(t, giving(ref(c), putNull, store(0, api.KRef), load(0, api.KRef), dup, comeBack))
		// A cast tells the class, also of nothing.
		for d := range classes() {
			acceptIf(t, isBelow(c, d), giving(ref(d), putNull, ins(api.SCast, c), comeBack))
			acceptIf(t, isBelow(c, d), giving(ref(d), putNull, store(0, api.KRef), load(0, api.KRef), ins(api.SCast, c), comeBack))
		}
	}
	accept(t, method(putNull, throwIt))
	accept(t, method(putNull, ins(api.SGet, lower, 0), comeBack))
	accept(t, method(putNull, putLong, ins(api.SPut, lower, 0), comeBack))
}

func TestE3TheFirstInstruction(t *testing.T) {
	for _, k := range allTypes() {
		m := taking(types(k), load(0, k.Kind), comeBack)
		m.Ret = k
		m.Locals = slotsOf(k)
		accept(t, m)
		for _, want := range allTypes() {
			m = taking(types(k), load(0, want.Kind), comeBack)
			m.Ret = want
			acceptIf(t, fits(k, want), m)
		}
		for kind := api.KInt; kind <= api.KRef; kind++ {
			refuse(t, taking(types(k), load(slotsOf(k), kind), comeBack))
		}
	}
	refuse(t, taking(types(intType), pop, comeBack))
}

func TestE3ParametersLieOneBehindTheOther(t *testing.T) {
	l := types(intType, longType, ref(lower), longType)
	at := []int{0, 1, 3, 4}
	for k, p := range l {
		for _, want := range []api.Type{intType, longType, ref(upper), ref(lower), ref(other)} {
			m := taking(l, load(at[k], want.Kind), comeBack)
			m.Ret = want
			acceptIf(t, fits(p, want), m)
		}
	}
	for _, slot := range []int{2, 5, 6} {
		for kind := api.KInt; kind <= api.KRef; kind++ {
			refuse(t, taking(l, load(slot, kind), comeBack))
		}
	}
	refuse(t, taking(types(longType), putInt, store(1, api.KInt), load(0, api.KLong), comeBack))
	refuse(t, taking(types(longType), putInt, store(0, api.KInt), load(0, api.KLong), comeBack))
}

func TestE3WaysOn(t *testing.T) {
	// SGoto does not lead to the next one, nor do SReturn and SThrow.
	accept(t, method(ins(api.SGoto, 0)))
	accept(t, method(ins(api.SGoto, 2), pop, comeBack))
	refuse(t, method(ins(api.SGoto, 1), pop, comeBack))
	accept(t, method(comeBack, pop))
	accept(t, method(putNull, throwIt, pop))
	// SIf and SIfNull lead to both, and have taken the value in both.
	for _, x := range []struct{ put, branch api.Ins }{
		{putInt, ins(api.SIf, 3, api.CondLess)}, {putNull, ins(api.SIfNull, 3)}, {putNew(other), ins(api.SIfNull, 3)},
	} {
		accept(t, method(x.put, x.branch, comeBack, comeBack))
		refuse(t, method(x.put, x.branch, pop, comeBack))
		refuse(t, method(x.put, x.branch, comeBack, pop))
		refuse(t, method(x.put, x.branch, comeBack, putInt))
		// The last one has no next one, even if it goes back.
		x.branch.A = 0
		refuse(t, method(x.put, x.branch))
		accept(t, method(x.put, x.branch, comeBack))
	}
	for _, k := range allKnown() {
		acceptIf(t, k == intType, method(putKnown(k), ins(api.SIf, 2, api.CondZero), comeBack))
		acceptIf(t, k.Kind == api.KRef, method(putKnown(k), ins(api.SIfNull, 2), comeBack))
	}
}

// SIfNull tells nothing about the class where nothing was, nor about what lies in the slot.
func TestE3IfNullTellsNothing(t *testing.T) {
	refuse(t, giving(ref(other), putNew(lower), dup, ins(api.SIfNull, 4), comeBack, comeBack))
	accept(t, giving(ref(upper), putNew(lower), dup, ins(api.SIfNull, 4), comeBack, comeBack))
	refuse(t, giving(ref(other), putNew(0), dup, ins(api.SIs, other), ins(api.SIf, 4, api.CondBoth), comeBack))
}

func TestE3ReturnOfEachKind(t *testing.T) {
	accept(t, method(comeBack))
	for _, k := range allKnown() {
		// Of KVoid nothing is taken, and what is left does not matter.
		accept(t, method(putKnown(k), comeBack))
		for _, want := range allTypes() {
			acceptIf(t, fits(k, want), giving(want, putInt, putKnown(k), comeBack))
		}
	}
	for _, want := range allTypes() {
		refuse(t, giving(want, comeBack))
	}
}

func TestE3Calls(t *testing.T) {
	all := taking(types(intType, longType, ref(upper), ref(upper)), comeBack)
	accept(t, method(putInt, putLong, putNew(lowest), putNull, ins(api.SCall, 1), comeBack), all)
	accept(t, method(putInt, putLong, putNull, putNew(upper), ins(api.SCall, 1), comeBack), all)
	refuse(t, method(putInt, putLong, putNew(other), putNull, ins(api.SCall, 1), comeBack), all)
	refuse(t, method(putInt, putLong, putNew(0), putNull, ins(api.SCall, 1), comeBack), all)
	refuse(t, method(putLong, putInt, putNew(upper), putNull, ins(api.SCall, 1), comeBack), all)
	refuse(t, method(putLong, putNew(upper), putNull, ins(api.SCall, 1), comeBack), all)
	// What is put is what the method called gives, not the one that calls.
	for _, ret := range allTypes() {
		for _, want := range allTypes() {
			gives := giving(ret, putKnown(ret), comeBack)
			acceptIf(t, fits(ret, want), giving(want, ins(api.SCall, 1), comeBack), gives)
		}
		refuse(t, giving(ret, ins(api.SCall, 1), comeBack), method(comeBack))
	}
	// A method may call itself.
	accept(t, giving(intType, ins(api.SCall, 0), comeBack))
}
