package rrun_test

import (
	"math"
	"testing"

	"crosswalk/api"
)

func TestG1TheExampleOfTheChapter(t *testing.T) {
	over := code(setInt(0, 5), setLong(0, 1))
	checkOut(t, []int64{1}, method(join(over, code(emitLong(0), comeBack))...))
	for _, i := range code(emitInt(0), emitInt(1), emitLong(1)) {
		checkStuck(t, 3, method(join(over, code(i, comeBack))...))
	}
}

func TestG1RegistersHaveNothingInThemAtFirst(t *testing.T) {
	for kind := api.KInt; kind <= api.KRef; kind++ {
		for _, r := range []int{0, 1, 30, api.MaxRegs - 2} {
			checkStuck(t, 1, method(move(5, r, kind), comeBack))
		}
	}
	checkStuck(t, 1, method(move(5, api.MaxRegs-1, api.KInt), comeBack))
}

func TestG1EachCallHasRegistersOfItsOwn(t *testing.T) {
	caller := method(setInt(0, 1), setLong(1, 2), call(1), emitInt(0), emitLong(1), comeBack)
	checkOut(t, []int64{1, 2}, caller, method(setInt(0, 5), setInt(1, 6), setNull(2), comeBack))
	checkStuck(t, 4, caller, method(emitInt(0), comeBack))
	checkStuck(t, 4, caller, method(emitLong(1), comeBack))
}

func TestG1RegistersOfACallBegunOnceMore(t *testing.T) {
	caller := method(call(1), call(1), comeBack)
	checkOut(t, nil, caller, method(setInt(3, 5), comeBack))
	// The second call of it asks for what the first one wrote: it is not there.
	called := method(comeIn(0), ins(api.RNarrow, 2, 0), jumpIf(4, api.CondZero, 2), emitInt(3), setInt(3, 5), comeBack)
	s := runFile(t, file(caller, called), nil, []int64{0, 1}, 99)
	checkShown(t, s, api.Shown{End: api.EndStuck, Used: 2, Steps: 11})
}

// The method that is called has the values of Args, in the order of its Params, wherever they stood.
func TestG1ParamsStandOneBehindTheOther(t *testing.T) {
	called := taking(types(ref(upper), longType, intType, longType),
		get(6, 0, upper, 0), emitInt(6), emitLong(1), emitInt(3), emitLong(4), comeBack)
	called.Regs = 7
	caller := method(
		setNew(40, lower), setInt(0, 9), put(0, 40, upper, 0),
		setLong(20, math.MinInt64), setInt(88, 3), setLong(2, math.MaxInt64), call(1, 40, 20, 88, 2), comeBack)
	checkOut(t, []int64{9, math.MinInt64, 3, math.MaxInt64}, caller, called)
	for r := range 6 {
		for kind := api.KInt; kind <= api.KRef; kind++ {
			there := [6]int{api.KRef, api.KLong, 0, api.KInt, api.KLong, 0}[r] == kind
			called.Code = code(move(r, r, kind), comeBack)
			checkEnd(t, endIf(there, api.EndDone, api.EndStuck), caller, called)
		}
	}
}

func TestG1OneRegisterForSeveralParams(t *testing.T) {
	caller := method(setLong(0, 5), setInt(2, 6), call(1, 0, 0, 2, 2), comeBack)
	called := taking(types(longType, longType, intType, intType), emitLong(0), emitLong(2), emitInt(4), emitInt(5), comeBack)
	checkOut(t, []int64{5, 5, 6, 6}, caller, called)
	called.Code = code(setLong(0, 1), setInt(4, 2), emitLong(2), emitInt(5), comeBack)
	checkOut(t, []int64{5, 6}, caller, called)
}

// A method of just as many registers as its parameters take.
func TestG1NoRegisterBesideTheParams(t *testing.T) {
	called := taking(types(longType), emitLong(0), comeBack)
	called.Regs = 2
	caller := method(setLong(0, 5), call(1, 0), comeBack)
	checkOut(t, []int64{5}, caller, called)
	alone := method(setInt(0, 3), emitInt(0), comeBack)
	alone.Regs = 1
	checkOut(t, []int64{3}, alone)
}

// write is one into a register: what is written is its number.
type write struct{ at, kind int }

// registersAfter says what is in each of four registers after writes: the number of the write, 0 of none. A register that is written to takes the long from the other one at once.
func registersAfter(writes []write) (held, kinds [4]int) {
	mates := [4]int{0, 1, 2, 3}
	empty := func(at int) {
		mate := mates[at]
		for _, r := range []int{at, mate} {
			held[r], kinds[r], mates[r] = 0, 0, r
		}
	}
	for k, w := range writes {
		empty(w.at)
		held[w.at], kinds[w.at] = k+1, w.kind
		if w.kind == api.KLong {
			empty(w.at + 1)
			mates[w.at], mates[w.at+1] = w.at+1, w.at
		}
	}
	return held, kinds
}

func allWrites() []write {
	var l []write
	for kind := api.KInt; kind <= api.KRef; kind++ {
		for at := range 4 {
			if at < 3 || kind != api.KLong {
				l = append(l, write{at, kind})
			}
		}
	}
	return l
}

// writing has the number of each write in it: of a reference in a field of the object.
func writing(writes []write) []api.Ins {
	var l []api.Ins
	for k, w := range writes {
		n := int64(k + 1)
		switch w.kind {
		case api.KInt:
			l = append(l, setInt(w.at, n))
		case api.KLong:
			l = append(l, setLong(w.at, n))
		case api.KRef:
			l = append(l, setNew(w.at, other), setInt(10, n), put(10, w.at, other, 0))
		}
	}
	return l
}

func telling(w write) []api.Ins {
	if w.kind == api.KRef {
		return code(get(10, w.at, other, 0), emitInt(10), comeBack)
	}
	return code(emit(w.at, w.kind), comeBack)
}

func checkRegisters(t *testing.T, writes []write) {
	t.Helper()
	held, kinds := registersAfter(writes)
	for _, w := range allWrites() {
		m := method(join(writing(writes), telling(w))...)
		if held[w.at] > 0 && kinds[w.at] == w.kind {
			checkOut(t, []int64{int64(held[w.at])}, m)
		} else {
			checkStuck(t, len(m.Code)-len(telling(w))+1, m)
		}
	}
}

func TestG1WhatIsWrittenToOneSlotOfALongTakesItFromTheOther(t *testing.T) {
	for _, a := range allWrites() {
		checkRegisters(t, []write{a})
		for _, b := range allWrites() {
			checkRegisters(t, []write{a, b})
			for _, c := range allWrites() {
				checkRegisters(t, []write{a, b, c})
			}
		}
	}
}

func TestG1ALongOverHalfOfAnotherOne(t *testing.T) {
	long := setLong(2, 5)
	for at := range 5 {
		l := code(long, setLong(at, 6))
		checkOut(t, []int64{6}, method(join(l, code(emitLong(at), comeBack))...))
		second := method(join(l, code(emitLong(2), comeBack))...)
		switch at {
		case 1, 3:
			checkStuck(t, 3, second)
		case 2:
			checkOut(t, []int64{6}, second)
		default:
			checkOut(t, []int64{5}, second)
		}
	}
	// What is left of the first one is no long again when the second one is gone.
	checkStuck(t, 4, method(long, setLong(3, 6), setInt(3, 1), emitLong(2), comeBack))
	checkStuck(t, 4, method(long, setLong(1, 6), setInt(2, 1), emitLong(2), comeBack))
	checkStuck(t, 4, method(long, setLong(1, 6), setInt(1, 1), emitLong(2), comeBack))
}
