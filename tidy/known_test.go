package tidy_test

import (
	"testing"

	"crosswalk/api"
)

// What was known of a register is known without what is idle: its class, that nothing is there, that it is a long's.
func TestK1WhatIsKnownBehindAMove(t *testing.T) {
	// A class: its fields are there, and it fits what asks for one above it.
	checkLeft(t, method(setNew(0, lowest), get(1, 0, lower, 0), emitLong(1), call(1, 0), comeBack),
		method(setNew(0, lowest), stayRef(0), get(1, 0, lower, 0), stayRef(0), emitLong(1), call(1, 0), comeBack), taking(types(ref(lowest)), comeBack))
	// Nothing: it fits every class.
	checkLeft(t, method(setNull(0), call(1, 0), call(2, 0), comeBack),
		method(setNull(0), stayRef(0), call(1, 0), stayRef(0), call(2, 0), comeBack), taking(types(ref(lowest)), comeBack), taking(types(ref(other)), comeBack))
	checkLeft(t, method(setNull(0), get(1, 0, lower, 0), comeBack), method(setNull(0), stayRef(0), get(1, 0, lower, 0), comeBack))
	checkLeft(t, giving(ref(lower), setNull(0), giveBack(0)), giving(ref(lower), setNull(0), stayRef(0), giveBack(0)))
	// What a cast found out.
	checkLeft(t, method(cast(0, lower), get(1, 0, lower, 1), comeBack), taking(types(ref(0)), stayRef(0), cast(0, lower), stayRef(0), get(1, 0, lower, 1), comeBack))
}

// A long's slots, and what lies beside them, stay what they are.
func TestK1LongsBehindAMove(t *testing.T) {
	stayLong := stay(2, api.KLong)
	checkLeft(t, method(setLong(2, 1<<40), setLong(4, 2<<40), setInt(1, 3), emitLong(2), emitLong(4), emitInt(1), comeBack),
		method(setLong(2, 1<<40), stayLong, setLong(4, 2<<40), stayLong, setInt(1, 3), stayLong, stay(4, api.KLong), stayInt(1), emitLong(2), emitLong(4), emitInt(1), comeBack))
	// What is left beside a long that another one lies across of is nobody's; the idle one changes nothing about that.
	checkLeft(t, method(setLong(1, 7), setLong(2, 8), emitLong(2), setInt(1, 4), emitInt(1), emitLong(2), comeBack),
		method(setLong(1, 7), setLong(2, 8), stayLong, emitLong(2), stayLong, setInt(1, 4), stayLong, emitInt(1), emitLong(2), comeBack))
	checkLeft(t, method(setLong(3, 7), setLong(2, 8), setInt(4, 5), emitLong(2), emitInt(4), comeBack),
		method(setLong(3, 7), setLong(2, 8), stayLong, setInt(4, 5), stayLong, emitLong(2), emitInt(4), comeBack))
	// An int is moved to itself where half of a long was.
	checkLeft(t, method(setLong(2, 8), setInt(3, 5), emitInt(3), setInt(2, 4), emitInt(2), comeBack),
		method(setLong(2, 8), setInt(3, 5), stayInt(3), emitInt(3), setInt(2, 4), stayInt(2), emitInt(2), stayInt(3), comeBack))
}

// Two ways come together at what is idle, with what is known of both.
func TestK1WhatIsKnownOfTwoWays(t *testing.T) {
	for _, x := range []struct {
		a, b api.Ins
		use  []api.Ins
	}{
		{setNew(1, lower), setNew(1, beside), code(get(2, 1, upper, 0), emitInt(2))},
		{setNew(1, lowest), setNull(1), code(get(2, 1, lower, 2), emitInt(2))},
		{setNull(1), setNew(1, other), code(get(2, 1, other, 0), emitInt(2))},
		{setNull(1), setNull(1), code(get(2, 1, lower, 0))},
		{setNew(1, other), setNew(1, lower), code(is(2, 1, lower), emitInt(2))},
		{setInt(1, 5), setInt(1, 6), code(emitInt(1))},
		{setLong(1, 5), setLong(1, 6), code(emitLong(1))},
	} {
		// In each way, and behind both, what is idle is of the register that both write.
		idle := stay(1, kindOf(x.a))
		want := taking(types(intType), join(code(jumpIf(3, api.CondZero, 0), x.a, jump(4), x.b), x.use, code(comeBack))...)
		checkLeft(t, want, taking(types(intType), join(code(jumpIf(4, api.CondZero, 0), x.a, idle, jump(6), x.b, idle, idle, idle), x.use, code(comeBack))...))
		checkLeft(t, want, taking(types(intType), join(code(stayInt(0), jumpIf(5, api.CondZero, 0), x.a, jump(6), throwIt(1), x.b, idle), x.use, code(comeBack))...))
		// Anything may be there where nobody reads it: what is idle is of another register.
		checkLeft(t, method(jumpIf(3, api.CondZero, 0), x.a, jump(3), comeBack),
			taking(types(intType), jumpIf(3, api.CondZero, 0), x.a, jump(4), stayInt(0), stayInt(0), comeBack))
	}
}

// kindOf answers the kind of what an instruction sets.
func kindOf(i api.Ins) int {
	switch i.Op {
	case api.RInt:
		return api.KInt
	case api.RLong:
		return api.KLong
	}
	return api.KRef
}

// In each round a register is of a class less known, or of another kind altogether: what is idle is done with the least that is known.
func TestK1LessKnownInEachRound(t *testing.T) {
	l := code(
		setInt(0, 4), setInt(7, 1), setNew(1, lowest), setNew(2, lowest),
		stayRef(2), is(3, 2, lower), emitInt(3), move(2, 1, api.KRef), setNew(1, other), setLong(4, 3), stay(4, api.KLong), setNull(5), stayRef(1),
		intOp(api.OpSub, 0, 0, 7), jumpIf(4, api.CondAbove, 0), comeBack)
	checkLeft(t, method(
		setInt(0, 4), setInt(7, 1), setNew(1, lowest), setNew(2, lowest),
		is(3, 2, lower), emitInt(3), move(2, 1, api.KRef), setNew(1, other), setLong(4, 3), setNull(5),
		intOp(api.OpSub, 0, 0, 7), jumpIf(4, api.CondAbove, 0), comeBack), method(l...))
	checkOut(t, numbers(1, 1, 0, 0), method(l...))
}

// Without what is idle more is known where a handler goes on: of a class, of nothing, of a register that had nothing in it.
func TestK1MoreKnownWithoutAMove(t *testing.T) {
	for _, x := range []struct{ first, second api.Ins }{
		{setNew(1, other), setNew(1, lower)}, {setNew(1, lower), setNull(1)}, {setNew(1, upper), setNew(1, lowest)}, {setInt(1, 1), setNew(1, lower)}, {setLong(1, 1), setLong(1, 2)}, {setLong(1, 1), setInt(2, 1)}, {comeIn(1), setNull(2)},
	} {
		// Nobody reads the register where it is caught: it may be anything, or more.
		l := code(setInt(0, 3), x.first, stayInt(0), x.second, setNull(5), throwIt(5), caught(6), emitInt(0), comeBack)
		m := handled(method(l...), over(2, 3, 6, 0), over(5, 6, 6, api.ClassNull))
		checkLeft(t, handled(method(join(l[:2], l[3:])...), over(4, 5, 5, api.ClassNull)), m)
		// One handler stands over both, and over what lies between.
		checkLeft(t, handled(method(join(l[:2], l[3:])...), over(2, 5, 5, 0)), handled(m, over(2, 6, 6, 0)))
		// What is caught is gone on from by way of a loop, to what is idle again.
		l = code(setInt(0, 3), x.first, stayInt(0), x.second, setNull(5), throwIt(5), jump(2))
		if x.first.Op == x.second.Op && x.first.A == x.second.A {
			m = handled(method(l...), over(2, 3, 6, 0), over(5, 6, 6, api.ClassNull))
			checkLeft(t, handled(method(join(l[:2], l[3:])...), over(4, 5, 5, api.ClassNull)), m)
		}
	}
	// It is read where it is caught, of the class that is known with both.
	m := handled(method(setNew(1, beside), stayRef(1), setNew(1, lower), throwIt(1), get(2, 1, upper, 1), emitLong(2), comeBack), over(1, 2, 4, 0), over(3, 4, 4, 0))
	checkLeft(t, handled(method(setNew(1, beside), setNew(1, lower), throwIt(1), get(2, 1, upper, 1), emitLong(2), comeBack), over(2, 3, 3, 0)), m)
	checkOut(t, numbers(0), m)
}

// All ways to a place go by what is idle: without it the place is come to all the same.
func TestK2ComeToByMovesAlone(t *testing.T) {
	checkLeft(t, method(jumpIf(2, api.CondZero, 0), jump(2), emitInt(0), comeBack),
		taking(types(intType), jumpIf(3, api.CondZero, 0), jump(4), comeBack, stayInt(0), stayInt(0), stayInt(0), emitInt(0), comeBack))
	checkLeft(t, handled(method(setNull(1), throwIt(1), emitInt(0), comeBack), over(1, 2, 2, 0)),
		handled(taking(types(intType), setNull(1), throwIt(1), stayInt(0), emitInt(0), comeBack), over(1, 2, 2, 0)))
	checkLeft(t, handled(method(setNull(1), throwIt(1), jump(2)), over(1, 2, 2, 0)),
		handled(taking(types(intType), setNull(1), throwIt(1), stayInt(0), jump(2)), over(1, 2, 2, 0)))
}
