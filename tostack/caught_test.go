package tostack_test

import (
	"testing"

	"crosswalk/api"
)

// throws is something that throws, with the class of what it throws.
type throws struct {
	l     []api.Ins
	class int
}

// allThrows has all that an instruction throws by itself, and what is thrown on purpose. They use the registers from 10 on.
func allThrows() []throws {
	return []throws{
		{code(setInt(10, 1), setInt(11, 0), intOp(api.OpDiv, 12, 10, 11)), api.ClassDivide},
		{code(setLong(10, 1), setLong(12, 0), longOp(api.OpRem, 10, 10, 12)), api.ClassDivide},
		{code(setNull(10), get(10, 10, upper, 1)), api.ClassNull},
		{code(setNull(10), setLong(11, 2), put(11, 10, upper, 1)), api.ClassNull},
		{code(setNew(10, other), cast(10, upper)), api.ClassCast},
		{code(setNull(10), throwIt(10)), api.ClassNull},
		{code(setNew(10, lowest), throwIt(10)), lowest},
		{code(setNew(10, lowest), call(1, 10), result(10, api.KLong)), lowest},
		{code(setNew(10, lowest), call(1, 10)), lowest},
		{code(setNull(10), call(1, 10)), api.ClassNull},
	}
}

func thrower() api.Method {
	m := giving(longType, setLong(3, 3), throwIt(0))
	m.Params = types(ref(0))
	return m
}

func TestJ2WhatIsCaughtAndFetched(t *testing.T) {
	for _, x := range allThrows() {
		l := join(code(setInt(0, 6)), x.l, code(comeBack))
		at := len(l)
		l = append(l, caught(5), is(6, 5, x.class), emitInt(6), is(6, 5, upper), emitInt(6), emitInt(0), comeBack)
		want := numbers(1, 0, 6)
		if x.class == lowest {
			want[1] = 1
		}
		for _, class := range []int{0, x.class} {
			checkOut(t, want, handled(method(l...), over(1, at, at, class)), thrower())
		}
		if s := checkEnd(t, api.EndThrown, handled(method(l...), over(1, at, at, beside)), thrower()); s.Class != x.class {
			t.Errorf("got %+v", s)
		}
	}
}

// Nobody fetches what was caught: the handler goes on at any other instruction.
func TestJ2WhatIsCaughtAndNotFetched(t *testing.T) {
	for _, x := range allThrows() {
		for _, next := range []api.Ins{
			setInt(20, 1), setLong(20, 1), setNull(20), setNew(20, 0), move(20, 0, api.KInt), intOp(api.OpSub, 20, 0, 0), longOp(api.OpSub, 20, 2, 2), widen(20, 0), narrow(20, 2),
			compare(20, 2, 2), get(20, 4, upper, 0), put(0, 4, upper, 0), cast(4, 0), is(20, 4, 0), call(2), emitInt(0), emitLong(2), comeIn(20),
		} {
			l := join(code(setInt(0, 6), setLong(2, 7), setNew(4, upper)), x.l, code(comeBack))
			at := len(l)
			l = append(l, next, emitInt(0), emitLong(2), comeBack)
			f := file(handled(method(l...), over(3, at, at, 0)), thrower(), good())
			s := follow(t, f, asked{input: numbers(1)})
			if size := len(s.Out); s.End != api.EndDone || s.Out[size-2] != 6 || s.Out[size-1] != 7 {
				t.Errorf("%+v: %+v", next, s)
			}
		}
	}
	// At jumps, throws and returns.
	begin := code(setInt(0, 6), setNew(1, upper), setNull(2), throwIt(2))
	for _, x := range []struct {
		next api.Ins
		want int
	}{
		{jump(5), api.EndDone}, {jump(4), api.EndFuel}, {jumpIf(5, api.CondZero, 0), api.EndDone}, {jumpIfNull(4, 2), api.EndFuel}, {throwIt(1), api.EndThrown}, {comeBack, api.EndDone},
	} {
		checkEnd(t, x.want, handled(method(join(begin, code(x.next, comeBack))...), over(3, 4, 4, 0)))
	}
	if s := checkEnd(t, api.EndDone, handled(giving(intType, join(begin, code(giveBack(0)))...), over(3, 4, 4, 0))); s.Value != 6 {
		t.Errorf("got %+v", s)
	}
}

// One handler fetches, and another one over the same instruction does not, and goes on right behind.
func TestJ2FetchedByOneAlone(t *testing.T) {
	for class := range classes() {
		m := handled(method(setNew(0, class), setNull(1), throwIt(0), caught(1), is(2, 1, upper), emitInt(2), comeBack),
			over(2, 3, 3, lower), over(2, 3, 4, 0))
		switch class {
		case lower, lowest:
			checkOut(t, numbers(1), m)
		default:
			checkOut(t, numbers(0), m)
		}
	}
}

// The first handler whose class is above what is thrown is taken, also if a later one fits better.
func TestJ2TheFirstHandlerIsTaken(t *testing.T) {
	classed := []int{lowest, upper, 0, lower, upper}
	for thrown := range classes() {
		for _, fetch := range []bool{true, false} {
			m := method(setNew(0, thrown), throwIt(0))
			for k, class := range classed {
				m.Handlers = append(m.Handlers, over(1, 2, len(m.Code), class))
				if fetch {
					m.Code = append(m.Code, caught(1), is(1, 1, class), emitInt(1))
				}
				m.Code = append(m.Code, setInt(2, int64(k)), emitInt(2), comeBack)
			}
			want := numbers(1, 2)
			switch thrown {
			case lowest:
				want[1] = 0
			case upper, lower, beside:
				want[1] = 1
			}
			if !fetch {
				want = want[1:]
			}
			checkOut(t, want, m)
		}
	}
}

// A handler stands over no more than it says: neither over the instruction ahead of it, nor over the one behind it.
func TestJ2TheBoundsOfHandlers(t *testing.T) {
	l := code(setInt(0, 1), setInt(1, 0), setInt(2, 2), intOp(api.OpDiv, 3, 0, 1), setInt(4, 4), comeBack)
	ends := [][]api.Ins{{caught(5), setInt(0, 8), emitInt(0), comeBack}, {setInt(0, 8), emitInt(0), comeBack}}
	for _, end := range ends {
		for from := range 6 {
			for to := from + 1; to <= 6; to++ {
				want := api.EndThrown
				if from <= 3 && to > 3 {
					want = api.EndDone
				}
				checkEnd(t, want, handled(method(join(l, end)...), over(from, to, 6, 0)))
			}
		}
	}
	// A call stands ahead of what fetches, each for itself.
	throwing := giving(intType, setNew(0, 0), throwIt(0))
	throwing.Params = types(intType)
	for _, l := range [][]api.Ins{{setInt(0, 3), call(1, 0), result(0, api.KInt), comeBack}, {setInt(0, 3), call(1, 0), emitInt(0), comeBack}} {
		for _, end := range ends {
			for from := range 4 {
				for to := from + 1; to <= 4; to++ {
					m := handled(method(join(l, end)...), over(from, to, 4, 0))
					checkEnd(t, api.EndDone, m, counting())
					want := api.EndThrown
					if from <= 1 && to > 1 {
						want = api.EndDone
					}
					checkEnd(t, want, m, throwing)
				}
			}
		}
	}
}

// Other ways lead to where a handler goes on: a jump, the instruction ahead, and what was caught elsewhere.
func TestJ2WhereOtherWaysLead(t *testing.T) {
	f := file(handled(taking(types(intType),
		setInt(1, 1), setInt(2, 5), jumpIf(8, api.CondZero, 0),
		intOp(api.OpRem, 3, 0, 2), intOp(api.OpDiv, 3, 1, 3),
		setInt(1, 7), intOp(api.OpSub, 3, 0, 1), intOp(api.OpDiv, 3, 3, 3),
		emitInt(1), comeBack),
		over(4, 5, 8, api.ClassDivide), over(7, 8, 8, 0)))
	checkArg(t, f, 0, 1)
	checkArg(t, f, 1, 7)
	checkArg(t, f, 5, 1)
	checkArg(t, f, 7, 7)
}

// A handler goes on at the first instruction: there the parameters are, and what was written of the same kind.
func TestJ2AtTheFirstInstruction(t *testing.T) {
	f := file(handled(taking(types(intType),
		jumpIf(2, api.CondAbove, 0), comeBack,
		setInt(1, 1), intOp(api.OpSub, 0, 0, 1), emitInt(0), intOp(api.OpDiv, 2, 1, 0), setNull(3), throwIt(3)), over(5, 8, 0, 0)))
	checkArg(t, f, 3, 2, 1, 0)
	checkArg(t, f, 0)
	checkEnd(t, api.EndFull, handled(method(setNull(0), throwIt(0)), over(0, 2, 0, 0)))
	checkEnd(t, api.EndFull, handled(method(setNull(0), throwIt(0)), over(1, 2, 0, 0)))
}

// Many handlers of several classes go on at one RCaught, over which one of them stands itself.
func TestJ2HandlersOfOnePlace(t *testing.T) {
	m := method(
		setInt(0, 3), setInt(1, 1),
		setNew(2, lowest), throwIt(2), setNew(2, beside), throwIt(2),
		caught(3), is(4, 3, lower), emitInt(4), intOp(api.OpSub, 0, 0, 1), jumpIf(12, api.CondZero, 0), jump(4),
		comeBack)
	m.Handlers = []api.Handler{over(3, 4, 6, lower), over(5, 6, 6, beside), over(2, 12, 6, 0), over(5, 13, 6, other)}
	checkOut(t, numbers(1, 0, 0), m)
	// The same without fetching.
	m.Code[6], m.Code[7] = setNull(3), is(4, 2, lower)
	checkOut(t, numbers(1, 0, 0), handled(m, over(3, 4, 6, lower), over(5, 6, 6, beside), over(3, 12, 6, 0)))
	// What is thrown while something is caught is caught by the same handler.
	checkOut(t, numbers(1, 0, 0), handled(method(
		setInt(0, 3), setInt(1, 1), setNew(2, upper), throwIt(2),
		caught(3), is(4, 3, upper), emitInt(4), intOp(api.OpSub, 0, 0, 1), jumpIf(11, api.CondZero, 0),
		setNull(2), throwIt(2), comeBack), over(2, 11, 4, 0)))
}

// Two handlers go on at one RCaught: what both classes are below is known of what it fetches.
func TestJ2ClassesOfOnePlace(t *testing.T) {
	for _, class := range []int{lower, lowest, beside, upper} {
		m := handled(method(setNew(0, class), throwIt(0), throwIt(0), caught(1), get(2, 1, upper, 0), emitInt(2), is(2, 1, lower), emitInt(2), comeBack),
			over(1, 2, 3, lower), over(1, 3, 3, beside))
		switch class {
		case upper:
			checkEnd(t, api.EndThrown, m)
		case beside:
			checkOut(t, numbers(0, 0), m)
		default:
			checkOut(t, numbers(0, 1), m)
		}
	}
}

// The registers are as they were when it was thrown.
func TestJ2RegistersWhereItIsCaught(t *testing.T) {
	for _, fetch := range []api.Ins{caught(9), setInt(9, 9)} {
		f := file(handled(taking(types(intType),
			setInt(1, 1), setLong(2, 2), setInt(5, 1),
			intOp(api.OpDiv, 1, 5, 0),
			setLong(2, 8), intOp(api.OpSub, 4, 0, 5), intOp(api.OpDiv, 1, 4, 4),
			setInt(1, 6), intOp(api.OpSub, 4, 4, 5), intOp(api.OpDiv, 1, 4, 4),
			comeBack,
			fetch, emitInt(1), emitLong(2), comeBack), over(3, 10, 11, api.ClassDivide)))
		checkArg(t, f, 0, 1, 2)
		checkArg(t, f, 1, 1, 8)
		checkArg(t, f, 2, 6, 8)
		checkArg(t, f, 3)
	}
}

// It is jumped into bounds, from outside and from within: what is thrown is caught where it is thrown, however that was come to.
func TestJ2BoundsThatAreJumpedInto(t *testing.T) {
	for _, fetch := range []api.Ins{caught(9), setInt(9, 9)} {
		f := file(handled(taking(types(intType),
			setInt(1, 12), setInt(2, 90), jumpIf(4, api.CondLess, 0),
			jump(5),
			jump(5), intOp(api.OpDiv, 1, 1, 0), emitInt(1),
			comeBack,
			fetch, emitInt(2), comeBack), over(4, 7, 8, 0)))
		checkArg(t, f, 0, 90)
		checkArg(t, f, 3, 4)
		checkArg(t, f, -4, -3)
	}
	// Into the midst of a call and what fetches it nobody can jump; to the call itself one can.
	f := file(handled(taking(types(intType), jumpIf(3, api.CondZero, 0), setInt(0, 5), jump(3), call(1, 0), result(0, api.KInt), emitInt(0), comeBack), over(3, 5, 6, 0)), counting())
	checkArg(t, f, 0, -1)
	checkArg(t, f, 9, 4)
}

// A handler that goes on within its own bounds catches there, too.
func TestJ2AHandlerOverItself(t *testing.T) {
	checkEnd(t, api.EndFull, handled(method(jump(2), caught(0), setNull(1), throwIt(1)), over(0, 4, 1, 0)))
	checkEnd(t, api.EndFull, handled(method(setNew(0, 0), setNull(1), throwIt(1)), over(0, 3, 1, 0)))
	checkOut(t, numbers(1, 2, 3), handled(method(
		setInt(0, 0), setInt(1, 1), setInt(2, 3),
		intOp(api.OpAdd, 0, 0, 1), emitInt(0), intOp(api.OpSub, 3, 0, 2), jumpIf(9, api.CondZero, 3),
		setNull(4), throwIt(4), comeBack), over(3, 9, 3, 0)))
}

// What nobody catches goes up from call to call, past those that stand over other calls or other classes.
func TestJ2CaughtFurtherUp(t *testing.T) {
	low := method(setNew(0, lowest), throwIt(0))
	mid := handled(method(setInt(0, 1), call(2), emitInt(0), comeBack, setInt(0, 50), emitInt(0), comeBack), over(0, 3, 4, other), over(2, 3, 4, 0))
	top := handled(method(setInt(0, 4), call(1), emitInt(0), comeBack, caught(1), is(1, 1, lower), emitInt(1), comeBack), over(0, 3, 4, upper))
	checkOut(t, numbers(1), top, mid, low)
	top.Handlers[0].Class = beside
	if s := checkEnd(t, api.EndThrown, top, mid, low); s.Class != lowest {
		t.Errorf("got %+v", s)
	}
	// The calls that are over count no more: it can be gone as deep again.
	for _, fetch := range []api.Ins{caught(9), setInt(9, 9)} {
		deep := handled(method(setInt(0, 30), setInt(1, 1), call(1), comeBack, fetch, intOp(api.OpSub, 0, 0, 1), jumpIf(2, api.CondAbove, 0), comeBack), over(2, 3, 4, 0))
		checkEnd(t, api.EndDone, deep, method(call(2), comeBack), low)
	}
}

// A handler over what can't be come to can catch nothing, and where it goes on perhaps nobody comes; over what throws nothing it stands all the same.
func TestJ2HandlersThatCatchNothing(t *testing.T) {
	for _, at := range []int{0, 1, 2, 3} {
		checkEnd(t, api.EndDone, handled(method(comeBack, result(0, api.KInt), throwIt(0), caught(3)), over(1, 3, at, 0), over(2, 4, at, 0)))
	}
	checkEnd(t, api.EndDone, handled(method(jump(2), throwIt(0), comeBack), over(1, 2, 2, 0)))
	checkEnd(t, api.EndDone, handled(method(jump(2), throwIt(0), comeBack, caught(1), comeBack), over(1, 3, 3, 0)))
	checkOut(t, numbers(1), handled(method(setInt(0, 1), emitInt(0), comeBack, caught(0), comeBack), over(0, 3, 3, 0)))
	checkOut(t, numbers(1), handled(method(setInt(0, 1), emitInt(0), comeBack, setInt(0, 2), comeBack), over(0, 3, 3, 0)))
	checkEnd(t, api.EndDone, handled(method(comeBack, setInt(0, 2), comeBack), over(0, 1, 1, 0)))
}
