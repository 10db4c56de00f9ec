package rrun_test

import (
	"testing"

	"crosswalk/api"
)

// All handlers of these tests go on at such a piece of code, which tells by a number which one it was.
func caughtAs(n int64) []api.Ins {
	return code(setInt(9, n), emitInt(9), comeBack)
}

// throwing has an instruction of its own that throws, and behind it three pieces that tell 1, 2 and 3.
func throwing(class int) []api.Ins {
	return join(code(setNew(0, class), throwIt(0)), caughtAs(1), caughtAs(2), caughtAs(3))
}

const (
	at1 = 2
	at2 = 5
	at3 = 8
)

func TestG3TheFirstHandlerThatFits(t *testing.T) {
	all := api.Handler{From: 0, To: 2, At: at1, Class: 0}
	up := api.Handler{From: 0, To: 2, At: at2, Class: upper}
	low := api.Handler{From: 0, To: 2, At: at3, Class: lower}
	for _, x := range []struct {
		class    int
		handlers []api.Handler
		want     int64
	}{
		{lower, []api.Handler{all, up, low}, 1},
		{lower, []api.Handler{up, low, all}, 2},
		{lower, []api.Handler{low, up, all}, 3},
		{upper, []api.Handler{low, up, all}, 2},
		{other, []api.Handler{low, up, all}, 1},
		{lowest, []api.Handler{low, up, all}, 3},
		{lowest, []api.Handler{up}, 2},
		{0, []api.Handler{low, up, all}, 1},
	} {
		checkOut(t, []int64{x.want}, handled(method(throwing(x.class)...), x.handlers...))
	}
}

func TestG3NoHandlerThatFits(t *testing.T) {
	low := api.Handler{From: 0, To: 2, At: at3, Class: lower}
	for _, class := range []int{0, upper, other, api.ClassNull} {
		s := run(t, handled(method(throwing(class)...), low))
		checkShown(t, s, api.Shown{End: api.EndThrown, Class: class, Steps: 2})
	}
	// Above the class is not below it.
	checkEnd(t, api.EndThrown, handled(method(throwing(upper)...), api.Handler{From: 0, To: 2, At: at1, Class: lowest}))
}

func TestG3FromAndToAtTheirBounds(t *testing.T) {
	l := join(code(setInt(1, 0), setInt(1, 0), setNew(0, other), throwIt(0), setInt(1, 0)), caughtAs(1))
	const place = 3
	for from := range len(l) {
		for to := from + 1; to <= len(l); to++ {
			m := handled(method(l...), api.Handler{From: from, To: to, At: place + 2})
			if from <= place && place < to {
				checkOut(t, []int64{1}, m)
			} else {
				checkShown(t, run(t, m), api.Shown{End: api.EndThrown, Class: other, Steps: place + 1})
			}
		}
	}
}

func TestG3ThrownAtTheCallOfTheOneThatCalled(t *testing.T) {
	caller := code(setInt(1, 0), setInt(1, 0), call(1), setInt(1, 0), comeBack)
	const place = 2
	called := method(times(7, setNull(0))...)
	called.Code[6] = throwIt(0)
	for from := range len(caller) {
		for to := from + 1; to <= len(caller); to++ {
			m := handled(method(join(caller, caughtAs(4))...), api.Handler{From: from, To: to, At: len(caller)})
			if from <= place && place < to {
				checkOut(t, []int64{4}, m, called)
			} else {
				checkEnd(t, api.EndThrown, m, called)
			}
		}
	}
}

func TestG3TheNearestCallCatches(t *testing.T) {
	over := func(class, to int, n int64) api.Method {
		return handled(method(join(code(call(to), comeBack), caughtAs(n))...), api.Handler{From: 0, To: 1, At: 2, Class: class})
	}
	thrower := method(setNew(0, lower), throwIt(0))
	checkOut(t, []int64{2}, over(0, 1, 1), over(upper, 2, 2), thrower)
	checkOut(t, []int64{1}, over(0, 1, 1), over(other, 2, 2), thrower)
	checkOut(t, []int64{1}, over(lower, 1, 1), over(lowest, 2, 2), thrower)
	s := run(t, over(lowest, 1, 1), over(other, 2, 2), thrower)
	checkShown(t, s, api.Shown{End: api.EndThrown, Class: lower, Steps: 4})
}

func TestG3WhatIsThrownByItself(t *testing.T) {
	for _, x := range []struct {
		l     []api.Ins
		class int
	}{
		{code(setNull(0), throwIt(0)), api.ClassNull},
		{code(setNull(0), get(1, 0, upper, 0)), api.ClassNull},
		{code(setNull(0), setInt(1, 1), put(1, 0, upper, 0)), api.ClassNull},
		{code(setInt(0, 1), setInt(1, 0), intOp(api.OpDiv, 2, 0, 1)), api.ClassDivide},
		{code(setInt(0, 1), setInt(1, 0), intOp(api.OpRem, 2, 0, 1)), api.ClassDivide},
		{code(setLong(0, 1), setLong(2, 0), longOp(api.OpDiv, 4, 0, 2)), api.ClassDivide},
		{code(setLong(0, 1), setLong(2, 0), longOp(api.OpRem, 4, 0, 2)), api.ClassDivide},
		{code(setNew(0, upper), cast(0, lower)), api.ClassCast},
		{code(setNew(0, upper), throwIt(0)), upper},
	} {
		for class := range classes() {
			n := len(x.l)
			h := api.Handler{From: n - 1, To: n, At: n, Class: class}
			m := handled(method(join(x.l, code(caught(4), is(4, 4, x.class), emitInt(4), comeBack))...), h)
			if isBelow(x.class, class) {
				checkShown(t, run(t, m), api.Shown{End: api.EndDone, Out: []int64{1}, Steps: n + 4})
			} else {
				checkShown(t, run(t, m), api.Shown{End: api.EndThrown, Class: x.class, Steps: n})
			}
		}
	}
}

// all has a method under one handler of all classes, which goes on behind the first so many instructions.
func all(under int, l ...api.Ins) api.Method {
	return handled(method(l...), api.Handler{From: 0, To: under, At: under})
}

func TestG3CaughtIsWhatWasThrown(t *testing.T) {
	l := code(setNew(0, other), setInt(1, 17), put(1, 0, other, 0), throwIt(0))
	checkOut(t, []int64{17}, all(4, join(l, code(caught(5), get(6, 5, other, 0), emitInt(6), comeBack))...))
	// In a call that was called: the same object still.
	checkOut(t, []int64{17}, all(1, call(1), caught(5), get(6, 5, other, 0), emitInt(6), comeBack), method(l...))
	// Over a long, of which it takes one slot.
	m := all(5, join(l[:3], code(setLong(8, 1), throwIt(0), caught(9), emitLong(8), comeBack))...)
	checkStuck(t, 7, m)
	m.Code[5] = caught(10)
	checkOut(t, []int64{1}, m)
}

func TestG3NothingIsPutAnywhere(t *testing.T) {
	l := code(setInt(0, 1), setLong(1, 2), setNew(3, other), throwIt(3))
	checkOut(t, []int64{1, 2, 1}, all(4, join(l, code(emitInt(0), emitLong(1), is(4, 3, other), emitInt(4), comeBack))...))
	// Where nothing was written nothing stands, with RCaught in another register, too.
	for at := 4; at < api.MaxRegs; at++ {
		checkStuck(t, 5, all(4, join(l, code(move(0, at, api.KRef), comeBack))...))
		if at != 50 {
			checkStuck(t, 6, all(4, join(l, code(caught(50), move(0, at, api.KRef), comeBack))...))
		}
	}
	// The registers of the one that called, too.
	caller := all(4, setInt(0, 1), setLong(1, 2), setNull(3), call(1), emitInt(0), emitLong(1), jumpIfNull(8, 3), comeBack, caught(4), comeBack)
	s := run(t, caller, method(setNull(0), throwIt(0)))
	checkShown(t, s, api.Shown{End: api.EndStuck, Out: []int64{1, 2}, Steps: 10})
}

func TestG3NobodyNeedsToAskWhatWasCaught(t *testing.T) {
	checkOut(t, []int64{6}, all(2, join(code(setNull(0), throwIt(0)), caughtAs(6))...))
}

func TestG3CaughtWhereNothingWasCaught(t *testing.T) {
	checkStuck(t, 1, method(caught(0), comeBack))
	checkStuck(t, 2, method(setNew(0, 0), caught(0), comeBack))
	checkStuck(t, 2, method(call(1), comeBack), method(caught(0), comeBack))
	// It is a handler's start, but it is come to from the instruction ahead.
	checkStuck(t, 2, all(1, setNull(0), caught(0), comeBack))
	// What the one that called has just caught is not there in the call.
	checkStuck(t, 4, all(2, setNull(0), throwIt(0), call(1), comeBack), method(caught(0), comeBack))
	// What the one that was called has just caught is not there behind it.
	catcher := all(2, setNull(0), throwIt(0), comeBack)
	checkStuck(t, 5, method(call(1), caught(0), comeBack), catcher)
}

func TestG3CaughtReachedByAJump(t *testing.T) {
	// First by the handler, then by the jump.
	m := all(2, setNull(0), throwIt(0), caught(1), jump(2))
	checkStuck(t, 5, m)
	// The handler goes on at a jump that leads to it.
	checkStuck(t, 4, all(2, setNull(0), throwIt(0), jump(3), caught(1), comeBack))
	// A jump over what would have thrown.
	checkStuck(t, 3, all(3, setNull(0), jump(3), throwIt(0), caught(1), comeBack))
	checkStuck(t, 3, all(3, setNull(0), jumpIfNull(3, 0), throwIt(0), caught(1), comeBack))
}

func TestG3CaughtBehindAnotherInstruction(t *testing.T) {
	prepare := code(setInt(10, 1), setLong(12, 2), setNull(14), setNew(15, other), throwIt(15))
	at := len(prepare)
	for _, i := range append(between(), caught(0)) {
		if i.Op == api.RResult {
			continue
		}
		m := all(at, join(prepare, code(placed(i, at), caught(20), comeBack))...)
		s := runFile(t, file(append([]api.Method{m}, givers()...)...), nil, []int64{3}, 99)
		steps := at + 2
		if i.Op == api.RCall {
			steps += 2
		}
		if s.End != api.EndStuck || s.Steps != steps {
			t.Errorf("%+v, then RCaught: %+v", i, s)
		}
	}
	checkStuck(t, 4, all(2, setNull(0), throwIt(0), caught(1), caught(2), comeBack))
}

func TestG3CaughtOnceMore(t *testing.T) {
	// Each time the handler goes on there, what was caught last lies ready.
	m := all(3, setNew(0, upper), throwIt(0), comeBack, caught(1), is(2, 1, upper), emitInt(2), setNull(3), throwIt(3))
	m.Handlers = append(m.Handlers, api.Handler{From: 7, To: 8, At: 3})
	s := runFile(t, file(m), nil, nil, 12)
	checkShown(t, s, api.Shown{End: api.EndFuel, Out: []int64{1, 0}, Steps: 12})
}

func TestG3AHandlerAtTheInstructionThatThrows(t *testing.T) {
	m := handled(method(setNew(0, other), throwIt(0)), api.Handler{From: 1, To: 2, At: 1})
	checkShown(t, run(t, m), api.Shown{End: api.EndFuel, Steps: api.MaxFuel})
	// Of nothing a new object is thrown each time.
	m.Code[0] = setNull(0)
	checkShown(t, run(t, m), api.Shown{End: api.EndFull, Steps: api.MaxObjects + 2})
	// A handler's start that throws, under another handler, whose start finds what was thrown last.
	m = handled(method(setNull(2), setNew(0, other), throwIt(0), get(1, 2, upper, 0), caught(1), is(2, 1, api.ClassNull), emitInt(2), comeBack),
		api.Handler{From: 2, To: 3, At: 3}, api.Handler{From: 3, To: 4, At: 4})
	checkOut(t, []int64{1}, m)
}

func TestG3ResultBehindWhatWasCaught(t *testing.T) {
	thrower := giving(intType, setNull(0), throwIt(0))
	for kind := api.KInt; kind <= api.KRef; kind++ {
		// The call that threw gave nothing.
		checkStuck(t, 4, all(1, call(1), result(0, kind), comeBack), thrower)
		// The call ahead gave something, but what was caught came behind it.
		m := all(3, setNull(9), call(1), throwIt(9), result(0, kind), comeBack)
		checkStuck(t, 6, append([]api.Method{m}, givers()...)...)
	}
	// A call at the handler's start gives as ever, and then nothing lies caught.
	m := all(2, setNull(0), throwIt(0), call(1), result(0, api.KInt), emitInt(0), comeBack)
	checkOut(t, []int64{11}, append([]api.Method{m}, givers()...)...)
	m.Code[3] = caught(0)
	checkStuck(t, 6, append([]api.Method{m}, givers()...)...)
	// RCaught behind a call that gave a reference: that one was not caught.
	checkStuck(t, 4, withGivers(call(3), caught(0), comeBack)...)
	// A result at the handler's start, of a reference: what was caught is not given.
	checkStuck(t, 3, all(2, setNull(0), throwIt(0), result(0, api.KRef), comeBack))
}

func TestG3AHandlerThatThrowsAgain(t *testing.T) {
	m := handled(method(setNull(0), throwIt(0), setNew(0, other), throwIt(0), caught(1), is(1, 1, other), emitInt(1), comeBack),
		api.Handler{From: 0, To: 2, At: 2}, api.Handler{From: 2, To: 4, At: 4})
	checkOut(t, []int64{1}, m)
	// It is under none: the call is over.
	m.Handlers = m.Handlers[:1]
	checkShown(t, run(t, m), api.Shown{End: api.EndThrown, Class: other, Steps: 4})
	// The one that called catches what the handler throws.
	caller := all(1, call(1), caught(1), is(1, 1, other), emitInt(1), comeBack)
	checkOut(t, []int64{1}, caller, m)
	// The same object once more.
	again := all(2, setNew(0, other), throwIt(0), caught(1), throwIt(1))
	checkShown(t, run(t, again), api.Shown{End: api.EndThrown, Class: other, Steps: 4})
}

func TestG3FullWhereAClassIsThrown(t *testing.T) {
	last := func(n int, l ...api.Ins) api.Method {
		under := n + len(l)
		return all(under, join(times(n, setNew(0, upper)), l, code(comeBack))...)
	}
	for _, l := range [][]api.Ins{
		{setNull(1), throwIt(1)},
		{setNull(1), get(2, 1, upper, 0)},
		{setNull(1), setInt(2, 1), put(2, 1, upper, 0)},
		{setInt(1, 1), setInt(2, 0), intOp(api.OpDiv, 1, 1, 2)},
		{setLong(1, 1), setLong(3, 0), longOp(api.OpRem, 1, 1, 3)},
		{cast(0, lower)},
	} {
		checkEnd(t, api.EndDone, last(api.MaxObjects-1, l...))
		checkEnd(t, api.EndFull, last(api.MaxObjects, l...))
	}
	// What is there already needs no new object.
	checkEnd(t, api.EndDone, last(api.MaxObjects, throwIt(0)))
	checkEnd(t, api.EndDone, last(api.MaxObjects, setInt(1, 1), intOp(api.OpDiv, 1, 1, 1)))
}

func TestG3ThrownOutOfManyCalls(t *testing.T) {
	m := countdown()
	m.Code[1] = jump(7)
	m.Code = append(m.Code, setNew(0, upper), throwIt(0))
	s := runFile(t, file(m), []int64{api.MaxCalls - 1}, nil, api.MaxFuel)
	if s.End != api.EndThrown || s.Class != upper || len(s.Out) != api.MaxCalls-1 || s.Steps != 5*(api.MaxCalls-1)+4 {
		t.Errorf("got %+v", s)
	}
}

func TestG3OtherEndsAreNotCaught(t *testing.T) {
	for _, x := range []struct {
		l   []api.Ins
		end int
	}{
		{code(emitInt(0)), api.EndStuck},
		{code(result(0, api.KInt)), api.EndStuck},
		{code(caught(0)), api.EndStuck},
		{code(comeIn(0)), api.EndInput},
		{code(call(1)), api.EndDeep},
		{times(api.MaxObjects+1, setNew(0, 0)), api.EndFull},
		{code(jump(0)), api.EndFuel},
	} {
		n := len(x.l)
		called := handled(method(join(x.l, code(comeBack))...), api.Handler{From: 0, To: n + 1, At: n})
		caller := handled(method(call(1), comeBack), api.Handler{From: 0, To: 2, At: 1})
		checkEnd(t, x.end, caller, called)
	}
}
