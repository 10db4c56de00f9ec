package srun_test

import (
	"testing"

	"crosswalk/api"
)

// All handlers of these tests go on at such a piece of code, which tells by a number which one it was.
func caughtAs(n int64) []api.Ins {
	return code(pop, putInt(n), emitInt, comeBack)
}

// throwing has an instruction of its own that throws, and behind it three pieces that tell 1, 2 and 3.
func throwing(class int) []api.Ins {
	return join(code(ins(api.SNew, class), throwIt), caughtAs(1), caughtAs(2), caughtAs(3))
}

const (
	at1 = 2
	at2 = 6
	at3 = 10
)

func TestD4TheExampleOfTheChapter(t *testing.T) {
	m := handled(method(putInt(1), putInt(0), ins(api.SIntOp, api.OpDiv), ins(api.SIs, api.ClassDivide), emitInt, comeBack),
		api.Handler{From: 0, To: 3, At: 3, Class: api.ClassDivide})
	checkShown(t, run(t, m), api.Shown{End: api.EndDone, Out: []int64{1}, Steps: 6})
}

func TestD4TheFirstHandlerThatFits(t *testing.T) {
	all := api.Handler{From: 0, To: 2, At: at1, Class: 0}
	up := api.Handler{From: 0, To: 2, At: at2, Class: upper}
	low := api.Handler{From: 0, To: 2, At: at3, Class: lower}
	for _, x := range []struct {
		class    int
		handlers []api.Handler
		want     int64
	}{
		{lower, []api.Handler{all, up, low}, 1},
		{lower, []api.Handler{up, low, all}, 2},
		{lower, []api.Handler{low, up, all}, 3},
		{upper, []api.Handler{low, up, all}, 2},
		{other, []api.Handler{low, up, all}, 1},
		{lowest, []api.Handler{low, up, all}, 3},
		{lowest, []api.Handler{up}, 2},
		{0, []api.Handler{low, up, all}, 1},
	} {
		checkOut(t, []int64{x.want}, handled(method(throwing(x.class)...), x.handlers...))
	}
}

func TestD4NoHandlerThatFits(t *testing.T) {
	low := api.Handler{From: 0, To: 2, At: at3, Class: lower}
	for _, class := range []int{0, upper, other, api.ClassNull} {
		s := run(t, handled(method(throwing(class)...), low))
		checkShown(t, s, api.Shown{End: api.EndThrown, Class: class, Steps: 2})
	}
	// Above the class is not below it.
	checkEnd(t, api.EndThrown, handled(method(throwing(upper)...), api.Handler{From: 0, To: 2, At: at1, Class: lowest}))
}

func TestD4FromAndToAtTheirBounds(t *testing.T) {
	l := join(code(putInt(0), pop, putInt(0), pop, ins(api.SNew, other), throwIt, putInt(0)), caughtAs(1))
	const place = 5
	for from := range len(l) {
		for to := from + 1; to <= len(l); to++ {
			m := handled(method(l...), api.Handler{From: from, To: to, At: place + 2})
			if from <= place && place < to {
				checkOut(t, []int64{1}, m)
			} else {
				checkEnd(t, api.EndThrown, m)
			}
		}
	}
}

func TestD4AHandlerOverAnotherPlaceIsPassedBy(t *testing.T) {
	beside := api.Handler{From: 0, To: 1, At: at1}
	behind := api.Handler{From: 2, To: 14, At: at2}
	over := api.Handler{From: 1, To: 2, At: at3}
	checkOut(t, []int64{3}, handled(method(throwing(upper)...), beside, behind, over))
}

func TestD4TheStackIsEmptiedAndTheReferencePut(t *testing.T) {
	thrown := code(putLong(1), putLong(2), putInt(3), ins(api.SNew, upper), ins(api.SDup), putInt(17), ins(api.SPut, upper, 0), throwIt)
	h := api.Handler{From: 0, To: len(thrown), At: len(thrown)}
	rest := func(l ...api.Ins) api.Method { return handled(method(join(thrown, l)...), h) }
	checkOut(t, []int64{17}, rest(ins(api.SGet, upper, 0), emitInt, comeBack))
	checkEnd(t, api.EndDone, rest(pop, comeBack))
	checkEnd(t, api.EndStuck, rest(pop, pop, comeBack))
	checkEnd(t, api.EndStuck, rest(emitInt, comeBack))
	// All of the stack is there again.
	full := rest(join(code(pop), times(8, putInt(1)), code(comeBack))...)
	full.Stack = 8
	checkEnd(t, api.EndDone, full)
	full.Stack = 7
	checkEnd(t, api.EndStuck, full)
}

func TestD4TheLocalsStayAsTheyAre(t *testing.T) {
	m := handled(method(
		putLong(5), ins(api.SStore, 3, api.KLong), putNull, throwIt,
		pop, ins(api.SLoad, 3, api.KLong), emitLong, comeBack),
		api.Handler{From: 3, To: 4, At: 4})
	checkOut(t, []int64{5}, m)
}

func TestD4NoRoomForTheReference(t *testing.T) {
	called := method(putNull, throwIt)
	caller := handled(onStack(0, ins(api.SCall, 1), comeBack), api.Handler{From: 0, To: 1, At: 1})
	checkShown(t, run(t, caller, called), api.Shown{End: api.EndStuck, Steps: 3})
	caller.Stack = 1
	checkShown(t, run(t, caller, called), api.Shown{End: api.EndDone, Steps: 4})
}

func TestD4WhatIsThrownByItself(t *testing.T) {
	for _, x := range []struct {
		l     []api.Ins
		class int
	}{
		{code(putNull, throwIt), api.ClassNull},
		{code(putNull, ins(api.SGet, upper, 0)), api.ClassNull},
		{code(putNull, putInt(1), ins(api.SPut, upper, 0)), api.ClassNull},
		{code(putInt(1), putInt(0), ins(api.SIntOp, api.OpDiv)), api.ClassDivide},
		{code(putInt(1), putInt(0), ins(api.SIntOp, api.OpRem)), api.ClassDivide},
		{code(putLong(1), putLong(0), ins(api.SLongOp, api.OpDiv)), api.ClassDivide},
		{code(putLong(1), putLong(0), ins(api.SLongOp, api.OpRem)), api.ClassDivide},
		{code(ins(api.SNew, upper), ins(api.SCast, lower)), api.ClassCast},
		{code(ins(api.SNew, upper), throwIt), upper},
	} {
		for class := range classes() {
			is := held{kind: api.KRef, class: x.class}.isOf(ref(class))
			n := len(x.l)
			m := handled(method(join(x.l, caughtAs(6))...), api.Handler{From: n - 1, To: n, At: n, Class: class})
			if is {
				checkShown(t, run(t, m), api.Shown{End: api.EndDone, Out: []int64{6}, Steps: n + 4})
			} else {
				checkShown(t, run(t, m), api.Shown{End: api.EndThrown, Class: x.class, Steps: n})
			}
		}
	}
}

func TestD4ANewObjectOfAClassHasItsFields(t *testing.T) {
	f := file(handled(method(putNull, throwIt, ins(api.SGet, api.ClassNull, 0), emitInt, comeBack), api.Handler{To: 2, At: 2}))
	f.Classes[api.ClassNull].Fields = types(intType)
	f.Methods[0].Handlers[0].Class = api.ClassNull
	checkShown(t, runFile(t, f, nil, nil, 99), api.Shown{End: api.EndDone, Out: []int64{0}, Steps: 5})
}

func TestD4FullWhereAClassIsThrown(t *testing.T) {
	last := func(n int, l ...api.Ins) api.Method {
		return handled(method(join(times(n, ins(api.SNew, upper), ins(api.SStore, 0, api.KRef)), l, code(comeBack))...), api.Handler{From: 0, To: 2*n + len(l), At: 2*n + len(l)})
	}
	for _, l := range [][]api.Ins{
		{putNull, throwIt},
		{putNull, ins(api.SGet, upper, 0)},
		{putNull, putInt(1), ins(api.SPut, upper, 0)},
		{putInt(1), putInt(0), ins(api.SIntOp, api.OpDiv)},
		{putLong(1), putLong(0), ins(api.SLongOp, api.OpRem)},
		{ins(api.SLoad, 0, api.KRef), ins(api.SCast, lower)},
	} {
		checkEnd(t, api.EndDone, last(api.MaxObjects-1, l...))
		checkEnd(t, api.EndFull, last(api.MaxObjects, l...))
	}
	// What is there already needs no new object.
	checkEnd(t, api.EndDone, last(api.MaxObjects, ins(api.SLoad, 0, api.KRef), throwIt))
	checkEnd(t, api.EndDone, last(api.MaxObjects, putInt(1), putInt(1), ins(api.SIntOp, api.OpDiv)))
}

func TestD4WhatIsThrownCountsAsAnObject(t *testing.T) {
	m := handled(method(putNull, throwIt, ins(api.SStore, 0, api.KRef), putInt(1), emitInt, ins(api.SGoto)), api.Handler{From: 1, To: 2, At: 2})
	s := run(t, m)
	if s.End != api.EndFull || len(s.Out) != api.MaxObjects || s.Steps != 6*api.MaxObjects+2 {
		t.Errorf("got %+v", s)
	}
}

func TestD4ThrownAtTheCallOfTheOneThatCalled(t *testing.T) {
	caller := code(putInt(0), pop, ins(api.SCall, 1), putInt(0), pop, comeBack)
	const place = 2
	l := join(caller, caughtAs(4))
	for from := range len(caller) {
		for to := from + 1; to <= len(caller); to++ {
			m := handled(method(l...), api.Handler{From: from, To: to, At: len(caller)})
			called := method(putInt(0), pop, putInt(0), pop, putNull, throwIt)
			if from <= place && place < to {
				checkOut(t, []int64{4}, m, called)
			} else {
				checkEnd(t, api.EndThrown, m, called)
			}
		}
	}
}

func TestD4TheNearestCallCatches(t *testing.T) {
	// Each call tells what it caught, and throws it once more, if it is not below its own class.
	over := func(class int, to int, n int64) api.Method {
		return handled(method(join(code(ins(api.SCall, to), comeBack), caughtAs(n))...), api.Handler{From: 0, To: 1, At: 2, Class: class})
	}
	thrower := method(ins(api.SNew, lower), throwIt)
	checkOut(t, []int64{2}, over(0, 1, 1), over(upper, 2, 2), thrower)
	checkOut(t, []int64{1}, over(0, 1, 1), over(other, 2, 2), thrower)
	checkOut(t, []int64{1}, over(lower, 1, 1), over(lowest, 2, 2), thrower)
	s := run(t, over(lowest, 1, 1), over(other, 2, 2), thrower)
	checkShown(t, s, api.Shown{End: api.EndThrown, Class: lower, Steps: 4})
}

func TestD4TheOneThatCalledGoesOnWithItsOwnStackEmptied(t *testing.T) {
	caller := handled(method(putLong(1), putInt(2), ins(api.SCall, 1), comeBack, ins(api.SGet, other, 0), emitInt, pop, comeBack),
		api.Handler{From: 2, To: 3, At: 4, Class: other})
	called := method(ins(api.SNew, other), ins(api.SDup), putInt(31), ins(api.SPut, other, 0), throwIt)
	s := run(t, caller, called)
	checkShown(t, s, api.Shown{End: api.EndStuck, Out: []int64{31}, Steps: 11})
	caller.Code[6] = ins(api.SGoto, 7)
	checkOut(t, []int64{31}, caller, called)
}

func TestD4AHandlerThatThrowsAgain(t *testing.T) {
	// The handler is under a handler of its own.
	m := handled(method(putNull, throwIt, pop, ins(api.SNew, other), throwIt, ins(api.SIs, other), emitInt, comeBack),
		api.Handler{From: 0, To: 2, At: 2}, api.Handler{From: 2, To: 5, At: 5})
	checkOut(t, []int64{1}, m)
	// It is under none: the call is over.
	m.Handlers = m.Handlers[:1]
	checkShown(t, run(t, m), api.Shown{End: api.EndThrown, Class: other, Steps: 5})
	// The same object.
	again := handled(method(ins(api.SNew, other), throwIt, throwIt), api.Handler{From: 0, To: 2, At: 2})
	checkShown(t, run(t, again), api.Shown{End: api.EndThrown, Class: other, Steps: 3})
	// It is under itself: it ends with the fuel.
	again.Handlers[0].To = 3
	checkShown(t, run(t, again), api.Shown{End: api.EndFuel, Steps: api.MaxFuel})
	// The one that called catches what the handler throws.
	caller := handled(method(ins(api.SCall, 1), comeBack, ins(api.SIs, other), emitInt, comeBack), api.Handler{From: 0, To: 1, At: 2})
	checkOut(t, []int64{1}, caller, m)
}

func TestD4AHandlerAtTheInstructionThatThrows(t *testing.T) {
	m := handled(method(putNull, throwIt), api.Handler{From: 1, To: 2, At: 1})
	checkShown(t, run(t, m), api.Shown{End: api.EndFuel, Steps: api.MaxFuel})
	m.Handlers[0].At = 0
	m.Stack = 1
	checkShown(t, run(t, m), api.Shown{End: api.EndStuck, Steps: 3})
}

func TestD4ThrownOutOfManyCalls(t *testing.T) {
	m := countdown()
	m.Code[2] = ins(api.SGoto, 10)
	m.Code = append(m.Code, ins(api.SNew, upper), throwIt)
	s := runFile(t, file(m), []int64{api.MaxCalls - 1}, nil, api.MaxFuel)
	if s.End != api.EndThrown || s.Class != upper || len(s.Out) != api.MaxCalls-1 || s.Steps != 8*(api.MaxCalls-1)+5 {
		t.Errorf("got %+v", s)
	}
}

func TestD4OtherEndsAreNotCaught(t *testing.T) {
	for _, x := range []struct {
		l   []api.Ins
		end int
	}{
		{code(pop), api.EndStuck},
		{code(comeIn), api.EndInput},
		{code(ins(api.SCall, 1)), api.EndDeep},
		{times(api.MaxObjects+1, ins(api.SNew), pop), api.EndFull},
		{code(ins(api.SGoto)), api.EndFuel},
	} {
		n := len(x.l)
		called := handled(method(join(x.l, code(comeBack))...), api.Handler{From: 0, To: n + 1, At: n})
		caller := handled(method(ins(api.SCall, 1), comeBack), api.Handler{From: 0, To: 2, At: 1})
		checkEnd(t, x.end, caller, called)
	}
}
