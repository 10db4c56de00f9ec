package toreg_test

import (
	"testing"

	"crosswalk/api"
)

// All that an instruction throws by itself, and what is thrown on purpose, caught with values on the stack.
func TestI2WhatIsCaught(t *testing.T) {
	for _, x := range []struct {
		l     []api.Ins
		class int
	}{
		{code(putInt(1), putInt(0), div), api.ClassDivide},
		{code(putLong(1), putLong(0), ins(api.SLongOp, api.OpRem)), api.ClassDivide},
		{code(putNull, ins(api.SGet, upper, 1)), api.ClassNull},
		{code(putNull, putLong(2), ins(api.SPut, upper, 1), putInt(1)), api.ClassNull},
		{code(putNew(other), ins(api.SCast, upper)), api.ClassCast},
		{code(putNull, throwIt), api.ClassNull},
		{code(putNew(lowest), throwIt), lowest},
		{code(putNew(lowest), call(1), putInt(1)), lowest},
		{code(putNull, call(1), putInt(1)), api.ClassNull},
	} {
		thrower := taking(types(ref(0)), putLong(3), load(0, api.KRef), throwIt)
		l := join(code(putLong(5), putInt(6), store(0, api.KInt), putInt(7)), x.l, code(pop, comeBack))
		at := len(l)
		l = append(l, dup, isOf(x.class), emitInt, isOf(upper), emitInt, load(0, api.KInt), emitInt, comeBack)
		want := numbers(1, 0, 6)
		if x.class == lowest {
			want[1] = 1
		}
		for _, class := range []int{0, x.class} {
			checkOut(t, want, handled(method(l...), over(3, at, at, class)), thrower)
		}
		if s := checkEnd(t, api.EndThrown, handled(method(l...), over(3, at, at, beside)), thrower); s.Class != x.class {
			t.Errorf("got %+v", s)
		}
	}
}

// The first handler whose class is above what is thrown is taken, also if a later one fits better.
func TestI2TheFirstHandlerIsTaken(t *testing.T) {
	classed := []int{lowest, upper, 0, lower, upper}
	for thrown := range classes() {
		m := method(putNew(thrown), throwIt)
		for k, class := range classed {
			m.Handlers = append(m.Handlers, over(0, 2, len(m.Code), class))
			m.Code = append(m.Code, isOf(class), emitInt, putInt(int64(k)), emitInt, comeBack)
		}
		want := numbers(1, 2)
		switch thrown {
		case lowest:
			want[1] = 0
		case upper, lower, beside:
			want[1] = 1
		}
		checkOut(t, want, m)
	}
}

// A handler stands over no more than it says: neither over the instruction ahead of it, nor over the one behind it.
func TestI2TheBoundsOfHandlers(t *testing.T) {
	l := code(putInt(1), putInt(0), putInt(2), pop, div, emitInt, comeBack, isOf(api.ClassDivide), emitInt, comeBack)
	for from := range 7 {
		for to := from + 1; to <= 7; to++ {
			want := api.EndThrown
			if from <= 4 && to > 4 {
				want = api.EndDone
			}
			checkEnd(t, want, handled(method(l...), over(from, to, 7, 0)))
		}
	}
	// Of a call that gives something both what calls and what fetches stand there.
	l = code(putInt(3), call(1), emitInt, comeBack, pop, putInt(4), emitInt, comeBack)
	thrower := giving(intType, putNew(0), throwIt)
	thrower.Params = types(intType)
	for from := range 4 {
		for to := from + 1; to <= 4; to++ {
			m := handled(method(l...), over(from, to, 4, 0))
			checkOut(t, numbers(2), m, counting())
			want := api.EndThrown
			if from <= 1 && to > 1 {
				want = api.EndDone
			}
			checkEnd(t, want, m, thrower)
		}
	}
}

// Other ways lead to where a handler goes on: a jump, the instruction ahead, and what was caught elsewhere.
func TestI2WhereOtherWaysLead(t *testing.T) {
	f := file(handled(taking(types(intType),
		load(0, api.KInt), jumpIf(5, api.CondZero),
		putInt(1), load(0, api.KInt), jump(7),
		putNew(lower), jump(12),
		putInt(5), ins(api.SIntOp, api.OpRem), div, emitInt,
		putNew(upper),
		dup, isOf(upper), emitInt, isOf(lower), emitInt, comeBack),
		over(7, 11, 12, api.ClassDivide)))
	for _, x := range []struct {
		arg  int64
		want []int64
	}{{0, numbers(1, 1)}, {1, numbers(1, 1, 0)}, {5, numbers(0, 0)}, {3, numbers(0, 1, 0)}} {
		if s := follow(t, f, asked{args: numbers(x.arg)}); !shownAlike(s, api.Shown{End: api.EndDone, Out: x.want}) {
			t.Errorf("%d: %+v", x.arg, s)
		}
	}
}

// Many handlers of several classes go on at one place, over which one of them stands itself.
func TestI2HandlersOfOnePlace(t *testing.T) {
	m := method(
		putInt(3), store(0, api.KInt),
		putNew(lowest), throwIt, putNew(beside), throwIt,
		store(1, api.KRef),
		load(1, api.KRef), isOf(lower), emitInt,
		load(0, api.KInt), putInt(1), sub, dup, store(0, api.KInt), jumpIf(17, api.CondZero), jump(4),
		comeBack)
	m.Handlers = []api.Handler{over(2, 4, 6, lower), over(4, 6, 6, beside), over(2, 17, 6, 0), over(5, 18, 6, other)}
	checkOut(t, numbers(1, 0, 0), m)
	// What is thrown while something is caught is caught by the same handler.
	checkOut(t, numbers(1, 0, 0), handled(method(
		putInt(3), store(0, api.KInt), putNew(upper), throwIt,
		isOf(upper), emitInt,
		load(0, api.KInt), putInt(1), sub, dup, store(0, api.KInt), jumpIf(14, api.CondZero),
		putNull, throwIt, comeBack), over(2, 14, 4, 0)))
}

// The stack is emptied; the locals are as they were when it was thrown.
func TestI2LocalsWhereItIsCaught(t *testing.T) {
	f := file(handled(taking(types(intType),
		putInt(1), store(1, api.KInt), putLong(2), store(2, api.KLong),
		putInt(5), load(0, api.KInt), div, store(1, api.KInt),
		putLong(8), store(2, api.KLong),
		putInt(6), load(0, api.KInt), putInt(1), sub, div, store(1, api.KInt),
		putInt(7), load(0, api.KInt), putInt(2), sub, div, store(1, api.KInt),
		comeBack,
		pop, load(1, api.KInt), emitInt, load(2, api.KLong), emitLong, comeBack), over(4, 22, 23, api.ClassDivide)))
	for _, x := range []struct {
		arg  int64
		want []int64
	}{{0, numbers(1, 2)}, {1, numbers(5, 8)}, {2, numbers(6, 8)}, {3, nil}} {
		if s := follow(t, f, asked{args: numbers(x.arg)}); !shownAlike(s, api.Shown{End: api.EndDone, Out: x.want}) {
			t.Errorf("%d: %+v", x.arg, s)
		}
	}
}

// It is jumped into bounds, from outside and from within: what is thrown is caught where it is thrown, however that was come to.
func TestI2BoundsThatAreJumpedInto(t *testing.T) {
	f := file(handled(taking(types(intType),
		putInt(12), load(0, api.KInt), dup, jumpIf(5, api.CondLess),
		jump(6),
		jump(6), div, emitInt,
		comeBack,
		isOf(0), putInt(90), add, emitInt, comeBack), over(5, 8, 9, 0)))
	for _, x := range []struct {
		arg  int64
		want int64
	}{{0, 91}, {3, 4}, {-4, -3}} {
		if s := follow(t, f, asked{args: numbers(x.arg)}); !shownAlike(s, api.Shown{End: api.EndDone, Out: numbers(x.want)}) {
			t.Errorf("%d: %+v", x.arg, s)
		}
	}
}

// A handler that goes on within its own bounds catches there, too.
func TestI2AHandlerOverItself(t *testing.T) {
	checkEnd(t, api.EndFull, handled(method(putNew(0), pop, putNull, throwIt), over(0, 4, 1, 0)))
	checkOut(t, numbers(1, 2, 3), handled(method(
		putInt(0), store(0, api.KInt), putNull,
		pop, load(0, api.KInt), putInt(1), add, dup, store(0, api.KInt), emitInt,
		load(0, api.KInt), putInt(3), sub, jumpIf(16, api.CondZero),
		putNull, throwIt, comeBack), over(3, 16, 3, 0)))
}

// What nobody catches goes up from call to call, past those that stand over other calls or other classes.
func TestI2CaughtFurtherUp(t *testing.T) {
	low := method(putNew(lowest), throwIt)
	mid := handled(method(putInt(1), call(2), emitInt, comeBack, pop, putInt(50), emitInt, comeBack), over(0, 3, 4, other), over(2, 3, 4, 0))
	top := handled(method(putInt(4), call(1), emitInt, comeBack, isOf(lower), emitInt, comeBack), over(0, 3, 4, upper))
	checkOut(t, numbers(1), top, mid, low)
	top.Handlers[0].Class = beside
	if s := checkEnd(t, api.EndThrown, top, mid, low); s.Class != lowest {
		t.Errorf("got %+v", s)
	}
	// The calls that are over count no more: it can be gone as deep again.
	deep := handled(method(putInt(30), store(0, api.KInt), call(1), comeBack, pop, load(0, api.KInt), putInt(1), sub, dup, store(0, api.KInt), jumpIf(2, api.CondAbove), comeBack), over(2, 3, 4, 0))
	checkEnd(t, api.EndDone, deep, method(call(2), comeBack), low)
}

// A handler over nothing but pops, or over what can't be come to, can catch nothing; the stack may even have no slot for it.
func TestI2HandlersThatCatchNothing(t *testing.T) {
	checkOut(t, numbers(1), handled(method(putInt(1), putInt(2), pop, emitInt, comeBack, throwIt), over(2, 3, 5, 0)))
	checkOut(t, numbers(1), handled(method(putInt(1), putInt(2), putInt(3), pop, pop, emitInt, comeBack, pop, putNull, throwIt), over(3, 5, 7, 0), over(4, 5, 7, 0)))
	for locals := range 3 {
		checkEnd(t, api.EndDone, handled(sized(method(comeBack, pop, throwIt), 0, locals), over(1, 3, 1, 0), over(1, 2, 0, 0)))
		checkEnd(t, api.EndDone, handled(sized(method(jump(2), throwIt, comeBack), 0, locals), over(1, 2, 2, 0)))
	}
	// Nothing is thrown under it, though it stands over all: it is made all the same.
	checkOut(t, numbers(1), handled(method(putInt(1), emitInt, comeBack, isOf(0), emitInt, comeBack), over(0, 3, 3, 0)))
	checkEnd(t, api.EndDone, handled(sized(method(comeBack, throwIt), 1, 0), over(0, 2, 1, 0)))
}
