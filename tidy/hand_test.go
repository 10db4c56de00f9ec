package tidy_test

import (
	"testing"

	"crosswalk/api"
)

// giver gives what is kept.
func (k kept) giver() api.Method {
	return giving(k.t, k.set, k.stay(), giveBack(keptAt))
}

// What a call gave is fetched right behind it; what is idle stands ahead of the call, behind what fetches, or both.
func TestK3WhatACallGaveFetched(t *testing.T) {
	forAllKept(t, func(t *testing.T, k kept) {
		fetch := code(call(1), result(keptAt, k.t.Kind))
		want := method(join(code(setInt(0, 2)), fetch, k.show, code(emitInt(0), comeBack))...)
		for n := range 3 {
			for m := range 3 {
				l := join(code(setInt(0, 2)), times(n, stayInt(0)), fetch, times(m, stayInt(0)), times(m, k.stay()), k.show, code(stayInt(0), emitInt(0), comeBack))
				checkLeft(t, want, method(l...), k.giver())
				checkOut(t, numbers(k.want, 2), method(l...), k.giver())
			}
		}
		// The call is jumped to by way of what is idle.
		checkLeft(t, method(join(code(setInt(0, 0), jump(2)), fetch, k.show, code(comeBack))...),
			method(join(code(setInt(0, 0), jump(3), throwIt(0), stayInt(0)), fetch, k.show, code(comeBack))...), k.giver())
		// It is called again and again.
		checkLeft(t, method(join(code(setInt(0, 0)), fetch, k.show, code(jumpIf(1, api.CondZero, 0), comeBack))...),
			method(join(code(setInt(0, 0), stayInt(0)), fetch, code(k.stay()), k.show, code(jumpIf(1, api.CondZero, 0), comeBack))...), k.giver())
	})
}

// What a call gave is not fetched: behind what is idle nothing is at hand, nor is it once that is gone.
func TestK3WhatACallGaveNotFetched(t *testing.T) {
	forAllKept(t, func(t *testing.T, k kept) {
		for n := 1; n <= 3; n++ {
			idle := times(n, stayInt(0))
			for _, next := range []api.Ins{emitInt(0), setLong(5, 1), call(1), call(2), jump(5), jumpIf(5, api.CondZero, 0), comeIn(5)} {
				want := method(setInt(0, 2), call(1), next, emitInt(0), comeBack)
				given := next
				if next.Op == api.RGoto || next.Op == api.RIf {
					want.Code[2].A, given.A = 3, 3+n
				}
				l := join(code(setInt(0, 2), call(1)), idle, code(given, emitInt(0), comeBack))
				checkLeft(t, want, method(l...), k.giver(), method(comeBack))
			}
			// What the next call gave is fetched; what nothing gave can't be.
			want := method(join(code(setInt(0, 2), call(1), call(1), result(keptAt, k.t.Kind)), k.show, code(call(2), comeBack))...)
			checkLeft(t, want, method(join(code(setInt(0, 2), call(1)), idle, code(call(1), result(keptAt, k.t.Kind)), idle, k.show, code(call(2)), idle, code(comeBack))...), k.giver(), method(comeBack))
			// At the end of a method, and of a loop.
			checkLeft(t, method(setInt(0, 2), call(1), comeBack), method(join(code(setInt(0, 2), call(1)), idle, code(comeBack))...), k.giver())
			checkLeft(t, method(setInt(0, 2), call(1), jump(1)), method(join(code(setInt(0, 2), call(1)), idle, code(jump(1)))...), k.giver())
			checkLeft(t, method(setInt(0, 2), call(1), jump(2)), method(join(code(setInt(0, 2), call(1)), idle, code(jump(2)))...), k.giver())
		}
	})
}

// What can't be come to stands between a call and an RResult that can't be come to, either: nothing of both is left.
func TestK3AnRResultThatCannotBeComeTo(t *testing.T) {
	checkLeft(t, method(setInt(0, 1), call(1), jump(3), comeBack),
		method(setInt(0, 1), call(1), jump(5), result(0, api.KLong), stayInt(9), comeBack), good())
	checkLeft(t, method(setInt(0, 1), call(1), jump(3), call(1), result(0, api.KInt), comeBack),
		method(setInt(0, 1), call(1), stayInt(0), jump(6), result(0, api.KRef), caught(0), call(1), result(0, api.KInt), comeBack), good())
}

// throwing has something that throws, in the registers from 30 on.
func throwing(class int) []api.Ins {
	return code(setNew(30, class), throwIt(30))
}

// What was caught is fetched right where the handler goes on: what is idle stands behind that, and ahead of what throws.
func TestK3WhatWasCaughtFetched(t *testing.T) {
	forAllKept(t, func(t *testing.T, k kept) {
		for n := range 3 {
			idle := times(n, k.stay())
			begin := join(code(k.set), throwing(lower))
			end := code(caught(0), is(0, 0, lower), emitInt(0))
			want := handled(method(join(begin, end, k.show, code(comeBack))...), over(2, 3, 3, upper))
			l := join(code(k.set), idle, throwing(lower))
			at := len(l)
			l = join(l, end[:1], idle, end[1:], idle, k.show, code(comeBack))
			m := handled(method(l...), over(at-1, at, at, upper))
			checkLeft(t, want, m)
			checkOut(t, numbers(1, k.want), m)
			// The handler stands over what is idle, and over what sets it up, too.
			want.Handlers[0].From, m.Handlers[0].From = 1, 1
			checkLeft(t, want, m)
			// One that is idle alone leads there, too.
			if n > 0 {
				want.Handlers = []api.Handler{over(2, 3, 3, upper)}
				checkLeft(t, want, handled(m, over(1, 2, at, 0), over(at-1, at, at, upper)))
			}
		}
	})
}

// What was caught is not fetched: the handler goes on at what is idle, or right behind it.
func TestK3WhatWasCaughtNotFetched(t *testing.T) {
	forAllKept(t, func(t *testing.T, k kept) {
		for n := 1; n <= 2; n++ {
			for to := range n + 1 {
				l := join(code(k.set), throwing(lower), times(n, k.stay()), k.show, code(comeBack))
				m := handled(method(l...), over(2, 3, 3+to, upper))
				checkLeft(t, handled(method(join(code(k.set), throwing(lower), k.show, code(comeBack))...), over(2, 3, 3, upper)), m)
				checkOut(t, numbers(k.want), m)
			}
		}
		// Behind it stands a call whose result is fetched, and one of something else that is caught.
		checkLeft(t, handled(method(k.set, setNew(30, lower), throwIt(30), call(1), result(keptAt, k.t.Kind), comeBack), over(2, 3, 3, upper)),
			handled(method(k.set, setNew(30, lower), throwIt(30), k.stay(), call(1), result(keptAt, k.t.Kind), comeBack), over(2, 3, 3, upper)), k.giver())
		checkLeft(t, handled(method(k.set, setNew(30, lower), throwIt(30), throwIt(30), caught(2), comeBack), over(2, 3, 3, upper), over(3, 4, 4, 0)),
			handled(method(k.set, setNew(30, lower), throwIt(30), k.stay(), throwIt(30), caught(2), comeBack), over(2, 3, 3, upper), over(3, 5, 5, 0)))
	})
}

// Of two handlers one fetches, and one goes on right behind, by way of what is idle.
func TestK3FetchedByOneAlone(t *testing.T) {
	for class := range classes() {
		m := handled(method(setNull(1), setNew(0, class), throwIt(0), caught(1), stayRef(1), is(2, 1, upper), emitInt(2), comeBack),
			over(2, 3, 3, lower), over(2, 3, 4, 0))
		checkLeft(t, handled(method(setNull(1), setNew(0, class), throwIt(0), caught(1), is(2, 1, upper), emitInt(2), comeBack),
			over(2, 3, 3, lower), over(2, 3, 4, 0)), m)
		want := int64(0)
		if class == lower || class == lowest {
			want = 1
		}
		checkOut(t, numbers(want), m)
	}
}

// Handlers of several classes go on at one RCaught: without the one over what is idle more is known of what it fetches.
func TestK3ClassesOfOnePlace(t *testing.T) {
	m := handled(method(setNew(0, lower), stayRef(0), throwIt(0), caught(1), is(2, 1, lower), emitInt(2), comeBack), over(1, 2, 3, other), over(2, 3, 3, lower))
	checkLeft(t, handled(method(setNew(0, lower), throwIt(0), caught(1), is(2, 1, lower), emitInt(2), comeBack), over(1, 2, 2, lower)), m)
	checkOut(t, numbers(1), m)
	m = handled(method(setNew(0, beside), stayRef(0), throwIt(0), caught(1), get(2, 1, upper, 1), emitLong(2), comeBack), over(1, 2, 3, upper), over(1, 3, 3, lower), over(2, 3, 3, beside))
	checkLeft(t, handled(method(setNew(0, beside), throwIt(0), caught(1), get(2, 1, upper, 1), emitLong(2), comeBack), over(1, 2, 2, lower), over(1, 2, 2, beside)), m)
	checkOut(t, numbers(0), m)
}

// What nobody catches goes up from call to call, past handlers that are gone, and through those that stay.
func TestK3CaughtFurtherUp(t *testing.T) {
	low := method(setNew(0, lowest), stayRef(0), throwIt(0), caught(0), jump(0))
	mid := handled(method(setInt(0, 1), call(2), stayInt(0), emitInt(0), comeBack, setInt(0, 50), emitInt(0), comeBack), over(0, 4, 5, other), over(2, 3, 5, 0), over(2, 4, 5, 0))
	top := handled(method(setInt(0, 4), stayInt(0), call(1), stayInt(0), emitInt(0), comeBack, caught(1), stayRef(1), is(1, 1, lower), emitInt(1), comeBack), over(0, 5, 6, upper))
	checkOut(t, numbers(1), top, mid, low)
	top.Handlers[0].Class = beside
	if s := checkEnd(t, api.EndThrown, top, mid, low); s.Class != lowest {
		t.Errorf("got %+v", s)
	}
	checkLeft(t, handled(method(setInt(0, 1), call(1), emitInt(0), comeBack, setInt(0, 50), emitInt(0), comeBack), over(0, 3, 4, other), over(2, 3, 4, 0)),
		handled(method(join(mid.Code[:1], code(call(1)), mid.Code[2:])...), mid.Handlers...), low)
}
