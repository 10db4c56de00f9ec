package tidy_test

import (
	"slices"
	"testing"

	"crosswalk/api"
)

// wrongLists can't be come to by any way that is checked: they read what is not there, fetch what is not at hand, or have no next one.
// They name the methods 1 and 2, and the registers below 20.
func wrongLists() [][]api.Ins {
	return [][]api.Ins{
		{result(0, api.KInt)}, {result(0, api.KLong)}, {result(0, api.KRef)}, {caught(0)}, {caught(0), caught(0)}, {emitLong(9)}, {emitInt(15)}, {throwIt(9)},
		{stayInt(9)}, {stay(9, api.KLong)}, {stayRef(9)}, {stayInt(9), stayRef(9)}, {move(0, 9, api.KLong)}, {intOp(api.OpAdd, 9, 8, 7)}, {longOp(api.OpRem, 9, 8, 7)},
		{widen(9, 9)}, {narrow(9, 9)}, {compare(9, 9, 9)}, {get(9, 9, upper, 2)}, {put(9, 9, upper, 2)}, {cast(9, 0)}, {is(9, 8, 0)}, {setNew(9, 0)}, {setNull(9)}, {setInt(9, 1)}, {setLong(9, 1)}, {comeIn(9)},
		{call(1, 9, 9)}, {call(1, 0, 0), result(0, api.KRef)}, {call(2), result(9, api.KInt)}, {call(2)}, {giveBack(0)}, {giveBack(0), caught(1)},
		{jump(0)}, {jump(1)}, {setLong(0, 1), jump(1)}, {jumpIf(0, api.CondZero, 9)}, {jumpIfNull(1, 0)}, times(20, comeIn(7)),
	}
}

// others are the methods that wrongLists call.
func others() []api.Method {
	return []api.Method{taking(types(longType, ref(0)), comeBack), good()}
}

// shifted answers instructions that stand so much further behind, with all that they jump to.
func shifted(n int, l []api.Ins) []api.Ins {
	l = slices.Clone(l)
	for k, i := range l {
		if i.Op == api.RGoto || i.Op == api.RIf || i.Op == api.RIfNull {
			l[k].A += n
		}
	}
	return l
}

// Places where something that can't be come to may stand: ahead of what a handler stands over, at its beginning, in its midst, at its end, behind it, and behind all.
const (
	aheadOf = iota
	atBegin
	inMidst
	atEnd
	behind
	behindAll
	places
)

// strewn answers a method with a list in each of the places that holds says: where control would come to one, a jump goes past it.
func strewn(l []api.Ins, handler api.Handler, holds func(place int) bool, end []api.Ins) api.Method {
	m := method(setInt(20, 1), setInt(21, 0), setInt(22, 3))
	lay := func(place int, jumps bool) {
		var here []api.Ins
		if holds(place) {
			here = l
		}
		if jumps {
			m.Code = append(m.Code, jump(len(m.Code)+1+len(here)))
		}
		m.Code = append(m.Code, here...)
	}
	// A jump stands ahead of each of these, where it is; those at the bounds stand right within them.
	lay(aheadOf, true)
	begin := len(m.Code)
	m.Code = append(m.Code, jump(0))
	h := handler
	h.From = len(m.Code)
	lay(atBegin, false)
	m.Code[begin].A = len(m.Code)
	m.Code = append(m.Code, intOp(api.OpAdd, 22, 22, 20))
	lay(inMidst, true)
	m.Code = append(m.Code, intOp(api.OpDiv, 23, 20, 21))
	lay(atEnd, true)
	h.To = len(m.Code)
	lay(behind, true)
	m.Code = append(m.Code, comeBack)
	h.At = len(m.Code)
	m.Code = append(m.Code, end...)
	lay(behindAll, false)
	m.Handlers = []api.Handler{h}
	return m
}

func TestK2WhatCannotBeComeTo(t *testing.T) {
	ends := [][]api.Ins{{caught(24), emitInt(22), comeBack}, {emitInt(22), comeBack}}
	for _, end := range ends {
		for _, class := range []int{0, api.ClassDivide, lower} {
			h := over(0, 0, 0, class)
			want := strewn(nil, h, func(int) bool { return false }, end)
			checkStays(t, want)
			for _, l := range wrongLists() {
				for some := range 1 << places {
					if some&(some-1) != 0 && some%7 != 0 {
						continue
					}
					m := strewn(l, h, func(place int) bool { return some>>place&1 == 1 }, end)
					checkLeft(t, want, append([]api.Method{m}, others()...)...)
				}
			}
		}
	}
}

// Handlers stand over nothing but what can't be come to: wherever they go on, they go.
func TestK2HandlersOverWhatCannotBeComeTo(t *testing.T) {
	for _, l := range wrongLists() {
		size := len(l)
		begin := code(setInt(20, 3), emitInt(20), comeBack)
		look := func(want, m api.Method) {
			t.Helper()
			checkLeft(t, want, append([]api.Method{m}, others()...)...)
		}
		for to := range size + 3 {
			m := method(join(begin, l)...)
			look(method(begin...), handled(m, over(3, size+3, to, 0)))
			look(method(begin...), handled(m, over(3, size+3, to, 0), over(3, 4, 0, lower), over(size+2, size+3, 3, upper)))
		}
		// Beside one that stays, in each order.
		short := code(emitInt(0), comeBack)
		for to := range size + 2 {
			m := taking(types(intType), join(short, l)...)
			stays, gone := over(0, size+2, 0, other), over(2, size+2, to, 0)
			left := handled(method(short...), over(0, 2, 0, other))
			look(left, handled(m, stays, gone))
			look(left, handled(m, gone, stays))
			look(left, handled(m, gone, stays, gone))
		}
		// In the midst.
		m := method(join(code(setInt(20, 3), jump(2+size)), l, code(emitInt(20), comeBack))...)
		left := method(setInt(20, 3), jump(2), emitInt(20), comeBack)
		look(left, m)
		for to := range len(m.Code) {
			look(left, handled(m, over(2, 2+size, to, 0)))
		}
	}
}

// What is at the beginning of a method is come to, whatever follows; behind each that ends nothing is.
func TestK2BehindWhatEnds(t *testing.T) {
	for _, l := range wrongLists() {
		for _, begin := range [][]api.Ins{{comeBack}, {setNull(20), throwIt(20)}, {jump(0)}, {setInt(20, 0), jumpIf(0, api.CondZero, 20), comeBack}, {setNull(20), jumpIfNull(1, 20), comeBack}, {call(2), jump(0)}} {
			checkLeft(t, method(begin...), append([]api.Method{method(join(begin, l)...)}, others()...)...)
			checkLeft(t, method(begin...), append([]api.Method{method(join(begin, l, l)...)}, others()...)...)
		}
		// At the beginning of all but one jump.
		size := len(l)
		checkLeft(t, method(jump(1), comeBack), append([]api.Method{method(join(code(jump(size+1)), shifted(1, l), code(comeBack))...)}, others()...)...)
	}
}

// Loops that nothing leads to lead to each other, and to what stays.
func TestK2LoopsThatCannotBeComeTo(t *testing.T) {
	checkLeft(t, method(comeBack), method(comeBack, jump(1)))
	checkLeft(t, method(comeBack), method(comeBack, jump(2), jump(1)))
	checkLeft(t, method(comeBack), method(comeBack, setInt(0, 1), jumpIf(1, api.CondZero, 0), jump(0)))
	checkLeft(t, method(jump(1), comeBack), method(jump(4), setInt(0, 1), jumpIf(1, api.CondZero, 0), jump(4), comeBack))
	checkLeft(t, method(comeBack), handled(method(comeBack, setNull(0), throwIt(0)), over(1, 3, 1, 0)))
	checkLeft(t, method(comeBack), handled(method(comeBack, jump(1), caught(0), jump(2)), over(1, 2, 2, 0), over(2, 4, 1, 0)))
}

// What nothing leads to but a handler over what is idle can't be come to, once that is gone; nor can what that leads to.
func TestK2WhatCannotBeComeToOnceOthersAreGone(t *testing.T) {
	begin := code(setInt(0, 6), stayInt(0), emitInt(0), comeBack)
	want := method(setInt(0, 6), emitInt(0), comeBack)
	alone := over(1, 2, 4, 0)
	look := func(end []api.Ins, more ...api.Handler) {
		t.Helper()
		checkLeft(t, want, handled(method(join(begin, end)...), append([]api.Handler{alone}, more...)...), giving(intType, setInt(0, 1), giveBack(0)))
		checkLeft(t, want, handled(method(join(begin, end)...), append(slices.Clone(more), alone)...), giving(intType, setInt(0, 1), giveBack(0)))
	}
	// By jumps, by conditions, by what comes next.
	look(code(jump(6), comeBack, emitInt(0), jump(5)))
	look(code(jumpIf(7, api.CondZero, 0), jump(6), comeBack, emitInt(0), jump(2)))
	look(code(caught(1), jumpIfNull(4+3, 1), throwIt(1), comeBack))
	look(code(call(1), result(0, api.KInt), emitInt(0), comeBack))
	look(code(stayInt(0), stayInt(0), jump(4)))
	// By handlers over it, which go with it.
	look(code(caught(1), throwIt(1), emitInt(0), comeBack), over(4, 6, 6, 0))
	look(code(caught(1), throwIt(1), caught(1), throwIt(1), caught(2), comeBack), over(4, 6, 6, 0), over(6, 8, 8, lower))
	look(code(caught(1), throwIt(1), caught(1), throwIt(1)), over(5, 6, 6, 0), over(7, 8, 6, 0))
	// By one more that is idle, under one more handler.
	look(code(stayInt(0), comeBack, caught(1), stayInt(0), comeBack, caught(2), stayInt(0), throwIt(2)), over(4, 5, 6, 0), over(7, 8, 9, 0), over(10, 11, 6, 0))
	// It leads to what stays.
	for to := range 4 {
		look(code(jump(to)))
		look(code(caught(1), jump(to)))
	}
}

// A handler that stands over what stays, too, stays, and so does what it goes on at.
func TestK2HandlersThatStay(t *testing.T) {
	begin := code(setInt(0, 6), stayInt(0), emitInt(0), comeBack)
	left := code(setInt(0, 6), emitInt(0), comeBack)
	for _, end := range [][]api.Ins{{caught(1), comeBack}, {comeBack}, {setInt(0, 1), jump(2)}} {
		want := handled(method(join(left, shifted(-1, end))...), over(1, 2, 3, lower))
		checkLeft(t, want, handled(method(join(begin, end)...), over(1, 3, 4, lower)))
		checkLeft(t, want, handled(method(join(begin, end)...), over(2, 3, 4, lower)))
		checkLeft(t, want, handled(method(join(begin, end)...), over(1, 2, 4, upper), over(2, 3, 4, lower)))
		want.Handlers[0].To = 3
		checkLeft(t, want, handled(method(join(begin, end)...), over(1, 4, 4, lower)))
		// The same end is gone on at from what is idle alone, and from within itself.
		want.Handlers = []api.Handler{over(3, 4, 3, upper)}
		if end[0].Op != api.RCaught {
			m := handled(method(join(begin[:3], code(jumpIf(4, api.CondZero, 0)), end)...), over(4, 5, 4, upper), over(1, 2, 4, lower))
			want.Code = join(left[:2], code(jumpIf(3, api.CondZero, 0)), shifted(-1, end))
			checkLeft(t, want, m)
		}
	}
	// All handlers stay, in their order, the same ones twice among them.
	m := method(setInt(0, 1), emitInt(0), comeBack, caught(1), comeBack)
	for n := range api.MaxHandlers {
		m.Handlers = append(m.Handlers, over(n%3, 3, 3, n/2))
	}
	checkStays(t, m)
	m.Code, m.Params = join(code(stayInt(0), stayInt(0)), m.Code), types(intType)
	want := handled(method(m.Code[2:]...), slices.Clone(m.Handlers)...)
	for n := range m.Handlers {
		m.Handlers[n].From += 2
		m.Handlers[n].To += 2
		m.Handlers[n].At += 2
	}
	checkLeft(t, want, m)
	m.Handlers[0].From, m.Handlers[3].From = 0, 1
	want.Handlers[0].From, want.Handlers[3].From = 0, 0
	checkLeft(t, want, m)
	// Every other one goes.
	want.Handlers = nil
	for n, h := range m.Handlers {
		if n%2 == 0 {
			m.Handlers[n].From, m.Handlers[n].To = n/4, 2
			continue
		}
		want.Handlers = append(want.Handlers, over(max(0, h.From-2), h.To-2, h.At-2, h.Class))
	}
	checkLeft(t, want, m)
}

// Methods in which there is nothing to leave out stay as they are, the least ones among them.
func TestK2NothingToLeaveOut(t *testing.T) {
	checkStays(t, sized(method(comeBack), 1))
	checkStays(t, sized(method(jump(0)), 1))
	checkStays(t, handled(sized(method(jump(0)), 1), over(0, 1, 0, 0)))
	checkStays(t, handled(sized(method(comeBack), 1), over(0, 1, 0, 0)))
	checkStays(t, handled(sized(method(comeBack, caught(0), comeBack), 1), over(0, 1, 1, 0)))
	for _, p := range types(intType, longType, ref(lower)) {
		m := taking(types(p), giveBack(0))
		m.Ret = p
		checkStays(t, m)
	}
	checkStays(t, taking(types(ref(0)), throwIt(0)))
	checkStays(t, handled(taking(types(ref(0)), throwIt(0)), over(0, 1, 0, 0)))
	checkStays(t, method(jump(1), jump(2), jump(3), comeBack))
	checkStays(t, method(setInt(0, 0), jumpIf(2, api.CondZero, 0), jumpIf(1, api.CondAbove, 0), jumpIf(0, api.CondLess, 0), comeBack))
	checkStays(t, method(jump(3), comeBack, jump(1), jump(2)))
	checkStays(t, method(call(0), comeBack))
}
