package tidy_test

import (
	"testing"

	"crosswalk/api"
)

// kept is a value that a register has, and that an RMove from it to itself leaves there.
type kept struct {
	t    api.Type
	set  api.Ins
	show []api.Ins
	want int64
}

// Register of what is kept, of which the next one is free; show writes the register behind both.
const keptAt = 10

func allKept() []kept {
	showRef := code(is(keptAt+2, keptAt, lower), emitInt(keptAt+2))
	return []kept{
		{intType, setInt(keptAt, -4), code(emitInt(keptAt)), -4},
		{longType, setLong(keptAt, -5<<40), code(emitLong(keptAt)), -5 << 40},
		{ref(upper), setNew(keptAt, lowest), showRef, 1},
		{ref(upper), setNull(keptAt), showRef, 0},
	}
}

// stay moves what is kept to where it is.
func (k kept) stay() api.Ins {
	return stay(keptAt, k.t.Kind)
}

// forAllKept looks at what is kept of each kind.
func forAllKept(t *testing.T, look func(t *testing.T, k kept)) {
	t.Helper()
	for _, k := range allKept() {
		look(t, k)
	}
}

func TestK2MovesOfEachKind(t *testing.T) {
	forAllKept(t, func(t *testing.T, k kept) {
		all := join(code(k.set, k.stay()), k.show, code(comeBack))
		checkLeft(t, method(join(code(k.set), k.show, code(comeBack))...), method(all...))
		checkOut(t, numbers(k.want), method(all...))
	})
	// A move to another register stays, also onto half of what it reads, and back.
	checkStays(t, method(setInt(0, 2), move(1, 0, api.KInt), move(0, 1, api.KInt), emitInt(0), emitInt(1), comeBack))
	checkStays(t, method(setLong(1, 2), move(2, 1, api.KLong), move(1, 2, api.KLong), emitLong(1), comeBack))
	checkStays(t, method(setNull(0), move(1, 0, api.KRef), move(0, 1, api.KRef), comeBack))
	// Others with the same A and B do something, or stay though they do nothing.
	checkStays(t, method(setNew(0, upper), put(0, 0, upper, 2), get(0, 0, upper, 2), is(0, 0, upper), intOp(api.OpAnd, 0, 0, 0), widen(0, 0), longOp(api.OpOr, 0, 0, 0), narrow(0, 0), emitInt(0), comeBack))
	checkStays(t, method(setInt(1, 0), setInt(1, 0), jumpIf(3, 1, 1), emit(1, 1), setNull(0), cast(0, 0), cast(0, 0), comeBack))
	checkStays(t, method(setLong(2, 9), compare(2, 2, 2), emitInt(2), comeBack))
}

// Each register may be moved to itself, the last ones among them.
func TestK2MovesOfEachRegister(t *testing.T) {
	for at := range api.MaxRegs {
		checkLeft(t, method(setInt(at, 6), emitInt(at), comeBack), sized(method(setInt(at, 6), stayInt(at), emitInt(at), comeBack), api.MaxRegs))
		checkLeft(t, method(setNull(at), jumpIfNull(0, at), comeBack), sized(method(setNull(at), stayRef(at), jumpIfNull(0, at), comeBack), at+1))
		if at+1 < api.MaxRegs {
			checkLeft(t, method(setLong(at, 6), emitLong(at), comeBack), sized(method(setLong(at, 6), stay(at, api.KLong), emitLong(at), comeBack), at+2))
		}
	}
}

func TestK2MovesThatComeFirst(t *testing.T) {
	for _, p := range types(intType, longType, ref(0), ref(lower)) {
		for n := 1; n <= 3; n++ {
			m := taking(types(p), join(times(n, stay(0, p.Kind)), code(giveBack(0)))...)
			m.Ret = p
			checkLeft(t, method(giveBack(0)), m)
		}
		// Come to again, by a jump to the first instruction.
		checkLeft(t, method(jump(0)), taking(types(p), stay(0, p.Kind), jump(0)))
	}
	checkLeft(t, method(emitInt(0), jumpIf(0, api.CondLess, 0), comeBack), taking(types(intType), stayInt(0), emitInt(0), jumpIf(0, api.CondLess, 0), comeBack))
	checkLeft(t, method(emitInt(0), jumpIf(0, api.CondLess, 0), comeBack), taking(types(intType), stayInt(0), emitInt(0), jumpIf(1, api.CondLess, 0), comeBack))
}

func TestK2MovesAheadOfAReturn(t *testing.T) {
	forAllKept(t, func(t *testing.T, k kept) {
		for n := 1; n <= 3; n++ {
			idle := times(n, k.stay())
			checkLeft(t, method(k.set, giveBack(keptAt)), giving(k.t, join(code(k.set), idle, code(giveBack(keptAt)))...))
			checkLeft(t, method(k.set, comeBack), method(join(code(k.set), idle, code(comeBack))...))
			checkLeft(t, method(k.set, setNull(0), throwIt(0)), method(join(code(k.set, setNull(0)), idle, code(throwIt(0)))...))
			checkLeft(t, method(k.set, jump(0)), method(join(code(k.set), idle, code(jump(0)))...))
		}
		if s := checkEnd(t, api.EndDone, giving(k.t, k.set, k.stay(), giveBack(keptAt))); k.t.Kind != api.KRef && s.Value != k.want {
			t.Errorf("got %+v", s)
		}
	})
}

// Jumps of each kind go on at what is idle, at the first of several and in their midst.
func TestK2MovesThatAreJumpedTo(t *testing.T) {
	forAllKept(t, func(t *testing.T, k kept) {
		for to := range 4 {
			idle := times(3, k.stay())
			end := join(k.show, code(comeBack))
			// Forward, over something that ends.
			checkLeft(t, method(join(code(k.set, jump(2)), end)...),
				method(join(code(k.set, jump(3+to), throwIt(9)), idle, end)...))
			ifZero := func(to int) api.Ins { return jumpIf(to, api.CondZero, 0) }
			ifNull := func(to int) api.Ins { return jumpIfNull(to, 0) }
			for _, x := range []struct {
				set  api.Ins
				jump func(int) api.Ins
			}{{setInt(0, 0), ifZero}, {setInt(0, 1), ifZero}, {setNull(0), ifNull}, {setNew(0, 0), ifNull}} {
				checkLeft(t, method(join(code(k.set, x.set, x.jump(4), comeBack), end)...),
					method(join(code(k.set, x.set, x.jump(4+to), comeBack), idle, end)...))
				// Backward, for ever or not at all.
				checkLeft(t, method(join(code(k.set, x.set), k.show, code(x.jump(2), comeBack))...),
					method(join(code(k.set, x.set), idle, k.show, code(x.jump(2+to), comeBack))...))
			}
		}
	})
}

func TestK2MovesInLoops(t *testing.T) {
	forAllKept(t, func(t *testing.T, k kept) {
		begin := code(k.set, setInt(0, 3), setInt(1, 1))
		round := code(intOp(api.OpSub, 0, 0, 1), emitInt(0))
		want := method(join(begin, round, code(jumpIf(3, api.CondAbove, 0)), k.show, code(comeBack))...)
		// As the first one of the loop, in its midst, and as its last one.
		for _, l := range [][]api.Ins{
			join(begin, code(k.stay()), round, code(jumpIf(3, api.CondAbove, 0)), k.show, code(comeBack)),
			join(begin, code(round[0], k.stay(), k.stay(), round[1], jumpIf(3, api.CondAbove, 0)), k.show, code(comeBack)),
			join(begin, round, code(k.stay(), jumpIf(3, api.CondAbove, 0)), k.show, code(comeBack)),
			join(begin, round, code(jumpIf(3, api.CondAbove, 0), k.stay()), k.show, code(comeBack)),
			join(begin, times(4, k.stay()), round, code(k.stay(), jumpIf(5, api.CondAbove, 0)), k.show, code(comeBack)),
		} {
			checkLeft(t, want, method(l...))
			checkOut(t, numbers(2, 1, 0, k.want), method(l...))
		}
	})
}

// Loops in which there is nothing but idle ones and jumps: they never end, before and after.
func TestK2MovesThatGoOnAtThemselves(t *testing.T) {
	forAllKept(t, func(t *testing.T, k kept) {
		for n := 1; n <= 3; n++ {
			for to := 1; to <= n+1; to++ {
				checkLeft(t, method(k.set, jump(1)), method(join(code(k.set), times(n, k.stay()), code(jump(to)))...))
			}
		}
		// By way of two jumps, one of which stands ahead.
		checkLeft(t, method(k.set, jump(3), jump(1), jump(2)), method(k.set, jump(5), k.stay(), jump(1), throwIt(3), k.stay(), jump(2)))
		checkEnd(t, api.EndFuel, method(k.set, k.stay(), jump(1)))
	})
	checkLeft(t, method(jump(0)), taking(types(intType), stayInt(0), stayInt(0), jump(1)))
	// By a condition, which ends the loop or not.
	checkLeft(t, method(jumpIf(0, api.CondZero, 0), comeBack), taking(types(intType), stayInt(0), jumpIf(0, api.CondZero, 0), comeBack))
	checkLeft(t, method(setNull(0), jumpIfNull(1, 0), comeBack), method(setNull(0), stayRef(0), jumpIfNull(1, 0), comeBack))
	checkLeft(t, method(setNew(0, 0), jumpIfNull(1, 0), comeBack), method(setNew(0, 0), stayRef(0), jumpIfNull(1, 0), comeBack))
}

// Nothing but idle ones stands between a jump and where it goes: it goes on at the next one then.
func TestK2NothingElseBetweenAJumpAndWhereItGoes(t *testing.T) {
	forAllKept(t, func(t *testing.T, k kept) {
		for n := range 4 {
			idle := times(n, k.stay())
			end := join(k.show, code(comeBack))
			checkLeft(t, method(join(code(k.set, jump(2)), end)...), method(join(code(k.set, jump(2+n)), idle, end)...))
			checkLeft(t, method(join(code(k.set, setInt(0, 0), jumpIf(3, api.CondZero, 0)), end)...),
				method(join(code(k.set, setInt(0, 0), jumpIf(3+n, api.CondZero, 0)), idle, end)...))
			checkLeft(t, method(join(code(k.set, setNull(0), jumpIfNull(3, 0)), end)...),
				method(join(code(k.set, setNull(0), jumpIfNull(3+n, 0)), idle, end)...))
			// Backward, to the jump itself.
			checkLeft(t, method(join(code(k.set, setInt(0, 1), jumpIf(2, api.CondZero, 0)), end)...),
				method(join(code(k.set, setInt(0, 1)), idle, code(jumpIf(2, api.CondZero, 0)), end)...))
			checkLeft(t, method(k.set, jump(1)), method(join(code(k.set), idle, code(jump(1)))...))
		}
	})
	// In the whole method stands nothing but jumps and what is idle.
	checkLeft(t, method(jump(1), jump(0)), taking(types(intType), stayInt(0), jump(2), stayInt(0), jump(0)))
	checkLeft(t, method(jump(1), comeBack), taking(types(intType), jump(3), stayInt(0), stayInt(0), stayInt(0), comeBack))
	checkLeft(t, method(comeBack), taking(types(intType), stayInt(0), comeBack))
}

// A handler that stands over nothing but what is idle goes, and with it what nothing else leads to.
func TestK2HandlersOverMovesAlone(t *testing.T) {
	forAllKept(t, func(t *testing.T, k kept) {
		begin := join(code(k.set, k.stay()), k.show, code(comeBack))
		at := len(begin)
		want := method(join(code(k.set), k.show, code(comeBack))...)
		for _, end := range [][]api.Ins{
			{caught(0), throwIt(0)}, {caught(0), jump(1)}, {k.show[0], comeBack}, {jump(at)}, {comeBack}, {setNull(0), throwIt(0)}, {k.stay(), comeBack}, {k.stay(), jump(at)},
			{caught(0), k.stay(), call(1), result(3, api.KInt), comeBack},
		} {
			checkLeft(t, want, handled(method(join(begin, end)...), over(1, 2, at, 0)), good())
			checkLeft(t, want, handled(method(join(begin, end)...), over(1, 2, at, lower), over(1, 2, at, 0)), good())
		}
		// It goes on at what is come to anyway: ahead, at what is idle, and behind.
		anyway := join(code(setInt(keptAt+2, 0)), begin)
		for to := range anyway {
			checkLeft(t, method(join(anyway[:2], anyway[3:])...), handled(method(anyway...), over(2, 3, to, 0)))
		}
		// Several in a row, under one handler and under several.
		idle := join(code(k.set), times(4, k.stay()), k.show, code(comeBack, caught(3), comeBack))
		last := len(idle) - 2
		checkLeft(t, want, handled(method(idle...), over(1, 5, last, 0)))
		checkLeft(t, want, handled(method(idle...), over(1, 3, last, 0), over(2, 5, last, lower), over(4, 5, 2, upper)))
	})
}

// Where an idle one stands at the beginning or the end of what a handler stands over, or in its midst, the rest of that stays under it.
func TestK2MovesUnderHandlers(t *testing.T) {
	forAllKept(t, func(t *testing.T, k kept) {
		divide := code(setInt(0, 1), setInt(1, 0), intOp(api.OpDiv, 2, 0, 1), emitInt(0), comeBack)
		ends := [][]api.Ins{{caught(3), emitInt(1), comeBack}, {emitInt(1), comeBack}, {k.stay(), emitInt(1), comeBack}}
		for _, end := range ends {
			left := end
			if end[0].Op == api.RMove {
				left = end[1:]
			}
			for from := 3; from <= 4; from++ {
				for to := from + 1; to <= 5; to++ {
					want := handled(method(join(code(k.set), divide, left)...), over(from, to, 6, api.ClassDivide))
					for _, x := range []struct{ ahead, begin, mid, last, behind int }{
						{0, 0, 0, 0, 0}, {1, 0, 0, 0, 0}, {0, 1, 0, 0, 0}, {0, 0, 1, 0, 0}, {0, 0, 0, 1, 0}, {0, 0, 0, 0, 1}, {2, 3, 1, 2, 1}, {0, 3, 0, 3, 0},
					} {
						// Each instruction under the handler has x.mid idle ones behind it, but for the last one.
						l := join(code(k.set), divide[:from-1], times(x.ahead, k.stay()))
						h := over(len(l), 0, 0, api.ClassDivide)
						l = append(l, times(x.begin, k.stay())...)
						for n := from; n < to; n++ {
							l = append(l, divide[n-1])
							if n+1 < to {
								l = append(l, times(x.mid, k.stay())...)
							}
						}
						l = append(l, times(x.last, k.stay())...)
						h.To = len(l)
						l = join(l, times(x.behind, k.stay()), divide[to-1:])
						h.At = len(l)
						checkLeft(t, want, handled(method(join(l, end)...), h))
					}
				}
			}
		}
	})
}

// Handlers go on at what is idle, over the idle one itself, too.
func TestK2HandlersThatGoOnAtMoves(t *testing.T) {
	forAllKept(t, func(t *testing.T, k kept) {
		begin := code(k.set, setNull(0), throwIt(0))
		for n := 1; n <= 3; n++ {
			for to := range n + 1 {
				end := join(times(n, k.stay()), k.show, code(comeBack))
				want := handled(method(join(begin, k.show, code(comeBack))...), over(2, 3, 3, 0))
				m := handled(method(join(begin, end)...), over(2, 3, 3+to, 0))
				checkLeft(t, want, m)
				checkOut(t, numbers(k.want), m)
				// One more stands over what is idle, and goes on at it.
				m.Handlers = append(m.Handlers, over(3, 3+n, 3+to, 0), over(3, 4, 3, lower))
				checkLeft(t, want, m)
				// The same one stands over all of it.
				m.Handlers = []api.Handler{over(2, 3+n, 3+to, 0)}
				checkLeft(t, want, m)
			}
		}
	})
	checkLeft(t, handled(method(jump(0)), over(0, 1, 0, 0)), handled(taking(types(intType), stayInt(0), jump(0)), over(0, 2, 0, 0)))
	checkLeft(t, method(jump(0)), handled(taking(types(intType), stayInt(0), jump(0)), over(0, 1, 0, 0)))
	checkLeft(t, method(jump(0)), handled(taking(types(intType), stayInt(0), jump(0)), over(0, 1, 1, 0)))
	checkLeft(t, handled(method(jump(0)), over(0, 1, 0, 0)), handled(taking(types(intType), stayInt(0), jump(0)), over(1, 2, 0, 0), over(0, 1, 1, 0)))
}
