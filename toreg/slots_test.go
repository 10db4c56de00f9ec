package toreg_test

import (
	"testing"

	"crosswalk/api"
)

// What was loaded stays as it was, though the local becomes something else, of the same kind or of another one.
func TestI2LocalsWrittenUnderTheStack(t *testing.T) {
	checkOut(t, numbers(2, 1), method(
		putInt(1), store(0, api.KInt), load(0, api.KInt), putInt(2), store(0, api.KInt), load(0, api.KInt), emitInt, emitInt, comeBack))
	checkOut(t, numbers(1<<40), method(
		putLong(1<<40), store(0, api.KLong), load(0, api.KLong), putInt(2), store(1, api.KInt), putNull, store(0, api.KRef), emitLong, comeBack))
	checkOut(t, numbers(1), method(
		putNew(lower), store(3, api.KRef), load(3, api.KRef), putLong(5), store(2, api.KLong), isOf(lower), emitInt, comeBack))
	f := file(taking(types(intType, longType, intType),
		load(3, api.KInt), load(1, api.KLong), load(0, api.KInt),
		putInt(9), store(0, api.KInt), putInt(8), store(3, api.KInt), putLong(7), store(1, api.KLong),
		emitInt, emitLong, emitInt, load(0, api.KInt), emitInt, load(1, api.KLong), emitLong, load(3, api.KInt), emitInt, comeBack))
	if s := follow(t, f, asked{args: numbers(1, 2, 3)}); !shownAlike(s, api.Shown{End: api.EndDone, Out: numbers(1, 2, 3, 9, 7, 8)}) {
		t.Errorf("got %+v", s)
	}
}

// A counter that is loaded ahead of being counted on, as in i = i++ + i.
func TestI2CountedWhileLoaded(t *testing.T) {
	f := file(giving(intType,
		load(0, api.KInt), load(0, api.KInt), putInt(1), add, store(0, api.KInt), load(0, api.KInt), sub, comeBack))
	f.Methods[0].Params = types(intType)
	if s := follow(t, f, asked{args: numbers(41)}); s.Value != -1 {
		t.Errorf("got %+v", s)
	}
}

// A long over half of another one, from below and from above, and ints and references over halves.
func TestI2LongsInLocals(t *testing.T) {
	for at := range 6 {
		var l []api.Ins
		for slot := 0; slot < 8; slot += 2 {
			l = append(l, putLong(int64(slot+10)), store(slot, api.KLong))
		}
		l = append(l, putLong(99), store(at, api.KLong))
		want := numbers(99)
		rest := code(load(at, api.KLong), emitLong)
		for slot := 0; slot < 8; slot += 2 {
			if slot+1 < at || slot > at+1 {
				rest = append(rest, load(slot, api.KLong), emitLong)
				want = append(want, int64(slot+10))
			}
		}
		checkOut(t, want, sized(method(join(l, rest, code(comeBack))...), 2, 8))
		for _, half := range []api.Ins{putInt(5), putNull} {
			kind := api.KInt
			if half.Op == api.SNull {
				kind = api.KRef
			}
			checkOut(t, want[1:], method(join(l, code(half, store(at, kind)), rest[2:], code(comeBack))...))
			checkOut(t, want[1:], method(join(l, code(half, store(at+1, kind)), rest[2:], code(comeBack))...))
		}
	}
}

// The last slot of the locals and the first one of the stack lie side by side, and have nothing to do with each other.
func TestI2WhereLocalsEnd(t *testing.T) {
	m := sized(method(
		putLong(1<<40), store(0, api.KLong), putInt(3), store(2, api.KInt),
		putLong(5), emitLong, putInt(4), putInt(6), emitInt, emitInt,
		load(2, api.KInt), emitInt, load(0, api.KLong), emitLong,
		putLong(7), store(1, api.KLong), putLong(8), load(1, api.KLong), emitLong, emitLong, comeBack), 4, 3)
	checkOut(t, numbers(5, 6, 4, 3, 1<<40, 7, 8), m)
}

func TestI2StacksOfAllKinds(t *testing.T) {
	checkOut(t, numbers(6, 1, 5, 4, 0, 3, 2, 1), sized(method(
		putInt(1), putLong(2), putInt(3), putNull, putLong(4), putLong(5), putNew(lower), putInt(6),
		emitInt, isOf(upper), emitInt, emitLong, emitLong, isOf(upper), emitInt, emitInt, emitLong, emitInt, comeBack), 11, 0))
	// All slots that may be, filled by ints, by longs and by both in turn.
	checkEnd(t, api.EndDone, method(join(times(30, putInt(1)), times(30, emitInt), code(comeBack))...))
	checkEnd(t, api.EndDone, method(join(times(15, putLong(1)), times(15, emitLong), code(comeBack))...))
	checkEnd(t, api.EndDone, method(join(times(10, putInt(1), putLong(2)), times(10, emitLong, emitInt), code(comeBack))...))
	checkEnd(t, api.EndDone, method(join(times(10, putLong(2), putInt(1)), times(10, emitInt, emitLong), code(comeBack))...))
}

func TestI2MovedOnTheStack(t *testing.T) {
	checkOut(t, numbers(2, 2, 1), sized(method(putInt(1), putInt(2), dup, emitInt, emitInt, emitInt, comeBack), 3, 0))
	checkOut(t, numbers(1<<40, 1<<40, 1), sized(method(putInt(1), putLong(1<<40), dup, emitLong, emitLong, emitInt, comeBack), 5, 0))
	checkOut(t, numbers(1, 1, 7), method(putInt(7), putNew(lowest), dup, isOf(lower), emitInt, isOf(upper), emitInt, emitInt, comeBack))
	checkOut(t, numbers(0, 0), method(putNull, dup, isOf(0), emitInt, isOf(0), emitInt, comeBack))
	// One object, named twice.
	checkOut(t, numbers(8), method(putNew(upper), dup, putInt(8), ins(api.SPut, upper, 0), ins(api.SGet, upper, 0), emitInt, comeBack))
	checkOut(t, numbers(3), method(putInt(3), putInt(1), putLong(2), putNull, pop, pop, pop, emitInt, comeBack))
	checkOut(t, numbers(4, 4, 4, 4), method(putInt(4), dup, dup, dup, emitInt, emitInt, emitInt, emitInt, comeBack))
	// What is popped is left behind: another kind goes over half of it.
	checkOut(t, numbers(2, 1, 5), method(putLong(9), pop, putInt(1), putInt(2), emitInt, emitInt, putInt(3), putInt(4), pop, pop, putLong(5), emitLong, comeBack))
	checkOut(t, numbers(6, 1), method(putInt(1), putInt(2), pop, putLong(3), pop, putInt(4), pop, putLong(6), emitLong, emitInt, comeBack))
}

// Ways on which nothing but pops stand lead on all the same; so do jumps to them.
func TestI2JumpsToPops(t *testing.T) {
	for _, n := range []int64{0, 1} {
		checkOut(t, numbers(5), method(
			putInt(5), putLong(2), putNull, putInt(n), jumpIf(5, api.CondZero),
			pop, pop, emitInt, comeBack))
		checkOut(t, numbers(5), method(
			putInt(5), putLong(2), putInt(n), jumpIf(6, api.CondZero), putNull,
			pop, pop, emitInt, comeBack))
	}
	checkEnd(t, api.EndFuel, method(putInt(1), pop, jump(0)))
	checkEnd(t, api.EndFuel, method(putInt(1), jump(2), pop, putInt(1), jump(2)))
}
