package tostack_test

import (
	"testing"

	"crosswalk/api"
)

// A long over half of another one, from below and from above, and ints and references over halves.
func TestJ2LongsInRegisters(t *testing.T) {
	for at := range 7 {
		var l []api.Ins
		for r := 0; r < 8; r += 2 {
			l = append(l, setLong(r, int64(r+10)))
		}
		want := numbers(99)
		rest := code(emitLong(at))
		for r := 0; r < 8; r += 2 {
			if r+1 < at || r > at+1 {
				rest = append(rest, emitLong(r))
				want = append(want, int64(r+10))
			}
		}
		checkOut(t, want, sized(method(join(l, code(setLong(at, 99)), rest, code(comeBack))...), 8))
		for _, half := range []api.Ins{setInt(at, 5), setNull(at), setInt(at+1, 5), setNew(at+1, 0)} {
			checkOut(t, want[1:], method(join(l, code(half), rest[1:], code(comeBack))...))
		}
	}
}

// Every instruction that writes a long writes it over halves of two others, and every one that writes an int or a reference over half of one.
func TestJ2WrittenOverHalves(t *testing.T) {
	callee := giving(longType, setLong(0, 7), giveBack(0))
	small := giving(intType, setInt(0, 6), giveBack(0))
	begin := code(setLong(0, 70), setInt(9, 71), setNew(8, upper), setLong(2, 1), setLong(4, 2))
	for _, l := range [][]api.Ins{
		{setLong(3, 5)}, {move(3, 0, api.KLong)}, {move(3, 2, api.KLong)}, {move(3, 4, api.KLong)}, {longOp(api.OpAdd, 3, 2, 4)}, {widen(3, 9)},
		{get(3, 8, upper, 1)}, {call(1), result(3, api.KLong)}, {comeIn(3)},
	} {
		checkEnds(t, join(begin, l, code(emitLong(3), emitLong(0), emitInt(9), comeBack)), callee, small)
	}
	for _, l := range [][]api.Ins{
		{setInt(3, 5)}, {move(3, 9, api.KInt)}, {intOp(api.OpAdd, 3, 9, 9)}, {narrow(3, 2)}, {narrow(3, 4)}, {compare(3, 2, 4)},
		{get(3, 8, upper, 0)}, {is(3, 8, lower)}, {call(2), result(3, api.KInt)},
	} {
		checkEnds(t, join(begin, l, code(emitInt(3), emitLong(4), emitLong(0), comeBack)), callee, small)
	}
	for _, l := range [][]api.Ins{{setNull(3)}, {setNew(3, lower)}, {move(3, 8, api.KRef)}, {get(3, 8, upper, 2)}} {
		checkEnds(t, join(begin, l, code(is(3, 3, lower), emitInt(3), emitLong(4), emitLong(0), comeBack)), callee, small)
	}
}

func checkEnds(t *testing.T, l []api.Ins, callees ...api.Method) {
	t.Helper()
	f := file(append([]api.Method{method(l...)}, callees...)...)
	if s := follow(t, f, asked{input: numbers(12, 13)}); s.End != api.EndDone {
		t.Errorf("%+v: %+v", l, s)
	}
}

// A register becomes of one kind after the other.
func TestJ2KindsInTurn(t *testing.T) {
	checkOut(t, numbers(1, 2, 1, 3, 4, 0, 5), sized(method(
		setInt(0, 1), emitInt(0), setLong(0, 2), emitLong(0), setNew(0, lower), is(1, 0, upper), emitInt(1),
		setLong(0, 3), emitLong(0), setInt(1, 4), emitInt(1), setNull(1), is(0, 1, 0), emitInt(0), setInt(0, 5), emitInt(0), comeBack), 2))
}

// Nothing is known of a register where two ways come together that leave other kinds there: nobody reads it, but it is written again.
func TestJ2RegistersOfWhichNothingIsKnown(t *testing.T) {
	sets := []api.Ins{setInt(2, 5), setLong(2, 6), setLong(1, 7), setNull(2), setNew(2, lower), setInt(9, 9)}
	for _, one := range sets {
		for _, two := range sets {
			f := file(taking(types(intType), jumpIf(3, api.CondZero, 0), one, jump(4), two, emitInt(0), setInt(2, 8), emitInt(2), setLong(1, 4), emitLong(1), comeBack))
			checkArg(t, f, 0, 0, 8, 4)
			checkArg(t, f, 1, 1, 8, 4)
		}
	}
	// Of parameters, too; and where nothing was ever written.
	f := file(taking(types(intType, longType, ref(0)), jumpIf(2, api.CondZero, 0), setInt(1, 4), setNull(2), emitInt(0), comeBack))
	made(t, f)
	checkOut(t, numbers(3), sized(method(setInt(30, 3), emitInt(30), comeBack), 60))
}

// References of two classes, and nothing, come together in a register: what both are below is known of them.
func TestJ2ClassesThatComeTogether(t *testing.T) {
	for _, one := range []api.Ins{setNew(1, lower), setNew(1, lowest), setNew(1, upper), setNull(1)} {
		for _, two := range []api.Ins{setNew(1, beside), setNew(1, upper), setNew(1, lowest), setNull(1)} {
			for _, arg := range []int64{0, 1} {
				f := file(handled(taking(types(intType),
					jumpIf(3, api.CondZero, 0), one, jump(4), two,
					is(2, 1, lower), emitInt(2), get(2, 1, upper, 0), emitInt(2), setInt(2, 6), emitInt(2), comeBack,
					setInt(2, 77), emitInt(2), comeBack), over(6, 7, 11, api.ClassNull)))
				s := follow(t, f, asked{args: numbers(arg)})
				if last := s.Out[len(s.Out)-1]; s.End != api.EndDone || last != 6 && last != 77 {
					t.Errorf("got %+v", s)
				}
			}
		}
	}
}

// What an instruction reads is read ahead of what it writes, also where it throws: then nothing is written.
func TestJ2NothingIsWrittenWhereItThrows(t *testing.T) {
	for _, l := range [][]api.Ins{
		{intOp(api.OpDiv, 0, 0, 1)}, {intOp(api.OpRem, 1, 0, 1)}, {longOp(api.OpDiv, 2, 2, 4)}, {longOp(api.OpRem, 3, 2, 4)},
		{get(0, 6, upper, 0)}, {get(2, 6, upper, 1)}, {get(6, 6, upper, 2)}, {cast(7, upper)}, {call(1), result(0, api.KInt)}, {call(1), result(7, api.KInt)},
	} {
		begin := code(setInt(0, 5), setInt(1, 0), setLong(2, 6), setLong(4, 0), setNull(6), setNew(7, other))
		at := len(begin) + len(l) + 1
		m := handled(method(join(begin, l, code(comeBack, emitInt(0), emitInt(1), emitLong(2), emitLong(4), is(6, 6, 0), emitInt(6), is(7, 7, other), emitInt(7), comeBack))...),
			over(len(begin), len(begin)+1, at, 0))
		checkOut(t, numbers(5, 0, 6, 0, 0, 1), m, giving(intType, setNull(0), throwIt(0)))
	}
}
