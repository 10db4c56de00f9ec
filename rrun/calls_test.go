package rrun_test

import (
	"testing"

	"crosswalk/api"
)

// givers give one of each kind; the last one gives nothing.
func givers() []api.Method {
	return []api.Method{
		giving(intType, setInt(3, 11), giveBack(3)),
		giving(longType, setLong(3, 12), giveBack(3)),
		giving(ref(upper), setNew(3, lower), giveBack(3)),
		method(setInt(0, 5), comeBack),
	}
}

// kindGiven is that of the giver at a place.
func kindGiven(at int) int {
	return []int{api.KInt, api.KLong, api.KRef, api.KVoid}[at]
}

func withGivers(l ...api.Ins) []api.Method {
	return append([]api.Method{method(l...)}, givers()...)
}

func TestG2ResultOfEachKind(t *testing.T) {
	checkOut(t, []int64{11}, withGivers(call(1), result(7, api.KInt), emitInt(7), comeBack)...)
	checkOut(t, []int64{12}, withGivers(call(2), result(7, api.KLong), emitLong(7), comeBack)...)
	checkOut(t, []int64{1}, withGivers(call(3), result(7, api.KRef), is(7, 7, lower), emitInt(7), comeBack)...)
	checkOut(t, nil, withGivers(call(4), comeBack)...)
	for k, g := range givers() {
		for kind := api.KInt; kind <= api.KRef; kind++ {
			methods := withGivers(call(k+1), result(7, kind), move(7, 7, kind), comeBack)
			if kind == kindGiven(k) {
				checkOut(t, nil, methods...)
			} else {
				checkStuck(t, 2+len(g.Code), methods...)
			}
		}
	}
}

func TestG2ResultIsReadByNobodyElse(t *testing.T) {
	// What was given stands in no register, and nobody needs to ask for it.
	for k := range givers() {
		checkOut(t, nil, withGivers(call(k+1), comeBack)...)
		for kind := api.KInt; kind <= api.KRef; kind++ {
			checkEnd(t, api.EndStuck, withGivers(call(k+1), move(0, 0, kind), comeBack)...)
		}
	}
}

// between has instructions that can stand between a call and RResult: behind each of them nothing is given.
func between() []api.Ins {
	return code(
		setInt(0, 1), setLong(0, 1), setNull(0), move(0, 10, api.KInt), intOp(api.OpAdd, 0, 10, 10),
		longOp(api.OpAdd, 0, 12, 12), ins(api.RWiden, 0, 10), ins(api.RNarrow, 0, 12), ins(api.RCmp, 0, 12, 12),
		jump(next), jumpIf(next, api.CondZero, 10), jumpIf(next, api.CondAbove, 10), jumpIfNull(next, 14), jumpIfNull(next, 15),
		setNew(0, 0), get(0, 15, other, 0), put(10, 15, other, 0), cast(15, 0), is(0, 14, 0),
		result(0, api.KInt), emitInt(10), comeIn(0), call(4))
}

func TestG2ResultBehindAnotherInstruction(t *testing.T) {
	prepare := code(setInt(10, 1), setLong(12, 2), setNull(14), setNew(15, other))
	for _, i := range between() {
		at := len(prepare) + 1
		for kind := api.KInt; kind <= api.KRef; kind++ {
			l := join(prepare, code(call(1), placed(i, at), result(20, kind), comeBack))
			s := runFile(t, file(withGivers(l...)...), nil, []int64{3}, 99)
			steps := at + 2 + 2
			if i.Op == api.RCall {
				steps += 2
			}
			if s.End != api.EndStuck || s.Steps != steps {
				t.Errorf("%+v, then a result of kind %d: %+v", i, kind, s)
			}
		}
	}
}

func TestG2ResultBehindAJumpToTheCallsNext(t *testing.T) {
	// It is reached twice: first behind the call, then behind the jump.
	checkStuck(t, 6, withGivers(call(1), result(0, api.KInt), jump(1))...)
	// A call that is reached by a jump gives as ever.
	s := runFile(t, file(withGivers(call(1), result(0, api.KInt), emitInt(0), jump(0))...), nil, nil, 14)
	checkShown(t, s, api.Shown{End: api.EndFuel, Out: []int64{11, 11}, Steps: 14})
}

func TestG2ResultAtAMethodsStart(t *testing.T) {
	for kind := api.KInt; kind <= api.KRef; kind++ {
		checkStuck(t, 1, method(result(0, kind), comeBack))
		// The call that led there is another call's instruction.
		checkStuck(t, 2, method(call(1), comeBack), giving(intType, result(0, kind), setInt(0, 1), giveBack(0)))
		// What the one that called was given just ahead is not there.
		checkStuck(t, 5, method(call(1), call(2), comeBack), giving(intType, setInt(0, 1), giveBack(0)), method(result(0, kind), comeBack))
	}
}

func TestG2TwoCallsAndTheirResults(t *testing.T) {
	// Each call finds what was given to itself, the last one first.
	checkOut(t, []int64{11, 12}, withGivers(call(1), result(0, api.KInt), call(2), result(1, api.KLong), emitInt(0), emitLong(1), comeBack)...)
	checkOut(t, []int64{12}, withGivers(call(1), call(2), result(1, api.KLong), emitLong(1), comeBack)...)
	checkStuck(t, 7, withGivers(call(1), call(2), result(1, api.KInt), comeBack)...)
	checkStuck(t, 5, withGivers(call(1), result(0, api.KInt), result(1, api.KInt), comeBack)...)
	// A call that gave nothing lies between.
	checkStuck(t, 7, withGivers(call(1), call(4), result(1, api.KInt), comeBack)...)
}

func TestG2ResultThroughCalls(t *testing.T) {
	inner := giving(longType, call(2), result(0, api.KInt), ins(api.RWiden, 0, 0), giveBack(0))
	checkOut(t, []int64{6}, method(call(1), result(4, api.KLong), emitLong(4), comeBack), inner, giving(intType, setInt(0, 6), giveBack(0)))
	// The inner call was given an int, and does not give it on.
	lost := method(call(2), comeBack)
	checkStuck(t, 6, method(call(1), result(4, api.KInt), comeBack), lost, giving(intType, setInt(0, 6), giveBack(0)))
}

func TestG2ResultOverWhatWasThere(t *testing.T) {
	l := code(setLong(6, 1), call(1), result(7, api.KInt), emitInt(7))
	checkOut(t, []int64{11}, withGivers(join(l, code(comeBack))...)...)
	checkStuck(t, 7, withGivers(join(l, code(emitLong(6), comeBack))...)...)
	checkOut(t, []int64{12}, withGivers(setInt(6, 1), setInt(7, 1), call(2), result(6, api.KLong), emitLong(6), comeBack)...)
	checkStuck(t, 7, withGivers(setInt(6, 1), setInt(7, 1), call(2), result(6, api.KLong), emitInt(7), comeBack)...)
}

func TestG2ReturnOfEachType(t *testing.T) {
	rets := types(intType, longType, ref(0), ref(api.ClassNull), ref(upper), ref(lower), ref(lowest), ref(other))
	for _, h := range allHeld() {
		for _, ret := range rets {
			l := join(h.puts(r1), code(giveBack(r1)))
			fits := h.isOf(ret)
			checkEnd(t, endIf(fits, api.EndDone, api.EndStuck), giving(ret, l...))
			checkEnd(t, endIf(fits, api.EndDone, api.EndStuck), method(call(1), result(r1, ret.Kind), move(r1, r1, ret.Kind), comeBack), giving(ret, l...))
			checkEnd(t, endIf(fits, api.EndDone, api.EndStuck), method(join(h.puts(r1), code(call(1, r1), comeBack))...), taking(types(ret), comeBack))
		}
		// Of none nothing is read, whatever the register 0 has.
		checkEnd(t, api.EndDone, method(join(h.puts(1), code(comeBack))...))
	}
}

func TestG2TheOneThatCalledGoesOnBehindItsCall(t *testing.T) {
	checkOut(t, []int64{1, 2, 3}, method(setInt(0, 1), emitInt(0), call(1), setInt(0, 3), emitInt(0), comeBack), method(setInt(0, 2), emitInt(0), comeBack, emitInt(0)))
}

// countdown calls itself as often as its argument says, and lets out how often.
func countdown() api.Method {
	return taking(types(intType),
		jumpIf(2, api.CondAbove, 0), comeBack,
		emitInt(0), setInt(1, -1), intOp(api.OpAdd, 0, 0, 1), call(0, 0), comeBack)
}

func TestG2Deep(t *testing.T) {
	s := runFile(t, file(countdown()), []int64{api.MaxCalls - 1}, nil, api.MaxFuel)
	if s.End != api.EndDone || len(s.Out) != api.MaxCalls-1 {
		t.Errorf("got %+v", s)
	}
	s = runFile(t, file(countdown()), []int64{api.MaxCalls}, nil, api.MaxFuel)
	if s.End != api.EndDeep || len(s.Out) != api.MaxCalls || s.Steps != 5*api.MaxCalls {
		t.Errorf("got %+v", s)
	}
	checkShown(t, run(t, method(call(0))), api.Shown{End: api.EndDeep, Steps: api.MaxCalls})
}

func TestG2CallsThatAreOverAreNotCounted(t *testing.T) {
	checkEnd(t, api.EndDone, method(join(times(3*api.MaxCalls, call(1)), code(comeBack))...), method(comeBack))
	thrower := method(setNull(0), throwIt(0))
	caller := handled(method(call(1), comeBack, comeIn(0), jump(0)), api.Handler{From: 0, To: 1, At: 2})
	s := runFile(t, file(caller, thrower), nil, make([]int64, 2*api.MaxCalls), api.MaxFuel)
	if s.End != api.EndInput || s.Used != 2*api.MaxCalls {
		t.Errorf("got %+v", s)
	}
}

// A call whose own call has arguments of another kind: stuck, not deep.
func TestG2ArgsAreReadAheadOfDepth(t *testing.T) {
	m := taking(types(intType),
		jumpIf(3, api.CondAbove, 0), setLong(0, 1), call(0, 0),
		setInt(1, -1), intOp(api.OpAdd, 0, 0, 1), call(0, 0), comeBack)
	for depth := range api.MaxCalls + 1 {
		s := runFile(t, file(m), []int64{int64(depth)}, nil, api.MaxFuel)
		if want := endIf(depth == api.MaxCalls, api.EndDeep, api.EndStuck); s.End != want {
			t.Errorf("depth %d: %+v", depth, s)
		}
	}
}
