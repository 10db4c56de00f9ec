package tostack_test

import (
	"testing"

	"crosswalk/api"
	"crosswalk/srun"
)

func TestJ2JumpsBackward(t *testing.T) {
	f := file(giving(longType,
		setLong(1, 0), setInt(3, 1),
		widen(4, 0), longOp(api.OpAdd, 1, 1, 4), intOp(api.OpSub, 0, 0, 3), jumpIf(2, api.CondAbove, 0),
		giveBack(1)))
	f.Methods[0].Params = types(intType)
	for _, n := range []int64{1, 2, 10} {
		if s := follow(t, f, asked{args: numbers(n)}); s.End != api.EndDone || s.Value != n*(n+1)/2 {
			t.Errorf("%d: %+v", n, s)
		}
	}
	// To the first instruction, by each jump.
	for _, x := range []struct {
		back api.Ins
		want []int64
	}{{jump(0), numbers(2, 1, 0)}, {jumpIf(0, api.CondAbove, 0), numbers(2, 1)}, {jumpIfNull(0, 2), numbers(2, 1, 0)}} {
		f := file(taking(types(intType), setInt(1, 1), setNull(2), emitInt(0), intOp(api.OpSub, 0, 0, 1), jumpIf(6, api.CondLess, 0), x.back, comeBack))
		checkArg(t, f, 2, x.want...)
	}
	// What comes round is another object than what came first, of a class beside it.
	checkOut(t, numbers(1, 0, 0, 0), method(
		setInt(0, 4), setInt(1, 1), setNew(2, lower),
		is(3, 2, lower), emitInt(3), setNew(2, beside), intOp(api.OpSub, 0, 0, 1), jumpIf(3, api.CondAbove, 0), comeBack))
}

func TestJ2JumpsToThemselves(t *testing.T) {
	checkEnd(t, api.EndFuel, method(jump(0)))
	checkEnd(t, api.EndFuel, method(setInt(0, 0), jumpIf(1, api.CondZero, 0), comeBack))
	checkEnd(t, api.EndDone, method(setInt(0, 1), jumpIf(1, api.CondZero, 0), comeBack))
	checkEnd(t, api.EndFuel, method(setNull(0), jumpIfNull(1, 0), comeBack))
	checkEnd(t, api.EndDone, method(setNew(0, 0), jumpIfNull(1, 0), comeBack))
	// And to the next one, which is come to anyway.
	checkOut(t, numbers(0), method(setInt(0, 0), jump(2), jumpIf(3, api.CondZero, 0), setNull(1), jumpIfNull(5, 1), emitInt(0), comeBack))
}

// In each round a register is of a class less known, or of another kind altogether.
func TestJ2LessKnownInEachRound(t *testing.T) {
	checkOut(t, numbers(1, 1, 0, 0), method(
		setInt(0, 4), setInt(7, 1), setNew(1, lowest), setNew(2, lowest),
		is(3, 2, lower), emitInt(3), move(2, 1, api.KRef), setNew(1, other), setLong(4, 3), setNull(5),
		intOp(api.OpSub, 0, 0, 7), jumpIf(4, api.CondAbove, 0), comeBack))
}

// Nobody reads what is not there: instructions that nothing leads to may say what they like.
func TestJ2WhatCannotBeComeTo(t *testing.T) {
	wrong := [][]api.Ins{
		{result(0, api.KInt)}, {result(0, api.KLong)}, {caught(0)}, {caught(0), caught(0)}, {emitLong(0)}, {emitInt(30)}, {throwIt(0)}, {move(0, 9, api.KLong)},
		{intOp(api.OpAdd, 9, 8, 7)}, {get(0, 0, upper, 2)}, {put(0, 0, upper, 2)}, {cast(9, 0)}, {is(9, 8, 0)}, {call(1, 9, 9)}, {call(1, 0, 0), result(0, api.KRef)}, {call(2), result(9, api.KInt)},
		{comeBack, caught(1)}, {jump(0)}, {jump(1)}, {setLong(0, 1), jump(1)}, {jumpIf(0, api.CondZero, 9)}, {jumpIfNull(1, 0)}, times(20, comeIn(7)),
	}
	callees := []api.Method{taking(types(longType, ref(0)), comeBack), good()}
	look := func(want int, m api.Method) {
		t.Helper()
		if s := followAll(t, append([]api.Method{m}, callees...)...); s.End != want || want == api.EndDone && (len(s.Out) != 1 || s.Out[0] != 3) {
			t.Errorf("%+v: %+v", m, s)
		}
	}
	for _, l := range wrong {
		size := len(l)
		// Behind all, and in the midst.
		look(api.EndDone, method(join(code(setInt(0, 3), emitInt(0), comeBack), l)...))
		look(api.EndDone, method(join(code(setInt(0, 3), jump(size+2)), l, code(emitInt(0), comeBack))...))
		look(api.EndThrown, method(join(code(setNull(0), throwIt(0)), l)...))
		look(api.EndFuel, method(join(code(jump(0)), l)...))
		// Under a handler that stands over nothing else, and goes on at what can't be come to, or can.
		for _, at := range []int{0, 1, size, size + 2} {
			look(api.EndDone, handled(method(join(code(setInt(0, 3), emitInt(0), comeBack), l)...), over(3, size+3, at, 0)))
		}
		// Under one that stands over what can be come to, too.
		for _, fetch := range []api.Ins{caught(1), setInt(1, 9)} {
			m := method(join(code(setInt(0, 3), jump(size+2)), l, code(setNull(1), throwIt(1), fetch, emitInt(0), comeBack))...)
			look(api.EndDone, handled(m, over(1, size+4, size+4, 0)))
		}
	}
}

// A method is made over, though nobody calls it, and though nobody can begin with it.
func TestJ2MethodsThatNobodyCalls(t *testing.T) {
	checkOut(t, numbers(1), method(setInt(0, 1), emitInt(0), comeBack),
		taking(types(ref(lower)), jumpIfNull(0, 0), get(1, 0, lower, 1), jumpIfNull(0, 1), comeBack),
		handled(method(setNull(0), throwIt(0)), over(0, 2, 0, 0)))
}

// Every entry is one that a run may begin with.
func TestJ2EachEntry(t *testing.T) {
	f := file(
		method(setInt(0, 10), emitInt(0), comeBack),
		giving(intType, setInt(0, 11), giveBack(0)),
		giving(longType, setLong(0, 12), giveBack(0)),
		method(setNew(0, upper), throwIt(0)))
	r := made(t, f)
	for entry, want := range []api.Shown{{End: api.EndDone, Out: numbers(10)}, {End: api.EndDone, Value: 11}, {End: api.EndDone, Value: 12}, {End: api.EndThrown, Class: upper}} {
		s, _ := checkRun(t, f, r, asked{entry: entry, fuel: 20})
		if !shownAlike(s, want) {
			t.Errorf("%d: %+v", entry, s)
		}
	}
}

// A run of n steps ends with the fuel 8 n + 8, up to the greatest n; one step more, and only what came out is told.
func TestJ2TheMostFuel(t *testing.T) {
	// Three steps a round, and one more ahead of all for each one of more.
	loop := func(rounds int64, more int) api.File {
		l := join(times(more, setInt(2, 1)), code(setInt(0, rounds), setInt(1, 1)))
		at := len(l)
		return file(giving(intType, join(l, code(emitInt(0), intOp(api.OpSub, 0, 0, 1), jumpIf(at, api.CondAbove, 0), giveBack(0)))...))
	}
	ended := map[int]int{}
	for more := range 3 {
		for rounds := int64(mostSteps/3 - 2); rounds <= mostSteps/3+1; rounds++ {
			s := follow(t, loop(rounds, more), asked{})
			ended[s.End]++
			if s.Steps == mostSteps && s.End == api.EndDone {
				ended[-1]++
			}
		}
	}
	if ended[api.EndFuel] == 0 || ended[api.EndDone] == 0 || ended[-1] == 0 {
		t.Errorf("none ended at the last step: %v", ended)
	}
	if mostSteps != 7499 || 8*mostSteps+8 != api.MaxFuel {
		t.Errorf("%d steps at most", mostSteps)
	}
}

// Each step of these is one that takes the most on a stack: called with all that may be, not fetched, thrown and caught.
func TestJ2TheMostStepsForOne(t *testing.T) {
	long4 := types(longType, longType, longType, longType)
	callee := giving(longType, giveBack(0))
	callee.Params = long4
	checkEnd(t, api.EndFuel, method(setLong(0, 1), call(1, 0, 0, 0, 0), jump(1)), callee)
	checkEnd(t, api.EndFuel, method(setLong(0, 1), call(1, 0, 0, 0, 0), result(0, api.KLong), jump(1)), callee)
	again := giving(longType, emitLong(0), call(0, 0, 2, 4, 6), giveBack(0))
	again.Params = long4
	if s := follow(t, file(again), asked{args: numbers(1, 2, 3, 4)}); s.End != api.EndDeep {
		t.Errorf("got %+v", s)
	}
	// As many objects as there can be, but one, are thrown out of calls, each one caught at once by the same handler.
	throwing := giving(longType, throwIt(0))
	throwing.Params = types(ref(0), longType, longType, longType)
	m := handled(method(
		setInt(0, 99), setInt(1, 1), setNull(2), setLong(3, 4),
		call(1, 2, 3, 3, 3), comeBack,
		emitInt(0), intOp(api.OpSub, 0, 0, 1), jumpIf(4, api.CondAbove, 0), comeBack), over(4, 5, 6, api.ClassNull))
	s := checkEnd(t, api.EndDone, m, throwing)
	if len(s.Out) != 99 {
		t.Errorf("got %+v", s)
	}
	// With the fuel of exactly its own steps it ends as with all fuel.
	r := made(t, file(m, throwing))
	if got, _ := srun.Run(r, 0, nil, nil, 8*s.Steps+8); got.End != api.EndDone {
		t.Errorf("got %+v", got)
	}
}
