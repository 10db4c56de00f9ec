package toreg_test

import (
	"testing"

	"crosswalk/api"
	"crosswalk/rrun"
)

// Two ways come together with values on the stack, some of which each way has put by itself.
func TestI2WaysThatComeTogether(t *testing.T) {
	f := file(taking(types(intType),
		putLong(1<<40), putInt(7), load(0, api.KInt), jumpIf(7, api.CondZero),
		putInt(8), putLong(9), jump(9),
		putInt(10), putLong(11),
		emitLong, emitInt, emitInt, emitLong, comeBack))
	for _, x := range []struct {
		arg  int64
		want []int64
	}{{0, numbers(11, 10, 7, 1<<40)}, {1, numbers(9, 8, 7, 1<<40)}} {
		if s := follow(t, f, asked{args: numbers(x.arg)}); !shownAlike(s, api.Shown{End: api.EndDone, Out: x.want}) {
			t.Errorf("%d: %+v", x.arg, s)
		}
	}
}

// References of two classes, and nothing, come together on the stack: what both are below is known of them.
func TestI2ClassesThatComeTogether(t *testing.T) {
	for _, one := range []api.Ins{putNew(lower), putNew(lowest), putNew(upper), putNull} {
		for _, two := range []api.Ins{putNew(beside), putNew(upper), putNew(lowest), putNull} {
			for _, arg := range []int64{0, 1} {
				f := file(handled(taking(types(intType),
					putInt(6), load(0, api.KInt), jumpIf(5, api.CondZero), one, jump(6), two,
					dup, isOf(lower), emitInt, ins(api.SGet, upper, 0), emitInt, emitInt, comeBack,
					pop, putInt(77), emitInt, comeBack), over(9, 10, 13, api.ClassNull)))
				s := follow(t, f, asked{args: numbers(arg)})
				if s.End != api.EndDone || s.Out[len(s.Out)-1] != 6 && s.Out[len(s.Out)-1] != 77 {
					t.Errorf("got %+v", s)
				}
			}
		}
	}
}

// The stack has values on it where it is jumped backward: what is summed up stands there alone.
func TestI2JumpsBackward(t *testing.T) {
	f := file(giving(longType,
		putInt(3), putLong(0),
		load(0, api.KInt), widen, addLong,
		load(0, api.KInt), putInt(1), sub, store(0, api.KInt),
		load(0, api.KInt), jumpIf(2, api.CondAbove),
		comeBack))
	f.Methods[0].Params = types(intType)
	for _, n := range []int64{1, 2, 10} {
		if s := follow(t, f, asked{args: numbers(n)}); s.End != api.EndDone || s.Value != n*(n+1)/2 {
			t.Errorf("%d: %+v", n, s)
		}
	}
	// What comes round is another object than what came first, of a class beside it.
	checkOut(t, numbers(1, 0, 0, 0), method(
		putInt(4), store(0, api.KInt), putNew(lower),
		dup, isOf(lower), emitInt, pop, putNew(beside),
		load(0, api.KInt), putInt(1), sub, dup, store(0, api.KInt), jumpIf(3, api.CondAbove), comeBack))
}

// In each round a local is of a class less known, or of another kind altogether.
func TestI2LessKnownInEachRound(t *testing.T) {
	checkOut(t, numbers(1, 1, 0, 0), method(
		putInt(4), store(0, api.KInt), putNew(lowest), store(1, api.KRef), putNew(lowest), store(2, api.KRef),
		load(2, api.KRef), isOf(lower), emitInt,
		load(1, api.KRef), store(2, api.KRef), putNew(other), store(1, api.KRef),
		putLong(3), store(4, api.KLong), putNull, store(5, api.KRef),
		load(0, api.KInt), putInt(1), sub, dup, store(0, api.KInt), jumpIf(6, api.CondAbove), comeBack))
}

// Nobody reads what is not there: instructions that nothing leads to may say what they like.
func TestI2WhatCannotBeComeTo(t *testing.T) {
	wrong := [][]api.Ins{
		{pop}, {dup}, {throwIt}, {add}, {emitLong}, {putInt(1), emitLong}, {load(1, api.KLong)}, {store(1, api.KInt)}, {call(1)}, {ins(api.SGet, upper, 2)},
		{ins(api.SPut, upper, 2)}, {comeBack, pop}, {jump(0)}, {putInt(1), jump(0)}, {putLong(1), jumpIf(0, api.CondZero)}, {jumpIfNull(1)}, times(40, putLong(1)), times(40, dup),
	}
	callee := taking(types(longType, ref(0)), comeBack)
	for _, l := range wrong {
		size := len(l)
		// Behind all, and in the midst.
		checkOut(t, numbers(3), method(join(code(putInt(3), emitInt, comeBack), l)...), callee)
		checkOut(t, numbers(3), method(join(code(putInt(3), jump(size+2)), l, code(emitInt, comeBack))...), callee)
		checkEnd(t, api.EndThrown, method(join(code(putNull, throwIt), l)...), callee)
		checkEnd(t, api.EndFuel, method(join(code(jump(0)), l)...), callee)
		// Under a handler that stands over nothing else, and goes on at what can't be come to, or can.
		for _, at := range []int{0, 1, size} {
			for _, locals := range []int{3, 8, api.MaxLocals} {
				m := sized(method(join(code(comeBack), l)...), 0, locals)
				checkEnd(t, api.EndDone, handled(m, over(1, size+1, at, 0)), callee)
			}
		}
		// Under one that stands over what can be come to, too.
		m := handled(method(join(code(putInt(3), jump(size+2)), l, code(putInt(0), div, pop, comeBack, isOf(2), emitInt, comeBack))...), over(1, size+4, size+6, 0))
		checkOut(t, numbers(1), m, callee)
	}
}

// A method is made over, though nobody calls it.
func TestI2MethodsThatNobodyCalls(t *testing.T) {
	checkOut(t, numbers(1), method(putInt(1), emitInt, comeBack), bothWays(), handled(method(putNull, throwIt), over(0, 2, 1, 0)))
}

func bothWays() api.Method {
	return taking(types(ref(lower)), load(0, api.KRef), jumpIfNull(0), load(0, api.KRef), ins(api.SGet, lower, 1), jumpIfNull(0), comeBack)
}

// Every entry is one that a run may begin with.
func TestI2EachEntry(t *testing.T) {
	f := file(
		method(putInt(10), emitInt, comeBack),
		giving(intType, putInt(11), comeBack),
		giving(longType, putLong(12), comeBack),
		method(putNew(upper), throwIt))
	r := made(t, f)
	for entry, want := range []api.Shown{{End: api.EndDone, Out: numbers(10)}, {End: api.EndDone, Value: 11}, {End: api.EndDone, Value: 12}, {End: api.EndThrown, Class: upper}} {
		s, _ := checkRun(t, f, r, asked{entry: entry, fuel: 20})
		if !shownAlike(s, want) {
			t.Errorf("%d: %+v", entry, s)
		}
	}
}

// A run of n steps ends with the fuel 8 n + 8, up to the greatest n; one step more, and only what came out is told.
func TestI2TheMostFuel(t *testing.T) {
	// Six steps a round, and two more ahead of all for each one of more.
	loop := func(rounds int64, more int) api.File {
		l := join(times(more, putInt(1), pop), code(putInt(rounds)))
		at := len(l)
		return file(giving(intType, join(l, code(dup, emitInt, putInt(1), sub, dup, jumpIf(at, api.CondAbove), putInt(5), comeBack))...))
	}
	ended := map[int]int{}
	for more := range 4 {
		for rounds := int64(mostSteps/6 - 3); rounds <= mostSteps/6+1; rounds++ {
			f := loop(rounds, more)
			s := follow(t, f, asked{})
			ended[s.End]++
			if s.Steps == mostSteps && s.End == api.EndDone {
				ended[-1]++
			}
		}
	}
	if ended[api.EndFuel] == 0 || ended[api.EndDone] == 0 || ended[-1] == 0 {
		t.Errorf("none ended at the last step: %v", ended)
	}
	if mostSteps != 7499 || 8*mostSteps+8 != api.MaxFuel {
		t.Errorf("%d steps at most", mostSteps)
	}
}

// Each step of these is one that takes the most on registers: thrown and caught, called and come back from.
func TestI2TheMostStepsForOne(t *testing.T) {
	checkEnd(t, api.EndFuel, handled(method(putNew(0), throwIt), over(1, 2, 1, 0)))
	checkEnd(t, api.EndDone, method(putInt(900), call(1), dup, jumpIf(1, api.CondAbove), comeBack),
		sized(counting(), 2, 1))
	// As many objects as there can be, but one, are thrown, each one caught at once by the same handler.
	m := handled(method(
		putInt(99), store(0, api.KInt),
		load(0, api.KInt), jumpIf(6, api.CondZero), putNull, throwIt, comeBack,
		pop, load(0, api.KInt), dup, emitInt, putInt(1), sub, store(0, api.KInt), jump(2)), over(5, 6, 7, api.ClassNull))
	s := checkEnd(t, api.EndDone, m)
	if len(s.Out) != 99 {
		t.Errorf("got %+v", s)
	}
	// With the fuel of exactly its own steps it ends as with all fuel.
	r := made(t, file(m))
	if got, _ := rrun.Run(r, 0, nil, nil, 8*s.Steps+8); got.End != api.EndDone {
		t.Errorf("got %+v", got)
	}
}

// counting gives one less than it takes.
func counting() api.Method {
	m := giving(intType, load(0, api.KInt), putInt(1), sub, comeBack)
	m.Params = types(intType)
	return m
}
