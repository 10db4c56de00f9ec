package toreg_test

import (
	"math"
	"testing"

	"crosswalk/api"
	"crosswalk/num"
)

// Two values that an order must not swap, and those at the ends of what may be.
var pairs = [][2]int64{{7, 2}, {2, 7}, {-7, 2}, {0, 5}, {5, 0}, {math.MinInt32, -1}, {math.MaxInt32, math.MaxInt32}, {-1, 1}}

func TestI2IntOperations(t *testing.T) {
	for op := api.OpAdd; op <= api.OpXor; op++ {
		for _, p := range pairs {
			m := giving(intType, putInt(p[0]), putInt(p[1]), ins(api.SIntOp, op), comeBack)
			s := followAll(t, m)
			want, ok := num.Int(op, p[0], p[1])
			if ok && (s.End != api.EndDone || s.Value != want) || !ok && (s.End != api.EndThrown || s.Class != api.ClassDivide) {
				t.Errorf("%d of %v: %+v", op, p, s)
			}
		}
	}
}

func TestI2LongOperations(t *testing.T) {
	for op := api.OpAdd; op <= api.OpXor; op++ {
		for _, p := range append(pairs, [2]int64{math.MinInt64, -1}, [2]int64{1 << 40, 3}, [2]int64{math.MinInt64, 0}) {
			// The one under them must stay.
			m := giving(longType, putLong(1), putLong(p[0]), putLong(p[1]), ins(api.SLongOp, op), addLong, comeBack)
			s := followAll(t, m)
			want, ok := num.Long(op, p[0], p[1])
			if ok && (s.End != api.EndDone || s.Value != want+1) || !ok && (s.End != api.EndThrown || s.Class != api.ClassDivide) {
				t.Errorf("%d of %v: %+v", op, p, s)
			}
		}
	}
}

func TestI2NumbersTurned(t *testing.T) {
	for _, p := range append(pairs, [2]int64{1 << 40, -1 << 40}, [2]int64{math.MinInt64, math.MaxInt64}) {
		checkOut(t, numbers(num.Narrow(p[0]), num.Narrow(p[0]), num.Cmp(p[0], p[1]), 4), method(
			putInt(4),
			putLong(p[0]), narrow, dup, emitInt, widen, emitLong,
			putLong(p[0]), putLong(p[1]), compare, emitInt, emitInt, comeBack))
	}
}

func TestI2Conditions(t *testing.T) {
	for cond := api.CondZero; cond <= api.CondAbove; cond++ {
		for _, n := range []int64{0, 1, -1, math.MinInt32, math.MaxInt32} {
			want := numbers(8)
			if num.Holds(cond, n) {
				want = numbers(9)
			}
			checkOut(t, want, method(putInt(n), jumpIf(5, cond), putInt(8), emitInt, comeBack, putInt(9), emitInt, comeBack))
		}
	}
	for _, x := range []struct {
		put  api.Ins
		want int64
	}{{putNull, 9}, {putNew(0), 8}, {putNew(lower), 8}} {
		checkOut(t, numbers(x.want), method(x.put, jumpIfNull(5), putInt(8), emitInt, comeBack, putInt(9), emitInt, comeBack))
	}
	checkOut(t, numbers(3), method(jump(2), comeBack, putInt(3), emitInt, jump(1)))
}

func TestI2WhatComesIn(t *testing.T) {
	f := file(giving(longType, comeIn, comeIn, emitLong, emitLong, comeIn, comeBack))
	for _, x := range []struct {
		input []int64
		want  api.Shown
	}{
		{numbers(1, 2, 3), api.Shown{End: api.EndDone, Value: 3, Out: numbers(2, 1), Used: 3}},
		{numbers(1<<40, -1, math.MinInt64, 9), api.Shown{End: api.EndDone, Value: math.MinInt64, Out: numbers(-1, 1<<40), Used: 3}},
		{numbers(1, 2), api.Shown{End: api.EndInput, Out: numbers(2, 1), Used: 2}},
		{numbers(1), api.Shown{End: api.EndInput, Used: 1}},
		{nil, api.Shown{End: api.EndInput}},
	} {
		if s := follow(t, f, asked{input: x.input}); !shownAlike(s, x.want) {
			t.Errorf("%v: %+v", x.input, s)
		}
	}
}

func TestI2FieldsOfEachKind(t *testing.T) {
	get := func(class, field int) api.Ins { return ins(api.SGet, class, field) }
	put := func(class, field int) api.Ins { return ins(api.SPut, class, field) }
	// At first there is 0, or nothing.
	checkOut(t, numbers(0, 0, 1), method(
		putNew(lowest), store(0, api.KRef),
		load(0, api.KRef), get(upper, 0), emitInt,
		load(0, api.KRef), get(lower, 0), emitLong,
		load(0, api.KRef), get(upper, 2), jumpIfNull(12), comeBack,
		putInt(1), emitInt, comeBack))
	// Two classes number their fields each from 0 on, and two objects have fields of their own.
	checkOut(t, numbers(4, 1<<40, 5, 0, 1, 6), method(
		putInt(6),
		putNew(lowest), store(0, api.KRef), putNew(lower), store(1, api.KRef),
		load(0, api.KRef), putInt(4), put(upper, 0),
		load(0, api.KRef), putLong(1<<40), put(lower, 0),
		load(1, api.KRef), putInt(5), put(upper, 0),
		load(0, api.KRef), load(1, api.KRef), put(upper, 2),
		load(0, api.KRef), get(upper, 0), emitInt,
		load(0, api.KRef), get(lower, 0), emitLong,
		load(0, api.KRef), get(upper, 2), get(upper, 0), emitInt,
		load(1, api.KRef), get(upper, 1), emitLong,
		load(0, api.KRef), get(upper, 2), isOf(lower), emitInt,
		emitInt, comeBack))
	for _, l := range [][]api.Ins{
		{putNull, get(upper, 0), pop}, {putNull, get(upper, 1), pop}, {putNull, get(upper, 2), pop},
		{putNull, putInt(1), put(upper, 0)}, {putNull, putLong(1), put(upper, 1)}, {putNull, putNull, put(upper, 2)},
	} {
		if s := checkEnd(t, api.EndThrown, method(join(l, code(comeBack))...)); s.Class != api.ClassNull {
			t.Errorf("got %+v", s)
		}
	}
	checkEnd(t, api.EndDone, method(putNew(upper), putNull, put(upper, 2), comeBack))
}

func TestI2CastsAndClasses(t *testing.T) {
	for of := range classes() {
		for to := range classes() {
			s := followAll(t, method(putInt(3), putNew(of), dup, isOf(to), emitInt, ins(api.SCast, to), isOf(to), emitInt, emitInt, comeBack))
			if s.End == api.EndThrown && (s.Class != api.ClassCast || s.Out[0] != 0) || s.End == api.EndDone && (s.Out[0] != 1 || s.Out[1] != 1 || s.Out[2] != 3) {
				t.Errorf("%d to %d: %+v", of, to, s)
			}
		}
	}
	checkOut(t, numbers(0), method(putNull, ins(api.SCast, lowest), isOf(0), emitInt, comeBack))
	// Behind a cast the object is known to be of the class, and its fields can be asked for.
	checkOut(t, numbers(0), method(putNew(lowest), store(0, api.KRef), putNew(other), pop, load(0, api.KRef), call(1), ins(api.SCast, lower), ins(api.SGet, lower, 0), emitLong, comeBack),
		api.Method{Params: types(ref(0)), Ret: ref(0), Stack: 1, Locals: 1, Code: code(load(0, api.KRef), comeBack)})
}

func TestI2TooManyObjects(t *testing.T) {
	checkEnd(t, api.EndFull, method(putNew(0), pop, jump(0)))
	// The one that is thrown is an object, too.
	for _, l := range [][]api.Ins{{putInt(1), putInt(0), div, pop}, {putNull, throwIt}, {putNew(0)}} {
		for _, made := range []int{api.MaxObjects - 1, api.MaxObjects} {
			s := followAll(t, method(join(times(made, putNew(0), pop), l, code(comeBack))...))
			if (s.End == api.EndFull) != (made == api.MaxObjects) {
				t.Errorf("%d: %+v", made, s)
			}
		}
	}
}

func TestI2WhatAMethodGives(t *testing.T) {
	for _, x := range []struct {
		t    api.Type
		put  api.Ins
		want int64
	}{
		{intType, putInt(-3), -3}, {longType, putLong(1 << 50), 1 << 50}, {ref(upper), putNew(lower), 0}, {ref(upper), putNull, 0},
	} {
		// What lies under it on the stack is not looked at.
		if s := checkEnd(t, api.EndDone, giving(x.t, putInt(5), putLong(6), x.put, comeBack)); s.Value != x.want {
			t.Errorf("%+v: %+v", x, s)
		}
	}
	checkEnd(t, api.EndDone, method(putInt(5), putLong(6), comeBack))
}

func TestI2WhatIsThrown(t *testing.T) {
	for class := range classes() {
		if s := checkEnd(t, api.EndThrown, method(putLong(1), putNew(class), throwIt)); s.Class != class {
			t.Errorf("%d: %+v", class, s)
		}
	}
	if s := checkEnd(t, api.EndThrown, method(putNull, throwIt)); s.Class != api.ClassNull {
		t.Errorf("got %+v", s)
	}
}
