package tostack_test

import (
	"math"
	"testing"

	"crosswalk/api"
	"crosswalk/num"
)

// Two values that an order must not swap, and those at the ends of what may be.
var pairs = [][2]int64{{7, 2}, {2, 7}, {-7, 2}, {0, 5}, {5, 0}, {math.MinInt32, -1}, {math.MaxInt32, math.MaxInt32}, {-1, 1}}

// threes are registers for an operation: all others, the same ones read twice, and read and written by one instruction.
var threes = [][3]int{{4, 0, 2}, {0, 0, 2}, {2, 0, 2}, {4, 0, 0}, {0, 0, 0}, {8, 2, 0}}

func checkReckoned(t *testing.T, s api.Shown, want int64, ok bool) {
	t.Helper()
	if ok && (s.End != api.EndDone || s.Value != want) || !ok && (s.End != api.EndThrown || s.Class != api.ClassDivide) {
		t.Errorf("got %+v, want %d %v", s, want, ok)
	}
}

func TestJ2IntOperations(t *testing.T) {
	for op := api.OpAdd; op <= api.OpXor; op++ {
		for _, p := range pairs {
			for _, r := range threes {
				s := followAll(t, giving(intType, setInt(0, p[0]), setInt(2, p[1]), intOp(op, r[0], r[1], r[2]), giveBack(r[0])))
				want, ok := num.Int(op, p[r[1]/2], p[r[2]/2])
				checkReckoned(t, s, want, ok)
			}
		}
	}
}

func TestJ2LongOperations(t *testing.T) {
	for op := api.OpAdd; op <= api.OpXor; op++ {
		for _, p := range append(pairs, [2]int64{math.MinInt64, -1}, [2]int64{1 << 40, 3}, [2]int64{math.MinInt64, 0}) {
			// A long is written over half of each that is read, too.
			for _, r := range append(threes, [3]int{1, 0, 2}, [3]int{3, 0, 2}, [3]int{1, 2, 0}) {
				s := followAll(t, giving(longType, setLong(0, p[0]), setLong(2, p[1]), longOp(op, r[0], r[1], r[2]), giveBack(r[0])))
				want, ok := num.Long(op, p[r[1]/2], p[r[2]/2])
				checkReckoned(t, s, want, ok)
			}
		}
	}
}

func TestJ2NumbersTurned(t *testing.T) {
	for _, p := range append(pairs, [2]int64{1 << 40, -1 << 40}, [2]int64{math.MinInt64, math.MaxInt64}) {
		for a := range 8 {
			checkOut(t, numbers(num.Narrow(p[0])), method(setLong(2, p[0]), narrow(a, 2), emitInt(a), comeBack))
			checkOut(t, numbers(num.Narrow(p[0])), method(setInt(2, num.Narrow(p[0])), widen(a, 2), emitLong(a), comeBack))
			checkOut(t, numbers(num.Cmp(p[0], p[1])), method(setLong(2, p[0]), setLong(4, p[1]), compare(a, 2, 4), emitInt(a), comeBack))
			checkOut(t, numbers(0), method(setLong(2, p[0]), compare(a, 2, 2), emitInt(a), comeBack))
		}
	}
}

func TestJ2Conditions(t *testing.T) {
	for cond := api.CondZero; cond <= api.CondAbove; cond++ {
		for _, n := range []int64{0, 1, -1, math.MinInt32, math.MaxInt32} {
			want := int64(8)
			if num.Holds(cond, n) {
				want = 9
			}
			f := file(taking(types(intType), setInt(1, 8), jumpIf(4, cond, 0), emitInt(1), comeBack, setInt(1, 9), emitInt(1), comeBack))
			checkArg(t, f, n, want)
		}
	}
	for _, x := range []struct {
		set  api.Ins
		want int64
	}{{setNull(0), 9}, {setNew(0, 0), 8}, {setNew(0, lower), 8}} {
		checkOut(t, numbers(x.want), method(x.set, jumpIfNull(5, 0), setInt(1, 8), emitInt(1), comeBack, setInt(1, 9), emitInt(1), comeBack))
	}
	checkOut(t, numbers(3), method(jump(2), comeBack, setInt(0, 3), emitInt(0), jump(1)))
}

func TestJ2WhatComesIn(t *testing.T) {
	f := file(giving(longType, comeIn(0), comeIn(2), emitLong(2), emitLong(0), comeIn(1), giveBack(1)))
	for _, x := range []struct {
		input []int64
		want  api.Shown
	}{
		{numbers(1, 2, 3), api.Shown{End: api.EndDone, Value: 3, Out: numbers(2, 1), Used: 3}},
		{numbers(1<<40, -1, math.MinInt64, 9), api.Shown{End: api.EndDone, Value: math.MinInt64, Out: numbers(-1, 1<<40), Used: 3}},
		{numbers(1, 2), api.Shown{End: api.EndInput, Out: numbers(2, 1), Used: 2}},
		{numbers(1), api.Shown{End: api.EndInput, Used: 1}},
		{nil, api.Shown{End: api.EndInput}},
	} {
		if s := follow(t, f, asked{input: x.input}); !shownAlike(s, x.want) {
			t.Errorf("%v: %+v", x.input, s)
		}
	}
}

func TestJ2FieldsOfEachKind(t *testing.T) {
	// At first there is 0, or nothing.
	checkOut(t, numbers(0, 0, 1), method(
		setNew(0, lowest), get(1, 0, upper, 0), emitInt(1), get(1, 0, lower, 0), emitLong(1),
		get(1, 0, upper, 2), jumpIfNull(8, 1), comeBack, setInt(0, 1), emitInt(0), comeBack))
	// Two classes number their fields each from 0 on, and two objects have fields of their own.
	checkOut(t, numbers(4, 1<<40, 5, 0, 1), method(
		setNew(0, lowest), setNew(1, lower), setInt(2, 4), put(2, 0, upper, 0), setLong(2, 1<<40), put(2, 0, lower, 0),
		setInt(2, 5), put(2, 1, upper, 0), put(1, 0, upper, 2),
		get(4, 0, upper, 0), emitInt(4), get(4, 0, lower, 0), emitLong(4),
		get(4, 0, upper, 2), get(4, 4, upper, 0), emitInt(4), get(4, 1, upper, 1), emitLong(4),
		get(4, 0, upper, 2), is(4, 4, lower), emitInt(4), comeBack))
	// What is read stands in the register that is written, or in its second half; an object is its own field.
	checkOut(t, numbers(1<<40, 1<<40, 1<<40), method(
		setNew(1, upper), setNew(3, upper), setNew(6, upper), setLong(8, 1<<40), put(8, 1, upper, 1), put(8, 3, upper, 1), put(8, 6, upper, 1),
		get(1, 1, upper, 1), emitLong(1), get(2, 3, upper, 1), emitLong(2), get(6, 6, upper, 1), emitLong(6), comeBack))
	checkOut(t, numbers(1), method(setNew(0, lower), put(0, 0, upper, 2), get(0, 0, upper, 2), is(0, 0, lower), emitInt(0), comeBack))
	checkEnd(t, api.EndDone, method(setNew(0, upper), setNull(1), put(1, 0, upper, 2), comeBack))
}

func TestJ2FieldsOfNothing(t *testing.T) {
	for _, l := range [][]api.Ins{
		{get(1, 0, upper, 0)}, {get(1, 0, upper, 1)}, {get(1, 0, upper, 2)}, {get(0, 0, upper, 2)},
		{setInt(1, 1), put(1, 0, upper, 0)}, {setLong(1, 1), put(1, 0, upper, 1)}, {put(0, 0, upper, 2)},
	} {
		s := checkEnd(t, api.EndThrown, method(join(code(setNull(0)), l, code(comeBack))...))
		if s.Class != api.ClassNull {
			t.Errorf("got %+v", s)
		}
	}
}

func TestJ2CastsAndClasses(t *testing.T) {
	for of := range classes() {
		for to := range classes() {
			s := followAll(t, method(setInt(3, 3), setNew(0, of), is(1, 0, to), emitInt(1), cast(0, to), is(0, 0, to), emitInt(0), emitInt(3), comeBack))
			if s.End == api.EndThrown && (s.Class != api.ClassCast || s.Out[0] != 0) || s.End == api.EndDone && (s.Out[0] != 1 || s.Out[1] != 1 || s.Out[2] != 3) {
				t.Errorf("%d to %d: %+v", of, to, s)
			}
		}
	}
	checkOut(t, numbers(0), method(setNull(0), cast(0, lowest), is(1, 0, 0), emitInt(1), comeBack))
	// Behind a cast the object is known to be of the class, and its fields can be asked for.
	same := giving(ref(0), giveBack(0))
	same.Params = types(ref(0))
	checkOut(t, numbers(0), method(setNew(0, lowest), call(1, 0), result(0, api.KRef), cast(0, lower), get(0, 0, lower, 0), emitLong(0), comeBack), same)
	// It is known of this register alone.
	checkOut(t, numbers(0, 1), method(setNew(0, lowest), call(1, 0), result(0, api.KRef), move(1, 0, api.KRef), cast(1, lower), get(2, 1, lower, 2), emitInt(2), is(2, 0, lowest), emitInt(2), comeBack), same)
}

func TestJ2Moves(t *testing.T) {
	checkOut(t, numbers(2, 2), method(setInt(0, 2), move(5, 0, api.KInt), emitInt(5), emitInt(0), comeBack))
	checkOut(t, numbers(2), method(setInt(0, 2), move(0, 0, api.KInt), emitInt(0), comeBack))
	for _, at := range []int{0, 1, 2, 3, 4, 5} {
		checkOut(t, numbers(1<<40), method(setLong(2, 1<<40), move(at, 2, api.KLong), emitLong(at), comeBack))
	}
	checkOut(t, numbers(1, 1), method(setNew(0, lower), move(1, 0, api.KRef), is(2, 1, lower), emitInt(2), is(2, 0, lower), emitInt(2), comeBack))
	checkOut(t, numbers(0), method(setNull(0), move(1, 0, api.KRef), is(2, 1, 0), emitInt(2), comeBack))
	// One object, named twice.
	checkOut(t, numbers(8), method(setNew(0, upper), move(1, 0, api.KRef), setInt(2, 8), put(2, 1, upper, 0), get(0, 0, upper, 0), emitInt(0), comeBack))
}

func TestJ2TooManyObjects(t *testing.T) {
	checkEnd(t, api.EndFull, method(setNew(0, 0), jump(0)))
	// The one that is thrown is an object, too.
	for _, l := range [][]api.Ins{{setInt(0, 0), intOp(api.OpDiv, 0, 0, 0)}, {setNull(0), throwIt(0)}, {setNew(0, 0)}} {
		for _, objects := range []int64{api.MaxObjects - 1, api.MaxObjects} {
			begin := code(setInt(0, objects), setInt(1, 1), setNew(2, 0), intOp(api.OpSub, 0, 0, 1), jumpIf(2, api.CondAbove, 0))
			s := followAll(t, method(join(begin, l, code(comeBack))...))
			if (s.End == api.EndFull) != (objects == api.MaxObjects) {
				t.Errorf("%d: %+v", objects, s)
			}
		}
	}
}

func TestJ2WhatAMethodGives(t *testing.T) {
	for _, x := range []struct {
		t    api.Type
		set  api.Ins
		want int64
	}{
		{intType, setInt(5, -3), -3}, {longType, setLong(5, 1<<50), 1 << 50}, {ref(upper), setNew(5, lower), 0}, {ref(upper), setNull(5), 0},
	} {
		if s := checkEnd(t, api.EndDone, giving(x.t, setInt(4, 9), setLong(7, 6), x.set, giveBack(5))); s.Value != x.want {
			t.Errorf("%+v: %+v", x, s)
		}
	}
	checkEnd(t, api.EndDone, method(setInt(0, 5), comeBack))
	checkEnd(t, api.EndDone, method(setLong(0, 5), comeBack))
}

func TestJ2WhatIsThrown(t *testing.T) {
	for class := range classes() {
		if s := checkEnd(t, api.EndThrown, method(setLong(0, 1), setNew(2, class), throwIt(2))); s.Class != class {
			t.Errorf("%d: %+v", class, s)
		}
	}
	if s := checkEnd(t, api.EndThrown, method(setNull(0), throwIt(0))); s.Class != api.ClassNull {
		t.Errorf("got %+v", s)
	}
}
