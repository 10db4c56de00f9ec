package rrun_test

import (
	"math"
	"testing"

	"crosswalk/api"
	"crosswalk/num"
)

func TestG2WhatIsWrittenAsANumber(t *testing.T) {
	for _, n := range []int64{0, 1, -1, math.MaxInt32, math.MinInt32} {
		checkOut(t, []int64{n}, method(setInt(3, n), emitInt(3), comeBack))
		checkOut(t, []int64{n}, method(setInt(3, n), ins(api.RWiden, 7, 3), emitLong(7), comeBack))
		checkOut(t, []int64{n}, method(setInt(3, n), move(89, 3, api.KInt), emitInt(89), comeBack))
	}
	for _, n := range []int64{0, -1, math.MaxInt32 + 1, math.MinInt32 - 1, 1<<32 + 5, math.MaxInt64, math.MinInt64} {
		checkOut(t, []int64{n}, method(setLong(3, n), emitLong(3), comeBack))
		checkOut(t, []int64{num.Narrow(n)}, method(setLong(3, n), ins(api.RNarrow, 7, 3), emitInt(7), comeBack))
		checkOut(t, []int64{n}, method(setLong(3, n), move(88, 3, api.KLong), emitLong(88), comeBack))
		checkOut(t, []int64{n}, method(setNew(0, upper), setLong(3, n), put(3, 0, upper, 1), get(5, 0, upper, 1), emitLong(5), comeBack))
	}
}

func TestG2MoveOfEachKind(t *testing.T) {
	checkOut(t, []int64{4, 4}, method(setInt(0, 4), move(1, 0, api.KInt), emitInt(0), emitInt(1), comeBack))
	checkOut(t, []int64{4, 4}, method(setLong(0, 4), move(2, 0, api.KLong), emitLong(0), emitLong(2), comeBack))
	// Of a reference: both are to the same object.
	checkOut(t, []int64{8}, method(setNew(0, other), move(1, 0, api.KRef), setInt(2, 8), put(2, 0, other, 0), get(3, 1, other, 0), emitInt(3), comeBack))
	checkOut(t, []int64{6}, method(setNull(0), move(1, 0, api.KRef), jumpIfNull(4, 1), comeBack, setInt(2, 6), emitInt(2), comeBack))
}

func TestG2MoveToItself(t *testing.T) {
	checkOut(t, []int64{4}, method(setInt(0, 4), move(0, 0, api.KInt), emitInt(0), comeBack))
	checkOut(t, []int64{4}, method(setLong(0, 4), move(0, 0, api.KLong), emitLong(0), comeBack))
	checkOut(t, []int64{1}, method(setNew(0, other), move(0, 0, api.KRef), is(1, 0, other), emitInt(1), comeBack))
	for kind := api.KInt; kind <= api.KRef; kind++ {
		checkStuck(t, 1, method(move(0, 0, kind), comeBack))
	}
	// Half of it alone is none.
	checkStuck(t, 2, method(setLong(0, 4), move(1, 1, api.KInt), comeBack))
	checkStuck(t, 2, method(setLong(0, 4), move(1, 1, api.KLong), comeBack))
	checkStuck(t, 2, method(setLong(0, 4), move(0, 0, api.KInt), comeBack))
}

func TestG2MoveOverHalfOfItself(t *testing.T) {
	for _, x := range [][2]int{{1, 2}, {3, 2}} {
		l := code(setLong(2, 1<<40), move(x[0], x[1], api.KLong))
		checkOut(t, []int64{1 << 40}, method(join(l, code(emitLong(x[0]), comeBack))...))
		checkStuck(t, 3, method(join(l, code(emitLong(2), comeBack))...))
	}
}

func numbers() []int64 {
	return []int64{0, 1, -1, 7, -3, math.MaxInt32, math.MinInt32, 1 << 32, math.MaxInt64, math.MinInt64}
}

func eachOperation(each func(op int, a, b int64)) {
	for op := api.OpAdd; op <= api.OpXor; op++ {
		for _, a := range numbers() {
			for _, b := range numbers() {
				each(op, a, b)
			}
		}
	}
}

func checkOperation(t *testing.T, m api.Method, want int64, ok bool) {
	t.Helper()
	if ok {
		checkOut(t, []int64{want}, m)
		return
	}
	checkShown(t, run(t, m), api.Shown{End: api.EndThrown, Class: api.ClassDivide, Steps: 3})
}

func TestG2Operations(t *testing.T) {
	eachOperation(func(op int, a, b int64) {
		want, ok := num.Long(op, a, b)
		checkOperation(t, method(setLong(0, a), setLong(2, b), longOp(op, 4, 0, 2), emitLong(4), comeBack), want, ok)
		a, b = num.Narrow(a), num.Narrow(b)
		want, ok = num.Int(op, a, b)
		checkOperation(t, method(setInt(0, a), setInt(1, b), intOp(op, 2, 0, 1), emitInt(2), comeBack), want, ok)
	})
}

func TestG2BIsTheFirstOneAndCTheSecond(t *testing.T) {
	checkOut(t, []int64{5}, method(setInt(0, 8), setInt(1, 3), intOp(api.OpSub, 2, 0, 1), emitInt(2), comeBack))
	checkOut(t, []int64{-5}, method(setInt(0, 8), setInt(1, 3), intOp(api.OpSub, 2, 1, 0), emitInt(2), comeBack))
	checkOut(t, []int64{2}, method(setLong(0, 8), setLong(2, 3), longOp(api.OpDiv, 4, 0, 2), emitLong(4), comeBack))
	checkOut(t, []int64{0}, method(setLong(0, 8), setLong(2, 3), longOp(api.OpDiv, 4, 2, 0), emitLong(4), comeBack))
	for _, x := range []struct{ a, b, want int64 }{{8, 3, 1}, {3, 8, -1}, {4, 4, 0}, {math.MinInt64, math.MaxInt64, -1}, {math.MaxInt64, math.MinInt64, 1}} {
		checkOut(t, []int64{x.want}, method(setLong(0, x.a), setLong(2, x.b), ins(api.RCmp, 4, 0, 2), emitInt(4), comeBack))
	}
}

// All is read ahead of what is written, also where that is the same register, or half of it.
func TestG2WhatIsWrittenOverWhatIsRead(t *testing.T) {
	checkOut(t, []int64{16}, method(setInt(0, 4), intOp(api.OpMul, 0, 0, 0), emitInt(0), comeBack))
	for at := range 5 {
		checkOut(t, []int64{12}, method(setLong(0, 4), setLong(2, 3), longOp(api.OpMul, at, 0, 2), emitLong(at), comeBack))
		checkOut(t, []int64{1}, method(setLong(0, 4), setLong(2, 3), ins(api.RCmp, at, 0, 2), emitInt(at), comeBack))
	}
	for _, at := range []int{0, 1, 2} {
		checkOut(t, []int64{9}, method(setInt(1, 9), ins(api.RWiden, at, 1), emitLong(at), comeBack))
		checkOut(t, []int64{9}, method(setLong(0, 1<<32+9), ins(api.RNarrow, at, 0), emitInt(at), comeBack))
	}
	checkStuck(t, 3, method(setInt(1, 9), ins(api.RWiden, 0, 1), emitInt(1), comeBack))
	checkStuck(t, 3, method(setLong(0, 9), ins(api.RNarrow, 1, 0), emitLong(0), comeBack))
	checkOut(t, []int64{1}, method(setNew(0, upper), is(0, 0, upper), emitInt(0), comeBack))
	checkOut(t, []int64{5}, method(setNew(0, other), setInt(1, 5), put(1, 0, other, 0), get(0, 0, other, 0), emitInt(0), comeBack))
	checkOut(t, []int64{0}, method(setNew(1, upper), get(0, 1, upper, 1), emitLong(0), comeBack))
}

// thrown has an instruction that throws behind its preparation, and goes on behind it, where it is caught.
func thrown(prepare []api.Ins, i api.Ins, behind ...api.Ins) api.Method {
	at := len(prepare)
	return handled(method(join(prepare, code(i), behind)...), api.Handler{From: at, To: at + 1, At: at + 1})
}

func TestG2NothingIsWrittenWhereClassDivideIsThrown(t *testing.T) {
	for _, op := range []int{api.OpDiv, api.OpRem} {
		ints := code(setInt(0, 8), setInt(1, 0), setInt(2, 5))
		for at, want := range []int64{8, 0, 5} {
			checkOut(t, []int64{want}, thrown(ints, intOp(op, at, 0, 1), emitInt(at), comeBack))
		}
		checkStuck(t, 5, thrown(ints, intOp(op, 3, 0, 1), emitInt(3), comeBack))
		longs := code(setLong(0, 8), setLong(2, 0), setLong(4, 5))
		for k, want := range []int64{8, 0, 5} {
			checkOut(t, []int64{want}, thrown(longs, longOp(op, 2*k, 0, 2), emitLong(2*k), comeBack))
			checkOut(t, []int64{want}, thrown(longs, longOp(op, 2*k+1, 0, 2), emitLong(2*k), comeBack))
		}
		checkStuck(t, 5, thrown(longs, longOp(op, 6, 0, 2), emitLong(6), comeBack))
	}
}

func TestG2NothingIsWrittenWhereClassNullOrClassCastIsThrown(t *testing.T) {
	checkOut(t, []int64{7}, thrown(code(setNull(0), setInt(1, 7)), get(1, 0, upper, 0), emitInt(1), comeBack))
	checkOut(t, []int64{7}, thrown(code(setNull(0), setLong(1, 7)), get(1, 0, upper, 1), emitLong(1), comeBack))
	checkOut(t, []int64{3}, thrown(code(setNull(0)), get(0, 0, upper, 0), jumpIfNull(4, 0), comeBack, setInt(1, 3), emitInt(1), comeBack))
	checkOut(t, []int64{1}, thrown(code(setNew(0, upper)), cast(0, lower), is(1, 0, upper), emitInt(1), comeBack))
	checkOut(t, []int64{7}, thrown(code(setNull(0), setInt(1, 7)), put(1, 0, upper, 0), emitInt(1), comeBack))
}

func TestG2WhereItGoesOn(t *testing.T) {
	tell := code(setInt(5, 1), emitInt(5), setInt(5, 2), emitInt(5), comeBack)
	checkOut(t, []int64{2}, method(join(code(jump(3)), tell)...))
	checkOut(t, []int64{1, 2}, method(join(code(jump(1)), tell)...))
	for cond := api.CondZero; cond <= api.CondAbove; cond++ {
		for _, n := range []int64{0, 1, -1, math.MaxInt32, math.MinInt32} {
			want := []int64{1, 2}
			if num.Holds(cond, n) {
				want = want[1:]
			}
			checkOut(t, want, method(join(code(setInt(89, n), jumpIf(4, cond, 89)), tell)...))
		}
	}
	checkOut(t, []int64{2}, method(join(code(setNull(4), jumpIfNull(4, 4)), tell)...))
	checkOut(t, []int64{1, 2}, method(join(code(setNew(4, 0), jumpIfNull(4, 4)), tell)...))
	// Back, and on from there.
	checkOut(t, []int64{3, 2, 1}, method(setInt(0, 3), setInt(1, -1), emitInt(0), intOp(api.OpAdd, 0, 0, 1), jumpIf(2, api.CondAbove, 0), comeBack))
}

func TestG2TheRegisterAskedKeepsItsValue(t *testing.T) {
	checkOut(t, []int64{4}, method(setInt(0, 4), jumpIf(2, api.CondAbove, 0), emitInt(0), comeBack))
	checkOut(t, []int64{1}, method(setNew(0, other), jumpIfNull(2, 0), is(1, 0, other), emitInt(1), comeBack))
	checkOut(t, []int64{4, 4}, method(setLong(0, 4), emitLong(0), emitLong(0), comeBack))
}

func TestG2ReferencesToNothing(t *testing.T) {
	null := api.Shown{End: api.EndThrown, Class: api.ClassNull, Steps: 2}
	checkShown(t, run(t, method(setNull(0), get(1, 0, upper, 1), comeBack)), null)
	checkShown(t, run(t, method(setNull(0), throwIt(0), comeBack)), null)
	checkShown(t, run(t, method(setNull(0), put(0, 0, upper, 2), comeBack)), null)
	null.Steps = 3
	checkShown(t, run(t, method(setNull(0), setLong(1, 1), put(1, 0, upper, 1), comeBack)), null)
	checkShown(t, run(t, method(setNull(0), setNew(1, lower), put(1, 0, upper, 2), comeBack)), null)
	// What is to be stored is read ahead of that.
	checkStuck(t, 3, method(setNull(0), setInt(1, 1), put(1, 0, upper, 1), comeBack))
	checkStuck(t, 3, method(setNull(0), setNew(1, other), put(1, 0, upper, 2), comeBack))
	checkStuck(t, 2, method(setNull(0), put(1, 0, upper, 2), comeBack))
	// Nothing is cast to each class, and stays; of each class it is not.
	for class := range classes() {
		checkOut(t, []int64{0}, method(setNull(0), cast(0, class), is(1, 0, class), emitInt(1), comeBack))
		checkOut(t, []int64{2}, method(setNull(0), cast(0, class), jumpIfNull(4, 0), comeBack, setInt(1, 2), emitInt(1), comeBack))
	}
}

func TestG2ObjectsOfAnotherClass(t *testing.T) {
	for class := range classes() {
		fits := isBelow(class, upper)
		checkEnd(t, endIf(fits, api.EndDone, api.EndStuck), method(setNew(0, class), get(1, 0, upper, 0), comeBack))
		checkEnd(t, endIf(fits, api.EndDone, api.EndStuck), method(setNew(0, class), setInt(1, 0), put(1, 0, upper, 0), comeBack))
		checkEnd(t, endIf(fits, api.EndDone, api.EndStuck), method(setNew(0, upper), setNew(1, class), put(1, 0, upper, 2), comeBack))
		checkEnd(t, endIf(fits, api.EndDone, api.EndStuck), method(setNew(0, class), call(1, 0), comeBack), taking(types(ref(upper)), comeBack))
		checkEnd(t, endIf(fits, api.EndDone, api.EndStuck), giving(ref(upper), setNew(0, class), giveBack(0)))
		s := run(t, method(setNew(0, class), cast(0, upper), comeBack))
		if fits {
			checkShown(t, s, api.Shown{End: api.EndDone, Steps: 3})
		} else {
			checkShown(t, s, api.Shown{End: api.EndThrown, Class: api.ClassCast, Steps: 2})
		}
		checkShown(t, run(t, method(setNew(0, class), throwIt(0), comeBack)), api.Shown{End: api.EndThrown, Class: class, Steps: 2})
	}
}

func TestG2IsOfEachClass(t *testing.T) {
	for class := range classes() {
		for above := range classes() {
			want := int64(0)
			if isBelow(class, above) {
				want = 1
			}
			checkOut(t, []int64{want}, method(setNew(0, class), is(1, 0, above), emitInt(1), comeBack))
		}
	}
}

func TestG2CastLeavesTheSameObject(t *testing.T) {
	checkOut(t, []int64{11, 1}, method(
		setNew(0, lower), move(1, 0, api.KRef), cast(0, upper), setInt(2, 11), put(2, 0, upper, 0),
		get(3, 1, upper, 0), emitInt(3), is(3, 0, lower), emitInt(3), comeBack))
}

func TestG2FieldsAtFirst(t *testing.T) {
	for _, class := range []int{lower, lowest} {
		checkOut(t, []int64{0, 0, 0, 0, 0, 0}, method(
			setNew(0, class),
			get(1, 0, upper, 0), emitInt(1),
			get(1, 0, upper, 1), emitLong(1),
			get(1, 0, upper, 2), is(1, 1, 0), emitInt(1),
			get(1, 0, lower, 0), emitLong(1),
			get(1, 0, lower, 1), is(1, 1, 0), emitInt(1),
			get(1, 0, lower, 2), emitInt(1), comeBack))
	}
}

// fieldPuts stores in each field of an object in the register.
func fieldPuts(at int, n int64) []api.Ins {
	return code(
		setInt(20, n), put(20, at, upper, 0),
		setLong(20, n+1), put(20, at, upper, 1),
		put(at, at, upper, 2),
		setLong(20, n+2), put(20, at, lower, 0),
		setNew(20, other), put(20, at, lower, 1),
		setInt(20, n+3), put(20, at, lower, 2))
}

// fieldsOut lets out what fieldPuts stored; of references which class they are of.
func fieldsOut(at int) []api.Ins {
	return code(
		get(20, at, upper, 0), emitInt(20),
		get(20, at, upper, 1), emitLong(20),
		get(20, at, upper, 2), is(20, 20, lower), emitInt(20),
		get(20, at, lower, 0), emitLong(20),
		get(20, at, lower, 1), is(20, 20, other), emitInt(20),
		get(20, at, lower, 2), emitInt(20))
}

func TestG2FieldsOfTheClassAndOfThoseAbove(t *testing.T) {
	checkOut(t, []int64{100, 101, 1, 102, 1, 103, 200, 201, 1, 202, 1, 203}, method(join(
		code(setNew(0, lower), setNew(1, lowest)),
		fieldPuts(0, 100), fieldPuts(1, 200), fieldsOut(0), fieldsOut(1), code(comeBack))...))
	checkOut(t, []int64{300, 301, 1, 302, 1, 303}, method(join(
		code(setNew(0, lower)), fieldPuts(0, 100), fieldPuts(0, 300), fieldsOut(0), code(comeBack))...))
}

func TestG2Full(t *testing.T) {
	for _, n := range []int{1, api.MaxObjects - 1, api.MaxObjects} {
		checkEnd(t, api.EndDone, method(join(times(n, setNew(0, upper)), code(comeBack))...))
	}
	s := run(t, method(join(times(api.MaxObjects+1, setNew(0, upper)), code(comeBack))...))
	checkShown(t, s, api.Shown{End: api.EndFull, Steps: api.MaxObjects + 1})
	full := times(api.MaxObjects, setNew(0, upper))
	checkEnd(t, api.EndFull, method(join(full, code(call(1), comeBack))...), method(setNew(0, 0), comeBack))
}

func TestG2InputAndWhatComesOut(t *testing.T) {
	input := []int64{math.MaxInt64, 0, math.MinInt64, -5}
	l := times(3, comeIn(4), emitLong(4))
	for n := range len(input) + 1 {
		s := runFile(t, file(method(join(l, code(comeBack))...)), nil, input[:n], 100)
		want := api.Shown{End: api.EndInput, Out: input[:min(n, 3)], Used: min(n, 3), Steps: 2*n + 1}
		if n >= 3 {
			want.End, want.Steps = api.EndDone, 7
		}
		checkShown(t, s, want)
	}
	// A call takes from the same input.
	s := runFile(t, file(method(comeIn(0), call(1), comeIn(0), emitLong(0), comeBack), method(comeIn(0), emitLong(0), comeBack)), nil, []int64{1, 2, 3}, 100)
	checkShown(t, s, api.Shown{End: api.EndDone, Out: []int64{2, 3}, Used: 3, Steps: 8})
	// What comes in is a long, in both slots.
	for _, i := range code(emitInt(0), emitInt(1)) {
		s := runFile(t, file(method(setInt(1, 1), comeIn(0), i, comeBack)), nil, []int64{1}, 100)
		checkShown(t, s, api.Shown{End: api.EndStuck, Used: 1, Steps: 3})
	}
}
