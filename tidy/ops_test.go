package tidy_test

import (
	"testing"

	"crosswalk/api"
)

// setUp has ints in 0 and 1, longs in 2 and 4, an object in 6, and nothing in 7.
func setUp() []api.Ins {
	return code(setInt(0, 6), setInt(1, 0), setLong(2, 5<<40), setLong(4, 0), setNew(6, lower), setNull(7))
}

// idles are moves of each kind, of all that setUp has.
func idles() []api.Ins {
	return code(stayInt(0), stay(2, api.KLong), stayRef(6), stayRef(7), stayInt(1), stay(4, api.KLong))
}

// plainOps are instructions behind which the next one may come; they write to the registers from 20 on, or to what setUp has, of the same kind.
func plainOps() []api.Ins {
	l := code(
		setInt(20, -1), setLong(20, 1<<50), setNull(20), setNew(20, other), setInt(0, 2), setLong(2, 2), setNull(6), setNew(7, beside),
		move(20, 0, api.KInt), move(20, 2, api.KLong), move(20, 6, api.KRef), move(0, 1, api.KInt), move(2, 4, api.KLong), move(7, 6, api.KRef), move(20, 1, api.KInt),
		widen(20, 0), narrow(20, 2), compare(20, 2, 4), compare(0, 2, 2), widen(2, 0), narrow(0, 2),
		get(20, 6, upper, 0), get(20, 6, upper, 1), get(20, 6, upper, 2), get(20, 6, lower, 1), get(20, 7, lower, 0),
		put(0, 6, upper, 0), put(2, 6, upper, 1), put(6, 6, upper, 2), put(7, 6, lower, 1), put(0, 7, upper, 0),
		cast(6, lower), cast(7, other), is(20, 6, upper), is(20, 7, 0), is(0, 6, other),
		call(1), call(2, 0, 2, 6, 7), call(3), emitInt(0), emitLong(2), emitInt(1), emitLong(4), comeIn(20), comeIn(2),
	)
	for op := api.OpAdd; op <= api.OpXor; op++ {
		l = append(l, intOp(op, 20, 0, 1), longOp(op, 20, 2, 4), intOp(op, 0, 0, 0), longOp(op, 2, 4, 2))
	}
	return l
}

func opCallees() []api.Method {
	return []api.Method{
		good(),
		taking(types(intType, longType, ref(upper), ref(other)), stayInt(0), emitInt(0), emitLong(1), comeBack),
		method(setNew(0, lowest), stayRef(0), throwIt(0)),
	}
}

// Each instruction has what is idle ahead of it, behind it, and on both sides, with and without a handler over it, which goes on at what is idle or not.
func TestK3EachInstruction(t *testing.T) {
	show := code(emitInt(0), emitLong(2), is(0, 6, lower), emitInt(0), comeBack)
	size := len(setUp())
	n := len(idles())
	for _, i := range plainOps() {
		look := func(want, m api.Method) {
			t.Helper()
			checkLeft(t, want, append([]api.Method{m}, opCallees()...)...)
		}
		want := method(join(setUp(), code(i), show)...)
		ahead := join(setUp(), idles(), code(i))
		look(want, method(join(ahead, show)...))
		look(want, method(join(setUp(), code(i), idles(), show)...))
		look(want, method(join(ahead, idles(), show)...))
		caughtBy := handled(want, over(size, size+1, size+1, 0))
		look(caughtBy, handled(method(join(ahead, show)...), over(size+n, size+n+1, size+n+1, 0)))
		look(caughtBy, handled(method(join(ahead, idles(), show)...), over(size, size+n+1, size+n+1, 0)))
		look(caughtBy, handled(method(join(ahead, idles(), show)...), over(size+n, size+2*n+1, size+n+3, 0)))
		// It is jumped to past something that can't be come to, and jumps past more.
		look(method(join(setUp(), code(jump(size+1), i, jump(size+3)), show)...),
			method(join(setUp(), code(jump(size+3), result(9, 1), caught(9)), idles()[1:2], code(i, jump(size+9), emitLong(17), throwIt(17), jump(0)), show)...))
	}
}

func TestK3EachInstructionThatFetches(t *testing.T) {
	gives := func(t api.Type, set api.Ins) api.Method { return giving(t, set, stay(set.A, t.Kind), giveBack(set.A)) }
	for _, x := range []struct {
		m    api.Method
		show []api.Ins
	}{
		{gives(intType, setInt(3, 9)), code(emitInt(20))}, {gives(longType, setLong(3, 9<<40)), code(emitLong(20))},
		{gives(ref(upper), setNew(3, lower)), code(is(20, 20, lower), emitInt(20))}, {gives(ref(upper), setNull(3)), code(is(20, 20, lower), emitInt(20))},
	} {
		fetch := code(call(1), result(20, x.m.Ret.Kind))
		want := method(join(setUp(), fetch, x.show, code(comeBack))...)
		checkLeft(t, want, method(join(setUp(), idles(), fetch, idles(), x.show, idles(), code(comeBack))...), x.m)
	}
	want := handled(method(join(setUp(), code(throwIt(6), caught(20), is(20, 20, lower), emitInt(20), comeBack))...), over(6, 7, 7, 0))
	m := handled(method(join(setUp(), idles(), code(throwIt(6), caught(20)), idles(), code(is(20, 20, lower), emitInt(20), comeBack))...), over(12, 13, 13, 0))
	checkLeft(t, want, m)
	checkOut(t, numbers(1), m)
}

// Instructions behind which no next one is come to, or not always.
func TestK3EachInstructionThatGoesElsewhere(t *testing.T) {
	size, n := len(setUp()), len(idles())
	for _, i := range code(throwIt(6), throwIt(7), comeBack, jump(0), jump(size)) {
		want := method(join(setUp(), code(i))...)
		checkLeft(t, want, method(join(setUp(), idles(), code(i))...))
		checkLeft(t, want, method(join(setUp(), idles(), code(i), idles())...))
		checkLeft(t, want, method(join(setUp(), idles(), code(i, throwIt(20), result(4, 1), i))...))
	}
	for _, x := range []struct {
		t  api.Type
		at int
	}{{intType, 0}, {longType, 2}, {ref(upper), 6}, {ref(lower), 7}} {
		want := giving(x.t, join(setUp(), code(giveBack(x.at)))...)
		checkLeft(t, want, giving(x.t, join(setUp(), idles(), code(giveBack(x.at)), idles())...))
	}
	end := code(emitInt(1), comeBack, emitInt(0), comeBack)
	jumps := func(to int) []api.Ins {
		l := code(jumpIfNull(to, 6), jumpIfNull(to, 7))
		for cond := api.CondZero; cond <= api.CondAbove; cond++ {
			l = append(l, jumpIf(to, cond, 0), jumpIf(to, cond, 1))
		}
		return l
	}
	left := jumps(size + 3)
	for k, i := range jumps(size + 2*n + 3) {
		checkLeft(t, method(join(setUp(), left[k:k+1], end)...), method(join(setUp(), idles(), code(i), idles(), end)...))
	}
	for k, i := range jumps(size + 2*n + 3 + 2) {
		checkLeft(t, method(join(setUp(), left[k:k+1], end)...), method(join(setUp(), idles(), code(i), idles(), end[:2], idles()[:2], end[2:])...))
	}
}

// No Op of registers is missing in these tests.
func TestK3NoInstructionIsMissing(t *testing.T) {
	var seen [api.RIn + 1]bool
	all := join(plainOps(), code(result(0, 1), caught(0), throwIt(0), comeBack, jump(0), jumpIf(0, 1, 0), jumpIfNull(0, 0)))
	for _, i := range all {
		seen[i.Op] = true
	}
	for op := api.RInt; op <= api.RIn; op++ {
		if !seen[op] {
			t.Errorf("no instruction %d", op)
		}
	}
}

// Every end that a run may have is the same.
func TestK3EachEnd(t *testing.T) {
	checkEnd(t, api.EndDone, method(setInt(0, 1), stayInt(0), comeBack))
	checkEnd(t, api.EndThrown, method(setNull(0), stayRef(0), throwIt(0), stayRef(0)))
	checkEnd(t, api.EndInput, method(setInt(0, 1), stayInt(0), emitInt(0), comeIn(1), stay(1, api.KLong), jump(0)))
	checkEnd(t, api.EndFull, method(setNew(0, 0), stayRef(0), jump(0)))
	checkEnd(t, api.EndDeep, method(setInt(0, 1), stayInt(0), emitInt(0), call(0), stayInt(0), comeBack))
	checkEnd(t, api.EndFuel, method(setInt(0, 1), stayInt(0), jump(1)))
	for _, x := range []struct {
		input []int64
		want  api.Shown
	}{
		{numbers(1, 2, 3), api.Shown{End: api.EndDone, Value: 3, Out: numbers(2, 1), Used: 3}},
		{numbers(1, 2), api.Shown{End: api.EndInput, Out: numbers(2, 1), Used: 2}},
		{numbers(1), api.Shown{End: api.EndInput, Used: 1}},
		{nil, api.Shown{End: api.EndInput}},
	} {
		f := file(giving(longType, comeIn(0), stay(0, api.KLong), comeIn(2), stay(2, api.KLong), emitLong(2), emitLong(0), stay(0, api.KLong), comeIn(1), giveBack(1), comeIn(1)))
		if s := follow(t, f, asked{input: x.input}); !shownAlike(s, x.want) {
			t.Errorf("%v: %+v", x.input, s)
		}
	}
}
