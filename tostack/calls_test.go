package tostack_test

import (
	"slices"
	"testing"

	"crosswalk/api"
)

// showing lets all that it takes come out, the first one first: of references whether they are of the class lower.
func showing(params []api.Type) api.Method {
	m := taking(params)
	at := 0
	for _, t := range params {
		switch t.Kind {
		case api.KInt:
			m.Code = append(m.Code, emitInt(at))
		case api.KLong:
			m.Code = append(m.Code, emitLong(at))
			at++
		case api.KRef:
			m.Code = append(m.Code, is(at, at, lower), emitInt(at))
		}
		at++
	}
	m.Code = append(m.Code, comeBack)
	return sized(m, max(at, 2))
}

// allParams has each list of parameters of the kinds, up to the most.
func allParams() [][]api.Type {
	all := [][]api.Type{nil}
	for k := 0; k < len(all); k++ {
		if len(all[k]) < api.MaxParams {
			for _, t := range types(intType, longType, ref(upper)) {
				all = append(all, append(slices.Clone(all[k]), t))
			}
		}
	}
	return all
}

// setFor sets the value number k of the type, and answers what showing tells of it.
func setFor(t api.Type, at, k int) (api.Ins, int64) {
	n := int64(k + 10)
	switch t.Kind {
	case api.KInt:
		return setInt(at, n), n
	case api.KLong:
		return setLong(at, n<<40), n << 40
	}
	return setNew(at, []int{lower, upper}[k%2]), int64(1 - k%2)
}

// gives is what a method may give, and how that is shown.
type gives struct {
	t    api.Type
	set  []api.Ins
	show []api.Ins
	want []int64
}

func allGives() []gives {
	return []gives{
		{},
		{intType, code(setInt(0, -4)), code(emitInt(20)), numbers(-4)},
		{longType, code(setLong(0, -5<<40)), code(emitLong(20)), numbers(-5 << 40)},
		{ref(upper), code(setNew(0, lowest)), code(is(20, 20, lower), emitInt(20)), numbers(1)},
		{ref(upper), code(setNull(0)), code(is(20, 20, lower), emitInt(20)), numbers(0)},
	}
}

// giver shows what it takes, and gives.
func (g gives) giver(params []api.Type) api.Method {
	m := showing(params)
	m.Ret = g.t
	m.Code = join(m.Code[:len(m.Code)-1], g.set, code(giveBack(0)))
	return m
}

// fetched calls the method 1, and fetches and shows what it gives.
func (g gives) fetched(args ...int) []api.Ins {
	if g.t.Kind == api.KVoid {
		return code(call(1, args...))
	}
	return join(code(call(1, args...), result(20, g.t.Kind)), g.show)
}

// Args of each kind and number, in any order of registers, what is given fetched and not fetched.
func TestJ2ArgsOfEachKindAndNumber(t *testing.T) {
	for k, params := range allParams() {
		for _, g := range allGives() {
			var l []api.Ins
			var want []int64
			var args []int
			for n, p := range params {
				at := 2 * ((n*3 + k) % 4)
				i, shown := setFor(p, at, n)
				l = append(l, i)
				want = append(want, shown)
				args = append(args, at)
			}
			l = append(l, setInt(30, 2))
			end := code(emitInt(30), comeBack)
			checkOut(t, slices.Concat(want, g.want, numbers(2)), method(join(l, g.fetched(args...), end)...), g.giver(params))
			checkOut(t, slices.Concat(want, numbers(2)), method(join(l, code(call(1, args...)), end)...), g.giver(params))
			// Not fetched, and the next call's is.
			twice := join(l, code(call(1, args...)), g.fetched(args...), end)
			checkOut(t, slices.Concat(want, want, g.want, numbers(2)), method(twice...), g.giver(params))
		}
	}
}

// What is given and not fetched is gone, whatever instruction comes next.
func TestJ2NotFetched(t *testing.T) {
	for _, g := range allGives() {
		callee := g.giver(nil)
		for _, next := range []api.Ins{
			setInt(9, 1), setLong(8, 1), setNull(9), setNew(9, 0), move(9, 0, api.KInt), intOp(api.OpSub, 9, 0, 0), longOp(api.OpSub, 8, 2, 2), widen(8, 0), narrow(9, 2),
			compare(9, 2, 2), get(9, 4, upper, 0), put(0, 4, upper, 0), cast(4, 0), is(9, 4, 0), call(1), emitInt(0), emitLong(2), comeIn(8), jump(5), jumpIf(6, api.CondZero, 0), jumpIfNull(6, 4), jumpIf(5, api.CondZero, 0),
		} {
			f := file(handled(method(setInt(0, 5), setLong(2, 6), setNew(4, upper), call(1), next, emitInt(0), emitLong(2), comeBack), over(3, 5, 6, 0)), callee)
			if s := follow(t, f, asked{input: numbers(1)}); s.End != api.EndDone {
				t.Errorf("%+v: %+v", next, s)
			}
		}
		checkEnd(t, api.EndDone, method(call(1), comeBack), callee)
		checkEnd(t, api.EndThrown, method(setNew(0, 0), call(1), throwIt(0)), callee)
		followAll(t, method(call(1), jump(0)), callee)
		if s := checkEnd(t, api.EndDone, giving(intType, setInt(0, 8), call(1), giveBack(0)), callee); s.Value != 8 {
			t.Errorf("got %+v", s)
		}
	}
}

func TestJ2OneRegisterAsSeveralArgs(t *testing.T) {
	for count := range api.MaxParams + 1 {
		for _, x := range []struct {
			t    api.Type
			set  api.Ins
			want int64
		}{{intType, setInt(3, 7), 7}, {longType, setLong(3, 1<<40), 1 << 40}, {ref(upper), setNew(3, lower), 1}} {
			args := slices.Repeat([]int{3}, count)
			checkOut(t, slices.Repeat(numbers(x.want), count), method(x.set, call(1, args...), comeBack), showing(slices.Repeat(types(x.t), count)))
		}
	}
	checkOut(t, numbers(7, 1<<40, 7, 1<<40), method(setInt(3, 7), setLong(5, 1<<40), call(1, 3, 5, 3, 5), comeBack), showing(types(intType, longType, intType, longType)))
}

// What is given is written over what was an Arg, or over half of one.
func TestJ2ResultsOverArgs(t *testing.T) {
	sum := giving(longType, longOp(api.OpAdd, 0, 0, 2), giveBack(0))
	sum.Params = types(longType, longType)
	for at := range 7 {
		checkOut(t, numbers(33), method(setLong(1, 11), setLong(3, 22), call(1, 1, 3), result(at, api.KLong), emitLong(at), comeBack), sum)
	}
	checkOut(t, numbers(44, 88), method(setLong(1, 11), setLong(3, 22), call(1, 3, 3), result(3, api.KLong), emitLong(3), call(1, 3, 3), result(1, api.KLong), emitLong(1), comeBack), sum)
}

// A method that writes registers leaves those of the caller alone.
func TestJ2EachCallHasItsOwn(t *testing.T) {
	checkOut(t, numbers(6, 1, 2, 1<<40), method(
		setInt(0, 1), setInt(1, 2), setLong(2, 1<<40), call(1), emitInt(0), emitInt(1), emitLong(2), comeBack),
		method(setInt(0, 6), emitInt(0), setLong(1, 7), setNull(3), comeBack))
	// What it took is its own, too.
	checkOut(t, numbers(9, 10, 10), method(setInt(0, 10), call(1, 0), result(1, api.KInt), emitInt(1), emitInt(0), call(1, 0), emitInt(0), comeBack), counting())
	checkOut(t, numbers(7), method(setInt(0, 10), setInt(1, 2), call(1, 0), result(2, api.KInt), intOp(api.OpSub, 2, 2, 1), emitInt(2), comeBack), counting())
}

// counting gives one less than it takes.
func counting() api.Method {
	m := giving(intType, setInt(1, 1), intOp(api.OpSub, 0, 0, 1), giveBack(0))
	m.Params = types(intType)
	return sized(m, 2)
}

func TestJ2Recursion(t *testing.T) {
	product := giving(longType,
		jumpIf(3, api.CondAbove, 0), setLong(1, 1), giveBack(1),
		setInt(1, 1), intOp(api.OpSub, 1, 0, 1), call(0, 1), result(2, api.KLong), widen(4, 0), longOp(api.OpMul, 2, 4, 2), giveBack(2))
	product.Params = types(intType)
	f := file(product)
	for _, x := range []struct {
		n    int64
		want int64
	}{{0, 1}, {1, 1}, {5, 120}, {19, 121645100408832000}} {
		if s := follow(t, f, asked{args: numbers(x.n)}); s.End != api.EndDone || s.Value != x.want {
			t.Errorf("%d: %+v", x.n, s)
		}
	}
	if s := follow(t, f, asked{args: numbers(20)}); s.End != api.EndDeep {
		t.Errorf("got %+v", s)
	}
	checkEnd(t, api.EndDeep, method(call(0), comeBack))
	checkEnd(t, api.EndDeep, method(call(1), comeBack), method(setInt(0, 1), emitInt(0), call(0), comeBack))
}

// Two methods that call each other, with longs and references.
func TestJ2MethodsThatCallEachOther(t *testing.T) {
	even := giving(intType, setLong(3, 0), compare(3, 0, 3), jumpIf(6, api.CondZero, 3), call(1, 0, 2), result(3, api.KInt), giveBack(3), setInt(3, 1), giveBack(3))
	odd := giving(intType, put(0, 2, upper, 1), setLong(3, 1), longOp(api.OpSub, 0, 0, 3), call(0, 0, 2), result(0, api.KInt), setInt(1, 1), intOp(api.OpXor, 0, 0, 1), giveBack(0))
	even.Params = types(longType, ref(upper))
	odd.Params = even.Params
	for n := range int64(8) {
		entry := giving(intType, setLong(0, n), setNew(7, lower), call(0, 0, 7), result(0, api.KInt), get(1, 7, upper, 1), emitLong(1), giveBack(0))
		s := follow(t, file(even, odd, entry), asked{entry: 2})
		if s.End != api.EndDone || s.Value != 1-n%2 || s.Out[0] != min(n, 1) {
			t.Errorf("%d: %+v", n, s)
		}
	}
}

func TestJ2Args(t *testing.T) {
	f := file(showing(types(intType, longType, intType, longType)))
	r := made(t, f)
	for _, args := range [][]int64{{1, 2, 3, 4}, {1 << 32, 1 << 32, -1 << 31, -1 << 63}, {1 << 31, 0, -1, 0}} {
		s, _ := checkRun(t, f, r, asked{args: args, fuel: 100})
		if s.End != api.EndDone || s.Out[1] != args[1] || s.Out[3] != args[3] {
			t.Errorf("%v: %+v", args, s)
		}
	}
}

// Entries, args, inputs and fuels that are wrong: both files answer the same error.
func TestJ2TheSameErrors(t *testing.T) {
	f := file(taking(types(intType, longType), comeBack), taking(types(ref(0)), comeBack), method(comeBack))
	r := made(t, f)
	much := make([]int64, api.MaxInput+1)
	for _, x := range []struct {
		a    asked
		want api.Errno
	}{
		{asked{args: numbers(1, 2), fuel: 5}, api.OK},
		{asked{entry: 2, fuel: 5}, api.OK},
		{asked{entry: 2, input: much[1:], fuel: 5}, api.OK},
		{asked{entry: 2, input: much[1:], fuel: mostSteps}, api.OK},
		{asked{entry: 3, fuel: 5}, api.ErrRange},
		{asked{entry: -1, input: much}, api.ErrRange},
		{asked{entry: 2, fuel: -2}, api.ErrRange},
		{asked{entry: 2, fuel: -1 << 40, input: much}, api.ErrRange},
		{asked{entry: 0, args: numbers(1), fuel: -3}, api.ErrRange},
		{asked{entry: 2, input: much}, api.ErrSize},
		{asked{entry: 0, input: much, args: numbers(1)}, api.ErrSize},
		{asked{entry: 0, args: numbers(1)}, api.ErrKind},
		{asked{entry: 0, args: numbers(1, 2, 3)}, api.ErrKind},
		{asked{entry: 0}, api.ErrKind},
		{asked{entry: 1, args: numbers(1)}, api.ErrKind},
		{asked{entry: 1}, api.ErrKind},
		{asked{entry: 2, args: numbers(0)}, api.ErrKind},
	} {
		if _, e := checkRun(t, f, r, x.a); e != x.want {
			t.Errorf("error %d, want %d: %+v", e, x.want, x.a)
		}
	}
}
