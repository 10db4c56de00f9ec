package toreg_test

import (
	"slices"
	"testing"

	"crosswalk/api"
)

// showing lets all that it takes come out, the first one first: of references whether they are of the class lower.
func showing(params []api.Type) api.Method {
	m := taking(params)
	slot := 0
	for _, t := range params {
		m.Code = append(m.Code, load(slot, t.Kind))
		slot++
		switch t.Kind {
		case api.KInt:
			m.Code = append(m.Code, emitInt)
		case api.KLong:
			m.Code = append(m.Code, emitLong)
			slot++
		case api.KRef:
			m.Code = append(m.Code, isOf(lower), emitInt)
		}
	}
	m.Code = append(m.Code, comeBack)
	return sized(m, 2, slot)
}

// allParams has each list of parameters of the kinds, up to the most.
func allParams() [][]api.Type {
	all := [][]api.Type{nil}
	for k := 0; k < len(all); k++ {
		if len(all[k]) < api.MaxParams {
			for _, t := range types(intType, longType, ref(upper)) {
				all = append(all, append(slices.Clone(all[k]), t))
			}
		}
	}
	return all
}

// putFor puts the value number k of the type, and answers what showing tells of it.
func putFor(t api.Type, k int) (api.Ins, int64) {
	n := int64(k + 10)
	switch t.Kind {
	case api.KInt:
		return putInt(n), n
	case api.KLong:
		return putLong(n << 40), n << 40
	}
	return putNew([]int{lower, upper}[k%2]), int64(1 - k%2)
}

// Params of each kind and number, between values that stand on the stack ahead of the call and behind it.
func TestI2ParamsOfEachKindAndNumber(t *testing.T) {
	rets := []struct {
		t    api.Type
		put  []api.Ins
		show []api.Ins
		want []int64
	}{
		{api.Type{}, nil, nil, nil},
		{intType, code(putInt(-4)), code(emitInt), numbers(-4)},
		{longType, code(putLong(-5 << 40)), code(emitLong), numbers(-5 << 40)},
		{ref(upper), code(putNew(lowest)), code(isOf(lower), emitInt), numbers(1)},
		{ref(upper), code(putNull), code(isOf(lower), emitInt), numbers(0)},
	}
	for k, params := range allParams() {
		ret := rets[k%len(rets)]
		l := code(putLong(1<<50), putInt(2))
		var want []int64
		for n, p := range params {
			i, shown := putFor(p, n)
			l = append(l, i)
			want = append(want, shown)
		}
		callee := showing(params)
		callee.Ret = ret.t
		callee.Code = join(callee.Code[:len(callee.Code)-1], ret.put, code(comeBack))
		m := method(join(l, code(call(1)), ret.show, code(emitInt, emitLong, comeBack))...)
		checkOut(t, slices.Concat(want, ret.want, numbers(2, 1<<50)), m, callee)
	}
}

// A method that takes locals for itself leaves those of the caller, and its stack, alone.
func TestI2EachCallHasItsOwn(t *testing.T) {
	checkOut(t, numbers(6, 3, 2, 1), method(
		putInt(1), putInt(2), store(0, api.KInt), putInt(3), call(1), emitInt, load(0, api.KInt), emitInt, emitInt, comeBack),
		method(putInt(5), store(0, api.KInt), putInt(6), putInt(7), store(1, api.KInt), emitInt, comeBack))
	// What is given need not be taken up.
	checkOut(t, numbers(4), method(putInt(4), call(1), pop, emitInt, comeBack), giving(longType, putLong(5), comeBack))
	// Two calls in a row, the results of both on the stack.
	checkOut(t, numbers(8), method(putInt(10), call(1), putInt(2), call(1), sub, emitInt, comeBack), sized(counting(), 2, 1))
}

func TestI2Recursion(t *testing.T) {
	// A product, for which the stack of each call keeps a factor.
	product := giving(longType,
		load(0, api.KInt), jumpIf(4, api.CondAbove), putLong(1), comeBack,
		load(0, api.KInt), widen, load(0, api.KInt), putInt(1), sub, call(0), ins(api.SLongOp, api.OpMul), comeBack)
	product.Params = types(intType)
	f := file(product)
	for _, x := range []struct {
		n    int64
		want int64
	}{{0, 1}, {1, 1}, {5, 120}, {19, 121645100408832000}} {
		if s := follow(t, f, asked{args: numbers(x.n)}); s.End != api.EndDone || s.Value != x.want {
			t.Errorf("%d: %+v", x.n, s)
		}
	}
	if s := follow(t, f, asked{args: numbers(20)}); s.End != api.EndDeep {
		t.Errorf("got %+v", s)
	}
	checkEnd(t, api.EndDeep, method(call(0), comeBack))
	checkEnd(t, api.EndDeep, method(call(1), comeBack), method(putInt(1), emitInt, call(0), comeBack))
}

// Two methods that call each other, with longs and references.
func TestI2MethodsThatCallEachOther(t *testing.T) {
	even := giving(intType, load(0, api.KLong), putLong(0), compare, jumpIf(8, api.CondZero), load(0, api.KLong), load(2, api.KRef), call(1), comeBack, putInt(1), comeBack)
	odd := giving(intType, load(2, api.KRef), load(0, api.KLong), ins(api.SPut, upper, 1), load(0, api.KLong), putLong(1), ins(api.SLongOp, api.OpSub), load(2, api.KRef), call(0), putInt(1), ins(api.SIntOp, api.OpXor), comeBack)
	even.Params = types(longType, ref(upper))
	odd.Params = even.Params
	for n := range int64(8) {
		entry := giving(intType, putLong(n), putNew(lower), dup, store(7, api.KRef), call(0), load(7, api.KRef), ins(api.SGet, upper, 1), emitLong, comeBack)
		s := follow(t, file(even, odd, entry), asked{entry: 2})
		if s.End != api.EndDone || s.Value != 1-n%2 || s.Out[0] != min(n, 1) {
			t.Errorf("%d: %+v", n, s)
		}
	}
}

func TestI2Args(t *testing.T) {
	f := file(showing(types(intType, longType, intType, longType)))
	r := made(t, f)
	for _, args := range [][]int64{{1, 2, 3, 4}, {1 << 32, 1 << 32, -1 << 31, -1 << 63}, {1 << 31, 0, -1, 0}} {
		s, _ := checkRun(t, f, r, asked{args: args, fuel: 100})
		if s.End != api.EndDone || s.Out[1] != args[1] || s.Out[3] != args[3] {
			t.Errorf("%v: %+v", args, s)
		}
	}
}

// Entries, args, inputs and fuels that are wrong: both files answer the same error.
func TestI2TheSameErrors(t *testing.T) {
	f := file(taking(types(intType, longType), comeBack), taking(types(ref(0)), comeBack), method(comeBack))
	r := made(t, f)
	much := make([]int64, api.MaxInput+1)
	for _, x := range []struct {
		a    asked
		want api.Errno
	}{
		{asked{args: numbers(1, 2), fuel: 5}, api.OK},
		{asked{entry: 2, fuel: 5}, api.OK},
		{asked{entry: 2, input: much[1:], fuel: 5}, api.OK},
		{asked{entry: 3, fuel: 5}, api.ErrRange},
		{asked{entry: -1, input: much}, api.ErrRange},
		{asked{entry: 2, fuel: -2}, api.ErrRange},
		{asked{entry: 2, fuel: -1 << 40, input: much}, api.ErrRange},
		{asked{entry: 0, args: numbers(1), fuel: -3}, api.ErrRange},
		{asked{entry: 2, input: much}, api.ErrSize},
		{asked{entry: 0, input: much, args: numbers(1)}, api.ErrSize},
		{asked{entry: 0, args: numbers(1)}, api.ErrKind},
		{asked{entry: 0, args: numbers(1, 2, 3)}, api.ErrKind},
		{asked{entry: 0}, api.ErrKind},
		{asked{entry: 1, args: numbers(1)}, api.ErrKind},
		{asked{entry: 1}, api.ErrKind},
		{asked{entry: 2, args: numbers(0)}, api.ErrKind},
	} {
		if _, e := checkRun(t, f, r, x.a); e != x.want {
			t.Errorf("error %d, want %d: %+v", e, x.want, x.a)
		}
	}
}
