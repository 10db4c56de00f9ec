package tostack_test

import (
	"slices"
	"testing"

	"crosswalk/api"
	"crosswalk/tostack"
)

// checkSize looks whether nothing is found, and that method is told.
func checkSize(t *testing.T, want int, methods ...api.Method) {
	t.Helper()
	if r, ok := madeIfFound(t, file(methods...)); ok {
		t.Fatalf("found: %+v", r.Methods)
	}
	if _, x := tostack.Make(file(methods...)); x != (api.Fault{Code: api.ErrSize, Method: want}) {
		t.Errorf("got %+v, want method %d", x, want)
	}
}

// underAll stands under as many handlers as may be, of which each goes on at the instruction, with what was caught thrown away.
func underAll(m api.Method, at int) api.Method {
	m.Handlers = nil
	for len(m.Handlers) < api.MaxHandlers {
		m.Handlers = append(m.Handlers, over(len(m.Handlers)%2, len(m.Code), at, len(m.Handlers)))
	}
	return m
}

// each answers instructions of each Op that goes on with the next one, in a method that takes a long, an int and two references of lower.
func each() []api.Ins {
	return code(
		setInt(7, 3), setLong(8, 1<<40), setNull(7), setNew(7, lowest), move(7, 2, api.KInt), move(8, 0, api.KLong), move(7, 3, api.KRef),
		intOp(api.OpAdd, 7, 2, 2), longOp(api.OpMul, 8, 0, 0), widen(8, 2), narrow(7, 0), compare(7, 0, 0), get(8, 3, lower, 0), put(0, 3, lower, 0),
		cast(3, lower), is(7, 3, upper), call(1, 0, 2, 3, 4), call(2, 0, 0, 0, 0), emitInt(2), emitLong(0), comeIn(8))
}

// eachParams are the parameters of methods with these instructions; callees are the methods that they call.
func eachParams() []api.Type {
	return types(longType, intType, ref(lower), ref(lower))
}

func callees() []api.Method {
	one := giving(longType, giveBack(0))
	one.Params = eachParams()
	two := taking(types(longType, longType, longType, longType), giveBack(4))
	two.Ret = longType
	return []api.Method{one, two}
}

// entry calls the method 3, with what eachParams says.
func entry() api.Method {
	return method(setLong(0, 7), setInt(2, 8), setNew(3, lower), setNew(4, lowest), call(3, 0, 2, 3, 4), comeBack)
}

// Just 40 instructions, all of them of one Op, under the most handlers, with the most registers that always have room: something must be found.
func TestJ1JustSoManyInstructions(t *testing.T) {
	for _, i := range each() {
		for _, at := range []int{0, 38, 39} {
			m := underAll(taking(eachParams(), join(times(39, i), code(comeBack))...), at)
			if len(m.Code) != 40 || m.Regs != api.MaxLocals {
				t.Fatalf("%d instructions, %d registers", len(m.Code), m.Regs)
			}
			f := file(append([]api.Method{entry()}, append(callees(), m)...)...)
			s := follow(t, f, asked{input: make([]int64, 200)})
			if s.End != api.EndDone {
				t.Errorf("%+v: %+v", i, s)
			}
		}
	}
}

// The same with jumps, throws and returns, of which each goes on elsewhere or nowhere.
func TestJ1JustSoManyJumps(t *testing.T) {
	all := make([]api.Ins, 40)
	for _, one := range []func(at int) api.Ins{
		func(at int) api.Ins { return jump((at + 1) % 40) },
		func(at int) api.Ins { return jumpIf((at+3)%40, api.CondZero, 1) },
		func(at int) api.Ins { return jumpIfNull((at+3)%40, 2) },
		func(at int) api.Ins { return throwIt(2) },
		func(at int) api.Ins { return giveBack(1) },
	} {
		for at := range all {
			all[at] = one(at)
		}
		all[39] = giveBack(1)
		m := giving(intType, all...)
		m.Params = types(intType, intType, ref(0))
		for h := range api.MaxHandlers {
			m.Handlers = append(m.Handlers, over(5*h, 5*h+5, (5*h+39)%40, h))
		}
		caller := method(setInt(0, 4), setInt(1, 0), setNull(2), call(1, 0, 1, 2), comeBack)
		followAll(t, caller, m)
	}
}

// All registers that always have room are read and written, as ints, as longs and as references.
func TestJ1JustSoManyRegisters(t *testing.T) {
	for from := 0; from < api.MaxLocals; from += 15 {
		var l []api.Ins
		want := numbers()
		for at := from; at < from+13; at++ {
			l = append(l, setInt(at, int64(at)))
		}
		for at := from; at < from+13; at++ {
			l = append(l, emitInt(at))
			want = append(want, int64(at))
		}
		l = append(l, setLong(from+13, 5), setLong(from+14-from/45, 6), emitLong(from+14-from/45), setNew(from, lower), is(from, from, upper), emitInt(from))
		checkOut(t, append(want, 6, 1), method(append(l, comeBack)...))
	}
	checkOut(t, numbers(9), method(setInt(59, 9), emitInt(59), comeBack))
	checkOut(t, numbers(9), method(setLong(58, 9), emitLong(58), comeBack))
}

// One instruction more, or one register more: what is found must be as it must be; if nothing is, that method is told.
func TestJ1OneMore(t *testing.T) {
	for _, i := range each() {
		for _, size := range []int{41, 80, 150, 200, 400} {
			for _, regs := range []int{api.MaxLocals, api.MaxLocals + 1, api.MaxRegs} {
				m := sized(underAll(taking(eachParams(), join(times(size-1, i), code(comeBack))...), size-1), regs)
				f := file(append([]api.Method{entry()}, append(callees(), m)...)...)
				if r, ok := madeIfFound(t, f); ok {
					checkRun(t, f, r, asked{input: make([]int64, api.MaxInput), fuel: 1000})
				}
			}
		}
	}
}

// Of methods that need not have room much is found all the same.
func TestJ1GreatButFound(t *testing.T) {
	// Ways that are short on a stack, too.
	checkOut(t, slices.Repeat(numbers(4), 99), method(join(code(setInt(0, 4)), times(99, emitInt(0)), code(comeBack))...))
	// Instructions that can't be come to, as many as may be.
	l := join(code(setInt(0, 4), jump(api.MaxRegCode-2)), times(api.MaxRegCode-4, emitLong(0)), code(emitInt(0), comeBack))
	checkOut(t, numbers(4), method(l...))
	checkOut(t, numbers(4), handled(method(l...), over(0, api.MaxRegCode, 2399, 0), over(2, 2000, 7, 0)))
	// Registers that nobody names.
	for regs := api.MaxLocals + 1; regs <= api.MaxRegs; regs++ {
		checkOut(t, numbers(7, 1<<40, 7), sized(method(setInt(regs-1, 7), emitInt(regs-1), setLong(20, 1<<40), emitLong(20), emitInt(regs-1), comeBack), regs))
	}
}

// Registers of which some are not named: pairs stay pairs, also such as overlap, and parameters stay first, also such as nobody reads.
func TestJ1RegistersThatNobodyNames(t *testing.T) {
	checkOut(t, numbers(1, 2, 3, 5), sized(method(
		setLong(10, 1), setLong(13, 2), setInt(89, 3), emitLong(10), emitLong(13), emitInt(89),
		setLong(12, 4), setLong(11, 5), emitLong(11), comeBack), api.MaxRegs))
	checkOut(t, numbers(3, 6), sized(method(setLong(80, 1), setInt(81, 3), setLong(82, 6), emitInt(81), emitLong(82), comeBack), api.MaxRegs))
	// The second half of a long stands ahead of what is written next to it, and is written over by that alone.
	checkOut(t, numbers(1, 9, 8), sized(method(setLong(70, 1), setInt(72, 9), emitLong(70), emitInt(72), setInt(71, 8), emitInt(71), comeBack), api.MaxRegs))
	m := sized(taking(types(longType, intType, ref(0), longType), emitInt(2), setInt(88, 5), emitInt(88), emitLong(4), comeBack), api.MaxRegs)
	checkOut(t, numbers(2, 5, 4), method(setLong(0, 1), setInt(2, 2), setNull(3), setLong(4, 4), call(1, 0, 2, 3, 4), comeBack), m)
	checkOut(t, nil, method(setLong(0, 1), setInt(2, 2), setNull(3), setLong(4, 4), call(1, 0, 2, 3, 4), comeBack), sized(taking(m.Params, comeBack), api.MaxRegs))
	// Registers that are named only by what can't be come to.
	l := code(setInt(61, 1), emitInt(61), comeBack)
	for at := range api.MaxRegs {
		l = append(l, setInt(at, 1))
	}
	checkOut(t, numbers(1), sized(method(l...), api.MaxRegs))
}

// As many registers are named as there may be locals, of more; with one more there is no room.
func TestJ1RegistersNamed(t *testing.T) {
	naming := func(count int) api.Method {
		m := sized(method(), api.MaxRegs)
		for k := range count {
			m.Code = append(m.Code, setInt(89-k, int64(k)))
		}
		m.Code = append(m.Code, emitInt(89), emitInt(90-count), comeBack)
		return m
	}
	checkOut(t, numbers(0, 59), naming(60))
	checkSize(t, 0, naming(61))
	checkSize(t, 0, naming(90))
	checkSize(t, 1, good(), naming(61))
}

// As many instructions as may be on a stack, and one more.
func TestJ1MostCode(t *testing.T) {
	long := func(emits int, l ...api.Ins) api.Method {
		return method(join(code(setInt(0, 4)), times(emits, emitInt(0)), l, code(comeBack))...)
	}
	r := made(t, file(long(198, jump(200))))
	if len(r.Methods[0].Code) != api.MaxCode {
		t.Fatalf("%d instructions", len(r.Methods[0].Code))
	}
	checkOut(t, slices.Repeat(numbers(4), 198), long(198))
	checkSize(t, 0, long(199))
	checkSize(t, 2, good(), good(), long(199), good())
}

// Of the greatest methods nothing is found.
func TestJ1TheGreatest(t *testing.T) {
	checkSize(t, 0, great())
	checkSize(t, 0, slices.Repeat([]api.Method{great()}, api.MaxMethods)...)
	checkSize(t, 1, good(), great())
	checkSize(t, 0, great(), good())
	checkSize(t, 7, append(slices.Repeat([]api.Method{good()}, 7), great())...)
	checkSize(t, 1, good(), great(), great())
	// The first method is told that has more registers or instructions than always have room, also where another one is in the way.
	checkSize(t, 1, good(), sized(good(), api.MaxLocals+1), great())
	checkSize(t, 0, method(join(times(40, setInt(0, 1)), code(comeBack))...), great())
	checkSize(t, 1, method(join(times(39, setInt(0, 1)), code(comeBack))...), great())
}

// Great ones and small ones side by side, that call each other.
func TestJ1GreatAndSmall(t *testing.T) {
	small := giving(intType, setInt(1, 1), intOp(api.OpAdd, 0, 0, 1), giveBack(0))
	small.Params = types(intType)
	long := sized(giving(intType, join(times(50, call(0, 0), result(0, api.KInt)), code(giveBack(0)))...), api.MaxRegs)
	long.Params = small.Params
	f := file(small, long, small)
	if s := follow(t, f, asked{entry: 1, args: numbers(7)}); s.Value != 57 {
		t.Errorf("got %+v", s)
	}
	if s := follow(t, f, asked{entry: 2, args: numbers(7)}); s.Value != 8 {
		t.Errorf("got %+v", s)
	}
}
