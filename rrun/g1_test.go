package rrun_test

import (
	"math"
	"testing"

	"crosswalk/api"
	"crosswalk/rrun"
	"crosswalk/sform"
)

// asked is one call of Run.
type asked struct {
	file        api.File
	entry       int
	args, input []int64
	fuel        int
}

// well asks for nothing that is refused: its second method takes an int and a long.
func well() asked {
	return asked{
		file:  file(method(comeBack), taking(types(intType, longType), comeBack), taking(types(intType, ref(0)), comeBack)),
		entry: 1,
		args:  []int64{1, 2},
		fuel:  10,
	}
}

func checkAsked(t *testing.T, want api.Errno, a asked) {
	t.Helper()
	s, e := rrun.Run(a.file, a.entry, a.args, a.input, a.fuel)
	if e != want {
		t.Errorf("error %d, want %d: entry %d, args %v, %d numbers of input, fuel %d", e, want, a.entry, a.args, len(a.input), a.fuel)
	}
	if e != api.OK {
		checkShown(t, s, api.Shown{})
	}
}

// wrongs are the ways of being refused, in the order in which they are told.
func wrongs() []func(a *asked) api.Errno {
	return []func(a *asked) api.Errno{
		func(a *asked) api.Errno { a.file.Classes = nil; return api.ErrForm },
		func(a *asked) api.Errno { a.fuel = -1; return api.ErrRange },
		func(a *asked) api.Errno { a.input = make([]int64, api.MaxInput+1); return api.ErrSize },
		func(a *asked) api.Errno { a.args = nil; return api.ErrKind },
	}
}

func TestG1TheFirstErrorIsTold(t *testing.T) {
	checkAsked(t, api.OK, well())
	for some := 1; some < 1<<4; some++ {
		a := well()
		first := api.OK
		for k, wrong := range wrongs() {
			if some>>k&1 == 0 {
				continue
			}
			if e := wrong(&a); first == api.OK {
				first = e
			}
		}
		checkAsked(t, first, a)
	}
}

func TestG1EntryThatIsNoneGoesAheadOfTheRest(t *testing.T) {
	a := well()
	a.entry = 3
	a.args = nil
	a.input = make([]int64, api.MaxInput+1)
	checkAsked(t, api.ErrRange, a)
	a.fuel = -1
	checkAsked(t, api.ErrRange, a)
	a.file.Methods[0].Code = nil
	checkAsked(t, api.ErrForm, a)
	checkAsked(t, api.ErrForm, asked{})
}

func TestG1FilesThatMayNotBe(t *testing.T) {
	for _, change := range []func(f *api.File){
		func(f *api.File) { f.Methods = nil },
		func(f *api.File) { f.Classes = f.Classes[:3] },
		func(f *api.File) { f.Classes[0].Super = 0 },
		func(f *api.File) { f.Methods[1].Regs = 2 },
		func(f *api.File) { f.Methods[1].Regs = api.MaxRegs + 1 },
		func(f *api.File) { f.Methods[0].Regs = 0 },
		func(f *api.File) { f.Methods[2].Code = code(ins(api.RIn + 1)) },
		func(f *api.File) { f.Methods[2].Code = code(ins(0)) },
		func(f *api.File) { f.Methods[2].Code = code(comeBack, giveBack(1)) },
		func(f *api.File) { f.Methods[0].Code = code(jump(1)) },
		func(f *api.File) { f.Methods[0].Code = code(call(3)) },
		func(f *api.File) { f.Methods[0].Code = code(call(1, 0)) },
		func(f *api.File) { f.Methods[0].Code = code(call(1, 0, api.MaxRegs-1)) },
		func(f *api.File) { f.Methods[0].Code = code(get(0, 1, upper, 3)) },
		func(f *api.File) { f.Methods[0].Code = code(insN(api.RGet, 1<<32, 0, 1, upper)) },
		func(f *api.File) { f.Methods[0].Code = code(setInt(api.MaxRegs, 0)) },
		func(f *api.File) { f.Methods[0].Code = code(setLong(api.MaxRegs-1, 0)) },
		func(f *api.File) { f.Methods[0].Code = code(setInt(0, 1<<31)) },
		func(f *api.File) { f.Methods[0].Handlers = []api.Handler{{To: 1, At: 1}} },
	} {
		a := well()
		change(&a.file)
		checkAsked(t, api.ErrForm, a)
	}
}

func TestG1FilesOnAStack(t *testing.T) {
	onStack := file(api.Method{Stack: 2, Locals: 1, Code: code(insN(api.SInt, 1), ins(api.SReturn))})
	if !sform.May(onStack) {
		t.Fatal("this file may be one on a stack")
	}
	checkAsked(t, api.ErrForm, asked{file: onStack, fuel: 9})
	for _, change := range []func(m *api.Method){
		func(m *api.Method) { m.Stack = 1 },
		func(m *api.Method) { m.Locals = 1 },
		func(m *api.Method) { m.Stack, m.Locals, m.Regs = 4, 4, 0 },
	} {
		a := well()
		change(&a.file.Methods[2])
		checkAsked(t, api.ErrForm, a)
	}
}

func TestG1Entry(t *testing.T) {
	for _, entry := range []int{math.MinInt, -1 << 32, -1, 3, 4, 1 << 32, math.MaxInt} {
		a := well()
		a.entry = entry
		checkAsked(t, api.ErrRange, a)
	}
	telling := func(n int64) api.Method { return method(setInt(0, n), emitInt(0), comeBack) }
	f := file(telling(10), telling(11), telling(12))
	for entry := range 3 {
		s, e := rrun.Run(f, entry, nil, nil, 10)
		if e != api.OK {
			t.Errorf("entry %d: error %d", entry, e)
		}
		checkShown(t, s, api.Shown{End: api.EndDone, Out: []int64{10 + int64(entry)}, Steps: 3})
	}
}

func TestG1FuelBounds(t *testing.T) {
	for _, fuel := range []int{math.MinInt, -1 << 32, -1, api.MaxFuel + 1, 1 << 32, math.MaxInt} {
		a := well()
		a.fuel = fuel
		checkAsked(t, api.ErrRange, a)
	}
	for _, fuel := range []int{0, 1, api.MaxFuel - 1, api.MaxFuel} {
		a := well()
		a.fuel = fuel
		checkAsked(t, api.OK, a)
		checkShown(t, runFile(t, file(method(jump(0))), nil, nil, fuel), api.Shown{End: api.EndFuel, Steps: fuel})
	}
}

func TestG1InputBounds(t *testing.T) {
	for _, n := range []int{0, 1, api.MaxInput - 1, api.MaxInput} {
		a := well()
		a.input = make([]int64, n)
		checkAsked(t, api.OK, a)
	}
	for _, n := range []int{api.MaxInput + 1, api.MaxInput + 2, 100000} {
		a := well()
		a.input = make([]int64, n)
		checkAsked(t, api.ErrSize, a)
	}
}

func TestG1AllOfTheGreatestInputComesIn(t *testing.T) {
	input := make([]int64, api.MaxInput)
	for k := range input {
		input[k] = int64(k) - 500
	}
	f := file(method(comeIn(3), emitLong(3), jump(0)))
	want := api.Shown{End: api.EndInput, Out: input, Used: api.MaxInput, Steps: 3*api.MaxInput + 1}
	checkShown(t, runFile(t, f, nil, input, api.MaxFuel), want)
}

func TestG1TheGreatestMethod(t *testing.T) {
	m := method(times(api.MaxRegCode, setInt(0, 1))...)
	checkShown(t, run(t, m), api.Shown{End: api.EndStuck, Steps: api.MaxRegCode + 1})
	m.Code[api.MaxRegCode-1] = comeBack
	checkShown(t, run(t, m), api.Shown{End: api.EndDone, Steps: api.MaxRegCode})
	m.Code = append(m.Code, comeBack)
	checkAsked(t, api.ErrForm, asked{file: file(m), fuel: 9})
}

func TestG1HowManyArgs(t *testing.T) {
	for n := range 7 {
		a := well()
		a.args = make([]int64, n)
		want := api.ErrKind
		if n == 2 {
			want = api.OK
		}
		checkAsked(t, want, a)
		a.entry = 0
		want = api.ErrKind
		if n == 0 {
			want = api.OK
		}
		checkAsked(t, want, a)
	}
}

func TestG1NoArgIsOfKRef(t *testing.T) {
	for n := range 4 {
		a := well()
		a.entry = 2
		a.args = make([]int64, n)
		checkAsked(t, api.ErrKind, a)
	}
	a := well()
	a.file.Methods[1].Params = types(ref(0), longType)
	checkAsked(t, api.ErrKind, a)
	a.file.Methods[1].Params = types(ref(upper))
	a.args = []int64{0}
	checkAsked(t, api.ErrKind, a)
}

func TestG1ArgsAreTheParams(t *testing.T) {
	m := taking(types(longType, intType, longType, intType),
		emitLong(0), emitInt(2), emitLong(3), emitInt(5), comeBack)
	m.Regs = 6
	for _, l := range [][2][]int64{
		{{1, 2, 3, 4}, {1, 2, 3, 4}},
		{{math.MinInt64, math.MinInt32, math.MaxInt64, math.MaxInt32}, {math.MinInt64, math.MinInt32, math.MaxInt64, math.MaxInt32}},
		{{1 << 31, 1 << 31, 1 << 32, 1<<32 + 7}, {1 << 31, math.MinInt32, 1 << 32, 7}},
		{{-1 << 40, math.MinInt32 - 1, -1, math.MaxInt64}, {-1 << 40, math.MaxInt32, -1, -1}},
	} {
		got := runFile(t, file(m), l[0], nil, 100)
		checkShown(t, got, api.Shown{End: api.EndDone, Out: l[1], Steps: 5})
	}
}

func TestG1EachInstructionIsAStep(t *testing.T) {
	m := giving(intType,
		setInt(0, 3), setInt(1, -1),
		emitInt(0), call(1),
		intOp(api.OpAdd, 0, 0, 1), jumpIf(2, api.CondAbove, 0),
		setInt(0, 7), giveBack(0))
	f := file(m, method(comeIn(0), emitLong(0), comeBack))
	input := []int64{30, 20, 10}
	all := []int64{3, 30, 2, 20, 1, 10}
	whole := 2 + 3*(4+3) + 2
	checkShown(t, runFile(t, f, nil, input, whole), api.Shown{End: api.EndDone, Value: 7, Out: all, Used: 3, Steps: whole})
	checkShown(t, runFile(t, f, nil, input, whole+1), api.Shown{End: api.EndDone, Value: 7, Out: all, Used: 3, Steps: whole})
	// The steps that let something out, or take something in, in this order.
	outs := []int{3, 6, 10, 13, 17, 20}
	ins := []int{5, 12, 19}
	for fuel := range whole {
		want := api.Shown{End: api.EndFuel, Out: all[:upTo(outs, fuel)], Used: upTo(ins, fuel), Steps: fuel}
		checkShown(t, runFile(t, f, nil, input, fuel), want)
	}
}

func upTo(steps []int, fuel int) int {
	n := 0
	for _, s := range steps {
		if s <= fuel {
			n++
		}
	}
	return n
}

func TestG1ThatNoneIsLeftIsAStep(t *testing.T) {
	f := file(method(setInt(0, 1), emitInt(0)))
	for fuel := range 6 {
		want := api.Shown{End: api.EndFuel, Steps: fuel}
		if fuel >= 2 {
			want.Out = []int64{1}
		}
		if fuel >= 3 {
			want.End, want.Steps = api.EndStuck, 3
		}
		checkShown(t, runFile(t, f, nil, nil, fuel), want)
	}
}

func TestG1TheLastStepOfTheFuelMayEndTheRun(t *testing.T) {
	for _, x := range []struct {
		m    api.Method
		want api.Shown
	}{
		{method(move(1, 0, api.KInt)), api.Shown{End: api.EndStuck}},
		{method(comeBack), api.Shown{End: api.EndDone}},
		{method(comeIn(0)), api.Shown{End: api.EndInput}},
		{method(setNull(0), throwIt(0)), api.Shown{End: api.EndThrown, Class: api.ClassNull}},
		{method(times(api.MaxObjects+1, setNew(0, 0))...), api.Shown{End: api.EndFull}},
		{method(call(0)), api.Shown{End: api.EndDeep}},
	} {
		steps := run(t, x.m).Steps
		x.want.Steps = steps
		checkShown(t, runFile(t, file(x.m), nil, nil, steps), x.want)
		checkShown(t, runFile(t, file(x.m), nil, nil, steps-1), api.Shown{End: api.EndFuel, Steps: steps - 1})
	}
}

func TestG1TheValueShown(t *testing.T) {
	for _, n := range []int64{0, 1, -1, math.MaxInt32, math.MinInt32} {
		checkShown(t, run(t, giving(intType, setInt(4, n), giveBack(4))), api.Shown{End: api.EndDone, Value: n, Steps: 2})
	}
	for _, n := range []int64{0, 1, -1, 1 << 32, math.MaxInt64, math.MinInt64} {
		checkShown(t, run(t, giving(longType, setLong(88, n), giveBack(88))), api.Shown{End: api.EndDone, Value: n, Steps: 2})
	}
	checkShown(t, run(t, method(setInt(0, 5), comeBack)), api.Shown{End: api.EndDone, Steps: 2})
	checkShown(t, run(t, giving(ref(0), setNull(1), giveBack(1))), api.Shown{End: api.EndDone, Steps: 2})
	checkShown(t, run(t, giving(ref(upper), setNew(1, 0), setNew(2, lower), giveBack(2))), api.Shown{End: api.EndDone, Steps: 3})
	// What a method that was called gave is not the entry's.
	checkShown(t, run(t, method(call(1), result(0, api.KInt), comeBack), giving(intType, setInt(0, 8), giveBack(0))), api.Shown{End: api.EndDone, Steps: 5})
}

func TestG1TheClassShown(t *testing.T) {
	for class := range classes() {
		thrower := method(setNew(0, class), throwIt(0))
		checkShown(t, run(t, thrower), api.Shown{End: api.EndThrown, Class: class, Steps: 2})
		checkShown(t, run(t, method(call(1), comeBack), thrower), api.Shown{End: api.EndThrown, Class: class, Steps: 3})
	}
}

// What came out, what was taken and the steps are shown whichever way the run ends, from within a call, too.
func TestG1WhatIsShownOfEachEnd(t *testing.T) {
	first := code(comeIn(0), emitLong(0), comeIn(0), setInt(0, 77), emitInt(0))
	for _, x := range []struct {
		l    []api.Ins
		fuel int
		want api.Shown
	}{
		{code(comeBack), 99, api.Shown{End: api.EndDone, Steps: 6}},
		{code(setNew(0, other), throwIt(0)), 99, api.Shown{End: api.EndThrown, Class: other, Steps: 7}},
		{code(comeIn(0), comeIn(0)), 99, api.Shown{End: api.EndInput, Used: 1, Steps: 7}},
		{times(api.MaxObjects+1, setNew(0, 0)), 999, api.Shown{End: api.EndFull, Steps: 6 + api.MaxObjects}},
		{code(emitLong(0)), 99, api.Shown{End: api.EndStuck, Steps: 6}},
		{code(jump(5)), 99, api.Shown{End: api.EndFuel, Steps: 99}},
	} {
		x.want.Out = []int64{-4, 77}
		x.want.Used += 2
		m := method(join(first, x.l)...)
		input := []int64{-4, 5, 6}
		checkShown(t, runFile(t, file(m), nil, input, x.fuel), x.want)
		switch x.want.End {
		case api.EndFuel:
			// One step more is one of the fuel less.
		case api.EndDone:
			x.want.Steps += 2
		default:
			x.want.Steps++
		}
		caller := method(call(1), comeBack)
		checkShown(t, runFile(t, file(caller, m), nil, input, x.fuel), x.want)
	}
	deep := method(join(first, code(call(1)))...)
	s := runFile(t, file(deep, method(call(1))), nil, []int64{-4, 5, 6}, 99)
	checkShown(t, s, api.Shown{End: api.EndDeep, Out: []int64{-4, 77}, Used: 2, Steps: 5 + api.MaxCalls})
}
