package srun_test

import (
	"math"
	"testing"

	"crosswalk/api"
	"crosswalk/srun"
)

// asked is one call of Run.
type asked struct {
	file        api.File
	entry       int
	args, input []int64
	fuel        int
}

// well asks for nothing that is refused: its second method takes an int and a long.
func well() asked {
	return asked{
		file:  file(method(comeBack), taking([]api.Type{intType, longType}, comeBack), taking([]api.Type{intType, ref(0)}, comeBack)),
		entry: 1,
		args:  []int64{1, 2},
		fuel:  10,
	}
}

func checkAsked(t *testing.T, want api.Errno, a asked) {
	t.Helper()
	s, e := srun.Run(a.file, a.entry, a.args, a.input, a.fuel)
	if e != want {
		t.Errorf("error %d, want %d: entry %d, args %v, %d numbers of input, fuel %d", e, want, a.entry, a.args, len(a.input), a.fuel)
	}
	if e != api.OK {
		checkShown(t, s, api.Shown{})
		if len(s.Out) != 0 {
			t.Errorf("out %v beside error %d", s.Out, e)
		}
	}
}

// wrongs are the ways of being refused, in the order in which they are told.
func wrongs() []func(a *asked) api.Errno {
	return []func(a *asked) api.Errno{
		func(a *asked) api.Errno { a.file.Classes = nil; return api.ErrForm },
		func(a *asked) api.Errno { a.fuel = -1; return api.ErrRange },
		func(a *asked) api.Errno { a.input = make([]int64, api.MaxInput+1); return api.ErrSize },
		func(a *asked) api.Errno { a.args = nil; return api.ErrKind },
	}
}

func TestD1TheFirstErrorIsTold(t *testing.T) {
	checkAsked(t, api.OK, well())
	for some := 1; some < 1<<4; some++ {
		a := well()
		first := api.OK
		for k, wrong := range wrongs() {
			if some>>k&1 == 0 {
				continue
			}
			if e := wrong(&a); first == api.OK {
				first = e
			}
		}
		checkAsked(t, first, a)
	}
}

func TestD1EntryThatIsNoneGoesAheadOfTheRest(t *testing.T) {
	a := well()
	a.entry = 3
	a.args = nil
	a.input = make([]int64, api.MaxInput+1)
	checkAsked(t, api.ErrRange, a)
	a.fuel = -1
	checkAsked(t, api.ErrRange, a)
	a.file.Methods[0].Code = nil
	checkAsked(t, api.ErrForm, a)
	checkAsked(t, api.ErrForm, asked{})
}

func TestD1FilesThatMayNotBe(t *testing.T) {
	for _, change := range []func(f *api.File){
		func(f *api.File) { f.Methods = nil },
		func(f *api.File) { f.Classes = f.Classes[:3] },
		func(f *api.File) { f.Classes[0].Super = 0 },
		func(f *api.File) { f.Methods[1].Regs = 1 },
		func(f *api.File) { f.Methods[2].Code = []api.Ins{{Op: api.SIn + 1}} },
		func(f *api.File) { f.Methods[2].Code = []api.Ins{{}} },
		func(f *api.File) { f.Methods[0].Code = []api.Ins{ins(api.SGoto, 1)} },
		func(f *api.File) { f.Methods[0].Code = []api.Ins{ins(api.SCall, 3)} },
		func(f *api.File) { f.Methods[0].Code = []api.Ins{ins(api.SGet, upper, 3)} },
		func(f *api.File) { f.Methods[0].Code = []api.Ins{ins(api.SLoad, api.MaxLocals, api.KInt)} },
		func(f *api.File) { f.Methods[0].Code = []api.Ins{ins(api.SLoad, api.MaxLocals-1, api.KLong)} },
		func(f *api.File) { f.Methods[0].Handlers = []api.Handler{{To: 1, At: 1}} },
		func(f *api.File) { f.Methods[1].Locals = 2 },
	} {
		a := well()
		change(&a.file)
		checkAsked(t, api.ErrForm, a)
	}
}

func TestD1Entry(t *testing.T) {
	for _, entry := range []int{math.MinInt, -1 << 32, -1, 3, 4, 1 << 32, math.MaxInt} {
		a := well()
		a.entry = entry
		checkAsked(t, api.ErrRange, a)
	}
	f := file(method(putInt(10), emitInt, comeBack), method(putInt(11), emitInt, comeBack), method(putInt(12), emitInt, comeBack))
	for entry := range 3 {
		s, e := srun.Run(f, entry, nil, nil, 10)
		if e != api.OK {
			t.Errorf("entry %d: error %d", entry, e)
		}
		checkShown(t, s, api.Shown{End: api.EndDone, Out: []int64{10 + int64(entry)}, Steps: 3})
	}
}

func TestD1FuelBounds(t *testing.T) {
	for _, fuel := range []int{math.MinInt, -1 << 32, -1, api.MaxFuel + 1, 1 << 32, math.MaxInt} {
		a := well()
		a.fuel = fuel
		checkAsked(t, api.ErrRange, a)
	}
	for _, fuel := range []int{0, 1, api.MaxFuel - 1, api.MaxFuel} {
		a := well()
		a.fuel = fuel
		checkAsked(t, api.OK, a)
		endless := file(method(ins(api.SGoto)))
		checkShown(t, runFile(t, endless, nil, nil, fuel), api.Shown{End: api.EndFuel, Steps: fuel})
	}
}

func TestD1InputBounds(t *testing.T) {
	for _, n := range []int{0, 1, api.MaxInput - 1, api.MaxInput} {
		a := well()
		a.input = make([]int64, n)
		checkAsked(t, api.OK, a)
	}
	for _, n := range []int{api.MaxInput + 1, api.MaxInput + 2, 100000} {
		a := well()
		a.input = make([]int64, n)
		checkAsked(t, api.ErrSize, a)
	}
}

func TestD1AllOfTheGreatestInputComesIn(t *testing.T) {
	input := make([]int64, api.MaxInput)
	for k := range input {
		input[k] = int64(k) - 500
	}
	f := file(method(comeIn, emitLong, ins(api.SGoto)))
	want := api.Shown{End: api.EndInput, Out: input, Used: api.MaxInput, Steps: 3*api.MaxInput + 1}
	checkShown(t, runFile(t, f, nil, input, api.MaxFuel), want)
}

func TestD1HowManyArgs(t *testing.T) {
	for n := range 7 {
		a := well()
		a.args = make([]int64, n)
		want := api.ErrKind
		if n == 2 {
			want = api.OK
		}
		checkAsked(t, want, a)
		a.entry = 0
		want = api.ErrKind
		if n == 0 {
			want = api.OK
		}
		checkAsked(t, want, a)
	}
}

func TestD1NoArgIsOfKRef(t *testing.T) {
	for n := range 4 {
		a := well()
		a.entry = 2
		a.args = make([]int64, n)
		checkAsked(t, api.ErrKind, a)
	}
	a := well()
	a.file.Methods[1].Params = []api.Type{ref(0), longType}
	checkAsked(t, api.ErrKind, a)
	a.file.Methods[1].Params = []api.Type{ref(upper)}
	a.args = []int64{0}
	checkAsked(t, api.ErrKind, a)
}

func TestD1ArgsAreTheParams(t *testing.T) {
	m := taking([]api.Type{longType, intType, longType, intType},
		ins(api.SLoad, 0, api.KLong), emitLong,
		ins(api.SLoad, 2, api.KInt), emitInt,
		ins(api.SLoad, 3, api.KLong), emitLong,
		ins(api.SLoad, 5, api.KInt), emitInt,
		comeBack)
	m.Locals = 6
	for _, l := range [][2][]int64{
		{{1, 2, 3, 4}, {1, 2, 3, 4}},
		{{math.MinInt64, math.MinInt32, math.MaxInt64, math.MaxInt32}, {math.MinInt64, math.MinInt32, math.MaxInt64, math.MaxInt32}},
		{{1 << 31, 1 << 31, 1 << 32, 1<<32 + 7}, {1 << 31, math.MinInt32, 1 << 32, 7}},
		{{-1 << 40, math.MinInt32 - 1, -1, math.MaxInt64}, {-1 << 40, math.MaxInt32, -1, -1}},
	} {
		got := runFile(t, file(m), l[0], nil, 100)
		checkShown(t, got, api.Shown{End: api.EndDone, Out: l[1], Steps: 9})
	}
}

func TestD1EachInstructionIsAStep(t *testing.T) {
	m := giving(intType,
		putInt(3), ins(api.SStore, 0, api.KInt),
		ins(api.SLoad, 0, api.KInt), emitInt,
		ins(api.SCall, 1),
		ins(api.SLoad, 0, api.KInt), putInt(-1), ins(api.SIntOp, api.OpAdd), ins(api.SStore, 0, api.KInt),
		ins(api.SLoad, 0, api.KInt), ins(api.SIf, 2, api.CondAbove),
		putInt(7), comeBack)
	f := file(m, method(comeIn, emitLong, comeBack))
	input := []int64{30, 20, 10}
	all := []int64{3, 30, 2, 20, 1, 10}
	whole := 2 + 3*(9+3) + 2
	checkShown(t, runFile(t, f, nil, input, whole), api.Shown{End: api.EndDone, Value: 7, Out: all, Used: 3, Steps: whole})
	checkShown(t, runFile(t, f, nil, input, whole+1), api.Shown{End: api.EndDone, Value: 7, Out: all, Used: 3, Steps: whole})
	// The steps that let something out, or take something in, in this order.
	outs := []int{4, 7, 16, 19, 28, 31}
	ins := []int{6, 18, 30}
	for fuel := range whole {
		want := api.Shown{End: api.EndFuel, Out: all[:upTo(outs, fuel)], Used: upTo(ins, fuel), Steps: fuel}
		checkShown(t, runFile(t, f, nil, input, fuel), want)
	}
}

func upTo(steps []int, fuel int) int {
	n := 0
	for _, s := range steps {
		if s <= fuel {
			n++
		}
	}
	return n
}

func TestD1ThatNoneIsLeftIsAStep(t *testing.T) {
	f := file(method(putInt(1), pop))
	checkShown(t, runFile(t, f, nil, nil, 1), api.Shown{End: api.EndFuel, Steps: 1})
	checkShown(t, runFile(t, f, nil, nil, 2), api.Shown{End: api.EndFuel, Steps: 2})
	checkShown(t, runFile(t, f, nil, nil, 3), api.Shown{End: api.EndStuck, Steps: 3})
	checkShown(t, runFile(t, f, nil, nil, 4), api.Shown{End: api.EndStuck, Steps: 3})
}

func TestD1TheLastStepOfTheFuelMayEndTheRun(t *testing.T) {
	for _, x := range []struct {
		m    api.Method
		want api.Shown
	}{
		{method(pop), api.Shown{End: api.EndStuck}},
		{method(comeBack), api.Shown{End: api.EndDone}},
		{method(comeIn), api.Shown{End: api.EndInput}},
		{method(putNull, throwIt), api.Shown{End: api.EndThrown, Class: api.ClassNull}},
		{method(times(api.MaxObjects+1, ins(api.SNew), pop)...), api.Shown{End: api.EndFull}},
		{method(ins(api.SCall)), api.Shown{End: api.EndDeep}},
	} {
		steps := run(t, x.m).Steps
		x.want.Steps = steps
		checkShown(t, runFile(t, file(x.m), nil, nil, steps), x.want)
		checkShown(t, runFile(t, file(x.m), nil, nil, steps-1), api.Shown{End: api.EndFuel, Steps: steps - 1})
	}
}
