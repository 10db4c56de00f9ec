package tostack_test

import (
	"slices"
	"testing"

	"crosswalk/api"
	"crosswalk/rrun"
	"crosswalk/scheck"
	"crosswalk/srun"
	"crosswalk/tostack"
)

var (
	intType  = api.Type{Kind: api.KInt}
	longType = api.Type{Kind: api.KLong}
)

func ref(class int) api.Type {
	return api.Type{Kind: api.KRef, Class: class}
}

func types(l ...api.Type) []api.Type {
	return l
}

// Classes of the tests: lower and beside stand below upper, and lowest below lower; other stands beside them all.
const (
	upper  = 4
	lower  = 5
	lowest = 6
	other  = 7
	beside = 8
)

func classes() []api.Class {
	return []api.Class{
		{Super: -1},
		{Super: 0},
		{Super: 0},
		{Super: 0},
		{Super: 0, Fields: types(intType, longType, ref(upper))},
		{Super: upper, Fields: types(longType, ref(other), intType)},
		{Super: lower},
		{Super: 0, Fields: types(intType)},
		{Super: upper},
	}
}

// ins has A, B and C in this order.
func ins(op int, fields ...int) api.Ins {
	var all [3]int
	copy(all[:], fields)
	return api.Ins{Op: op, A: all[0], B: all[1], C: all[2]}
}

// insN has N ahead of the others.
func insN(op int, n int64, fields ...int) api.Ins {
	i := ins(op, fields...)
	i.N = n
	return i
}

func setInt(a int, n int64) api.Ins     { return insN(api.RInt, n, a) }
func setLong(a int, n int64) api.Ins    { return insN(api.RLong, n, a) }
func setNull(a int) api.Ins             { return ins(api.RNull, a) }
func setNew(a, class int) api.Ins       { return ins(api.RNew, a, class) }
func move(a, b, kind int) api.Ins       { return ins(api.RMove, a, b, kind) }
func emit(a, kind int) api.Ins          { return ins(api.REmit, a, kind) }
func emitInt(a int) api.Ins             { return emit(a, api.KInt) }
func emitLong(a int) api.Ins            { return emit(a, api.KLong) }
func intOp(op, a, b, c int) api.Ins     { return insN(api.RIntOp, int64(op), a, b, c) }
func longOp(op, a, b, c int) api.Ins    { return insN(api.RLongOp, int64(op), a, b, c) }
func widen(a, b int) api.Ins            { return ins(api.RWiden, a, b) }
func narrow(a, b int) api.Ins           { return ins(api.RNarrow, a, b) }
func compare(a, b, c int) api.Ins       { return ins(api.RCmp, a, b, c) }
func get(a, b, class, n int) api.Ins    { return insN(api.RGet, int64(n), a, b, class) }
func put(a, b, class, n int) api.Ins    { return insN(api.RPut, int64(n), a, b, class) }
func is(a, b, class int) api.Ins        { return ins(api.RIs, a, b, class) }
func cast(a, class int) api.Ins         { return ins(api.RCast, a, class) }
func result(a, kind int) api.Ins        { return ins(api.RResult, a, kind) }
func giveBack(a int) api.Ins            { return ins(api.RReturn, a) }
func throwIt(a int) api.Ins             { return ins(api.RThrow, a) }
func caught(a int) api.Ins              { return ins(api.RCaught, a) }
func comeIn(a int) api.Ins              { return ins(api.RIn, a) }
func jump(to int) api.Ins               { return ins(api.RGoto, to) }
func jumpIf(to, cond, c int) api.Ins    { return ins(api.RIf, to, cond, c) }
func jumpIfNull(to, c int) api.Ins      { return ins(api.RIfNull, to, 0, c) }
func call(to int, args ...int) api.Ins  { return api.Ins{Op: api.RCall, A: to, Args: args} }
func over(f, t, at, c int) api.Handler  { return api.Handler{From: f, To: t, At: at, Class: c} }
func code(l ...api.Ins) []api.Ins       { return l }
func join(lists ...[]api.Ins) []api.Ins { return slices.Concat(lists...) }

var comeBack = ins(api.RReturn)

func times(n int, l ...api.Ins) []api.Ins {
	return slices.Repeat(l, n)
}

// method has as many registers as always have room on a stack.
func method(l ...api.Ins) api.Method {
	return api.Method{Regs: api.MaxLocals, Code: l}
}

func giving(t api.Type, l ...api.Ins) api.Method {
	m := method(l...)
	m.Ret = t
	return m
}

func taking(types []api.Type, l ...api.Ins) api.Method {
	m := method(l...)
	m.Params = types
	return m
}

// sized has just so many registers.
func sized(m api.Method, regs int) api.Method {
	m.Regs = regs
	return m
}

func handled(m api.Method, handlers ...api.Handler) api.Method {
	m.Handlers = handlers
	return m
}

func file(methods ...api.Method) api.File {
	return api.File{Classes: classes(), Methods: methods}
}

// mostSteps is the greatest fuel of which 8 n + 8 is not above MaxFuel.
const mostSteps = (api.MaxFuel - 8) / 8

// tooGreat answers the number of the first method that need not have room on a stack; -1, if there is none.
func tooGreat(f api.File) int {
	for k, m := range f.Methods {
		if m.Regs > 60 || len(m.Code) > 40 {
			return k
		}
	}
	return -1
}

// madeIfFound answers what is made of a file that is checked, and looks whether that is as J1 says; false, if it is too great.
func madeIfFound(t *testing.T, f api.File) (api.File, bool) {
	t.Helper()
	r, x := tostack.Make(f)
	if k := tooGreat(f); k >= 0 && x == (api.Fault{Code: api.ErrSize, Method: k}) {
		if len(r.Classes) > 0 || len(r.Methods) > 0 {
			t.Fatalf("made, in spite of %+v: %+v", x, r)
		}
		return r, false
	}
	if x != (api.Fault{}) {
		t.Fatalf("fault %+v of %+v", x, f.Methods)
	}
	if x := scheck.Check(r); x != (api.Fault{}) {
		t.Fatalf("what is made has the fault %+v: %+v\nof %+v", x, r.Methods, f.Methods)
	}
	if !slices.EqualFunc(r.Classes, f.Classes, sameClass) || !slices.EqualFunc(r.Methods, f.Methods, sameHead) {
		t.Fatalf("other classes, or other methods: %+v\nof %+v", r, f)
	}
	return r, true
}

// made is for files of which something must be found.
func made(t *testing.T, f api.File) api.File {
	t.Helper()
	r, ok := madeIfFound(t, f)
	if !ok {
		t.Fatalf("nothing was found of %+v", f.Methods)
	}
	return r
}

func sameClass(c, d api.Class) bool {
	return c.Super == d.Super && slices.Equal(c.Fields, d.Fields)
}

func sameHead(m, n api.Method) bool {
	return m.Ret == n.Ret && slices.Equal(m.Params, n.Params)
}

// asked is what a run is asked for.
type asked struct {
	entry       int
	args, input []int64
	fuel        int
}

// checkRun looks whether a file r, made of f, is run as J2 says, and answers what the run of f shows.
func checkRun(t *testing.T, f, r api.File, a asked) (api.Shown, api.Errno) {
	t.Helper()
	want, e := rrun.Run(f, a.entry, a.args, a.input, a.fuel)
	got, x := srun.Run(r, a.entry, a.args, a.input, 8*a.fuel+8)
	if x != e {
		t.Fatalf("error %d, want %d: %+v of %+v", x, e, a, f.Methods)
	}
	if !shownAlike(got, want) {
		t.Fatalf("got %+v, want %+v: %+v\n%+v\nof %+v", got, want, a, r.Methods, f.Methods)
	}
	return want, e
}

func shownAlike(got, want api.Shown) bool {
	if want.End == api.EndFuel {
		return len(got.Out) >= len(want.Out) && slices.Equal(got.Out[:len(want.Out)], want.Out)
	}
	return got.End == want.End && got.Value == want.Value && got.Class == want.Class && got.Used == want.Used &&
		slices.Equal(got.Out, want.Out)
}

// follow makes a file over, runs it with the most fuel and with each fuel that a small run ends at, and answers what it shows.
func follow(t *testing.T, f api.File, a asked) api.Shown {
	t.Helper()
	r := made(t, f)
	a.fuel = mostSteps
	whole, e := checkRun(t, f, r, a)
	if e != api.OK {
		t.Fatalf("error %d: %+v of %+v", e, a, f.Methods)
	}
	for n := range min(whole.Steps, 250) + 2 {
		a.fuel = n
		checkRun(t, f, r, a)
	}
	return whole
}

func followAll(t *testing.T, methods ...api.Method) api.Shown {
	t.Helper()
	return follow(t, file(methods...), asked{})
}

// checkEnd follows a run that must end so.
func checkEnd(t *testing.T, want int, methods ...api.Method) api.Shown {
	t.Helper()
	s := followAll(t, methods...)
	if s.End != want {
		t.Errorf("end %d, want %d: %+v", s.End, want, methods)
	}
	return s
}

// checkOut follows a run that must come back, and let this come out.
func checkOut(t *testing.T, want []int64, methods ...api.Method) {
	t.Helper()
	if s := checkEnd(t, api.EndDone, methods...); !slices.Equal(s.Out, want) {
		t.Errorf("out %v, want %v: %+v", s.Out, want, methods)
	}
}

// checkArg follows a run of the first method with one argument, which must come back, and let this come out.
func checkArg(t *testing.T, f api.File, arg int64, want ...int64) {
	t.Helper()
	if s := follow(t, f, asked{args: numbers(arg)}); !shownAlike(s, api.Shown{End: api.EndDone, Out: want}) {
		t.Errorf("%d: %+v, want %v: %+v", arg, s, want, f.Methods)
	}
}

func numbers(l ...int64) []int64 {
	return l
}
