package tidy_test

import (
	"slices"
	"testing"

	"crosswalk/api"
	"crosswalk/rcheck"
	"crosswalk/rrun"
	"crosswalk/tidy"
)

var (
	intType  = api.Type{Kind: api.KInt}
	longType = api.Type{Kind: api.KLong}
)

func ref(class int) api.Type {
	return api.Type{Kind: api.KRef, Class: class}
}

func types(l ...api.Type) []api.Type {
	return l
}

// Classes of the tests: lower and beside stand below upper, and lowest below lower; other stands beside them all.
const (
	upper  = 4
	lower  = 5
	lowest = 6
	other  = 7
	beside = 8
)

func classes() []api.Class {
	return []api.Class{
		{Super: -1},
		{Super: 0},
		{Super: 0},
		{Super: 0},
		{Super: 0, Fields: types(intType, longType, ref(upper))},
		{Super: upper, Fields: types(longType, ref(other), intType)},
		{Super: lower},
		{Super: 0, Fields: types(intType)},
		{Super: upper},
	}
}

// ins has A, B and C in this order.
func ins(op int, fields ...int) api.Ins {
	var all [3]int
	copy(all[:], fields)
	return api.Ins{Op: op, A: all[0], B: all[1], C: all[2]}
}

// insN has N ahead of the others.
func insN(op int, n int64, fields ...int) api.Ins {
	i := ins(op, fields...)
	i.N = n
	return i
}

func setInt(a int, n int64) api.Ins     { return insN(api.RInt, n, a) }
func setLong(a int, n int64) api.Ins    { return insN(api.RLong, n, a) }
func setNull(a int) api.Ins             { return ins(api.RNull, a) }
func setNew(a, class int) api.Ins       { return ins(api.RNew, a, class) }
func move(a, b, kind int) api.Ins       { return ins(api.RMove, a, b, kind) }
func stay(a, kind int) api.Ins          { return move(a, a, kind) }
func stayInt(a int) api.Ins             { return stay(a, api.KInt) }
func stayRef(a int) api.Ins             { return stay(a, api.KRef) }
func emit(a, kind int) api.Ins          { return ins(api.REmit, a, kind) }
func emitInt(a int) api.Ins             { return emit(a, api.KInt) }
func emitLong(a int) api.Ins            { return emit(a, api.KLong) }
func intOp(op, a, b, c int) api.Ins     { return insN(api.RIntOp, int64(op), a, b, c) }
func longOp(op, a, b, c int) api.Ins    { return insN(api.RLongOp, int64(op), a, b, c) }
func widen(a, b int) api.Ins            { return ins(api.RWiden, a, b) }
func narrow(a, b int) api.Ins           { return ins(api.RNarrow, a, b) }
func compare(a, b, c int) api.Ins       { return ins(api.RCmp, a, b, c) }
func get(a, b, class, n int) api.Ins    { return insN(api.RGet, int64(n), a, b, class) }
func put(a, b, class, n int) api.Ins    { return insN(api.RPut, int64(n), a, b, class) }
func is(a, b, class int) api.Ins        { return ins(api.RIs, a, b, class) }
func cast(a, class int) api.Ins         { return ins(api.RCast, a, class) }
func result(a, kind int) api.Ins        { return ins(api.RResult, a, kind) }
func giveBack(a int) api.Ins            { return ins(api.RReturn, a) }
func throwIt(a int) api.Ins             { return ins(api.RThrow, a) }
func caught(a int) api.Ins              { return ins(api.RCaught, a) }
func comeIn(a int) api.Ins              { return ins(api.RIn, a) }
func jump(to int) api.Ins               { return ins(api.RGoto, to) }
func jumpIf(to, cond, c int) api.Ins    { return ins(api.RIf, to, cond, c) }
func jumpIfNull(to, c int) api.Ins      { return ins(api.RIfNull, to, 0, c) }
func call(to int, args ...int) api.Ins  { return api.Ins{Op: api.RCall, A: to, Args: args} }
func over(f, t, at, c int) api.Handler  { return api.Handler{From: f, To: t, At: at, Class: c} }
func code(l ...api.Ins) []api.Ins       { return l }
func join(lists ...[]api.Ins) []api.Ins { return slices.Concat(lists...) }
func numbers(l ...int64) []int64        { return l }

var comeBack = ins(api.RReturn)

func times(n int, l ...api.Ins) []api.Ins {
	return slices.Repeat(l, n)
}

func method(l ...api.Ins) api.Method {
	return api.Method{Regs: 40, Code: l}
}

func giving(t api.Type, l ...api.Ins) api.Method {
	m := method(l...)
	m.Ret = t
	return m
}

func taking(types []api.Type, l ...api.Ins) api.Method {
	m := method(l...)
	m.Params = types
	return m
}

// sized has just so many registers.
func sized(m api.Method, regs int) api.Method {
	m.Regs = regs
	return m
}

func handled(m api.Method, handlers ...api.Handler) api.Method {
	m.Handlers = handlers
	return m
}

func file(methods ...api.Method) api.File {
	return api.File{Classes: classes(), Methods: methods}
}

// made answers what is made of a file that is checked, and looks whether that is as K1 and K2 say.
func made(t *testing.T, f api.File) api.File {
	t.Helper()
	r, x := tidy.Make(f)
	if x != (api.Fault{}) {
		t.Fatalf("fault %+v of %+v", x, f.Methods)
	}
	if !slices.EqualFunc(r.Classes, f.Classes, sameClass) || !slices.EqualFunc(r.Methods, f.Methods, noMore) {
		t.Fatalf("other classes, or other methods, or more: %+v\nof %+v", r, f)
	}
	states, x := rcheck.States(r)
	if x != (api.Fault{}) {
		t.Fatalf("what is made has the fault %+v: %+v\nof %+v", x, r.Methods, f.Methods)
	}
	for k, m := range r.Methods {
		for at, i := range m.Code {
			if states[k][at] == nil {
				t.Fatalf("nothing leads to %d of %+v\nof %+v", at, m, f.Methods)
			}
			if i.Op == api.RMove && i.A == i.B {
				t.Fatalf("%d of %+v moves nothing\nof %+v", at, m, f.Methods)
			}
		}
	}
	return r
}

func sameClass(c, d api.Class) bool {
	return c.Super == d.Super && slices.Equal(c.Fields, d.Fields)
}

// noMore answers whether a method m, made of n, has the head of n, and no more instructions and handlers.
func noMore(m, n api.Method) bool {
	return m.Ret == n.Ret && slices.Equal(m.Params, n.Params) && m.Regs == n.Regs && m.Stack == 0 && m.Locals == 0 &&
		len(m.Code) <= len(n.Code) && len(m.Handlers) <= len(n.Handlers)
}

func sameIns(i, j api.Ins) bool {
	return i.Op == j.Op && i.A == j.A && i.B == j.B && i.C == j.C && i.N == j.N && slices.Equal(i.Args, j.Args)
}

func sameMethod(m, n api.Method) bool {
	return noMore(m, n) && slices.EqualFunc(m.Code, n.Code, sameIns) && slices.Equal(m.Handlers, n.Handlers)
}

// asked is what a run is asked for.
type asked struct {
	entry       int
	args, input []int64
	fuel        int
}

// checkRun looks whether a file r, made of f, is run as K3 says, and answers what the run of f shows.
func checkRun(t *testing.T, f, r api.File, a asked) (api.Shown, api.Errno) {
	t.Helper()
	want, e := rrun.Run(f, a.entry, a.args, a.input, a.fuel)
	got, x := rrun.Run(r, a.entry, a.args, a.input, a.fuel)
	if x != e {
		t.Fatalf("error %d, want %d: %+v of %+v", x, e, a, f.Methods)
	}
	if !shownAlike(got, want) {
		t.Fatalf("got %+v, want %+v: %+v\n%+v\nof %+v", got, want, a, r.Methods, f.Methods)
	}
	return want, e
}

func shownAlike(got, want api.Shown) bool {
	if want.End == api.EndFuel {
		return len(got.Out) >= len(want.Out) && slices.Equal(got.Out[:len(want.Out)], want.Out)
	}
	return got.End == want.End && got.Value == want.Value && got.Class == want.Class && got.Used == want.Used &&
		slices.Equal(got.Out, want.Out)
}

// manySteps is fuel for all runs of the tests that end by themselves, but for those of the most fuel.
const manySteps = 5000

// followMade runs a file and what was made of it, with much fuel and with each fuel that a small run ends at, and answers what it shows.
func followMade(t *testing.T, f, r api.File, a asked) api.Shown {
	t.Helper()
	a.fuel = manySteps
	whole, e := checkRun(t, f, r, a)
	if e != api.OK {
		t.Fatalf("error %d: %+v of %+v", e, a, f.Methods)
	}
	for n := range min(whole.Steps, 120) + 2 {
		a.fuel = n
		checkRun(t, f, r, a)
	}
	return whole
}

func follow(t *testing.T, f api.File, a asked) api.Shown {
	t.Helper()
	return followMade(t, f, made(t, f), a)
}

// checkEnd follows a run that must end so.
func checkEnd(t *testing.T, want int, methods ...api.Method) api.Shown {
	t.Helper()
	s := follow(t, file(methods...), asked{})
	if s.End != want {
		t.Errorf("end %d, want %d: %+v", s.End, want, methods)
	}
	return s
}

// checkOut follows a run that must come back, and let this come out.
func checkOut(t *testing.T, want []int64, methods ...api.Method) {
	t.Helper()
	if s := checkEnd(t, api.EndDone, methods...); !slices.Equal(s.Out, want) {
		t.Errorf("out %v, want %v: %+v", s.Out, want, methods)
	}
}

// checkArg follows a run of the first method with one argument, which must come back, and let this come out.
func checkArg(t *testing.T, f api.File, arg int64, want ...int64) {
	t.Helper()
	if s := follow(t, f, asked{args: numbers(arg)}); !shownAlike(s, api.Shown{End: api.EndDone, Out: want}) {
		t.Errorf("%d: %+v, want %v: %+v", arg, s, want, f.Methods)
	}
}

// checkLeft looks whether just this is left of the first method, and follows the runs that begin with it, with several args.
func checkLeft(t *testing.T, want api.Method, methods ...api.Method) {
	t.Helper()
	f := file(methods...)
	r := made(t, f)
	if got := r.Methods[0]; !slices.EqualFunc(got.Code, want.Code, sameIns) || !slices.Equal(got.Handlers, want.Handlers) {
		t.Errorf("left: %+v %+v\nwant: %+v %+v\nof %+v", got.Code, got.Handlers, want.Code, want.Handlers, methods[0])
	}
	if slices.ContainsFunc(methods[0].Params, isRef) {
		checkRun(t, f, r, asked{args: make([]int64, len(methods[0].Params)), fuel: 5})
		return
	}
	followMade(t, f, r, asked{args: make([]int64, len(methods[0].Params)), input: numbers(3, 2, 0)})
	if len(methods[0].Params) == 0 {
		return
	}
	for _, n := range numbers(1, -1, 3) {
		followMade(t, f, r, asked{args: slices.Repeat(numbers(n), len(methods[0].Params)), input: numbers(n)})
	}
}

func isRef(t api.Type) bool {
	return t.Kind == api.KRef
}

// checkStays looks whether all of the first method is left.
func checkStays(t *testing.T, methods ...api.Method) {
	t.Helper()
	checkLeft(t, methods[0], methods...)
}
