package toreg_test

import (
	"slices"
	"testing"

	"crosswalk/api"
	"crosswalk/rcheck"
	"crosswalk/rrun"
	"crosswalk/srun"
	"crosswalk/toreg"
)

var (
	intType  = api.Type{Kind: api.KInt}
	longType = api.Type{Kind: api.KLong}
)

func ref(class int) api.Type {
	return api.Type{Kind: api.KRef, Class: class}
}

func types(l ...api.Type) []api.Type {
	return l
}

// Classes of the tests: lower and beside stand below upper, and lowest below lower; other stands beside them all.
const (
	upper  = 4
	lower  = 5
	lowest = 6
	other  = 7
	beside = 8
)

func classes() []api.Class {
	return []api.Class{
		{Super: -1},
		{Super: 0},
		{Super: 0},
		{Super: 0},
		{Super: 0, Fields: types(intType, longType, ref(upper))},
		{Super: upper, Fields: types(longType, ref(other), intType)},
		{Super: lower},
		{Super: 0, Fields: types(intType)},
		{Super: upper},
	}
}

func ins(op int, fields ...int) api.Ins {
	i := api.Ins{Op: op}
	for k, n := range fields {
		switch k {
		case 0:
			i.A = n
		case 1:
			i.B = n
		}
	}
	return i
}

func putInt(n int64) api.Ins {
	return api.Ins{Op: api.SInt, N: n}
}

func putLong(n int64) api.Ins {
	return api.Ins{Op: api.SLong, N: n}
}

var (
	putNull  = ins(api.SNull)
	comeBack = ins(api.SReturn)
	throwIt  = ins(api.SThrow)
	pop      = ins(api.SPop)
	dup      = ins(api.SDup)
	comeIn   = ins(api.SIn)
	widen    = ins(api.SWiden)
	narrow   = ins(api.SNarrow)
	compare  = ins(api.SCmp)
	emitInt  = ins(api.SEmit, api.KInt)
	emitLong = ins(api.SEmit, api.KLong)
	add      = ins(api.SIntOp, api.OpAdd)
	sub      = ins(api.SIntOp, api.OpSub)
	div      = ins(api.SIntOp, api.OpDiv)
	addLong  = ins(api.SLongOp, api.OpAdd)
)

func putNew(class int) api.Ins {
	return ins(api.SNew, class)
}

func load(slot, kind int) api.Ins {
	return ins(api.SLoad, slot, kind)
}

func store(slot, kind int) api.Ins {
	return ins(api.SStore, slot, kind)
}

func jump(to int) api.Ins {
	return ins(api.SGoto, to)
}

func jumpIf(to, cond int) api.Ins {
	return ins(api.SIf, to, cond)
}

func jumpIfNull(to int) api.Ins {
	return ins(api.SIfNull, to)
}

func call(method int) api.Ins {
	return ins(api.SCall, method)
}

func isOf(class int) api.Ins {
	return ins(api.SIs, class)
}

func code(l ...api.Ins) []api.Ins {
	return l
}

func join(lists ...[]api.Ins) []api.Ins {
	var all []api.Ins
	for _, l := range lists {
		all = append(all, l...)
	}
	return all
}

func times(n int, l ...api.Ins) []api.Ins {
	var all []api.Ins
	for range n {
		all = append(all, l...)
	}
	return all
}

// method has room enough for all that the tests put.
func method(l ...api.Ins) api.Method {
	return api.Method{Stack: api.MaxStack, Locals: api.MaxLocals, Code: l}
}

func giving(t api.Type, l ...api.Ins) api.Method {
	m := method(l...)
	m.Ret = t
	return m
}

func taking(types []api.Type, l ...api.Ins) api.Method {
	m := method(l...)
	m.Params = types
	return m
}

// sized has just so many slots.
func sized(m api.Method, stack, locals int) api.Method {
	m.Stack, m.Locals = stack, locals
	return m
}

func over(from, to, at, class int) api.Handler {
	return api.Handler{From: from, To: to, At: at, Class: class}
}

func handled(m api.Method, handlers ...api.Handler) api.Method {
	m.Handlers = handlers
	return m
}

func file(methods ...api.Method) api.File {
	return api.File{Classes: classes(), Methods: methods}
}

// mostSteps is the greatest fuel of which 8 n + 8 is not above MaxFuel.
const mostSteps = (api.MaxFuel - 8) / 8

// made answers what is made of a file that is checked, and looks whether that is as I1 says.
func made(t *testing.T, f api.File) api.File {
	t.Helper()
	r, x := toreg.Make(f)
	if x != (api.Fault{}) {
		t.Fatalf("fault %+v of %+v", x, f.Methods)
	}
	if x := rcheck.Check(r); x != (api.Fault{}) {
		t.Fatalf("what is made has the fault %+v: %+v\nof %+v", x, r.Methods, f.Methods)
	}
	if !slices.EqualFunc(r.Classes, f.Classes, sameClass) || !slices.EqualFunc(r.Methods, f.Methods, sameHead) {
		t.Fatalf("other classes, or other methods: %+v\nof %+v", r, f)
	}
	return r
}

func sameClass(c, d api.Class) bool {
	return c.Super == d.Super && slices.Equal(c.Fields, d.Fields)
}

func sameHead(m, n api.Method) bool {
	return m.Ret == n.Ret && slices.Equal(m.Params, n.Params)
}

// asked is what a run is asked for.
type asked struct {
	entry       int
	args, input []int64
	fuel        int
}

// checkRun looks whether a file r, made of f, is run as I2 says, and answers what the run of f shows.
func checkRun(t *testing.T, f, r api.File, a asked) (api.Shown, api.Errno) {
	t.Helper()
	want, e := srun.Run(f, a.entry, a.args, a.input, a.fuel)
	got, x := rrun.Run(r, a.entry, a.args, a.input, 8*a.fuel+8)
	if x != e {
		t.Fatalf("error %d, want %d: %+v of %+v", x, e, a, f.Methods)
	}
	if !shownAlike(got, want) {
		t.Fatalf("got %+v, want %+v: %+v\n%+v\nof %+v", got, want, a, r.Methods, f.Methods)
	}
	return want, e
}

func shownAlike(got, want api.Shown) bool {
	if want.End == api.EndFuel {
		return len(got.Out) >= len(want.Out) && slices.Equal(got.Out[:len(want.Out)], want.Out)
	}
	return got.End == want.End && got.Value == want.Value && got.Class == want.Class && got.Used == want.Used &&
		slices.Equal(got.Out, want.Out)
}

// follow makes a file over, runs it with the most fuel and with each fuel that a small run ends at, and answers what it shows.
func follow(t *testing.T, f api.File, a asked) api.Shown {
	t.Helper()
	r := made(t, f)
	a.fuel = mostSteps
	whole, e := checkRun(t, f, r, a)
	if e != api.OK {
		t.Fatalf("error %d: %+v of %+v", e, a, f.Methods)
	}
	for n := range min(whole.Steps, 250) + 2 {
		a.fuel = n
		checkRun(t, f, r, a)
	}
	return whole
}

func followAll(t *testing.T, methods ...api.Method) api.Shown {
	t.Helper()
	return follow(t, file(methods...), asked{})
}

// checkEnd follows a run that must end so.
func checkEnd(t *testing.T, want int, methods ...api.Method) api.Shown {
	t.Helper()
	s := followAll(t, methods...)
	if s.End != want {
		t.Errorf("end %d, want %d: %+v", s.End, want, methods)
	}
	return s
}

// checkOut follows a run that must come back, and let this come out.
func checkOut(t *testing.T, want []int64, methods ...api.Method) {
	t.Helper()
	if s := checkEnd(t, api.EndDone, methods...); !slices.Equal(s.Out, want) {
		t.Errorf("out %v, want %v: %+v", s.Out, want, methods)
	}
}

func numbers(l ...int64) []int64 {
	return l
}
