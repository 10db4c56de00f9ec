package rrun_test

import (
	"reflect"
	"testing"

	"crosswalk/api"
	"crosswalk/rrun"
)

var (
	voidType = api.Type{}
	intType  = api.Type{Kind: api.KInt}
	longType = api.Type{Kind: api.KLong}
)

func ref(class int) api.Type {
	return api.Type{Kind: api.KRef, Class: class}
}

func types(l ...api.Type) []api.Type {
	return l
}

// Classes of the tests: lower stands below upper, and lowest below lower; other stands beside them.
const (
	upper  = 4
	lower  = 5
	lowest = 6
	other  = 7
)

func classes() []api.Class {
	return []api.Class{
		{Super: -1},
		{Super: 0},
		{Super: 0},
		{Super: 0},
		{Super: 0, Fields: []api.Type{intType, longType, ref(upper)}},
		{Super: upper, Fields: []api.Type{longType, ref(other), intType}},
		{Super: lower},
		{Super: 0, Fields: []api.Type{intType}},
	}
}

// isBelow goes up from class to class, as the tests must not lean on what they look at.
func isBelow(class, above int) bool {
	for ; class >= 0; class = classes()[class].Super {
		if class == above {
			return true
		}
	}
	return false
}

// ins has A, B and C in this order.
func ins(op int, fields ...int) api.Ins {
	var all [3]int
	copy(all[:], fields)
	return api.Ins{Op: op, A: all[0], B: all[1], C: all[2]}
}

// insN has N ahead of the others.
func insN(op int, n int64, fields ...int) api.Ins {
	i := ins(op, fields...)
	i.N = n
	return i
}

func setInt(a int, n int64) api.Ins    { return insN(api.RInt, n, a) }
func setLong(a int, n int64) api.Ins   { return insN(api.RLong, n, a) }
func setNull(a int) api.Ins            { return ins(api.RNull, a) }
func setNew(a, class int) api.Ins      { return ins(api.RNew, a, class) }
func move(a, b, kind int) api.Ins      { return ins(api.RMove, a, b, kind) }
func emit(a, kind int) api.Ins         { return ins(api.REmit, a, kind) }
func emitInt(a int) api.Ins            { return emit(a, api.KInt) }
func emitLong(a int) api.Ins           { return emit(a, api.KLong) }
func intOp(op, a, b, c int) api.Ins    { return insN(api.RIntOp, int64(op), a, b, c) }
func longOp(op, a, b, c int) api.Ins   { return insN(api.RLongOp, int64(op), a, b, c) }
func get(a, b, class, n int) api.Ins   { return insN(api.RGet, int64(n), a, b, class) }
func put(a, b, class, n int) api.Ins   { return insN(api.RPut, int64(n), a, b, class) }
func is(a, b, class int) api.Ins       { return ins(api.RIs, a, b, class) }
func cast(a, class int) api.Ins        { return ins(api.RCast, a, class) }
func result(a, kind int) api.Ins       { return ins(api.RResult, a, kind) }
func giveBack(a int) api.Ins           { return ins(api.RReturn, a) }
func throwIt(a int) api.Ins            { return ins(api.RThrow, a) }
func caught(a int) api.Ins             { return ins(api.RCaught, a) }
func comeIn(a int) api.Ins             { return ins(api.RIn, a) }
func jump(to int) api.Ins              { return ins(api.RGoto, to) }
func jumpIf(to, cond, c int) api.Ins   { return ins(api.RIf, to, cond, c) }
func jumpIfNull(to, c int) api.Ins     { return ins(api.RIfNull, to, 0, c) }
func call(to int, args ...int) api.Ins { return api.Ins{Op: api.RCall, A: to, Args: args} }

var comeBack = ins(api.RReturn)

func code(l ...api.Ins) []api.Ins {
	return l
}

func join(lists ...[]api.Ins) []api.Ins {
	var all []api.Ins
	for _, l := range lists {
		all = append(all, l...)
	}
	return all
}

func times(n int, l ...api.Ins) []api.Ins {
	var all []api.Ins
	for range n {
		all = append(all, l...)
	}
	return all
}

// method has registers enough for all that the tests write.
func method(l ...api.Ins) api.Method {
	return api.Method{Regs: api.MaxRegs, Code: l}
}

func giving(t api.Type, l ...api.Ins) api.Method {
	m := method(l...)
	m.Ret = t
	return m
}

func taking(types []api.Type, l ...api.Ins) api.Method {
	m := method(l...)
	m.Params = types
	return m
}

func handled(m api.Method, handlers ...api.Handler) api.Method {
	m.Handlers = handlers
	return m
}

func file(methods ...api.Method) api.File {
	return api.File{Classes: classes(), Methods: methods}
}

func run(t *testing.T, methods ...api.Method) api.Shown {
	t.Helper()
	return runFile(t, file(methods...), nil, nil, api.MaxFuel)
}

func runFile(t *testing.T, f api.File, args, input []int64, fuel int) api.Shown {
	t.Helper()
	s, e := rrun.Run(f, 0, args, input, fuel)
	if e != api.OK {
		t.Fatalf("error %d of %+v", e, f)
	}
	return s
}

func same(got, want api.Shown) bool {
	if len(got.Out) == 0 && len(want.Out) == 0 {
		got.Out, want.Out = nil, nil
	}
	return reflect.DeepEqual(got, want)
}

func checkShown(t *testing.T, got, want api.Shown) {
	t.Helper()
	if !same(got, want) {
		t.Errorf("got %+v, want %+v", got, want)
	}
}

func checkEnd(t *testing.T, want int, methods ...api.Method) {
	t.Helper()
	if got := run(t, methods...); got.End != want {
		t.Errorf("end %d, want %d: %+v", got.End, want, methods)
	}
}

// checkStuck looks also at which step it was.
func checkStuck(t *testing.T, steps int, methods ...api.Method) {
	t.Helper()
	if got := run(t, methods...); got.End != api.EndStuck || got.Steps != steps {
		t.Errorf("got %+v, want to be stuck at step %d: %+v", got, steps, methods)
	}
}

// checkOut looks at a run that must come back without a value.
func checkOut(t *testing.T, want []int64, methods ...api.Method) {
	t.Helper()
	got := run(t, methods...)
	wanted := api.Shown{End: api.EndDone, Out: want, Steps: got.Steps}
	if !same(got, wanted) {
		t.Errorf("got %+v, want out %v: %+v", got, want, methods)
	}
}

func endIf(so bool, yes, no int) int {
	if so {
		return yes
	}
	return no
}
