package srun_test

import (
	"reflect"
	"testing"

	"crosswalk/api"
	"crosswalk/srun"
)

var (
	voidType = api.Type{}
	intType  = api.Type{Kind: api.KInt}
	longType = api.Type{Kind: api.KLong}
)

func ref(class int) api.Type {
	return api.Type{Kind: api.KRef, Class: class}
}

// Classes of the tests: lower stands below upper, and lowest below lower; other stands beside them.
const (
	upper  = 4
	lower  = 5
	lowest = 6
	other  = 7
)

func classes() []api.Class {
	return []api.Class{
		{Super: -1},
		{Super: 0},
		{Super: 0},
		{Super: 0},
		{Super: 0, Fields: []api.Type{intType, longType, ref(upper)}},
		{Super: upper, Fields: []api.Type{longType, ref(other), intType}},
		{Super: lower},
		{Super: 0, Fields: []api.Type{intType}},
	}
}

func ins(op int, fields ...int) api.Ins {
	i := api.Ins{Op: op}
	for k, n := range fields {
		switch k {
		case 0:
			i.A = n
		case 1:
			i.B = n
		}
	}
	return i
}

func putInt(n int64) api.Ins {
	return api.Ins{Op: api.SInt, N: n}
}

func putLong(n int64) api.Ins {
	return api.Ins{Op: api.SLong, N: n}
}

var (
	putNull  = ins(api.SNull)
	comeBack = ins(api.SReturn)
	throwIt  = ins(api.SThrow)
	pop      = ins(api.SPop)
	emitInt  = ins(api.SEmit, api.KInt)
	emitLong = ins(api.SEmit, api.KLong)
	comeIn   = ins(api.SIn)
)

func code(l ...api.Ins) []api.Ins {
	return l
}

func join(lists ...[]api.Ins) []api.Ins {
	var all []api.Ins
	for _, l := range lists {
		all = append(all, l...)
	}
	return all
}

func times(n int, l ...api.Ins) []api.Ins {
	var all []api.Ins
	for range n {
		all = append(all, l...)
	}
	return all
}

// method has room enough for all that the tests put.
func method(l ...api.Ins) api.Method {
	return api.Method{Stack: api.MaxStack, Locals: api.MaxLocals, Code: l}
}

func giving(t api.Type, l ...api.Ins) api.Method {
	m := method(l...)
	m.Ret = t
	return m
}

func taking(types []api.Type, l ...api.Ins) api.Method {
	m := method(l...)
	m.Params = types
	return m
}

func handled(m api.Method, handlers ...api.Handler) api.Method {
	m.Handlers = handlers
	return m
}

func onStack(slots int, l ...api.Ins) api.Method {
	m := method(l...)
	m.Stack = slots
	return m
}

func file(methods ...api.Method) api.File {
	return api.File{Classes: classes(), Methods: methods}
}

func run(t *testing.T, methods ...api.Method) api.Shown {
	t.Helper()
	return runFile(t, file(methods...), nil, nil, api.MaxFuel)
}

func runFile(t *testing.T, f api.File, args, input []int64, fuel int) api.Shown {
	t.Helper()
	s, e := srun.Run(f, 0, args, input, fuel)
	if e != api.OK {
		t.Fatalf("error %d of %+v", e, f)
	}
	return s
}

func checkShown(t *testing.T, got, want api.Shown) {
	t.Helper()
	if len(got.Out) == 0 && len(want.Out) == 0 {
		got.Out, want.Out = nil, nil
	}
	if !reflect.DeepEqual(got, want) {
		t.Errorf("got %+v, want %+v", got, want)
	}
}

func checkEnd(t *testing.T, want int, methods ...api.Method) {
	t.Helper()
	if got := run(t, methods...); got.End != want {
		t.Errorf("end %d, want %d: %+v", got.End, want, methods)
	}
}

// checkOut looks at a run that must come back without a value.
func checkOut(t *testing.T, want []int64, methods ...api.Method) {
	t.Helper()
	got := run(t, methods...)
	if got.End != api.EndDone || len(got.Out) != len(want) || len(want) > 0 && !reflect.DeepEqual(got.Out, want) {
		t.Errorf("end %d, out %v, want %v: %+v", got.End, got.Out, want, methods)
	}
}
