package wire_test

import (
	"reflect"
	"testing"

	"crosswalk/api"
	"crosswalk/rcheck"
	"crosswalk/rrun"
	"crosswalk/scheck"
	"crosswalk/srun"
	"crosswalk/tidy"
	"crosswalk/toreg"
	"crosswalk/tostack"
)

// divider gives 100 by its argument; by nought it throws, catches that, and gives -1.
func divider() api.File {
	return api.File{
		Classes: classes(),
		Methods: []api.Method{{
			Params: types(intType),
			Ret:    intType,
			Stack:  2,
			Locals: 1,
			Code: []api.Ins{
				{Op: api.SInt, N: 100},
				{Op: api.SLoad, B: api.KInt},
				{Op: api.SIntOp, A: api.OpDiv},
				{Op: api.SReturn},
				{Op: api.SPop},
				{Op: api.SInt, N: -1},
				{Op: api.SReturn},
			},
			Handlers: []api.Handler{{From: 2, To: 3, At: 4, Class: api.ClassDivide}},
		}},
	}
}

// What was got has the fault that the file has, and does what it does.
func TestL2WhatIsGotDoesTheSame(t *testing.T) {
	onStack := divider()
	onRegisters, x := toreg.Make(onStack)
	if x != (api.Fault{}) {
		t.Fatalf("fault %+v", x)
	}
	tidied, _ := tidy.Make(onRegisters)
	back, _ := tostack.Make(tidied)
	for _, f := range []api.File{onStack, back} {
		sameRuns(t, f, scheck.Check, srun.Run)
	}
	for _, f := range []api.File{onRegisters, tidied} {
		sameRuns(t, f, rcheck.Check, rrun.Run)
	}
}

func sameRuns(t *testing.T, f api.File, check func(api.File) api.Fault, run func(api.File, int, []int64, []int64, int) (api.Shown, api.Errno)) {
	t.Helper()
	b := laid(formOf(f), f).bytes
	checkBoth(t, b, f)
	g := get(t, b)
	if x := check(g); x != check(f) || x.Code != api.OK {
		t.Fatalf("fault %+v of %+v", x, g)
	}
	for arg, want := range map[int64]int64{7: 14, 0: -1, -100: -1, 200: 0} {
		one, _ := run(f, 0, []int64{arg}, nil, 1000)
		other, e := run(g, 0, []int64{arg}, nil, 1000)
		if e != api.OK || other.End != api.EndDone || other.Value != want || !reflect.DeepEqual(one, other) {
			t.Errorf("of %d: %d, %+v, want %+v", arg, e, other, one)
		}
	}
}
