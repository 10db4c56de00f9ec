package rform_test

import (
	"math"
	"testing"

	"crosswalk/api"
	"crosswalk/rform"
)

var (
	intType  = api.Type{Kind: api.KInt}
	longType = api.Type{Kind: api.KLong}
)

func ref(class int) api.Type {
	return api.Type{Kind: api.KRef, Class: class}
}

// classes has five: class 3 has two fields of its own, class 4, which stands below it, one.
func classes() []api.Class {
	return []api.Class{
		{Super: -1},
		{Super: 0},
		{Super: 0},
		{Super: 0, Fields: []api.Type{intType, ref(4)}},
		{Super: 3, Fields: []api.Type{longType}},
	}
}

// returns has instructions that may be, whatever Ret is, where there are two registers.
func returns(n int) []api.Ins {
	l := make([]api.Ins, n)
	for i := range l {
		l[i].Op = api.RReturn
	}
	return l
}

// file has three methods of five instructions, and six registers; the method 1 takes one of each kind.
func file() api.File {
	f := api.File{Classes: classes()}
	for range 3 {
		f.Methods = append(f.Methods, api.Method{Regs: 6, Code: returns(5)})
	}
	f.Methods[1].Params = []api.Type{longType, ref(4), intType}
	return f
}

// changed has one method as the change makes it, at the place.
func changed(at int, change func(m *api.Method)) api.File {
	f := file()
	change(&f.Methods[at])
	return f
}

func checkMay(t *testing.T, want bool, f api.File) {
	t.Helper()
	if got := rform.May(f); got != want {
		t.Errorf("May of %+v: got %v", f, got)
	}
}

// checkMethods looks at the change in the first and in the last method.
func checkMethods(t *testing.T, want bool, change func(m *api.Method)) {
	t.Helper()
	checkMay(t, want, changed(0, change))
	checkMay(t, want, changed(2, change))
}

// checkIns looks at the instruction at the beginning, within, and at the end of a method.
func checkIns(t *testing.T, want bool, ins api.Ins) {
	t.Helper()
	f := file()
	for at := range f.Methods[1].Code {
		was := f.Methods[1].Code[at]
		f.Methods[1].Code[at] = ins
		if got := rform.May(f); got != want {
			t.Errorf("May with %+v at %d: got %v", ins, at, got)
		}
		f.Methods[1].Code[at] = was
	}
}

func copies[T any](one T, n int) []T {
	l := make([]T, n)
	for i := range l {
		l[i] = one
	}
	return l
}

// far are numbers that are nowhere near a bound, some of them near one if they lose their upper bits.
func far() []int {
	return []int{math.MinInt, math.MinInt + 1, -1 << 32, -1000, -1, 1 << 8, 1<<8 + 1, 1 << 32, 1<<32 + 1, math.MaxInt - 1, math.MaxInt}
}

// near are numbers about the bounds of what file() has.
func near() []int {
	return []int{-2, -1, 0, 1, 2, 3, 4, 5, 6, 7, 8, 9, 10}
}
