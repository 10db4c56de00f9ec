package rform_test

import (
	"testing"

	"crosswalk/api"
)

func call(method int, args ...int) api.Ins {
	return api.Ins{Op: api.RCall, A: method, Args: args}
}

func TestF1CallTakesOneArgOfEachParam(t *testing.T) {
	for _, args := range [][]int{{0, 2, 3}, {4, 5, 5}, {0, 0, 0}, {3, 1, 0}} {
		checkIns(t, true, call(1, args...))
	}
	for _, args := range [][]int{nil, {}, {0}, {0, 2}, {0, 2, 3, 4}, {0, 2, 3, 0, 0}, make([]int, 1000)} {
		checkIns(t, false, call(1, args...))
	}
	for _, method := range []int{0, 2} {
		checkIns(t, true, call(method))
		checkIns(t, false, call(method, 0))
		checkIns(t, false, call(method, 0, 2, 3))
	}
}

func TestF1ArgsAreOfTheKindOfTheirParams(t *testing.T) {
	most := []int{4, 5, 5}
	for place := range most {
		for _, r := range append(far(), near()...) {
			args := []int{1, 1, 1}
			args[place] = r
			checkIns(t, r >= 0 && r <= most[place], call(1, args...))
		}
	}
}

func TestF1CallOfTheMethodsOfTheFile(t *testing.T) {
	for _, method := range append(far(), -2, 3, 4, 5, 7, 8) {
		checkIns(t, false, call(method))
		checkIns(t, false, call(method, 0, 2, 3))
	}
	for n := 1; n <= api.MaxMethods; n++ {
		for a := range api.MaxMethods + 2 {
			f := api.File{Classes: classes(), Methods: copies(api.Method{Regs: 1, Code: []api.Ins{call(a)}}, n)}
			checkMay(t, a < n, f)
		}
	}
}

// The registers of a call are those of who calls, however many the method that is called has.
func TestF1ArgsAreRegistersOfWhoCalls(t *testing.T) {
	for regs := 1; regs <= 8; regs++ {
		for r := range 10 {
			for _, one := range []struct{ at, most int }{{0, regs - 2}, {1, regs - 1}, {2, regs - 1}} {
				f := file()
				args := []int{0, 0, 0}
				args[one.at] = r
				f.Methods[2].Regs = regs
				f.Methods[2].Code[3] = call(1, args...)
				checkMay(t, regs >= 2 && r <= one.most, f)
			}
		}
	}
}

func TestF1CallHasAsManyArgsAsParams(t *testing.T) {
	for params := range api.MaxParams + 1 {
		for args := range api.MaxParams + 3 {
			for _, one := range []api.Type{intType, longType, ref(2)} {
				f := file()
				f.Methods[2].Params, f.Methods[2].Regs = copies(one, params), api.MaxRegs
				f.Methods[0].Code[0] = call(2, copies(4, args)...)
				checkMay(t, args == params, f)
			}
		}
	}
}

// A call of a method whose Params may not be makes the file no better.
func TestF1CallOfAMethodThatMayNotBe(t *testing.T) {
	for _, one := range append(badTypes(), api.Type{}) {
		f := file()
		f.Methods[2].Params = []api.Type{one}
		f.Methods[0].Code[0] = call(2, 0)
		checkMay(t, false, f)
	}
	f := file()
	f.Methods[2].Params = copies(intType, 1000)
	f.Methods[0].Code[0] = call(2, make([]int, 1000)...)
	checkMay(t, false, f)
}
