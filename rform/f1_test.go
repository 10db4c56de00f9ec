package rform_test

import (
	"testing"

	"crosswalk/api"
)

func TestF1OrdinaryFile(t *testing.T) {
	f := file()
	f.Methods[2] = api.Method{
		Params: []api.Type{longType, ref(4), intType},
		Ret:    longType,
		Regs:   6,
		Code: []api.Ins{
			{Op: api.RGet, A: 4, B: 2, C: 4, N: 0},
			{Op: api.RLongOp, A: 0, B: 0, C: 4, N: api.OpMul},
			{Op: api.RCall, A: 2, Args: []int{4, 2, 3}},
			{Op: api.RResult, A: 0, B: api.KLong},
			{Op: api.RReturn, A: 0},
			{Op: api.RCaught, A: 5},
			{Op: api.RThrow, A: 5},
		},
		Handlers: []api.Handler{{From: 0, To: 4, At: 5, Class: 0}},
	}
	checkMay(t, true, f)
}

func TestF1Classes(t *testing.T) {
	f := api.File{Methods: []api.Method{{Regs: 1, Code: returns(1)}}}
	f.Classes = []api.Class{{Super: -1}, {}, {}, {}}
	checkMay(t, true, f)
	for _, l := range [][]api.Class{
		nil,
		{{Super: -1}, {}, {}},
		{{}, {}, {}, {}},
		{{Super: -1}, {Super: 1}, {}, {}},
		{{Super: -1}, {}, {}, {Fields: []api.Type{{}}}},
		{{Super: -1}, {}, {}, {Fields: []api.Type{ref(4)}}},
		{{Super: -1}, {}, {}, {Fields: copies(intType, api.MaxFields+1)}},
		append([]api.Class{{Super: -1}}, make([]api.Class, api.MaxClasses)...),
	} {
		f.Classes = l
		checkMay(t, false, f)
	}
}

// The classes that instructions, types and handlers name are those of the file.
func TestF1ClassesOfTheFileItself(t *testing.T) {
	for n := 4; n <= api.MaxClasses; n++ {
		l := append([]api.Class{{Super: -1}}, make([]api.Class, n-1)...)
		for class := range api.MaxClasses + 2 {
			for _, m := range []api.Method{
				{Regs: 1, Code: []api.Ins{{Op: api.RNew, B: class}}},
				{Regs: 1, Code: []api.Ins{{Op: api.RCast, B: class}}},
				{Regs: 1, Code: []api.Ins{{Op: api.RIs, C: class}}},
				{Regs: 1, Code: returns(1), Ret: ref(class)},
				{Regs: 1, Code: returns(1), Params: []api.Type{ref(class)}},
				{Regs: 1, Code: returns(1), Handlers: []api.Handler{{To: 1, Class: class}}},
			} {
				checkMay(t, class < n, api.File{Classes: l, Methods: []api.Method{m}})
			}
		}
	}
}

func TestF1HowManyMethods(t *testing.T) {
	one := api.Method{Regs: 1, Code: returns(1)}
	for n := range api.MaxMethods + 5 {
		f := api.File{Classes: classes(), Methods: copies(one, n)}
		checkMay(t, n >= 1 && n <= api.MaxMethods, f)
	}
	checkMay(t, false, api.File{Classes: classes(), Methods: copies(one, 10000)})
}

func TestF1HowManyParams(t *testing.T) {
	for n := range api.MaxParams + 5 {
		for _, one := range []api.Type{intType, longType, ref(0), ref(4)} {
			checkMethods(t, n <= api.MaxParams, func(m *api.Method) {
				m.Params = copies(one, n)
				m.Regs = api.MaxRegs
			})
		}
	}
}

// badTypes may be no field's, KVoid with Class 0 aside.
func badTypes() []api.Type {
	var l []api.Type
	for _, kind := range append(far(), 4, 5) {
		l = append(l, api.Type{Kind: kind}, api.Type{Kind: kind, Class: 1})
	}
	for _, class := range append(far(), 1, 4, 5) {
		l = append(l, api.Type{Kind: api.KVoid, Class: class}, api.Type{Kind: api.KInt, Class: class}, api.Type{Kind: api.KLong, Class: class})
	}
	for _, class := range append(far(), 5, 6) {
		l = append(l, ref(class))
	}
	return l
}

func goodTypes() []api.Type {
	return []api.Type{intType, longType, ref(0), ref(1), ref(2), ref(3), ref(4)}
}

func TestF1TypesOfParams(t *testing.T) {
	for place := range api.MaxParams {
		check := func(want bool, one api.Type) {
			t.Helper()
			checkMethods(t, want, func(m *api.Method) {
				m.Params = copies(intType, api.MaxParams)
				m.Params[place] = one
			})
		}
		for _, one := range goodTypes() {
			check(true, one)
		}
		for _, one := range badTypes() {
			check(false, one)
		}
		check(false, api.Type{Kind: api.KVoid})
	}
}

// The code has no RReturn here, so that nothing but Ret itself is looked at.
func TestF1Ret(t *testing.T) {
	check := func(want bool, one api.Type) {
		t.Helper()
		checkMethods(t, want, func(m *api.Method) {
			m.Ret = one
			m.Code = copies(api.Ins{Op: api.RGoto}, 2)
		})
	}
	for _, one := range append(goodTypes(), api.Type{Kind: api.KVoid}) {
		check(true, one)
	}
	for _, one := range badTypes() {
		check(false, one)
	}
}

func TestF1StackAndLocals(t *testing.T) {
	for _, n := range append(far(), 1, 2, 6, api.MaxStack, api.MaxLocals) {
		checkMethods(t, false, func(m *api.Method) { m.Stack = n })
		checkMethods(t, false, func(m *api.Method) { m.Locals = n })
		checkMethods(t, false, func(m *api.Method) { m.Stack, m.Locals = n, n })
	}
}

func TestF1Regs(t *testing.T) {
	for n := range api.MaxRegs + 4 {
		checkMethods(t, n >= 1 && n <= api.MaxRegs, func(m *api.Method) { m.Regs = n })
	}
	for _, n := range far() {
		checkMethods(t, false, func(m *api.Method) { m.Regs = n })
	}
}

func TestF1RegsHoldParams(t *testing.T) {
	for _, x := range []struct {
		params []api.Type
		slots  int
	}{
		{nil, 1},
		{[]api.Type{intType}, 1},
		{[]api.Type{longType}, 2},
		{[]api.Type{ref(4)}, 1},
		{[]api.Type{intType, longType}, 3},
		{[]api.Type{longType, ref(0)}, 3},
		{[]api.Type{longType, intType, ref(3), longType}, 6},
		{copies(intType, api.MaxParams), api.MaxParams},
		{copies(ref(1), api.MaxParams), api.MaxParams},
		{copies(longType, api.MaxParams), 2 * api.MaxParams},
	} {
		for n := range 2*api.MaxParams + 3 {
			checkMethods(t, n >= x.slots, func(m *api.Method) {
				m.Params = x.params
				m.Regs = n
			})
		}
	}
}

func TestF1HowManyInstructions(t *testing.T) {
	for _, n := range []int{0, 1, 2, api.MaxCode, api.MaxCode + 1, api.MaxRegCode - 1, api.MaxRegCode, api.MaxRegCode + 1, api.MaxRegCode + 2, 100000} {
		checkMethods(t, n >= 1 && n <= api.MaxRegCode, func(m *api.Method) { m.Code = returns(n) })
	}
	checkMethods(t, false, func(m *api.Method) { m.Code = nil })
}

func TestF1PlacesOfTheMethodItself(t *testing.T) {
	for n := 1; n <= 6; n++ {
		for a := range 8 {
			for _, ins := range []api.Ins{{Op: api.RGoto, A: a}, {Op: api.RIfNull, A: a}, {Op: api.RIf, A: a, B: api.CondLess}} {
				checkMethods(t, a < n, func(m *api.Method) {
					m.Code = returns(n)
					m.Code[n-1] = ins
				})
			}
		}
	}
	for _, a := range []int{api.MaxRegCode - 1, api.MaxRegCode} {
		checkMethods(t, a < api.MaxRegCode, func(m *api.Method) {
			m.Code = returns(api.MaxRegCode)
			m.Code[7] = api.Ins{Op: api.RGoto, A: a}
		})
	}
}

func TestF1HowManyHandlers(t *testing.T) {
	for _, n := range []int{0, 1, 2, api.MaxHandlers - 1, api.MaxHandlers, api.MaxHandlers + 1, api.MaxHandlers + 2, 10000} {
		checkMethods(t, n <= api.MaxHandlers, func(m *api.Method) { m.Handlers = copies(api.Handler{To: 1}, n) })
	}
}

func checkHandler(t *testing.T, want bool, h api.Handler) {
	t.Helper()
	for place := range 3 {
		checkMethods(t, want, func(m *api.Method) {
			m.Handlers = copies(api.Handler{From: 1, To: 3, At: 4, Class: 2}, 3)
			m.Handlers[place] = h
		})
	}
}

func TestF1FieldsOfHandlers(t *testing.T) {
	numbers := append(far(), -2, 0, 1, 2, 3, 4, 5, 6, 7)
	for _, from := range numbers {
		for _, to := range numbers {
			want := from >= 0 && from < to && to <= 5
			checkHandler(t, want, api.Handler{From: from, To: to})
		}
		checkHandler(t, from >= 0 && from < 5, api.Handler{To: 5, At: from})
		checkHandler(t, from >= 0 && from < 5, api.Handler{To: 5, Class: from})
	}
	checkHandler(t, true, api.Handler{From: 4, To: 5, At: 4, Class: 4})
	checkHandler(t, false, api.Handler{})
}
