package tostack_test

import (
	"reflect"
	"slices"
	"testing"

	"crosswalk/api"
	"crosswalk/rcheck"
	"crosswalk/sform"
	"crosswalk/tostack"
)

func good() api.Method {
	return giving(intType, setInt(0, 1), giveBack(0))
}

func bad() api.Method {
	return giving(longType, setInt(0, 1), giveBack(0))
}

// great has no room on a stack, though it is checked.
func great() api.Method {
	return sized(method(join(times(api.MaxRegCode-1, setInt(89, 1)), code(comeBack))...), api.MaxRegs)
}

// checkFault looks whether nothing is made, for the reason that rcheck.Check tells.
func checkFault(t *testing.T, want api.Fault, f api.File) {
	t.Helper()
	r, x := tostack.Make(f)
	if x != want || x != rcheck.Check(f) {
		t.Errorf("got %+v, want %+v: %+v", x, want, f.Methods)
	}
	if len(r.Classes) > 0 || len(r.Methods) > 0 {
		t.Errorf("made, in spite of %+v: %+v", x, r)
	}
}

func TestJ1FilesThatAreNotChecked(t *testing.T) {
	for _, x := range []struct {
		methods []api.Method
		want    int
	}{
		{[]api.Method{bad()}, 0},
		{[]api.Method{bad(), bad()}, 0},
		{[]api.Method{good(), bad()}, 1},
		{[]api.Method{good(), good(), bad(), bad()}, 2},
		{[]api.Method{good(), good(), good(), good(), good(), good(), good(), bad()}, 7},
		{[]api.Method{method(emitInt(0), comeBack)}, 0},
		{[]api.Method{method(setInt(0, 1))}, 0},
		{[]api.Method{good(), method(result(0, api.KInt), comeBack)}, 1},
		{[]api.Method{good(), method(caught(0), comeBack)}, 1},
		{[]api.Method{good(), method(call(0), setInt(0, 1), result(0, api.KInt), comeBack)}, 1},
		{[]api.Method{good(), method(setInt(0, 1), jump(0), comeBack, comeBack), method(setLong(0, 1), setInt(1, 1), emitLong(0), comeBack)}, 2},
		{[]api.Method{good(), handled(method(setInt(0, 1), caught(0), comeBack), over(0, 1, 1, 0))}, 1},
		// A fault is told ahead of a size, wherever the method stands that is too great.
		{[]api.Method{great(), bad()}, 1},
		{[]api.Method{bad(), great()}, 0},
		{[]api.Method{great(), great(), bad(), great()}, 2},
		{[]api.Method{good(), great(), good(), bad()}, 3},
		{[]api.Method{sized(bad(), api.MaxRegs)}, 0},
		{[]api.Method{giving(longType, join(times(api.MaxRegCode-1, setInt(0, 1)), code(giveBack(0)))...)}, 0},
	} {
		checkFault(t, api.Fault{Code: api.ErrKind, Method: x.want}, file(x.methods...))
	}
}

func TestJ1FilesThatMayNotBe(t *testing.T) {
	mayNot := api.Fault{Code: api.ErrForm}
	checkFault(t, mayNot, api.File{})
	checkFault(t, mayNot, api.File{Classes: classes()})
	checkFault(t, mayNot, api.File{Methods: []api.Method{good()}})
	checkFault(t, mayNot, api.File{Classes: classes()[:3], Methods: []api.Method{good()}})
	checkFault(t, mayNot, file(slices.Repeat([]api.Method{good()}, api.MaxMethods+1)...))
	for _, m := range []api.Method{
		{},
		method(),
		sized(method(comeBack), 0),
		sized(method(comeBack), -1),
		sized(method(comeBack), api.MaxRegs+1),
		sized(taking(types(longType), comeBack), 1),
		sized(method(comeBack, setLong(3, 1)), 4),
		giving(api.Type{Kind: 9}, comeBack),
		taking(types(ref(len(classes()))), comeBack),
		method(times(api.MaxRegCode+1, comeBack)...),
		method(ins(0), comeBack),
		method(ins(api.RIn+1), comeBack),
		method(comeBack, jump(2)),
		method(comeBack, call(2)),
		method(comeBack, api.Ins{Op: api.RReturn, Args: []int{0}}),
		handled(method(comeBack), over(0, 2, 0, 0)),
		handled(method(comeBack), over(0, 1, 1, 0)),
		{Regs: 1, Stack: 1, Code: code(comeBack)},
		{Regs: 1, Locals: 1, Code: code(comeBack)},
	} {
		// The form is asked for first, also behind methods that are at fault, or too great.
		checkFault(t, mayNot, file(m))
		checkFault(t, mayNot, file(good(), m))
		checkFault(t, mayNot, file(bad(), m))
		checkFault(t, mayNot, file(great(), m))
		checkFault(t, mayNot, file(m, great()))
	}
}

func TestJ1FilesOnAStack(t *testing.T) {
	onStack := api.Method{Stack: 1, Locals: 1, Code: code(ins(api.SReturn))}
	checkFault(t, api.Fault{Code: api.ErrForm}, file(onStack))
	checkFault(t, api.Fault{Code: api.ErrForm}, file(good(), onStack))
	checkFault(t, api.Fault{Code: api.ErrForm}, made(t, file(good())))
}

func TestJ1ClassesAndHeads(t *testing.T) {
	most := make([]api.Class, api.MaxClasses)
	for c := range most {
		most[c] = api.Class{Super: c - 1, Fields: types(intType, longType, ref(c), ref(api.MaxClasses-1-c), longType, intType)[:min(c, api.MaxFields)]}
	}
	f := api.File{Classes: most}
	for k, t := range types(intType, longType, ref(0), ref(11), ref(5)) {
		m := taking(slices.Repeat(types(t), k%(api.MaxParams+1)), giveBack(0))
		m.Ret = t
		if k == 0 {
			m.Code = code(setInt(0, 1), giveBack(0))
		}
		f.Methods = append(f.Methods, m)
	}
	f.Methods = append(f.Methods, method(comeBack), taking(types(ref(3), longType, intType, ref(0)), comeBack), good())
	if r := made(t, f); len(r.Methods) != api.MaxMethods || len(r.Classes) != api.MaxClasses {
		t.Errorf("got %+v", r)
	}
}

// The fields that a stack does not have are zero: C1 sees to the rest.
func TestJ1NothingIsLeftOfTheRegisters(t *testing.T) {
	r := made(t, file(good(), method(setInt(3, 1), call(2, 3, 3), comeBack), taking(types(intType, intType), comeBack)))
	for _, m := range r.Methods {
		if m.Regs != 0 {
			t.Errorf("got %+v", m)
		}
		for _, i := range m.Code {
			if len(i.Args) > 0 || i.C != 0 {
				t.Errorf("got %+v", m)
			}
		}
	}
	if !sform.May(r) {
		t.Error("it may not be")
	}
}

// The least methods need no slot of a stack, and no local.
func TestJ1TheLeastMethods(t *testing.T) {
	checkEnd(t, api.EndDone, sized(method(comeBack), 1))
	checkEnd(t, api.EndFuel, sized(method(jump(0)), 1))
	checkEnd(t, api.EndDone, sized(method(call(1), comeBack), 1), sized(method(comeBack), 1))
	// Where something could be caught it needs one.
	checkEnd(t, api.EndFuel, handled(sized(method(jump(0)), 1), over(0, 1, 0, 0)))
	checkEnd(t, api.EndDone, handled(sized(method(comeBack, caught(0), comeBack), 1), over(0, 1, 1, 0)))
}

func TestJ1TheSameForTheSame(t *testing.T) {
	f := file(handled(method(setInt(0, 1), setInt(1, 0), intOp(api.OpDiv, 2, 0, 1), comeBack, emitInt(0), comeBack), over(1, 4, 4, 0), over(1, 2, 3, 0)))
	if !reflect.DeepEqual(made(t, f), made(t, f)) {
		t.Error("two files of one")
	}
}
