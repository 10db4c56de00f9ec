package tidy_test

import (
	"reflect"
	"slices"
	"testing"

	"crosswalk/api"
	"crosswalk/rcheck"
	"crosswalk/tidy"
	"crosswalk/tostack"
)

func good() api.Method {
	return giving(intType, setInt(0, 1), giveBack(0))
}

func bad() api.Method {
	return giving(longType, setInt(0, 1), giveBack(0))
}

// checkFault looks whether nothing is made, for the reason that rcheck.Check tells.
func checkFault(t *testing.T, want api.Fault, f api.File) {
	t.Helper()
	r, x := tidy.Make(f)
	if x != want || x != rcheck.Check(f) {
		t.Errorf("got %+v, want %+v: %+v", x, want, f.Methods)
	}
	if len(r.Classes) > 0 || len(r.Methods) > 0 {
		t.Errorf("made, in spite of %+v: %+v", x, r)
	}
}

func TestK1FilesThatAreNotChecked(t *testing.T) {
	for _, x := range []struct {
		methods []api.Method
		want    int
	}{
		{[]api.Method{bad()}, 0},
		{[]api.Method{bad(), bad()}, 0},
		{[]api.Method{bad(), good()}, 0},
		{[]api.Method{good(), bad()}, 1},
		{[]api.Method{good(), good(), bad(), bad()}, 2},
		{[]api.Method{good(), good(), good(), good(), good(), good(), good(), bad()}, 7},
		{[]api.Method{method(emitInt(0), comeBack)}, 0},
		{[]api.Method{method(setInt(0, 1))}, 0},
		{[]api.Method{good(), method(result(0, api.KInt), comeBack)}, 1},
		{[]api.Method{good(), method(caught(0), comeBack)}, 1},
		{[]api.Method{good(), handled(method(setInt(0, 1), caught(0), comeBack), over(0, 1, 1, 0))}, 1},
	} {
		checkFault(t, api.Fault{Code: api.ErrKind, Method: x.want}, file(x.methods...))
	}
}

// What would be left is checked, but the file is not: its fault is told.
func TestK1FaultsOfWhatWouldBeLeftOut(t *testing.T) {
	gives := giving(intType, setInt(0, 1), giveBack(0))
	for _, m := range []api.Method{
		// What is moved is not there, or of another kind.
		method(stayInt(0), comeBack),
		method(stay(0, api.KLong), comeBack),
		method(stayRef(0), comeBack),
		method(setInt(0, 1), stay(0, api.KLong), comeBack),
		method(setInt(0, 1), stayRef(0), comeBack),
		method(setLong(0, 1), stayInt(0), comeBack),
		method(setLong(0, 1), stayInt(1), comeBack),
		method(setLong(0, 1), stay(1, api.KLong), comeBack),
		method(setLong(0, 1), setInt(1, 1), stay(0, api.KLong), comeBack),
		method(setNull(0), stayInt(0), comeBack),
		// The last one has no next one.
		method(setInt(0, 1), stayInt(0)),
		method(setInt(0, 1), jump(3), comeBack, stayInt(0)),
		// It stands between what is at hand and what fetches it.
		method(setInt(0, 1), call(1), stayInt(0), result(1, api.KInt), comeBack),
		method(setInt(0, 1), jump(3), call(1), stayInt(0), result(1, api.KInt), comeBack),
		handled(method(setInt(0, 1), setInt(1, 1), comeBack, stayInt(0), caught(1), comeBack), over(1, 2, 3, 0)),
		// A handler over it alone goes on at what is wrong.
		handled(method(setInt(0, 1), stayInt(0), comeBack, emitLong(0), comeBack), over(1, 2, 3, 0)),
		handled(method(setInt(0, 1), stayInt(0), comeBack, result(0, api.KInt), comeBack), over(1, 2, 3, 0)),
		handled(method(setInt(0, 1), stayInt(0), comeBack, setInt(0, 1)), over(1, 2, 3, 0)),
		// A handler over it alone goes on at an RCaught that is come to by another way.
		handled(method(setInt(0, 1), stayInt(0), jump(3), caught(1), comeBack), over(1, 2, 3, 0)),
		// Together with what it leads to a handler less is known there than is needed.
		handled(method(setNew(0, other), setInt(1, 1), stayInt(1), setNew(0, lower), emitInt(1), comeBack, get(0, 0, lower, 0), comeBack), over(2, 3, 6, 0), over(4, 5, 6, 0)),
	} {
		checkFault(t, api.Fault{Code: api.ErrKind}, file(m, gives))
		checkFault(t, api.Fault{Code: api.ErrKind, Method: 2}, file(good(), gives, m))
	}
}

func TestK1FilesThatMayNotBe(t *testing.T) {
	mayNot := api.Fault{Code: api.ErrForm}
	checkFault(t, mayNot, api.File{})
	checkFault(t, mayNot, api.File{Classes: classes()})
	checkFault(t, mayNot, api.File{Methods: []api.Method{good()}})
	checkFault(t, mayNot, api.File{Classes: classes()[:3], Methods: []api.Method{good()}})
	checkFault(t, mayNot, file(slices.Repeat([]api.Method{good()}, api.MaxMethods+1)...))
	for _, m := range []api.Method{
		{},
		method(),
		sized(method(comeBack), 0),
		sized(method(comeBack), -1),
		sized(method(comeBack), api.MaxRegs+1),
		sized(taking(types(longType), comeBack), 1),
		sized(method(comeBack, setLong(3, 1)), 4),
		sized(method(comeBack, stay(3, api.KLong)), 4),
		method(comeBack, stay(3, api.KVoid)),
		method(comeBack, stay(3, api.KRef+1)),
		method(comeBack, stay(-1, api.KInt)),
		giving(api.Type{Kind: 9}, comeBack),
		taking(types(ref(len(classes()))), comeBack),
		method(times(api.MaxRegCode+1, comeBack)...),
		method(ins(0), comeBack),
		method(ins(api.RIn+1), comeBack),
		method(comeBack, jump(2)),
		method(comeBack, call(2)),
		method(comeBack, api.Ins{Op: api.RReturn, Args: []int{0}}),
		handled(method(comeBack), over(0, 2, 0, 0)),
		handled(method(comeBack), over(0, 1, 1, 0)),
		handled(method(comeBack), slices.Repeat([]api.Handler{over(0, 1, 0, 0)}, api.MaxHandlers+1)...),
		{Regs: 1, Stack: 1, Code: code(comeBack)},
		{Regs: 1, Locals: 1, Code: code(comeBack)},
	} {
		// The form is asked for first, also behind methods that are at fault.
		checkFault(t, mayNot, file(m))
		checkFault(t, mayNot, file(good(), m))
		checkFault(t, mayNot, file(bad(), m))
		checkFault(t, mayNot, file(m, bad()))
	}
}

func TestK1FilesOnAStack(t *testing.T) {
	onStack := api.Method{Stack: 1, Locals: 1, Code: code(ins(api.SReturn))}
	checkFault(t, api.Fault{Code: api.ErrForm}, file(onStack))
	checkFault(t, api.Fault{Code: api.ErrForm}, file(good(), onStack))
	f, x := tostack.Make(file(good()))
	if x.Code != api.OK {
		t.Fatalf("fault %+v", x)
	}
	checkFault(t, api.Fault{Code: api.ErrForm}, f)
}

func TestK1ClassesAndHeads(t *testing.T) {
	most := make([]api.Class, api.MaxClasses)
	for c := range most {
		most[c] = api.Class{Super: c - 1, Fields: types(intType, longType, ref(c), ref(api.MaxClasses-1-c), longType, intType)[:min(c, api.MaxFields)]}
	}
	f := api.File{Classes: most}
	for k, t := range types(intType, longType, ref(0), ref(11), ref(5)) {
		m := taking(slices.Repeat(types(t), k%(api.MaxParams+1)), stay(0, t.Kind), giveBack(0))
		m.Ret = t
		if k == 0 {
			m.Code = code(setInt(0, 1), giveBack(0), comeBack)
		}
		f.Methods = append(f.Methods, m)
	}
	f.Methods = append(f.Methods, method(comeBack, caught(0)), taking(types(ref(3), longType, intType, ref(0)), comeBack), good())
	if r := made(t, f); len(r.Methods) != api.MaxMethods || len(r.Classes) != api.MaxClasses {
		t.Errorf("got %+v", r)
	}
	// The least table of classes.
	least := api.File{Classes: []api.Class{{Super: -1}, {}, {}, {}}, Methods: []api.Method{good()}}
	if r := made(t, least); len(r.Classes) != 4 {
		t.Errorf("got %+v", r)
	}
}

// There are as many registers as there were, also if nobody names them any more.
func TestK1TheRegistersStay(t *testing.T) {
	for regs := 1; regs <= api.MaxRegs; regs++ {
		last := regs - 1
		checkLeft(t, method(setInt(last, 1), comeBack), sized(method(setInt(last, 1), stayInt(last), comeBack, emitInt(last)), regs))
		f := file(sized(method(comeBack, setInt(last, 1), comeBack), regs), sized(method(comeBack), api.MaxRegs+1-regs))
		if r := made(t, f); r.Methods[0].Regs != regs || r.Methods[1].Regs != api.MaxRegs+1-regs {
			t.Errorf("got %+v", r)
		}
	}
	checkLeft(t, taking(types(longType), comeBack), sized(taking(types(longType), stay(0, api.KLong), comeBack), 2))
}

// Each method is made for itself; calls name the same ones as ever, and nobody asks whether a method is called.
func TestK1EachMethodForItself(t *testing.T) {
	wasteful := func(n int64) api.Method {
		return giving(longType, setLong(0, n), stay(0, api.KLong), jump(4), comeIn(0), giveBack(0))
	}
	f := file(
		method(jump(2), call(7, 0), call(1), result(0, api.KLong), emitLong(0), call(6), result(0, api.KLong), stay(0, api.KLong), emitLong(0), comeBack),
		wasteful(1), method(comeBack, jump(0)), wasteful(3), good(), wasteful(5), wasteful(6), taking(types(ref(lower)), stayRef(0), jumpIfNull(0, 0), get(1, 0, lower, 1), comeBack))
	r := made(t, f)
	for k, want := range []int{8, 3, 1, 3, 2, 3, 3, 3} {
		if got := len(r.Methods[k].Code); got != want {
			t.Errorf("%d: %d instructions, want %d", k, got, want)
		}
	}
	if s := followMade(t, f, r, asked{}); !slices.Equal(s.Out, numbers(1, 6)) {
		t.Errorf("got %+v", s)
	}
	for entry, want := range map[int]int64{1: 1, 3: 3, 4: 1, 5: 5, 6: 6} {
		if s := followMade(t, f, r, asked{entry: entry}); s.End != api.EndDone || s.Value != want {
			t.Errorf("%d: %+v", entry, s)
		}
	}
}

func TestK1TheSameForTheSame(t *testing.T) {
	f := file(handled(method(setInt(0, 1), setInt(1, 0), stayInt(0), intOp(api.OpDiv, 2, 0, 1), comeBack, emitInt(0), comeBack), over(1, 4, 5, 0), over(1, 2, 4, 0)))
	if !reflect.DeepEqual(made(t, f), made(t, f)) {
		t.Error("two files of one")
	}
}

// Entries, args, inputs and fuels that are wrong: both files answer the same error.
func TestK3TheSameErrors(t *testing.T) {
	f := file(taking(types(intType, longType), stayInt(0), comeBack), taking(types(ref(0)), stayRef(0), comeBack), method(comeBack, throwIt(0)))
	r := made(t, f)
	much := make([]int64, api.MaxInput+1)
	for _, x := range []struct {
		a    asked
		want api.Errno
	}{
		{asked{args: numbers(1, 2), fuel: 5}, api.OK},
		{asked{entry: 2, fuel: 5}, api.OK},
		{asked{entry: 2}, api.OK},
		{asked{entry: 2, input: much[1:], fuel: 5}, api.OK},
		{asked{entry: 2, input: much[1:], fuel: api.MaxFuel}, api.OK},
		{asked{entry: 3, fuel: 5}, api.ErrRange},
		{asked{entry: -1, input: much}, api.ErrRange},
		{asked{entry: 2, fuel: -1}, api.ErrRange},
		{asked{entry: 2, fuel: api.MaxFuel + 1}, api.ErrRange},
		{asked{entry: 2, fuel: -1 << 63, input: much}, api.ErrRange},
		{asked{entry: 2, fuel: 1<<63 - 1, input: much}, api.ErrRange},
		{asked{entry: 0, args: numbers(1), fuel: -3}, api.ErrRange},
		{asked{entry: 2, input: much}, api.ErrSize},
		{asked{entry: 0, input: much, args: numbers(1)}, api.ErrSize},
		{asked{entry: 0, args: numbers(1)}, api.ErrKind},
		{asked{entry: 0, args: numbers(1, 2, 3)}, api.ErrKind},
		{asked{entry: 0}, api.ErrKind},
		{asked{entry: 1, args: numbers(1)}, api.ErrKind},
		{asked{entry: 1}, api.ErrKind},
		{asked{entry: 2, args: numbers(0)}, api.ErrKind},
	} {
		if _, e := checkRun(t, f, r, x.a); e != x.want {
			t.Errorf("error %d, want %d: %+v", e, x.want, x.a)
		}
	}
}
