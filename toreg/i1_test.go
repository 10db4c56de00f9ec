package toreg_test

import (
	"reflect"
	"slices"
	"testing"

	"crosswalk/api"
	"crosswalk/rform"
	"crosswalk/scheck"
	"crosswalk/toreg"
)

func good() api.Method {
	return giving(intType, putInt(1), comeBack)
}

func bad() api.Method {
	return giving(longType, putInt(1), comeBack)
}

// checkFault looks whether nothing is made, for the reason that scheck.Check tells.
func checkFault(t *testing.T, want api.Fault, f api.File) {
	t.Helper()
	r, x := toreg.Make(f)
	if x != want || x != scheck.Check(f) {
		t.Errorf("got %+v, want %+v: %+v", x, want, f.Methods)
	}
	if len(r.Classes) > 0 || len(r.Methods) > 0 {
		t.Errorf("made, in spite of %+v: %+v", x, r)
	}
}

func TestI1FilesThatAreNotChecked(t *testing.T) {
	for _, x := range []struct {
		methods []api.Method
		want    int
	}{
		{[]api.Method{bad()}, 0},
		{[]api.Method{bad(), bad()}, 0},
		{[]api.Method{good(), bad()}, 1},
		{[]api.Method{good(), good(), bad(), bad()}, 2},
		{[]api.Method{good(), good(), good(), good(), good(), good(), good(), bad()}, 7},
		{[]api.Method{method(pop)}, 0},
		{[]api.Method{method(putInt(1))}, 0},
		{[]api.Method{method(load(0, api.KInt), comeBack)}, 0},
		{[]api.Method{good(), method(dup)}, 1},
		{[]api.Method{good(), sized(method(putLong(1), comeBack), 1, 0)}, 1},
		{[]api.Method{good(), handled(sized(method(comeBack, pop, comeBack), 0, 0), over(0, 1, 1, 0))}, 1},
		{[]api.Method{good(), method(putInt(1), jump(0))}, 1},
	} {
		checkFault(t, api.Fault{Code: api.ErrKind, Method: x.want}, file(x.methods...))
	}
}

func TestI1FilesThatMayNotBe(t *testing.T) {
	mayNot := api.Fault{Code: api.ErrForm}
	checkFault(t, mayNot, api.File{})
	checkFault(t, mayNot, api.File{Classes: classes()})
	checkFault(t, mayNot, api.File{Methods: []api.Method{good()}})
	checkFault(t, mayNot, api.File{Classes: classes()[:3], Methods: []api.Method{good()}})
	checkFault(t, mayNot, file(slices.Repeat([]api.Method{good()}, api.MaxMethods+1)...))
	for _, m := range []api.Method{
		{},
		method(),
		sized(method(comeBack), -1, 0),
		sized(method(comeBack), api.MaxStack+1, 0),
		sized(method(comeBack), 0, api.MaxLocals+1),
		sized(taking(types(longType), comeBack), 0, 1),
		giving(api.Type{Kind: 9}, comeBack),
		taking(types(ref(len(classes()))), comeBack),
		method(times(api.MaxCode+1, comeBack)...),
		method(ins(0), comeBack),
		method(ins(api.SIn+1), comeBack),
		method(comeBack, jump(2)),
		method(comeBack, call(2)),
		method(comeBack, api.Ins{Op: api.SReturn, Args: []int{0}}),
		handled(method(comeBack), over(0, 2, 0, 0)),
		handled(method(comeBack), over(0, 1, 1, 0)),
	} {
		// The form is asked for first, also behind methods that are at fault.
		checkFault(t, mayNot, file(m))
		checkFault(t, mayNot, file(good(), m))
		checkFault(t, mayNot, file(bad(), m))
	}
}

func TestI1FilesOnRegisters(t *testing.T) {
	onRegisters := api.Method{Regs: 1, Code: code(ins(api.RReturn))}
	checkFault(t, api.Fault{Code: api.ErrForm}, file(onRegisters))
	checkFault(t, api.Fault{Code: api.ErrForm}, file(good(), onRegisters))
	checkFault(t, api.Fault{Code: api.ErrForm}, made(t, file(good())))
}

func TestI1ClassesAndHeads(t *testing.T) {
	most := make([]api.Class, api.MaxClasses)
	for c := range most {
		most[c] = api.Class{Super: c - 1, Fields: types(intType, longType, ref(c), ref(api.MaxClasses-1-c), longType, intType)[:min(c, api.MaxFields)]}
	}
	f := api.File{Classes: most}
	for k, t := range types(intType, longType, ref(0), ref(11), ref(5)) {
		m := taking(slices.Repeat(types(t), k%(api.MaxParams+1)), load(0, t.Kind), comeBack)
		m.Ret = t
		if k == 0 {
			m.Code = code(putInt(1), comeBack)
		}
		f.Methods = append(f.Methods, m)
	}
	f.Methods = append(f.Methods, method(comeBack), taking(types(ref(3), longType, intType, ref(0)), comeBack), good())
	if r := made(t, f); len(r.Methods) != api.MaxMethods || len(r.Classes) != api.MaxClasses {
		t.Errorf("got %+v", r)
	}
}

// What is made of the least method has a register, as each one on registers must, though nothing needs it.
func TestI1NoSlots(t *testing.T) {
	r := made(t, file(sized(method(comeBack), 0, 0)))
	if r.Methods[0].Regs < 1 {
		t.Errorf("got %+v", r)
	}
	checkEnd(t, api.EndDone, sized(method(comeBack), 0, 0))
	checkEnd(t, api.EndFuel, sized(method(jump(0)), 0, 0))
	checkEnd(t, api.EndDone, sized(method(call(1), comeBack), 0, 0), sized(method(comeBack), 0, 0))
}

// The fields that registers do not have are zero, and so is what lies about what is made: F1 sees to the rest.
func TestI1NothingIsLeftOfTheStack(t *testing.T) {
	r := made(t, file(good(), method(putInt(1), pop, comeBack)))
	for _, m := range r.Methods {
		if m.Stack != 0 || m.Locals != 0 {
			t.Errorf("got %+v", m)
		}
	}
}

// The most that may be of all at once: what is made must still be a file that may be.
func TestI1TheGreatestMethods(t *testing.T) {
	m := giving(longType)
	m.Params = types(longType, longType, longType, longType)
	say := func(l ...api.Ins) { m.Code = append(m.Code, l...) }
	// Locals 8 and on are longs, too, in the slots up to the last one.
	for slot := 8; slot < api.MaxLocals; slot += 2 {
		say(putLong(int64(slot)), store(slot, api.KLong))
	}
	for range api.MaxStack/2 - 4 {
		say(putLong(3))
	}
	for len(m.Code) < api.MaxCode-8 {
		say(load(0, api.KLong), load(api.MaxLocals-2, api.KLong), load(2, api.KLong), load(8, api.KLong), call(1), pop)
	}
	for len(m.Code) < api.MaxCode-3 {
		say(comeIn)
		say(pop)
	}
	m.Code = m.Code[:api.MaxCode-3]
	say(putLong(7), comeBack, throwIt)
	for len(m.Handlers) < api.MaxHandlers {
		m.Handlers = append(m.Handlers, over(len(m.Handlers), len(m.Code), len(m.Code)-1, len(m.Handlers)))
	}
	callee := giving(longType, load(2, api.KLong), comeBack)
	callee.Params = m.Params
	f := file(slices.Repeat([]api.Method{m}, api.MaxMethods)...)
	f.Methods[1] = callee
	r := made(t, f)
	if len(m.Code) != api.MaxCode || r.Methods[0].Regs != api.MaxRegs {
		t.Errorf("not the greatest: %d instructions, %d registers", len(m.Code), r.Methods[0].Regs)
	}
	follow(t, f, asked{args: numbers(1, 2, 3, 4), input: make([]int64, api.MaxInput)})
}

// Each instruction takes all that it can on registers: calls that give something, under all handlers.
func TestI1TheMostCode(t *testing.T) {
	for _, l := range [][]api.Ins{{call(1), ins(api.SStore, api.MaxLocals-1, api.KInt)}, {putInt(1), pop}, {call(1), pop}} {
		m := method(join(times(api.MaxCode/2-1, l...), code(comeBack, throwIt))...)
		for len(m.Handlers) < api.MaxHandlers {
			m.Handlers = append(m.Handlers, over(0, api.MaxCode, api.MaxCode-1, upper))
		}
		if len(m.Code) != api.MaxCode {
			t.Fatalf("%d instructions", len(m.Code))
		}
		checkEnd(t, api.EndDone, m, good())
	}
	deep := method(join(times(api.MaxStack, putInt(5)), times(api.MaxCode-2*api.MaxStack-1, jump(api.MaxStack)), times(api.MaxStack, emitInt), code(comeBack))...)
	for k := api.MaxStack; k < api.MaxCode-api.MaxStack-1; k++ {
		deep.Code[k].A = k + 1
	}
	checkOut(t, slices.Repeat(numbers(5), api.MaxStack), deep)
}

func TestI1TheSameForTheSame(t *testing.T) {
	f := file(handled(method(putInt(1), putInt(0), div, emitInt, comeBack, isOf(2), emitInt, comeBack), over(0, 5, 5, 0)))
	if !reflect.DeepEqual(made(t, f), made(t, f)) {
		t.Error("two files of one")
	}
	if !rform.May(made(t, f)) {
		t.Error("it may not be")
	}
}
