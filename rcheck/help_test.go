package rcheck_test

import (
	"testing"

	"crosswalk/api"
	"crosswalk/rcheck"
)

var (
	intType  = api.Type{Kind: api.KInt}
	longType = api.Type{Kind: api.KLong}
)

func ref(class int) api.Type {
	return api.Type{Kind: api.KRef, Class: class}
}

func types(l ...api.Type) []api.Type {
	return l
}

// Classes of the tests: lower and beside stand below upper, and lowest below lower; other stands beside them all.
const (
	upper  = 4
	lower  = 5
	lowest = 6
	other  = 7
	beside = 8
)

func classes() []api.Class {
	return []api.Class{
		{Super: -1},
		{Super: 0},
		{Super: 0},
		{Super: 0},
		{Super: 0, Fields: types(intType, longType, ref(upper))},
		{Super: upper, Fields: types(longType, ref(other), intType)},
		{Super: lower},
		{Super: 0, Fields: types(intType)},
		{Super: upper},
	}
}

// ins has A, B and C in this order.
func ins(op int, fields ...int) api.Ins {
	var all [3]int
	copy(all[:], fields)
	return api.Ins{Op: op, A: all[0], B: all[1], C: all[2]}
}

// insN has N ahead of the others.
func insN(op int, n int64, fields ...int) api.Ins {
	i := ins(op, fields...)
	i.N = n
	return i
}

func setInt(a int) api.Ins             { return insN(api.RInt, 1, a) }
func setLong(a int) api.Ins            { return insN(api.RLong, 1, a) }
func setNull(a int) api.Ins            { return ins(api.RNull, a) }
func setNew(a, class int) api.Ins      { return ins(api.RNew, a, class) }
func move(a, b, kind int) api.Ins      { return ins(api.RMove, a, b, kind) }
func emit(a, kind int) api.Ins         { return ins(api.REmit, a, kind) }
func intOp(op, a, b, c int) api.Ins    { return insN(api.RIntOp, int64(op), a, b, c) }
func longOp(op, a, b, c int) api.Ins   { return insN(api.RLongOp, int64(op), a, b, c) }
func get(a, b, class, n int) api.Ins   { return insN(api.RGet, int64(n), a, b, class) }
func put(a, b, class, n int) api.Ins   { return insN(api.RPut, int64(n), a, b, class) }
func is(a, b, class int) api.Ins       { return ins(api.RIs, a, b, class) }
func cast(a, class int) api.Ins        { return ins(api.RCast, a, class) }
func result(a, kind int) api.Ins       { return ins(api.RResult, a, kind) }
func giveBack(a int) api.Ins           { return ins(api.RReturn, a) }
func throwIt(a int) api.Ins            { return ins(api.RThrow, a) }
func caught(a int) api.Ins             { return ins(api.RCaught, a) }
func comeIn(a int) api.Ins             { return ins(api.RIn, a) }
func jump(to int) api.Ins              { return ins(api.RGoto, to) }
func jumpIf(to, c int) api.Ins         { return ins(api.RIf, to, api.CondZero, c) }
func jumpIfNull(to, c int) api.Ins     { return ins(api.RIfNull, to, 0, c) }
func call(to int, args ...int) api.Ins { return api.Ins{Op: api.RCall, A: to, Args: args} }

var comeBack = ins(api.RReturn)

// use reads a register of a kind, and writes to one that nobody asks for.
func use(at, kind int) api.Ins {
	return move(api.MaxRegs-2, at, kind)
}

func over(from, to, at, class int) api.Handler {
	return api.Handler{From: from, To: to, At: at, Class: class}
}

func code(l ...api.Ins) []api.Ins {
	return l
}

func join(lists ...[]api.Ins) []api.Ins {
	var all []api.Ins
	for _, l := range lists {
		all = append(all, l...)
	}
	return all
}

// method has registers enough for all that the tests write.
func method(l ...api.Ins) api.Method {
	return api.Method{Regs: api.MaxRegs, Code: l}
}

func giving(t api.Type, l ...api.Ins) api.Method {
	m := method(l...)
	m.Ret = t
	return m
}

func taking(types []api.Type, l ...api.Ins) api.Method {
	m := method(l...)
	m.Params = types
	return m
}

func handled(m api.Method, handlers ...api.Handler) api.Method {
	m.Handlers = handlers
	return m
}

func file(methods ...api.Method) api.File {
	return api.File{Classes: classes(), Methods: methods}
}

func checkFault(t *testing.T, want api.Fault, f api.File) {
	t.Helper()
	if got := rcheck.Check(f); got != want {
		t.Errorf("got %+v, want %+v: %+v", got, want, f.Methods)
	}
}

func accept(t *testing.T, methods ...api.Method) {
	t.Helper()
	checkFault(t, api.Fault{}, file(methods...))
}

func refuse(t *testing.T, methods ...api.Method) {
	t.Helper()
	checkFault(t, api.Fault{Code: api.ErrKind}, file(methods...))
}

// acceptIf has the first method alone at fault, if any is.
func acceptIf(t *testing.T, so bool, methods ...api.Method) {
	t.Helper()
	if so {
		accept(t, methods...)
		return
	}
	refuse(t, methods...)
}

// known is what can be known of one value: none is of KRef with the class -1.
type known = api.Type

var none = ref(-1)

// allKnown has one of each that can be in a register.
func allKnown() []known {
	return append(types(none), allTypes()...)
}

// allTypes has one of each that a field, a parameter, a result may have.
func allTypes() []api.Type {
	l := types(intType, longType)
	for c := range classes() {
		l = append(l, ref(c))
	}
	return l
}

// set writes a value of which this is known.
func set(a int, k known) api.Ins {
	switch {
	case k == intType:
		return setInt(a)
	case k == longType:
		return setLong(a)
	case k == none:
		return setNull(a)
	}
	return setNew(a, k.Class)
}

func slotsOf(l ...known) int {
	slots := 0
	for _, k := range l {
		slots++
		if k.Kind == api.KLong {
			slots++
		}
	}
	return slots
}

// isBelow tells by hand what package hier tells.
func isBelow(c, d int) bool {
	above := [][]int{{0}, {0, 1}, {0, 2}, {0, 3}, {0, upper}, {0, upper, lower}, {0, upper, lower, lowest}, {0, other}, {0, upper, beside}}
	for _, x := range above[c] {
		if x == d {
			return true
		}
	}
	return false
}

func fits(k known, t api.Type) bool {
	if k.Kind != t.Kind {
		return false
	}
	return k.Kind != api.KRef || k == none || isBelow(k.Class, t.Class)
}

// givesBack has a method for each type that the register may be given back as, or may not.
func givesBack(t *testing.T, k known, at int, l ...api.Ins) {
	t.Helper()
	for _, want := range allTypes() {
		acceptIf(t, fits(k, want), giving(want, join(l, code(giveBack(at)))...))
	}
}
