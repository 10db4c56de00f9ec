package scheck_test

import (
	"testing"

	"crosswalk/api"
	"crosswalk/scheck"
)

var (
	intType  = api.Type{Kind: api.KInt}
	longType = api.Type{Kind: api.KLong}
)

func ref(class int) api.Type {
	return api.Type{Kind: api.KRef, Class: class}
}

func types(l ...api.Type) []api.Type {
	return l
}

// Classes of the tests: lower and beside stand below upper, and lowest below lower; other stands beside them all.
const (
	upper  = 4
	lower  = 5
	lowest = 6
	other  = 7
	beside = 8
)

func classes() []api.Class {
	return []api.Class{
		{Super: -1},
		{Super: 0},
		{Super: 0},
		{Super: 0},
		{Super: 0, Fields: types(intType, longType, ref(upper))},
		{Super: upper, Fields: types(longType, ref(other), intType)},
		{Super: lower},
		{Super: 0, Fields: types(intType)},
		{Super: upper},
	}
}

func ins(op int, fields ...int) api.Ins {
	i := api.Ins{Op: op}
	for k, n := range fields {
		switch k {
		case 0:
			i.A = n
		case 1:
			i.B = n
		}
	}
	return i
}

var (
	putInt   = api.Ins{Op: api.SInt, N: 1}
	putLong  = api.Ins{Op: api.SLong, N: 1}
	putNull  = ins(api.SNull)
	comeBack = ins(api.SReturn)
	throwIt  = ins(api.SThrow)
	pop      = ins(api.SPop)
	dup      = ins(api.SDup)
)

func putNew(class int) api.Ins {
	return ins(api.SNew, class)
}

func load(slot, kind int) api.Ins {
	return ins(api.SLoad, slot, kind)
}

func store(slot, kind int) api.Ins {
	return ins(api.SStore, slot, kind)
}

func code(l ...api.Ins) []api.Ins {
	return l
}

func join(lists ...[]api.Ins) []api.Ins {
	var all []api.Ins
	for _, l := range lists {
		all = append(all, l...)
	}
	return all
}

func times(n int, l ...api.Ins) []api.Ins {
	var all []api.Ins
	for range n {
		all = append(all, l...)
	}
	return all
}

// method has room enough for all that the tests put.
func method(l ...api.Ins) api.Method {
	return api.Method{Stack: api.MaxStack, Locals: api.MaxLocals, Code: l}
}

func giving(t api.Type, l ...api.Ins) api.Method {
	m := method(l...)
	m.Ret = t
	return m
}

func taking(types []api.Type, l ...api.Ins) api.Method {
	m := method(l...)
	m.Params = types
	return m
}

func handled(m api.Method, handlers ...api.Handler) api.Method {
	m.Handlers = handlers
	return m
}

func onStack(slots int, l ...api.Ins) api.Method {
	m := method(l...)
	m.Stack = slots
	return m
}

func file(methods ...api.Method) api.File {
	return api.File{Classes: classes(), Methods: methods}
}

func checkFault(t *testing.T, want api.Fault, f api.File) {
	t.Helper()
	if got := scheck.Check(f); got != want {
		t.Errorf("got %+v, want %+v: %+v", got, want, f.Methods)
	}
}

func accept(t *testing.T, methods ...api.Method) {
	t.Helper()
	checkFault(t, api.Fault{}, file(methods...))
}

func refuse(t *testing.T, methods ...api.Method) {
	t.Helper()
	checkFault(t, api.Fault{Code: api.ErrKind}, file(methods...))
}

// acceptIf has the first method alone at fault, if any is.
func acceptIf(t *testing.T, so bool, methods ...api.Method) {
	t.Helper()
	if so {
		accept(t, methods...)
		return
	}
	refuse(t, methods...)
}

// known is what can be known of one value: none is of KRef with the class -1.
type known = api.Type

var none = ref(-1)

// allKnown has one of each that can be put on a stack.
func allKnown() []known {
	l := []known{intType, longType, none}
	for c := range classes() {
		l = append(l, ref(c))
	}
	return l
}

// allTypes has one of each that a field, a parameter, a result may have.
func allTypes() []api.Type {
	l := []api.Type{intType, longType}
	for c := range classes() {
		l = append(l, ref(c))
	}
	return l
}

// putKnown puts a value of which this is known.
func putKnown(k known) api.Ins {
	switch {
	case k == intType:
		return putInt
	case k == longType:
		return putLong
	case k == none:
		return putNull
	}
	return putNew(k.Class)
}

func putAll(l ...known) []api.Ins {
	var all []api.Ins
	for _, k := range l {
		all = append(all, putKnown(k))
	}
	return all
}

func slotsOf(l ...known) int {
	slots := 0
	for _, k := range l {
		slots++
		if k.Kind == api.KLong {
			slots++
		}
	}
	return slots
}

// isBelow tells by hand what package hier tells.
func isBelow(c, d int) bool {
	above := [][]int{{0}, {0, 1}, {0, 2}, {0, 3}, {0, upper}, {0, upper, lower}, {0, upper, lower, lowest}, {0, other}, {0, upper, beside}}
	for _, x := range above[c] {
		if x == d {
			return true
		}
	}
	return false
}

func fits(k known, t api.Type) bool {
	if k.Kind != t.Kind {
		return false
	}
	return k.Kind != api.KRef || k == none || isBelow(k.Class, t.Class)
}
