package scheck_test

import (
	"math"
	"math/rand"
	"reflect"
	"testing"

	"crosswalk/api"
	"crosswalk/scheck"
)

func TestP1WhateverIsGiven(t *testing.T) {
	far := []int{math.MinInt, -1, 0, 1, 3, 25, 26, math.MaxInt}
	for _, a := range far {
		for _, b := range far {
			for _, op := range append(far, api.SLoad, api.SStore, api.SGoto, api.SIf, api.SGet, api.SCall, api.SEmit) {
				i := api.Ins{Op: op, A: a, B: b}
				scheck.Check(file(method(i, comeBack)))
				scheck.Check(file(handled(method(i), over(a, b, op, a))))
				scheck.Check(api.File{Classes: []api.Class{{Super: a, Fields: types(api.Type{Kind: b, Class: op})}}, Methods: []api.Method{method(i)}})
				scheck.Check(file(api.Method{Params: types(ref(a)), Ret: api.Type{Kind: b}, Stack: a, Locals: b, Regs: op, Code: code(i)}))
			}
		}
	}
}

func TestP1RandomFilesOfManyMethods(t *testing.T) {
	r := rand.New(rand.NewSource(9))
	for range 3000 {
		f := file(randomMethod(r, 3), randomMethod(r, 3), randomMethod(r, 3))
		if got, want := scheck.Check(f), modelCheck(f); got != want {
			t.Fatalf("got %+v, want %+v: %+v", got, want, f.Methods)
		}
	}
}

// The greatest methods: less is known of one slot after the other, in many rounds, under all handlers.
func TestP1TheGreatestMethodsEnd(t *testing.T) {
	m := handled(method())
	put := func(l ...api.Ins) { m.Code = append(m.Code, l...) }
	for slot := range api.MaxLocals {
		put(putNew(lowest), store(slot, api.KRef))
	}
	start := len(m.Code)
	for slot := api.MaxLocals - 1; slot > 0; slot-- {
		put(load(slot-1, api.KRef), store(slot, api.KRef))
	}
	put(putNew(upper), store(0, api.KRef))
	for len(m.Code) < api.MaxCode-4 {
		put(putInt, pop)
	}
	put(ins(api.SGoto, start), pop, ins(api.SGoto, start))
	for len(m.Handlers) < api.MaxHandlers {
		m.Handlers = append(m.Handlers, over(start, len(m.Code), len(m.Code)-2, len(m.Handlers)))
	}
	accept(t, m, m, m, m, m, m, m, m)
}

func sharedFile() api.File {
	m := giving(intType, putInt, store(2, api.KInt), load(0, api.KLong), pop, load(2, api.KInt), comeBack, pop, ins(api.SGoto, 0))
	m.Params = types(longType)
	return file(handled(m, over(0, 5, 6, upper)), bad())
}

func TestP3WhatIsHandedInStays(t *testing.T) {
	f := sharedFile()
	for range 2 {
		checkFault(t, api.Fault{Code: api.ErrKind, Method: 1}, f)
		if !reflect.DeepEqual(f, sharedFile()) {
			t.Fatalf("changed: %+v", f)
		}
	}
}

func TestP3WhatLiesBehindAListIsNotRead(t *testing.T) {
	l := code(putInt, pop, comeBack)
	refuse(t, method(l[:2]...))
	accept(t, method(l...))
	m := method(comeBack, pop, pop)
	m.Handlers = []api.Handler{over(0, 1, 1, 0)}[:0]
	accept(t, m)
	params := types(intType, longType)
	refuse(t, taking(params[:1], load(1, api.KLong), comeBack))
	accept(t, method(putInt, ins(api.SCall, 1), comeBack), taking(params[:1], comeBack))
	methods := []api.Method{good(), bad()}
	accept(t, methods[:1]...)
}
