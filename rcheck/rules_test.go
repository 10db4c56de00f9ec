package rcheck_test

import (
	"math"
	"math/rand"
	"reflect"
	"testing"

	"crosswalk/api"
	"crosswalk/rcheck"
	"crosswalk/rform"
)

func TestP1WhateverIsGiven(t *testing.T) {
	far := []int{math.MinInt, -1, 0, 1, 3, 24, 25, math.MaxInt}
	for _, a := range far {
		for _, b := range far {
			for _, op := range append(far, api.RMove, api.RGoto, api.RIf, api.RGet, api.RCall, api.RResult, api.RReturn, api.REmit) {
				i := api.Ins{Op: op, A: a, B: b, C: b, N: int64(a), Args: []int{b}}
				rcheck.Check(file(method(i, comeBack)))
				rcheck.Check(file(method(api.Ins{Op: op, A: a, B: b, C: 3, N: int64(b)}, comeBack)))
				rcheck.Check(file(handled(method(i), over(a, b, op, a))))
				rcheck.Check(api.File{Classes: []api.Class{{Super: a, Fields: types(api.Type{Kind: b, Class: op})}}, Methods: []api.Method{method(i)}})
				rcheck.Check(file(api.Method{Params: types(ref(a)), Ret: api.Type{Kind: b}, Stack: a, Locals: b, Regs: op, Code: code(i)}))
			}
		}
	}
}

func TestP1RandomFilesOfManyMethods(t *testing.T) {
	r := rand.New(rand.NewSource(9))
	for range 3000 {
		f := randomFile(r, 4)
		want := api.Fault{Code: api.ErrForm}
		if rform.May(f) {
			want = modelCheck(f)
		}
		checkFault(t, want, f)
	}
}

// deepClasses stand each below the one ahead of it.
func deepClasses() []api.Class {
	l := make([]api.Class, api.MaxClasses)
	for c := range l {
		l[c].Super = c - 1
	}
	return l
}

// The greatest methods: less is known of one register after the other, in many rounds, under all handlers.
func TestP1TheGreatestMethodsEnd(t *testing.T) {
	m := method()
	say := func(l ...api.Ins) { m.Code = append(m.Code, l...) }
	for n := range api.MaxRegs {
		say(setNew(n, api.MaxClasses-1))
	}
	start := len(m.Code)
	for n := api.MaxRegs - 1; n > 0; n-- {
		say(move(n, n-1, api.KRef))
		if n%8 == 0 {
			say(jumpIfNull(len(m.Code)+2, n), setNew(n, n/8))
		}
	}
	say(setNew(0, 0))
	for len(m.Code) < api.MaxRegCode-3 {
		say(move(5, api.MaxRegs-1, api.KRef))
	}
	say(jump(start), caught(5), jump(start))
	for len(m.Handlers) < api.MaxHandlers {
		m.Handlers = append(m.Handlers, over(start, len(m.Code), len(m.Code)-2, len(m.Handlers)))
	}
	checkFault(t, api.Fault{}, api.File{Classes: deepClasses(), Methods: []api.Method{m, m, m}})
}

func sharedFile() api.File {
	m := giving(intType, setInt(2), emit(0, api.KLong), call(0, 0), result(3, api.KInt), giveBack(3), caught(4), jump(0))
	m.Params = types(longType)
	return file(handled(m, over(0, 5, 5, upper)), bad())
}

func TestP3WhatIsHandedInStays(t *testing.T) {
	f := sharedFile()
	for range 2 {
		checkFault(t, api.Fault{Code: api.ErrKind, Method: 1}, f)
		if !reflect.DeepEqual(f, sharedFile()) {
			t.Fatalf("changed: %+v", f)
		}
	}
}

func TestP3WhatLiesBehindAListIsNotRead(t *testing.T) {
	l := code(setInt(0), emit(0, api.KInt), comeBack)
	refuse(t, method(l[:2]...))
	accept(t, method(l...))
	m := method(comeBack, use(70, api.KInt))
	m.Handlers = []api.Handler{over(0, 1, 1, 0)}[:0]
	accept(t, m)
	params := types(intType, longType)
	refuse(t, taking(params[:1], use(1, api.KLong), comeBack))
	registers := []int{0, 1}
	accept(t, method(setInt(0), call(1, registers[:1]...), comeBack), taking(params[:1], comeBack))
	methods := []api.Method{good(), bad()}
	accept(t, methods[:1]...)
}
