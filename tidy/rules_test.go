package tidy_test

import (
	"math"
	"math/rand"
	"reflect"
	"slices"
	"testing"
	"unsafe"

	"crosswalk/api"
	"crosswalk/rcheck"
	"crosswalk/tidy"
)

func TestP1WhateverIsGiven(t *testing.T) {
	far := []int{math.MinInt, -1, 0, 1, 3, 24, 25, 60, math.MaxInt}
	look := func(f api.File) {
		r, x := tidy.Make(f)
		if x != rcheck.Check(f) {
			t.Fatalf("fault %+v of %+v", x, f)
		}
		if x.Code != api.OK {
			checkFault(t, x, f)
		} else if y := rcheck.Check(r); y.Code != api.OK {
			t.Fatalf("fault %+v of what is made of %+v", y, f)
		}
	}
	for _, a := range far {
		for _, b := range far {
			for _, op := range append(far, api.RLong, api.RMove, api.RGoto, api.RIf, api.RGet, api.RCall, api.RResult, api.REmit) {
				for _, i := range []api.Ins{{Op: op, A: a, B: b}, {Op: op, A: a, C: b}, {Op: op, A: a, N: int64(b)}, {Op: op, A: a, Args: []int{b}}} {
					look(file(method(i, comeBack)))
					look(file(method(comeBack, i)))
					look(file(handled(method(i), over(a, b, op, a))))
					look(api.File{Classes: []api.Class{{Super: a, Fields: types(api.Type{Kind: b, Class: op})}}, Methods: []api.Method{method(i)}})
					look(file(api.Method{Params: types(ref(a)), Ret: api.Type{Kind: b}, Stack: a, Locals: b, Regs: op, Code: code(i)}))
				}
			}
		}
	}
}

// The greatest methods: less is known of one register after the other, in many rounds, under all handlers.
func TestP1TheGreatestMethodsEnd(t *testing.T) {
	m := sized(method(), api.MaxRegs)
	say := func(l ...api.Ins) { m.Code = append(m.Code, l...) }
	for r := range api.MaxRegs {
		say(setNew(r, lowest))
	}
	start := len(m.Code)
	for r := api.MaxRegs - 1; r > 0; r-- {
		say(move(r, r-1, api.KRef))
	}
	say(setNew(0, upper))
	for len(m.Code) < api.MaxRegCode-5 {
		say(is(0, 1, lower), setNew(0, lower))
	}
	for len(m.Code) < api.MaxRegCode-3 {
		say(setNew(0, upper))
	}
	say(jump(start), caught(0), jump(start))
	for len(m.Handlers) < api.MaxHandlers {
		m.Handlers = append(m.Handlers, over(start, len(m.Code), len(m.Code)-2, len(m.Handlers)))
	}
	// One of them is idle, in every round.
	m.Code[start+1] = stayRef(4)
	if r := made(t, file(m)); len(r.Methods[0].Code) != len(m.Code)-1 {
		t.Errorf("left are %d instructions", len(r.Methods[0].Code))
	}
}

// As many calls, with as many Args, as there may be: each has a list of its own.
func TestP3TheMostArgs(t *testing.T) {
	callee := taking(types(intType, intType, intType, intType), comeBack)
	f := file(method(join(code(setInt(0, 1)), times(api.MaxRegCode-2, call(1, 0, 0, 0, 0)), code(comeBack))...), callee)
	r := made(t, f)
	if !slices.EqualFunc(r.Methods[0].Code, f.Methods[0].Code, sameIns) {
		t.Fatal("other calls")
	}
	r.Methods[0].Code[1].Args[0] = 9
	if f.Methods[0].Code[1].Args[0] != 0 || r.Methods[0].Code[2].Args[0] != 0 || len(append(r.Methods[0].Code[1].Args, 7)) != 5 {
		t.Error("calls share their Args")
	}
}

// sharedFile has a list of each kind, all of them with something behind their length.
func sharedFile() api.File {
	m := giving(intType, setInt(5, 1), setInt(3, 1), call(0, 0, 2), result(3, api.KInt), stayInt(3), giveBack(3), caught(7), jump(0), call(0, 0, 2), throwIt(9), throwIt(9))
	m.Params = types(longType, ref(upper), intType)[:2]
	m.Code = m.Code[:9]
	m.Code[2].Args = []int{0, 2, 99}[:2]
	m.Handlers = []api.Handler{over(0, 6, 6, upper), over(1, 2, 0, lower), over(4, 5, 0, 0), over(9, 9, 9, 9)}[:3]
	n := m
	n.Code = slices.Clone(m.Code)
	n.Code[2].Args = []int{0, 2}
	l := append(classes(), api.Class{Super: 99})
	l[upper].Fields = append(l[upper].Fields, ref(99))[:3]
	return api.File{Classes: l[:len(l)-1], Methods: []api.Method{m, n, {}}[:2]}
}

// whole answers a file with all that lies behind the lists of it.
func whole(f api.File) api.File {
	f.Classes = slices.Clone(f.Classes[:cap(f.Classes)])
	for k, c := range f.Classes {
		f.Classes[k].Fields = slices.Clone(c.Fields[:cap(c.Fields)])
	}
	f.Methods = slices.Clone(f.Methods[:cap(f.Methods)])
	for k, m := range f.Methods {
		f.Methods[k].Params = slices.Clone(m.Params[:cap(m.Params)])
		f.Methods[k].Code = slices.Clone(m.Code[:cap(m.Code)])
		for n, i := range f.Methods[k].Code {
			f.Methods[k].Code[n].Args = slices.Clone(i.Args[:cap(i.Args)])
		}
		f.Methods[k].Handlers = slices.Clone(m.Handlers[:cap(m.Handlers)])
	}
	return f
}

func TestP3WhatIsHandedInStays(t *testing.T) {
	f := sharedFile()
	first := made(t, f)
	if !reflect.DeepEqual(whole(f), whole(sharedFile())) {
		t.Fatalf("changed: %+v", f)
	}
	wreck(first)
	if !reflect.DeepEqual(whole(f), whole(sharedFile())) {
		t.Errorf("what is made shares memory with what it was made of: %+v", f)
	}
	if second := made(t, f); reflect.DeepEqual(first, second) {
		t.Errorf("what was made once is made again: %+v", second)
	}
}

// wreck writes over all that a file has.
func wreck(f api.File) {
	for k := range f.Classes {
		for n := range f.Classes[k].Fields {
			f.Classes[k].Fields[n] = ref(77)
		}
		f.Classes[k].Super = 77
	}
	for _, m := range f.Methods {
		for n := range m.Params {
			m.Params[n] = ref(77)
		}
		for n, i := range m.Code {
			m.Code[n].Op = 77
			for k := range i.Args {
				i.Args[k] = 77
			}
		}
		for n := range m.Handlers {
			m.Handlers[n].At = 77
		}
	}
}

// span is where the memory of a list begins and ends, with what lies behind its length.
type span struct{ from, to uintptr }

func spanOf[T any](l []T) span {
	var one T
	from := uintptr(unsafe.Pointer(unsafe.SliceData(l)))
	return span{from, from + uintptr(cap(l))*unsafe.Sizeof(one)}
}

func spans(f api.File) []span {
	l := []span{spanOf(f.Classes), spanOf(f.Methods)}
	for _, c := range f.Classes {
		l = append(l, spanOf(c.Fields))
	}
	for _, m := range f.Methods {
		l = append(l, spanOf(m.Params), spanOf(m.Code), spanOf(m.Handlers))
		for _, i := range m.Code {
			l = append(l, spanOf(i.Args))
		}
	}
	return l
}

func TestP3NoTwoListsShareMemory(t *testing.T) {
	r := rand.New(rand.NewSource(8))
	files := []api.File{sharedFile()}
	for range 40 {
		files = append(files, makeFile(r, 14, 0))
	}
	for _, f := range files {
		given, out := spans(f), spans(made(t, f))
		for k, s := range out {
			for _, x := range slices.Concat(given, out[:k]) {
				if s.from < x.to && x.from < s.to {
					t.Fatalf("shared: %+v", f)
				}
			}
		}
	}
}

func TestP3WhatLiesBehindAListIsNotRead(t *testing.T) {
	l := code(setInt(0, 1), emitInt(0), comeBack, caught(0), jump(0))
	handlers := []api.Handler{over(0, 2, 3, 0), over(0, 9, 9, 9)}
	checkStays(t, method(l[:3]...))
	checkFault(t, api.Fault{Code: api.ErrKind}, file(method(l[:2]...)))
	checkStays(t, handled(method(l...), handlers[:1]...))
	checkLeft(t, method(l[:3]...), handled(method(l...), handlers[:0]...))
	methods := []api.Method{good(), bad()}
	if r := made(t, file(methods[:1]...)); len(r.Methods) != 1 {
		t.Errorf("got %+v", r)
	}
	params := types(intType, longType)
	args := []int{0, 2}
	checkStays(t, method(setInt(0, 4), call(1, args[:1]...), comeBack), taking(params[:1], emitInt(0), comeBack))
	// An RResult behind the code's end fetches nothing; an idle one there leads nowhere.
	calls := code(call(1), jump(0), result(0, api.KInt))
	checkStays(t, method(calls[:2]...), good())
	idle := code(jump(1), stayInt(0), comeBack)
	checkFault(t, api.Fault{Code: api.ErrKind}, file(taking(types(intType), idle[:2]...)))
}

func TestP3EmptyLists(t *testing.T) {
	m := api.Method{Params: []api.Type{}, Handlers: []api.Handler{}, Regs: 1, Code: code(api.Ins{Op: api.RReturn, Args: []int{}})}
	f := api.File{Classes: []api.Class{{Super: -1, Fields: []api.Type{}}, {}, {}, {}}, Methods: []api.Method{m}}
	if s := follow(t, f, asked{args: []int64{}, input: []int64{}}); s.End != api.EndDone {
		t.Errorf("got %+v", s)
	}
}
