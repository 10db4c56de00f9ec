package sform_test

import (
	"math"
	"reflect"
	"testing"

	"crosswalk/api"
	"crosswalk/sform"
)

var (
	intType  = api.Type{Kind: api.KInt}
	longType = api.Type{Kind: api.KLong}
)

func ref(class int) api.Type {
	return api.Type{Kind: api.KRef, Class: class}
}

// classes has five: class 3 has two fields of its own, class 4, which stands below it, one.
func classes() []api.Class {
	return []api.Class{
		{Super: -1},
		{Super: 0},
		{Super: 0},
		{Super: 0, Fields: []api.Type{intType, ref(4)}},
		{Super: 3, Fields: []api.Type{longType}},
	}
}

func returns(n int) []api.Ins {
	l := make([]api.Ins, n)
	for i := range l {
		l[i].Op = api.SReturn
	}
	return l
}

// file has three methods of five instructions, and six slots of locals.
func file() api.File {
	f := api.File{Classes: classes()}
	for range 3 {
		f.Methods = append(f.Methods, api.Method{Stack: 4, Locals: 6, Code: returns(5)})
	}
	return f
}

// changed has one method as the change makes it, at the place.
func changed(at int, change func(m *api.Method)) api.File {
	f := file()
	change(&f.Methods[at])
	return f
}

func checkMay(t *testing.T, want bool, f api.File) {
	t.Helper()
	if got := sform.May(f); got != want {
		t.Errorf("May of %+v: got %v", f, got)
	}
}

// checkMethods looks at the change in the first and in the last method.
func checkMethods(t *testing.T, want bool, change func(m *api.Method)) {
	t.Helper()
	checkMay(t, want, changed(0, change))
	checkMay(t, want, changed(2, change))
}

func copies[T any](one T, n int) []T {
	l := make([]T, n)
	for i := range l {
		l[i] = one
	}
	return l
}

// far are numbers that are nowhere near a bound, some of them near one if they lose their upper bits.
func far() []int {
	return []int{math.MinInt, math.MinInt + 1, -1 << 32, -1000, -1, 1 << 8, 1<<8 + 1, 1 << 32, 1<<32 + 1, math.MaxInt - 1, math.MaxInt}
}

func TestC1OrdinaryFile(t *testing.T) {
	f := file()
	f.Methods[1] = api.Method{
		Params: []api.Type{longType, ref(4), intType},
		Ret:    longType,
		Stack:  4,
		Locals: 4,
		Code: []api.Ins{
			{Op: api.SLoad, A: 0, B: api.KLong},
			{Op: api.SLoad, A: 2, B: api.KRef},
			{Op: api.SGet, A: 4, B: 0},
			{Op: api.SLongOp, A: api.OpMul},
			{Op: api.SReturn},
		},
		Handlers: []api.Handler{{From: 0, To: 4, At: 4, Class: 0}},
	}
	checkMay(t, true, f)
}

func TestC1Classes(t *testing.T) {
	f := file()
	f.Classes = []api.Class{{Super: -1}, {}, {}, {}}
	checkMay(t, true, f)
	for _, l := range [][]api.Class{
		nil,
		{{Super: -1}, {}, {}},
		{{}, {}, {}, {}},
		{{Super: -1}, {Super: 1}, {}, {}},
		{{Super: -1}, {}, {}, {Fields: []api.Type{{}}}},
		{{Super: -1}, {}, {}, {Fields: []api.Type{ref(4)}}},
		{{Super: -1}, {}, {}, {Fields: copies(intType, api.MaxFields+1)}},
		append([]api.Class{{Super: -1}}, make([]api.Class, api.MaxClasses)...),
	} {
		f.Classes = l
		checkMay(t, false, f)
	}
}

func TestC1HowManyMethods(t *testing.T) {
	one := api.Method{Code: returns(1)}
	for n := range api.MaxMethods + 5 {
		f := api.File{Classes: classes(), Methods: copies(one, n)}
		checkMay(t, n >= 1 && n <= api.MaxMethods, f)
	}
	checkMay(t, false, api.File{Classes: classes(), Methods: copies(one, 10000)})
}

func TestC1HowManyParams(t *testing.T) {
	for n := range api.MaxParams + 5 {
		for _, one := range []api.Type{intType, longType, ref(0), ref(4)} {
			checkMethods(t, n <= api.MaxParams, func(m *api.Method) {
				m.Params = copies(one, n)
				m.Locals = api.MaxLocals
			})
		}
	}
}

// badTypes may be no field's, KVoid with Class 0 aside.
func badTypes() []api.Type {
	var l []api.Type
	for _, kind := range append(far(), 4, 5) {
		l = append(l, api.Type{Kind: kind}, api.Type{Kind: kind, Class: 1})
	}
	for _, class := range append(far(), 1, 4, 5) {
		l = append(l, api.Type{Kind: api.KVoid, Class: class}, api.Type{Kind: api.KInt, Class: class}, api.Type{Kind: api.KLong, Class: class})
	}
	for _, class := range append(far(), 5, 6) {
		l = append(l, ref(class))
	}
	return l
}

func goodTypes() []api.Type {
	return []api.Type{intType, longType, ref(0), ref(1), ref(2), ref(3), ref(4)}
}

func TestC1TypesOfParams(t *testing.T) {
	for place := range api.MaxParams {
		check := func(want bool, one api.Type) {
			t.Helper()
			checkMethods(t, want, func(m *api.Method) {
				m.Params = copies(intType, api.MaxParams)
				m.Params[place] = one
			})
		}
		for _, one := range goodTypes() {
			check(true, one)
		}
		for _, one := range badTypes() {
			check(false, one)
		}
		check(false, api.Type{Kind: api.KVoid})
	}
}

func TestC1Ret(t *testing.T) {
	for _, one := range append(goodTypes(), api.Type{Kind: api.KVoid}) {
		checkMethods(t, true, func(m *api.Method) { m.Ret = one })
	}
	for _, one := range badTypes() {
		checkMethods(t, false, func(m *api.Method) { m.Ret = one })
	}
}

func TestC1Regs(t *testing.T) {
	for _, n := range append(far(), 1, 2, api.MaxRegs) {
		checkMethods(t, false, func(m *api.Method) { m.Regs = n })
	}
}

func TestC1Stack(t *testing.T) {
	for n := range api.MaxStack + 4 {
		checkMethods(t, n <= api.MaxStack, func(m *api.Method) { m.Stack = n })
	}
	for _, n := range far() {
		checkMethods(t, false, func(m *api.Method) { m.Stack = n })
	}
}

func TestC1Locals(t *testing.T) {
	for n := range api.MaxLocals + 4 {
		checkMethods(t, n <= api.MaxLocals, func(m *api.Method) { m.Locals = n })
	}
	for _, n := range far() {
		checkMethods(t, false, func(m *api.Method) { m.Locals = n })
	}
}

func TestC1LocalsHoldParams(t *testing.T) {
	for _, x := range []struct {
		params []api.Type
		slots  int
	}{
		{[]api.Type{intType}, 1},
		{[]api.Type{longType}, 2},
		{[]api.Type{ref(4)}, 1},
		{[]api.Type{intType, longType}, 3},
		{[]api.Type{longType, ref(0)}, 3},
		{[]api.Type{longType, intType, ref(3), longType}, 6},
		{copies(intType, api.MaxParams), api.MaxParams},
		{copies(ref(1), api.MaxParams), api.MaxParams},
		{copies(longType, api.MaxParams), 2 * api.MaxParams},
	} {
		for n := range 2*api.MaxParams + 3 {
			checkMethods(t, n >= x.slots, func(m *api.Method) {
				m.Params = x.params
				m.Locals = n
			})
		}
	}
}

func TestC1SlotsOfTypes(t *testing.T) {
	if n := sform.Slots(); n != 0 {
		t.Errorf("no types take %d slots", n)
	}
	if n := sform.Slots(intType, longType, ref(2), longType, api.Type{}); n != 6 {
		t.Errorf("an int, two longs, a reference and nothing take %d slots", n)
	}
}

func TestC1HowManyInstructions(t *testing.T) {
	for _, n := range []int{0, 1, 2, 100, api.MaxCode - 1, api.MaxCode, api.MaxCode + 1, api.MaxCode + 2, api.MaxRegCode, 100000} {
		checkMethods(t, n >= 1 && n <= api.MaxCode, func(m *api.Method) { m.Code = returns(n) })
	}
	checkMethods(t, false, func(m *api.Method) { m.Code = nil })
}

// checkIns looks at the instruction at the beginning, within, and at the end of a method.
func checkIns(t *testing.T, want bool, ins api.Ins) {
	t.Helper()
	for place := range 5 {
		f := changed(1, func(m *api.Method) { m.Code[place] = ins })
		if got := sform.May(f); got != want {
			t.Errorf("May with %+v at %d: got %v", ins, place, got)
		}
	}
}

// span are the numbers that a field may have; all others it may not.
type span struct{ least, most int }

// row is one of the table, with what its fields may be in a file() of this test; what it does not name is 0.
type row struct {
	ops  []int
	a, b span
}

func rows() []row {
	none := span{0, 0}
	return []row{
		{[]int{api.SInt, api.SLong, api.SNull, api.SWiden, api.SNarrow, api.SCmp, api.SReturn, api.SThrow, api.SPop, api.SDup, api.SIn}, none, none},
		{[]int{api.SIntOp, api.SLongOp}, span{1, 8}, none},
		{[]int{api.SGoto, api.SIfNull}, span{0, 4}, none},
		{[]int{api.SIf}, span{0, 4}, span{1, 4}},
		{[]int{api.SNew, api.SCast, api.SIs}, span{0, 4}, none},
		{[]int{api.SCall}, span{0, 2}, none},
		{[]int{api.SEmit}, span{1, 2}, none},
	}
}

func TestC1FieldsOfRows(t *testing.T) {
	near := []int{-2, -1, 0, 1, 2, 3, 4, 5, 6, 7, 8, 9, 10}
	for _, r := range rows() {
		for _, op := range r.ops {
			for _, a := range append(far(), near...) {
				for _, b := range append(far(), near...) {
					want := r.a.least <= a && a <= r.a.most && r.b.least <= b && b <= r.b.most
					checkIns(t, want, api.Ins{Op: op, A: a, B: b})
				}
			}
		}
	}
}

func TestC1LoadAndStore(t *testing.T) {
	for _, op := range []int{api.SLoad, api.SStore} {
		for a := -2; a < 9; a++ {
			checkIns(t, a >= 0 && a <= 5, api.Ins{Op: op, A: a, B: api.KInt})
			checkIns(t, a >= 0 && a <= 4, api.Ins{Op: op, A: a, B: api.KLong})
			checkIns(t, a >= 0 && a <= 5, api.Ins{Op: op, A: a, B: api.KRef})
			for _, kind := range append(far(), api.KVoid, 4, 5) {
				checkIns(t, false, api.Ins{Op: op, A: a, B: kind})
			}
		}
		for _, a := range far() {
			for kind := range 5 {
				checkIns(t, false, api.Ins{Op: op, A: a, B: kind})
			}
		}
	}
}

func TestC1LocalsOfTheMethodItself(t *testing.T) {
	for locals := range api.MaxLocals + 1 {
		for _, op := range []int{api.SLoad, api.SStore} {
			check := func(want bool, a, kind int) {
				t.Helper()
				checkMethods(t, want, func(m *api.Method) {
					m.Locals = locals
					m.Code[1] = api.Ins{Op: op, A: a, B: kind}
				})
			}
			check(locals > 0, locals-1, api.KInt)
			check(locals > 0, locals-1, api.KRef)
			check(false, locals-1, api.KLong)
			check(locals > 1, locals-2, api.KLong)
			check(false, locals, api.KInt)
			check(false, locals, api.KLong)
			check(false, locals, api.KRef)
		}
	}
}

func TestC1FieldsOfTheClassItself(t *testing.T) {
	count := []int{0, 0, 0, 2, 1}
	for _, op := range []int{api.SGet, api.SPut} {
		for a := -2; a < 9; a++ {
			for b := -2; b < 9; b++ {
				want := a >= 0 && a < len(count) && b >= 0 && b < count[a]
				checkIns(t, want, api.Ins{Op: op, A: a, B: b})
			}
		}
		for _, n := range far() {
			checkIns(t, false, api.Ins{Op: op, A: n})
			checkIns(t, false, api.Ins{Op: op, A: n, B: n})
			checkIns(t, false, api.Ins{Op: op, A: 3, B: n})
		}
	}
}

func TestC1NumbersOfInts(t *testing.T) {
	for _, n := range []int64{math.MinInt32, math.MinInt32 + 1, -1, 0, 1, math.MaxInt32 - 1, math.MaxInt32} {
		checkIns(t, true, api.Ins{Op: api.SInt, N: n})
		checkIns(t, true, api.Ins{Op: api.SLong, N: n})
	}
	for _, n := range []int64{math.MinInt64, -1 << 32, math.MinInt32 - 1, math.MaxInt32 + 1, math.MaxUint32, 1 << 32, math.MaxInt64} {
		checkIns(t, false, api.Ins{Op: api.SInt, N: n})
		checkIns(t, true, api.Ins{Op: api.SLong, N: n})
	}
}

// good has an instruction of each Op that may be.
func good() []api.Ins {
	l := []api.Ins{
		{Op: api.SLoad, A: 5, B: api.KInt},
		{Op: api.SStore, A: 4, B: api.KLong},
		{Op: api.SGet, A: 3, B: 1},
		{Op: api.SPut, A: 4},
	}
	for _, r := range rows() {
		for _, op := range r.ops {
			l = append(l, api.Ins{Op: op, A: r.a.most, B: r.b.most})
		}
	}
	return l
}

func TestC1FieldsThatNoRowNames(t *testing.T) {
	seen := map[int]int{}
	for _, ins := range good() {
		seen[ins.Op]++
		checkIns(t, true, ins)
		for _, n := range append(far(), 1, 2, 3) {
			other := ins
			other.C = n
			checkIns(t, false, other)
			if ins.Op != api.SInt && ins.Op != api.SLong {
				other = ins
				other.N = int64(n)
				checkIns(t, false, other)
			}
		}
		for _, args := range [][]int{{0}, {1}, {0, 0}, make([]int, 1000)} {
			other := ins
			other.Args = args
			checkIns(t, false, other)
		}
		other := ins
		other.Args = []int{}
		checkIns(t, true, other)
	}
	for op := api.SInt; op <= api.SIn; op++ {
		if seen[op] != 1 {
			t.Errorf("Op %d is looked at %d times", op, seen[op])
		}
	}
}

func TestC1NoSuchOp(t *testing.T) {
	for _, op := range append(far(), 0, 26, 27, 28) {
		checkIns(t, false, api.Ins{Op: op})
		checkIns(t, false, api.Ins{Op: op, A: 1, B: 1})
	}
}

func TestC1PlacesAndMethodsOfTheFileItself(t *testing.T) {
	for n := 1; n <= 6; n++ {
		for a := range 8 {
			for _, ins := range []api.Ins{{Op: api.SGoto, A: a}, {Op: api.SIfNull, A: a}, {Op: api.SIf, A: a, B: api.CondLess}} {
				checkMethods(t, a < n, func(m *api.Method) {
					m.Code = returns(n)
					m.Code[n-1] = ins
				})
			}
			f := api.File{Classes: classes(), Methods: copies(api.Method{Code: []api.Ins{{Op: api.SCall, A: a}}}, n)}
			checkMay(t, a < n, f)
		}
	}
}

func TestC1HowManyHandlers(t *testing.T) {
	for _, n := range []int{0, 1, 2, api.MaxHandlers - 1, api.MaxHandlers, api.MaxHandlers + 1, api.MaxHandlers + 2, 10000} {
		checkMethods(t, n <= api.MaxHandlers, func(m *api.Method) { m.Handlers = copies(api.Handler{To: 1}, n) })
	}
}

func checkHandler(t *testing.T, want bool, h api.Handler) {
	t.Helper()
	for place := range 3 {
		checkMethods(t, want, func(m *api.Method) {
			m.Handlers = copies(api.Handler{From: 1, To: 3, At: 4, Class: 2}, 3)
			m.Handlers[place] = h
		})
	}
}

func TestC1FieldsOfHandlers(t *testing.T) {
	numbers := append(far(), -2, 0, 1, 2, 3, 4, 5, 6, 7)
	for _, from := range numbers {
		for _, to := range numbers {
			want := from >= 0 && from < to && to <= 5
			checkHandler(t, want, api.Handler{From: from, To: to})
		}
		checkHandler(t, from >= 0 && from < 5, api.Handler{To: 5, At: from})
		checkHandler(t, from >= 0 && from < 5, api.Handler{To: 5, Class: from})
	}
	checkHandler(t, true, api.Handler{From: 4, To: 5, At: 4, Class: 4})
	checkHandler(t, false, api.Handler{})
}

func TestC2WrongFiles(t *testing.T) {
	checkMay(t, false, api.File{})
	checkMay(t, false, api.File{Classes: classes()})
	checkMay(t, false, api.File{Methods: file().Methods})
	checkMay(t, false, api.File{Classes: classes(), Methods: []api.Method{{}}})
	checkMay(t, false, api.File{Classes: []api.Class{}, Methods: []api.Method{}})
	for at := range 3 {
		f := file()
		f.Methods[at] = api.Method{}
		checkMay(t, false, f)
	}
}

// A file on registers may not be one on a stack.
func TestC2FileOnRegisters(t *testing.T) {
	checkMay(t, false, changed(1, func(m *api.Method) {
		*m = api.Method{Regs: 2, Code: []api.Ins{{Op: api.RInt, A: 1, N: 3}, {Op: api.RReturn}}}
	}))
}

func TestC2Example(t *testing.T) {
	f := api.File{
		Classes: []api.Class{{Super: -1}, {}, {}, {}},
		Methods: []api.Method{{Stack: 2, Code: []api.Ins{{Op: api.SLong, N: 1 << 40}, {Op: api.SEmit, A: api.KLong}, {Op: api.SReturn}}}},
	}
	checkMay(t, true, f)
	f.Methods[0].Code[0].Op = api.SInt
	checkMay(t, false, f)
}

// stuffed has behind the length of each list what may not be.
func stuffed() api.File {
	f := file()
	f.Classes = append(f.Classes, api.Class{Super: 99})
	f.Classes[3].Fields = append(f.Classes[3].Fields, api.Type{Kind: 9})
	m := &f.Methods[0]
	m.Params = []api.Type{intType, {Kind: 9}}
	m.Code = append(m.Code, api.Ins{Op: 99})
	m.Code[0].Args = []int{7}
	m.Handlers = []api.Handler{{To: 5}, {From: 9}}
	f.Methods = append(f.Methods, api.Method{Regs: 9})
	return f
}

func cut(f api.File) api.File {
	f.Classes = f.Classes[:5]
	f.Classes[3].Fields = f.Classes[3].Fields[:2]
	f.Methods = f.Methods[:3]
	m := &f.Methods[0]
	m.Params = m.Params[:1]
	m.Code = m.Code[:5]
	m.Code[0].Args = m.Code[0].Args[:0]
	m.Handlers = m.Handlers[:1]
	return f
}

// whole shows what lies behind the lengths, too.
func whole(f api.File) api.File {
	f.Classes = f.Classes[:6]
	f.Classes[3].Fields = f.Classes[3].Fields[:3]
	f.Methods = f.Methods[:4]
	m := &f.Methods[0]
	m.Params = m.Params[:2]
	m.Code = m.Code[:6]
	m.Code[0].Args = m.Code[0].Args[:1]
	m.Handlers = m.Handlers[:2]
	return f
}

func TestP3NothingIsChangedNorReadBeyondTheLength(t *testing.T) {
	f := cut(stuffed())
	checkMay(t, true, f)
	if got := whole(f); !reflect.DeepEqual(got, stuffed()) {
		t.Errorf("changed: %+v", got)
	}
}
