package srun_test

import (
	"math"
	"testing"

	"crosswalk/api"
	"crosswalk/num"
	"crosswalk/sform"
)

var anyType = api.Type{Kind: anyKind}

// row says of an instruction what it takes and puts.
type row struct {
	i           api.Ins
	takes, puts []api.Type
}

func types(l ...api.Type) []api.Type {
	return l
}

// Methods that the rows call: they stand behind the entry. The entry has an int in its first local, then a long, then a reference.
const (
	calledWithAll = 1
	calledForVoid = 2
	calledForInt  = 3
	calledForRef  = 4
)

func calledMethods() []api.Method {
	all := giving(longType, putLong(9), comeBack)
	all.Params = types(intType, longType, ref(upper))
	return []api.Method{all, method(comeBack), giving(intType, putInt(9), comeBack), giving(ref(upper), ins(api.SNew, lower), comeBack)}
}

// rows has all instructions, but for those that end the call.
func rows() []row {
	return []row{
		{putInt(3), nil, types(intType)},
		{putLong(3), nil, types(longType)},
		{putNull, nil, types(ref(0))},
		{ins(api.SLoad, 0, api.KInt), nil, types(intType)},
		{ins(api.SLoad, 1, api.KLong), nil, types(longType)},
		{ins(api.SLoad, 3, api.KRef), nil, types(ref(0))},
		{ins(api.SStore, 5, api.KInt), types(intType), nil},
		{ins(api.SStore, 5, api.KLong), types(longType), nil},
		{ins(api.SStore, 5, api.KRef), types(ref(0)), nil},
		{ins(api.SIntOp, api.OpSub), types(intType, intType), types(intType)},
		{ins(api.SLongOp, api.OpDiv), types(longType, longType), types(longType)},
		{ins(api.SWiden), types(intType), types(longType)},
		{ins(api.SNarrow), types(longType), types(intType)},
		{ins(api.SCmp), types(longType, longType), types(intType)},
		{ins(api.SGoto, next), nil, nil},
		{ins(api.SIf, next, api.CondAbove), types(intType), nil},
		{ins(api.SIfNull, next), types(ref(0)), nil},
		{ins(api.SNew, upper), nil, types(ref(upper))},
		{ins(api.SGet, upper, 0), types(ref(upper)), types(intType)},
		{ins(api.SGet, upper, 1), types(ref(upper)), types(longType)},
		{ins(api.SGet, lower, 1), types(ref(lower)), types(ref(other))},
		{ins(api.SPut, other, 0), types(ref(other), intType), nil},
		{ins(api.SPut, lower, 0), types(ref(lower), longType), nil},
		{ins(api.SPut, upper, 2), types(ref(upper), ref(upper)), nil},
		{ins(api.SPut, lower, 1), types(ref(lower), ref(other)), nil},
		{ins(api.SCast, 0), types(ref(0)), types(ref(0))},
		{ins(api.SIs, upper), types(ref(0)), types(intType)},
		{ins(api.SCall, calledWithAll), types(intType, longType, ref(upper)), types(longType)},
		{ins(api.SCall, calledForVoid), nil, nil},
		{ins(api.SCall, calledForInt), nil, types(intType)},
		{ins(api.SCall, calledForRef), nil, types(ref(upper))},
		{pop, types(anyType), nil},
		{ins(api.SDup), types(intType), types(intType, intType)},
		{ins(api.SDup), types(longType), types(longType, longType)},
		{ins(api.SDup), types(ref(upper)), types(ref(upper), ref(upper))},
		{emitInt, types(intType), nil},
		{emitLong, types(longType), nil},
		{comeIn, nil, types(longType)},
	}
}

// next is where an instruction goes that goes to the one behind itself.
const next = -1

func placed(i api.Ins, at int) api.Ins {
	if i.A == next {
		i.A = at + 1
	}
	return i
}

// around has the instruction behind what puts the values, with marker below them all and the rest behind it.
func around(i api.Ins, puts []api.Ins, behind ...api.Ins) []api.Ins {
	l := join(code(ins(api.SNew, lower), ins(api.SStore, 3, api.KRef), putInt(marker)), puts)
	return join(l, code(placed(i, len(l))), behind)
}

const marker = 42

func runAround(t *testing.T, stack int, l []api.Ins) api.Shown {
	t.Helper()
	m := taking(types(intType, longType), l...)
	m.Stack = stack
	methods := append([]api.Method{m}, calledMethods()...)
	return runFile(t, file(methods...), []int64{1, 2}, []int64{8}, api.MaxFuel)
}

// eachStack goes through all stacks of so many values.
func eachStack(n int, each func(stack []held)) {
	if n == 0 {
		each(nil)
		return
	}
	eachStack(n-1, func(stack []held) {
		for _, h := range allHeld() {
			each(append(stack[:n-1:n-1], h))
		}
	})
}

func putsOf(stack []held) []api.Ins {
	var l []api.Ins
	for _, h := range stack {
		l = append(l, h.put)
	}
	return l
}

// allows says whether the end of the stack is of the types.
func allows(stack []held, takes []api.Type) bool {
	if len(stack) < len(takes) {
		return false
	}
	for k, h := range stack[len(stack)-len(takes):] {
		if !h.isOf(takes[k]) {
			return false
		}
	}
	return true
}

// checkTakes looks at all stacks that have up to one value more than is taken.
func checkTakes(t *testing.T, i api.Ins, takes []api.Type, ret api.Type) {
	t.Helper()
	for n := range len(takes) + 2 {
		eachStack(n, func(stack []held) {
			puts := putsOf(stack)
			m := giving(ret, join(puts, code(placed(i, len(puts)), comeBack))...)
			m.Params = types(intType, longType)
			s := runFile(t, file(append([]api.Method{m}, calledMethods()...)...), []int64{1, 2}, []int64{8}, api.MaxFuel)
			stuck := s.End == api.EndStuck
			if stuck == allows(stack, takes) {
				t.Errorf("%+v of %v: end %d", i, stack, s.End)
			}
			if stuck && s.Steps != n+1 {
				t.Errorf("%+v of %v: stuck at step %d", i, stack, s.Steps)
			}
		})
	}
}

func TestD3WhatEachInstructionTakes(t *testing.T) {
	for _, r := range rows() {
		switch r.i.Op {
		case api.SLoad:
			// What it needs is in a local: see the tests of D2.
		case api.SDup:
			checkTakes(t, r.i, types(anyType), voidType)
		default:
			checkTakes(t, r.i, r.takes, voidType)
		}
	}
	checkTakes(t, throwIt, types(ref(0)), voidType)
	for _, ret := range types(intType, longType, ref(0), ref(upper), ref(lower), ref(other), ref(api.ClassCast)) {
		checkTakes(t, comeBack, types(ret), ret)
	}
	checkTakes(t, comeBack, nil, voidType)
}

// sample is a value of the type.
func sample(t api.Type) api.Ins {
	switch t.Kind {
	case api.KLong:
		return putLong(6)
	case api.KRef:
		return ins(api.SNew, t.Class)
	}
	return putInt(5)
}

func samples(l []api.Type) []api.Ins {
	var puts []api.Ins
	for _, t := range l {
		puts = append(puts, sample(t))
	}
	return puts
}

// storesOf takes values of the kinds, the last one first.
func storesOf(l []api.Type) []api.Ins {
	var takes []api.Ins
	for k := len(l) - 1; k >= 0; k-- {
		takes = append(takes, ins(api.SStore, 10, l[k].Kind))
	}
	return takes
}

func TestD3WhatEachInstructionLeaves(t *testing.T) {
	for _, r := range rows() {
		l := around(r.i, samples(r.takes), join(storesOf(r.puts), code(emitInt, comeBack))...)
		s := runAround(t, api.MaxStack, l)
		if s.End != api.EndDone || s.Out[len(s.Out)-1] != marker {
			t.Errorf("%+v: %+v", r.i, s)
		}
		l = around(r.i, samples(r.takes), join(storesOf(r.puts), code(emitInt, pop, comeBack))...)
		if s := runAround(t, api.MaxStack, l); s.End != api.EndStuck {
			t.Errorf("%+v leaves too much: %+v", r.i, s)
		}
	}
}

func TestD3TheStackAtItsSlotsAndBeyond(t *testing.T) {
	for _, r := range rows() {
		l := around(r.i, samples(r.takes), comeBack)
		need := 1 + max(sform.Slots(r.takes...), sform.Slots(r.puts...))
		for stack := need; stack < need+3; stack++ {
			if s := runAround(t, stack, l); s.End != api.EndDone {
				t.Errorf("%+v on %d slots: %+v", r.i, stack, s)
			}
		}
		for stack := range need {
			if s := runAround(t, stack, l); s.End != api.EndStuck {
				t.Errorf("%+v on %d slots: %+v", r.i, stack, s)
			}
		}
	}
}

func TestD3TheGreatestStack(t *testing.T) {
	checkEnd(t, api.EndDone, method(join(times(30, putInt(1)), code(comeBack))...))
	checkEnd(t, api.EndStuck, method(join(times(31, putInt(1)), code(comeBack))...))
	checkEnd(t, api.EndDone, method(join(times(15, putLong(1)), code(comeBack))...))
	checkEnd(t, api.EndStuck, method(join(times(15, putLong(1)), code(putNull, comeBack))...))
	checkEnd(t, api.EndDone, method(join(times(14, putLong(1)), code(putInt(1), putNull, comeBack))...))
	checkEnd(t, api.EndStuck, method(join(times(14, putLong(1)), code(putInt(1), putLong(1), comeBack))...))
	checkEnd(t, api.EndDone, method(join(times(28, putInt(1)), code(putLong(1), pop, putInt(1), putInt(1), comeBack))...))
}

func TestD3NoStackAtAll(t *testing.T) {
	for _, i := range code(putInt(0), putLong(0), putNull, ins(api.SNew), ins(api.SLoad, 0, api.KInt)) {
		checkEnd(t, api.EndStuck, onStack(0, i, comeBack))
	}
	checkEnd(t, api.EndDone, onStack(0, ins(api.SGoto, 1), comeBack))
	checkEnd(t, api.EndStuck, onStack(1, putLong(0), comeBack))
	checkEnd(t, api.EndDone, onStack(2, putLong(0), comeBack))
}

func TestD3WhatIsPutAsANumber(t *testing.T) {
	for _, n := range []int64{0, 1, -1, math.MaxInt32, math.MinInt32} {
		checkOut(t, []int64{n}, method(putInt(n), emitInt, comeBack))
		checkOut(t, []int64{n}, method(putInt(n), ins(api.SWiden), emitLong, comeBack))
		checkOut(t, []int64{n}, method(putInt(n), ins(api.SStore, 59, api.KInt), ins(api.SLoad, 59, api.KInt), emitInt, comeBack))
	}
	for _, n := range []int64{0, -1, math.MaxInt32 + 1, math.MinInt32 - 1, 1<<32 + 5, math.MaxInt64, math.MinInt64} {
		checkOut(t, []int64{n}, method(putLong(n), emitLong, comeBack))
		checkOut(t, []int64{num.Narrow(n)}, method(putLong(n), ins(api.SNarrow), emitInt, comeBack))
		checkOut(t, []int64{n}, method(putLong(n), ins(api.SStore, 58, api.KLong), ins(api.SLoad, 58, api.KLong), emitLong, comeBack))
		checkOut(t, []int64{n}, method(ins(api.SNew, upper), ins(api.SDup), putLong(n), ins(api.SPut, upper, 1), ins(api.SGet, upper, 1), emitLong, comeBack))
	}
}

func numbers() []int64 {
	return []int64{0, 1, -1, 7, -3, math.MaxInt32, math.MinInt32, 1 << 32, math.MaxInt64, math.MinInt64}
}

func TestD3OperationsOfLongs(t *testing.T) {
	for op := api.OpAdd; op <= api.OpXor; op++ {
		for _, a := range numbers() {
			for _, b := range numbers() {
				m := method(putLong(a), putLong(b), ins(api.SLongOp, op), emitLong, comeBack)
				want, ok := num.Long(op, a, b)
				if ok {
					checkOut(t, []int64{want}, m)
					continue
				}
				checkShown(t, run(t, m), api.Shown{End: api.EndThrown, Class: api.ClassDivide, Steps: 3})
			}
		}
	}
}

func TestD3OperationsOfInts(t *testing.T) {
	for op := api.OpAdd; op <= api.OpXor; op++ {
		for _, a := range numbers() {
			for _, b := range numbers() {
				a, b := num.Narrow(a), num.Narrow(b)
				m := method(putInt(a), putInt(b), ins(api.SIntOp, op), emitInt, comeBack)
				want, ok := num.Int(op, a, b)
				if ok {
					checkOut(t, []int64{want}, m)
					continue
				}
				checkShown(t, run(t, m), api.Shown{End: api.EndThrown, Class: api.ClassDivide, Steps: 3})
			}
		}
	}
}

func TestD3OfTwoTheFirstOneWasPutFirst(t *testing.T) {
	checkOut(t, []int64{5}, method(putInt(8), putInt(3), ins(api.SIntOp, api.OpSub), emitInt, comeBack))
	checkOut(t, []int64{2}, method(putLong(8), putLong(3), ins(api.SLongOp, api.OpDiv), emitLong, comeBack))
	checkOut(t, []int64{1, -1, 0}, method(
		putLong(8), putLong(3), ins(api.SCmp), emitInt,
		putLong(math.MinInt64), putLong(math.MaxInt64), ins(api.SCmp), emitInt,
		putLong(4), putLong(4), ins(api.SCmp), emitInt, comeBack))
}

func TestD3WhereItGoesOn(t *testing.T) {
	checkOut(t, []int64{2}, method(ins(api.SGoto, 3), putInt(1), emitInt, putInt(2), emitInt, comeBack))
	for cond := api.CondZero; cond <= api.CondAbove; cond++ {
		for _, n := range []int64{0, 1, -1, math.MaxInt32, math.MinInt32} {
			want := []int64{1, 2}
			if num.Holds(cond, n) {
				want = []int64{2}
			}
			checkOut(t, want, method(putInt(n), ins(api.SIf, 4, cond), putInt(1), emitInt, putInt(2), emitInt, comeBack))
		}
	}
	checkOut(t, []int64{2}, method(putNull, ins(api.SIfNull, 4), putInt(1), emitInt, putInt(2), emitInt, comeBack))
	checkOut(t, []int64{1, 2}, method(ins(api.SNew), ins(api.SIfNull, 4), putInt(1), emitInt, putInt(2), emitInt, comeBack))
}

func TestD3TheLastInstructionWithoutAWayOn(t *testing.T) {
	for _, r := range rows() {
		if r.i.A == next {
			continue
		}
		l := around(r.i, samples(r.takes))
		steps := len(l) + 1
		if r.i.Op == api.SCall {
			steps += len(calledMethods()[r.i.A-1].Code)
		}
		if s := runAround(t, api.MaxStack, l); s.End != api.EndStuck || s.Steps != steps {
			t.Errorf("%+v: %+v, want %d steps", r.i, s, steps)
		}
	}
	checkEnd(t, api.EndStuck, method(putInt(1), ins(api.SIf, 0, api.CondZero)))
	checkEnd(t, api.EndStuck, method(ins(api.SNew), ins(api.SIfNull, 0)))
	checkEnd(t, api.EndFuel, method(putInt(0), ins(api.SIf, 0, api.CondZero)))
	checkEnd(t, api.EndFuel, method(putNull, ins(api.SIfNull, 0)))
}

func TestD3ReferencesToNothing(t *testing.T) {
	null := api.Shown{End: api.EndThrown, Class: api.ClassNull, Steps: 2}
	checkShown(t, run(t, method(putNull, ins(api.SGet, upper, 1), comeBack)), null)
	checkShown(t, run(t, method(putNull, throwIt, comeBack)), null)
	null.Steps = 3
	checkShown(t, run(t, method(putNull, putLong(1), ins(api.SPut, upper, 1), comeBack)), null)
	checkShown(t, run(t, method(putNull, putNull, ins(api.SPut, upper, 2), comeBack)), null)
	checkEnd(t, api.EndStuck, method(putNull, putInt(1), ins(api.SPut, upper, 1), comeBack))
	checkEnd(t, api.EndStuck, method(putNull, ins(api.SNew, other), ins(api.SPut, upper, 2), comeBack))
	checkOut(t, []int64{0, 0}, method(
		putNull, ins(api.SCast, lower), ins(api.SIs, lower), emitInt,
		putNull, ins(api.SIs, 0), emitInt, comeBack))
	checkOut(t, []int64{0}, method(
		ins(api.SNew, upper), ins(api.SDup), ins(api.SNew, lower), ins(api.SPut, upper, 2),
		ins(api.SDup), putNull, ins(api.SPut, upper, 2), ins(api.SGet, upper, 2), ins(api.SIs, 0), emitInt, comeBack))
}

func TestD3CastAndIs(t *testing.T) {
	for _, h := range allHeld() {
		if h.kind != api.KRef || h.class < 0 {
			continue
		}
		for class := range classes() {
			is := h.isOf(ref(class))
			want := int64(0)
			if is {
				want = 1
			}
			checkOut(t, []int64{want}, method(h.put, ins(api.SIs, class), emitInt, comeBack))
			s := run(t, giving(ref(h.class), h.put, ins(api.SCast, class), comeBack))
			if is {
				checkShown(t, s, api.Shown{End: api.EndDone, Steps: 3})
			} else {
				checkShown(t, s, api.Shown{End: api.EndThrown, Class: api.ClassCast, Steps: 2})
			}
		}
	}
}

func TestD3CastPutsTheSameObject(t *testing.T) {
	checkOut(t, []int64{11}, method(
		ins(api.SNew, lower), ins(api.SDup), ins(api.SStore, 0, api.KRef), ins(api.SCast, upper), putInt(11), ins(api.SPut, upper, 0),
		ins(api.SLoad, 0, api.KRef), ins(api.SGet, upper, 0), emitInt, comeBack))
}

func TestD3DupPutsTheSameTwice(t *testing.T) {
	checkOut(t, []int64{4, 4}, method(putInt(4), ins(api.SDup), emitInt, emitInt, comeBack))
	checkOut(t, []int64{1 << 40, 1 << 40}, method(putLong(1<<40), ins(api.SDup), emitLong, emitLong, comeBack))
	checkEnd(t, api.EndStuck, onStack(3, putLong(1), ins(api.SDup), comeBack))
	checkEnd(t, api.EndDone, onStack(4, putLong(1), ins(api.SDup), comeBack))
}

func TestD3CallTakesTheLastOneLast(t *testing.T) {
	caller := method(putInt(0), putInt(1), putInt(2), putInt(3), ins(api.SCall, 1), emitInt, emitInt, comeBack)
	called := taking(types(intType, intType, intType),
		ins(api.SLoad, 0, api.KInt), emitInt, ins(api.SLoad, 1, api.KInt), emitInt, ins(api.SLoad, 2, api.KInt), comeBack)
	called.Ret = intType
	checkOut(t, []int64{1, 2, 3, 0}, caller, called)
}

func TestD3ComingBackNeedsRoomThere(t *testing.T) {
	long := giving(longType, putLong(3), comeBack)
	checkEnd(t, api.EndDone, onStack(3, putInt(1), ins(api.SCall, 1), comeBack), long)
	checkShown(t, run(t, onStack(2, putInt(1), ins(api.SCall, 1), comeBack), long), api.Shown{End: api.EndStuck, Steps: 4})
	checkEnd(t, api.EndStuck, onStack(0, ins(api.SCall, 1), comeBack), giving(intType, putInt(3), comeBack))
	checkEnd(t, api.EndDone, onStack(0, ins(api.SCall, 1), comeBack), method(putInt(3), comeBack))
}

func TestD3WhatIsLeftOnTheStackOfACallIsLost(t *testing.T) {
	checkOut(t, []int64{3, 7}, method(putInt(7), ins(api.SCall, 1), emitInt, emitInt, comeBack), giving(intType, putInt(1), putLong(2), putInt(3), comeBack))
	checkOut(t, []int64{7}, method(putInt(7), ins(api.SCall, 1), emitInt, comeBack), method(putInt(1), comeBack))
}

// countdown calls itself as often as its argument says, and lets out how often.
func countdown() api.Method {
	return taking(types(intType),
		ins(api.SLoad, 0, api.KInt), ins(api.SIf, 3, api.CondAbove), comeBack,
		ins(api.SLoad, 0, api.KInt), emitInt,
		ins(api.SLoad, 0, api.KInt), putInt(-1), ins(api.SIntOp, api.OpAdd), ins(api.SCall, 0), comeBack)
}

func TestD3Deep(t *testing.T) {
	s := runFile(t, file(countdown()), []int64{api.MaxCalls - 1}, nil, api.MaxFuel)
	if s.End != api.EndDone || len(s.Out) != api.MaxCalls-1 {
		t.Errorf("got %+v", s)
	}
	s = runFile(t, file(countdown()), []int64{api.MaxCalls}, nil, api.MaxFuel)
	if s.End != api.EndDeep || len(s.Out) != api.MaxCalls || s.Steps != 8*api.MaxCalls {
		t.Errorf("got %+v", s)
	}
	checkShown(t, run(t, method(ins(api.SCall, 0))), api.Shown{End: api.EndDeep, Steps: api.MaxCalls})
}

func TestD3CallsThatHaveComeBackAreNotCounted(t *testing.T) {
	checkEnd(t, api.EndDone, method(join(times(3*api.MaxCalls, ins(api.SCall, 1)), code(comeBack))...), method(comeBack))
}

func TestD3CallsThatWereThrownOutOfAreNotCounted(t *testing.T) {
	caller := handled(method(
		ins(api.SCall, 1), comeBack,
		pop, comeIn, pop, ins(api.SGoto)),
		api.Handler{From: 0, To: 1, At: 2})
	f := file(caller, method(putNull, throwIt))
	s := runFile(t, f, nil, make([]int64, 2*api.MaxCalls), api.MaxFuel)
	if s.End != api.EndInput || s.Used != 2*api.MaxCalls {
		t.Errorf("got %+v", s)
	}
}

func TestD3Full(t *testing.T) {
	for _, n := range []int{1, api.MaxObjects - 1, api.MaxObjects} {
		checkEnd(t, api.EndDone, method(join(times(n, ins(api.SNew, upper), pop), code(comeBack))...))
	}
	s := run(t, method(join(times(api.MaxObjects+1, ins(api.SNew, upper), pop), code(comeBack))...))
	checkShown(t, s, api.Shown{End: api.EndFull, Steps: 2*api.MaxObjects + 1})
	full := times(api.MaxObjects, ins(api.SNew, upper), pop)
	checkEnd(t, api.EndFull, method(join(full, code(ins(api.SCall, 1), comeBack))...), method(ins(api.SNew), comeBack))
}

func TestD3InputAndWhatComesOut(t *testing.T) {
	input := []int64{math.MaxInt64, 0, math.MinInt64, -5}
	l := times(3, comeIn, emitLong)
	for n := range len(input) + 1 {
		s := runFile(t, file(method(join(l, code(comeBack))...)), nil, input[:n], 100)
		want := api.Shown{End: api.EndInput, Out: input[:min(n, 3)], Used: min(n, 3), Steps: 2*n + 1}
		if n >= 3 {
			want.End, want.Steps = api.EndDone, 7
		}
		checkShown(t, s, want)
	}
	s := runFile(t, file(method(comeIn, ins(api.SCall, 1), comeIn, emitLong, comeBack), method(comeIn, emitLong, comeBack)), nil, []int64{1, 2, 3}, 100)
	checkShown(t, s, api.Shown{End: api.EndDone, Out: []int64{2, 3}, Used: 3, Steps: 8})
}

// What is taken is looked at first, what is put last: of two ways to end at one instruction one is told.
func TestD3WhatIsLookedAtFirst(t *testing.T) {
	full := times(api.MaxObjects, ins(api.SNew, upper), pop)
	// New, with no room for what it puts: there must be an object first.
	checkEnd(t, api.EndFull, onStack(1, join(full, code(putInt(1), ins(api.SNew), comeBack))...))
	// In, likewise: the number is taken before there is no room for it.
	checkShown(t, run(t, onStack(1, comeIn, comeBack)), api.Shown{End: api.EndInput, Steps: 1})
	s := runFile(t, file(onStack(1, comeIn, comeBack)), nil, []int64{1}, 9)
	checkShown(t, s, api.Shown{End: api.EndStuck, Used: 1, Steps: 1})
	// Nothing has a field, but what is to be stored is looked at ahead of that.
	checkEnd(t, api.EndStuck, method(putNull, putLong(1), ins(api.SPut, upper, 0), comeBack))
	// By nought, with no room: what it throws needs none.
	checkShown(t, run(t, onStack(2, putInt(1), putInt(0), ins(api.SIntOp, api.OpDiv))), api.Shown{End: api.EndThrown, Class: api.ClassDivide, Steps: 3})
	// A long that is put where an int was taken has room for one slot only.
	checkEnd(t, api.EndStuck, onStack(1, putInt(1), ins(api.SWiden), comeBack))
	checkEnd(t, api.EndStuck, onStack(1, ins(api.SNew, upper), ins(api.SGet, upper, 1), comeBack))
	checkShown(t, run(t, onStack(1, putNull, ins(api.SGet, upper, 1), comeBack)), api.Shown{End: api.EndThrown, Class: api.ClassNull, Steps: 2})
}

// A call that is the last one allowed, whose own call has arguments of another kind: stuck, not deep.
func TestD3ArgumentsAreLookedAtAheadOfDepth(t *testing.T) {
	m := taking(types(intType),
		ins(api.SLoad, 0, api.KInt), ins(api.SIf, 4, api.CondAbove), putLong(1), ins(api.SCall, 0),
		ins(api.SLoad, 0, api.KInt), putInt(-1), ins(api.SIntOp, api.OpAdd), ins(api.SCall, 0), comeBack)
	for depth := range api.MaxCalls + 1 {
		want := api.EndStuck
		if depth == api.MaxCalls {
			want = api.EndDeep
		}
		if s := runFile(t, file(m), []int64{int64(depth)}, nil, api.MaxFuel); s.End != want {
			t.Errorf("depth %d: %+v", depth, s)
		}
	}
}
