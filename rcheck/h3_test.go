package rcheck_test

import (
	"testing"

	"crosswalk/api"
)

func good() api.Method {
	return giving(intType, setInt(0), giveBack(0))
}

func bad() api.Method {
	return giving(longType, setInt(0), giveBack(0))
}

func TestH3TheExample(t *testing.T) {
	accept(t, good())
	refuse(t, bad())
	refuse(t, giving(intType, result(0, api.KInt), setInt(0), giveBack(0)))
	refuse(t, giving(intType, setInt(0), result(0, api.KInt), giveBack(0)))
}

func TestH3WhichMethod(t *testing.T) {
	for _, x := range []struct {
		methods []api.Method
		want    api.Fault
	}{
		{[]api.Method{good(), good()}, api.Fault{}},
		{[]api.Method{bad(), good()}, api.Fault{Code: api.ErrKind, Method: 0}},
		{[]api.Method{good(), bad()}, api.Fault{Code: api.ErrKind, Method: 1}},
		{[]api.Method{bad(), bad()}, api.Fault{Code: api.ErrKind, Method: 0}},
		{[]api.Method{good(), good(), bad(), bad()}, api.Fault{Code: api.ErrKind, Method: 2}},
		{[]api.Method{good(), good(), good(), good(), good(), good(), good(), bad()}, api.Fault{Code: api.ErrKind, Method: 7}},
	} {
		checkFault(t, x.want, file(x.methods...))
	}
}

// A method is checked, whether anybody calls it or not; who calls one that is at fault is not at fault itself.
func TestH3CallersAreNotAtFault(t *testing.T) {
	checkFault(t, api.Fault{Code: api.ErrKind, Method: 1}, file(giving(longType, call(1), result(0, api.KLong), giveBack(0)), bad()))
	checkFault(t, api.Fault{Code: api.ErrKind, Method: 2}, file(good(), good(), bad()))
}

// At is 0, wherever in the method the fault is.
func TestH3NoPlaceIsTold(t *testing.T) {
	l := code(setInt(0), setInt(1), setInt(2), use(3, api.KInt), comeBack)
	checkFault(t, api.Fault{Code: api.ErrKind, Method: 1}, file(good(), method(l...)))
}

// onStack is a method on a stack, in which nothing is at fault.
func onStack() api.Method {
	return api.Method{Stack: 1, Code: code(api.Ins{Op: api.SInt, N: 1}, ins(api.SPop), ins(api.SReturn))}
}

func TestH3FilesThatMayNotBe(t *testing.T) {
	mayNot := api.Fault{Code: api.ErrForm}
	checkFault(t, mayNot, api.File{})
	checkFault(t, mayNot, api.File{Classes: classes()})
	checkFault(t, mayNot, api.File{Methods: []api.Method{good()}})
	few := file(good())
	few.Classes = few.Classes[:3]
	checkFault(t, mayNot, few)
	checkFault(t, mayNot, file(good(), good(), good(), good(), good(), good(), good(), good(), bad()))
	deep, local, long := good(), good(), good()
	deep.Stack, local.Locals = 1, 1
	long.Code = make([]api.Ins, api.MaxRegCode+1)
	for n := range long.Code {
		long.Code[n] = jump(0)
	}
	for _, m := range []api.Method{
		{}, onStack(), deep, local, long,
		method(),
		{Code: code(comeBack)},
		{Code: code(comeBack), Regs: api.MaxRegs + 1},
		giving(api.Type{Kind: 9}, comeBack),
		giving(ref(len(classes())), setNull(0), giveBack(0)),
		method(ins(0), comeBack),
		method(ins(api.RIn+1), comeBack),
		method(comeBack, setInt(api.MaxRegs)),
		method(comeBack, setLong(api.MaxRegs-1)),
		method(comeBack, jump(2)),
		method(comeBack, get(1, 0, 0, 0)),
		method(comeBack, call(2)),
		method(comeBack, call(0, 1)),
		method(comeBack, result(0, api.KVoid)),
		handled(method(comeBack), over(0, 2, 0, 0)),
		handled(method(comeBack), over(0, 1, 1, 0)),
	} {
		// The form is asked for first, also behind methods that are at fault.
		checkFault(t, mayNot, file(m))
		checkFault(t, mayNot, file(bad(), m))
		checkFault(t, mayNot, file(m, bad()))
	}
}

// What nothing leads to has no state, whatever it says.
func TestH3CodeThatCannotBeComeTo(t *testing.T) {
	for _, l := range [][]api.Ins{
		{use(70, api.KInt)}, {throwIt(70)}, {setInt(0), setInt(1)}, {comeBack, use(70, api.KLong)}, {jump(0)},
		{result(0, api.KInt)}, {caught(0)}, {setLong(0), jumpIf(0, 0)}, {jumpIfNull(1, 70)}, {call(0), caught(0)},
		{setNull(0), jump(0)}, {cast(70, upper)}, {get(0, 70, upper, 0)},
	} {
		accept(t, method(join(code(comeBack), l)...))
		accept(t, method(join(code(setNull(0), throwIt(0)), l)...))
		accept(t, method(join(code(jump(0)), l)...))
		accept(t, handled(method(join(code(comeBack), l)...), over(1, 2, 0, 0)))
		accept(t, handled(method(join(code(comeBack), l)...), over(1, 2, 1, 0)))
		accept(t, handled(method(join(code(comeBack, caught(3)), l)...), over(1, 3, 1, 0)))
	}
	accept(t, method(jump(2), use(70, api.KInt), comeBack))
	refuse(t, method(setInt(0), jumpIf(3, 0), use(70, api.KInt), comeBack))
}

// What can't be come to takes nothing away where it would lead.
func TestH3WhatCannotBeComeToLeadsNowhere(t *testing.T) {
	accept(t, method(setNew(0, lower), jump(3), setInt(0), get(2, 0, lower, 0), comeBack))
	accept(t, method(setNew(0, lower), get(2, 0, lower, 0), comeBack, setInt(0), jump(1)))
	accept(t, handled(method(jump(0), comeBack, caught(0), comeBack, jump(2)), over(0, 1, 2, 0), over(1, 5, 2, 0)))
}

// Whether a condition can hold is not asked: both ways are gone.
func TestH3ConditionsAreNotReckoned(t *testing.T) {
	wrong := use(70, api.KInt)
	for cond := api.CondZero; cond <= api.CondAbove; cond++ {
		branch := ins(api.RIf, 3, cond, 0)
		refuse(t, method(setInt(0), branch, comeBack, wrong))
		refuse(t, method(setInt(0), branch, wrong, comeBack))
		accept(t, method(setInt(0), branch, comeBack, comeBack))
	}
	refuse(t, method(setNull(0), jumpIfNull(3, 0), wrong, comeBack))
	refuse(t, method(setNew(0, 0), jumpIfNull(3, 0), comeBack, wrong))
}

func TestH3LoopsInWhichLessIsKnown(t *testing.T) {
	loop := func(first, again known, i api.Ins) api.Method {
		return method(set(0, first), i, set(0, again), jump(1))
	}
	accept(t, loop(ref(lower), ref(lowest), get(2, 0, lower, 0)))
	accept(t, loop(ref(lower), none, get(2, 0, lower, 0)))
	accept(t, loop(none, ref(lower), get(2, 0, lower, 0)))
	accept(t, loop(ref(lower), ref(upper), get(2, 0, upper, 0)))
	accept(t, loop(ref(lower), ref(beside), get(2, 0, upper, 0)))
	refuse(t, loop(ref(lower), ref(upper), get(2, 0, lower, 0)))
	refuse(t, loop(ref(lower), ref(beside), get(2, 0, lower, 0)))
	refuse(t, loop(ref(lower), ref(other), get(2, 0, upper, 0)))
	refuse(t, loop(none, ref(other), get(2, 0, upper, 0)))
	accept(t, loop(ref(lower), ref(other), is(2, 0, upper)))
	refuse(t, loop(ref(lower), intType, is(2, 0, upper)))
	refuse(t, loop(longType, intType, emit(0, api.KLong)))
	refuse(t, loop(intType, longType, emit(0, api.KInt)))
	accept(t, loop(longType, longType, emit(0, api.KLong)))
	// A long of which the loop takes a slot.
	refuse(t, method(setLong(0), emit(0, api.KLong), setInt(1), jump(1)))
	accept(t, method(setLong(0), emit(0, api.KLong), setInt(2), jump(1)))
}

// In each round one register more is not known any more: the last one is found out in the last round.
func TestH3LoopsOfManyRounds(t *testing.T) {
	const count = 20
	for _, again := range allKnown() {
		var l []api.Ins
		for n := range count {
			l = append(l, setNew(2*n, lower))
		}
		start := len(l)
		l = append(l, get(70, 2*(count-1), lower, 0))
		for n := count - 1; n > 1; n-- {
			l = append(l, move(2*n, 2*n-2, api.KRef))
		}
		l = append(l, set(2, again), jump(start))
		acceptIf(t, fits(again, ref(lower)), method(l...))
	}
}

// The loops stand in one another, and the code goes back and forth.
func TestH3LoopsWithinLoops(t *testing.T) {
	for _, again := range allKnown() {
		m := method(
			setNew(0, lower), setNew(2, lower), setInt(80), jump(9),
			get(70, 2, lower, 0), jumpIf(7, 80), comeBack,
			set(0, again), jump(9),
			move(2, 0, again.Kind), jumpIf(4, 80), jump(9))
		// The first time through, the register 0 has a reference.
		acceptIf(t, fits(again, ref(lower)), m)
	}
}

// The first instruction is come to from elsewhere, too.
func TestH3BackToTheFirst(t *testing.T) {
	back := func(l ...api.Ins) api.Method {
		return taking(types(intType), join(code(emit(0, api.KInt), setInt(5)), l, code(jumpIf(0, 5), comeBack))...)
	}
	accept(t, back())
	accept(t, back(setInt(0)))
	refuse(t, back(setNull(0)))
	refuse(t, back(setLong(0)))
	m := taking(types(intType), emit(0, api.KInt), setNull(0), comeBack)
	accept(t, handled(m, over(0, 2, 0, 0)))
	refuse(t, handled(m, over(0, 3, 0, 0)))
}
