package scheck_test

import (
	"testing"

	"crosswalk/api"
)

func good() api.Method {
	return giving(intType, putInt, comeBack)
}

func bad() api.Method {
	return giving(longType, putInt, comeBack)
}

func TestE4TheExample(t *testing.T) {
	accept(t, good())
	refuse(t, bad())
}

func TestE4WhichMethod(t *testing.T) {
	for _, x := range []struct {
		methods []api.Method
		want    api.Fault
	}{
		{[]api.Method{good(), good()}, api.Fault{}},
		{[]api.Method{bad(), good()}, api.Fault{Code: api.ErrKind, Method: 0}},
		{[]api.Method{good(), bad()}, api.Fault{Code: api.ErrKind, Method: 1}},
		{[]api.Method{bad(), bad()}, api.Fault{Code: api.ErrKind, Method: 0}},
		{[]api.Method{good(), good(), bad(), bad()}, api.Fault{Code: api.ErrKind, Method: 2}},
		{[]api.Method{good(), good(), good(), good(), good(), good(), good(), bad()}, api.Fault{Code: api.ErrKind, Method: 7}},
	} {
		checkFault(t, x.want, file(x.methods...))
	}
}

// A method is checked, whether anybody calls it or not; who calls one that is at fault is not at fault itself.
func TestE4CallersAreNotAtFault(t *testing.T) {
	checkFault(t, api.Fault{Code: api.ErrKind, Method: 1}, file(giving(longType, ins(api.SCall, 1), comeBack), bad()))
	checkFault(t, api.Fault{Code: api.ErrKind, Method: 2}, file(good(), good(), bad()))
}

// At is 0, wherever in the method the fault is.
func TestE4NoPlaceIsTold(t *testing.T) {
	checkFault(t, api.Fault{Code: api.ErrKind, Method: 1}, file(good(), method(join(times(20, putInt, pop), code(pop, comeBack))...)))
}

func TestE4FilesThatMayNotBe(t *testing.T) {
	mayNot := api.Fault{Code: api.ErrForm}
	checkFault(t, mayNot, api.File{})
	checkFault(t, mayNot, api.File{Classes: classes()})
	checkFault(t, mayNot, api.File{Methods: []api.Method{good()}})
	for _, m := range []api.Method{
		{},
		method(),
		onStack(-1, comeBack),
		onStack(api.MaxStack+1, comeBack),
		giving(api.Type{Kind: 9}, comeBack),
		giving(ref(len(classes())), putNull, comeBack),
		method(ins(0), comeBack),
		method(ins(api.SIn+1), comeBack),
		method(comeBack, load(api.MaxLocals, api.KInt)),
		method(comeBack, ins(api.SGoto, 2)),
		method(comeBack, ins(api.SGet, 0, 0)),
		method(comeBack, ins(api.SCall, 2)),
		handled(method(comeBack), api.Handler{From: 0, To: 2}),
		{Code: code(comeBack), Regs: 1},
	} {
		// The form is asked for first, also behind methods that are at fault.
		checkFault(t, mayNot, file(m))
		checkFault(t, mayNot, file(bad(), m))
	}
}

// What nothing leads to has no state, whatever it says.
func TestE4CodeThatCannotBeComeTo(t *testing.T) {
	for _, l := range [][]api.Ins{
		{pop}, {dup}, {throwIt}, {load(0, api.KInt), pop, pop}, {comeBack, pop}, {ins(api.SGoto, 0)},
		{putInt, ins(api.SGoto, 0)}, {putLong, ins(api.SIf, 0, api.CondZero)}, times(40, putLong), {ins(api.SIfNull, 1)},
	} {
		accept(t, method(join(code(comeBack), l)...))
		accept(t, method(join(code(putNull, throwIt), l)...))
		accept(t, method(join(code(ins(api.SGoto, 0)), l)...))
		accept(t, handled(method(join(code(comeBack), l)...), api.Handler{From: 1, To: 2, At: 0}))
		accept(t, handled(onStack(0, join(code(comeBack), l)...), api.Handler{From: 1, To: 2, At: 0}))
	}
	accept(t, method(ins(api.SGoto, 2), pop, comeBack))
	refuse(t, method(putInt, ins(api.SIf, 3, api.CondZero), pop, comeBack))
}

// Whether a condition can hold is not asked: both ways are gone.
func TestE4ConditionsAreNotReckoned(t *testing.T) {
	for cond := api.CondZero; cond <= api.CondAbove; cond++ {
		refuse(t, method(putInt, ins(api.SIf, 3, cond), comeBack, pop))
		refuse(t, method(putInt, ins(api.SIf, 3, cond), pop, comeBack))
	}
	refuse(t, method(putNull, ins(api.SIfNull, 3), pop, comeBack))
	refuse(t, method(putNew(0), ins(api.SIfNull, 3), comeBack, pop))
}

func TestE4LoopsInWhichLessIsKnown(t *testing.T) {
	loop := func(first, again int, get ...api.Ins) []api.Ins {
		return join(
			code(putNew(first), store(0, api.KRef), load(0, api.KRef)), get,
			code(pop, putNew(again), store(0, api.KRef), ins(api.SGoto, 2)))
	}
	accept(t, method(loop(lower, lowest, ins(api.SGet, lower, 0))...))
	accept(t, method(loop(lower, upper, ins(api.SGet, upper, 0))...))
	accept(t, method(loop(lower, beside, ins(api.SGet, upper, 0))...))
	refuse(t, method(loop(lower, upper, ins(api.SGet, lower, 0))...))
	refuse(t, method(loop(lower, beside, ins(api.SGet, lower, 0))...))
	refuse(t, method(loop(lower, other, ins(api.SGet, upper, 0))...))
	accept(t, method(loop(lower, other, ins(api.SIs, upper))...))
}

// In each round one local more is not known any more: the last one is found out in the last round.
func TestE4LoopsOfManyRounds(t *testing.T) {
	const count = 12
	for _, again := range []known{intType, longType, none, ref(lower), ref(upper), ref(0)} {
		var l []api.Ins
		for slot := range count {
			l = append(l, putNew(lower), store(2*slot, api.KRef))
		}
		start := len(l)
		l = append(l, load(2*(count-1), api.KRef), ins(api.SGet, lower, 0), pop)
		for slot := count - 1; slot > 1; slot-- {
			l = append(l, load(2*slot-2, api.KRef), store(2*slot, api.KRef))
		}
		l = append(l, putKnown(again), store(0, again.Kind))
		rest := code(load(0, again.Kind), store(2, again.Kind), ins(api.SGoto, start))
		want := again == none || again == ref(lower)
		acceptIf(t, want, method(join(l, rest)...))
	}
}

// The stack is known of less, too, where a loop keeps a value on it.
func TestE4LoopsWithAStack(t *testing.T) {
	loop := func(first, again, class, field int) []api.Ins {
		return code(putNew(first), dup, ins(api.SGet, class, field), pop, pop, putNew(again), ins(api.SGoto, 1))
	}
	accept(t, method(loop(lower, upper, upper, 1)...))
	refuse(t, method(loop(lower, upper, lower, 1)...))
	refuse(t, method(putInt, ins(api.SGoto, 0)))
	refuse(t, method(putInt, pop, pop, ins(api.SGoto, 0)))
	refuse(t, method(ins(api.SGoto, 1), putInt, ins(api.SGoto, 1)))
	accept(t, method(putInt, pop, ins(api.SGoto, 0)))
}

// The first instruction is come to from elsewhere, too.
func TestE4BackToTheFirst(t *testing.T) {
	back := func(l ...api.Ins) api.Method {
		m := giving(intType, join(code(load(0, api.KInt)), l, code(ins(api.SIf, 0, api.CondZero), putInt, comeBack))...)
		m.Params = types(intType)
		return m
	}
	accept(t, back())
	accept(t, back(putInt, store(0, api.KInt)))
	refuse(t, back(putNull, store(0, api.KRef)))
	refuse(t, back(putLong, store(0, api.KLong)))
}
