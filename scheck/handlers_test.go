package scheck_test

import (
	"testing"

	"crosswalk/api"
)

func over(from, to, at, class int) api.Handler {
	return api.Handler{From: from, To: to, At: at, Class: class}
}

func TestE3AHandlerHasAReferenceAlone(t *testing.T) {
	for c := range classes() {
		for d := range classes() {
			m := giving(ref(d), putNull, putInt, throwIt, comeBack)
			m.Code[2] = ins(api.SGoto, 2)
			acceptIf(t, isBelow(c, d), handled(m, over(2, 3, 3, c)))
		}
	}
	l := code(putInt, ins(api.SGoto, 1), pop, comeBack)
	accept(t, handled(method(l...), over(1, 2, 2, 0)))
	accept(t, handled(method(l...), over(0, 2, 2, 0)))
	l = code(putInt, ins(api.SGoto, 1), pop, pop, comeBack)
	refuse(t, handled(method(l...), over(1, 2, 2, 0)))
	refuse(t, handled(method(l...), over(0, 2, 2, 0)))
}

// Whether an instruction can throw, or goes on, does not matter.
func TestE3EveryInstructionLeadsToItsHandlers(t *testing.T) {
	accept(t, handled(method(comeBack, pop, comeBack), over(0, 1, 1, 0)))
	refuse(t, handled(method(comeBack, pop, pop, comeBack), over(0, 1, 1, 0)))
	refuse(t, handled(method(ins(api.SGoto, 0), pop, pop, comeBack), over(0, 1, 1, 0)))
	refuse(t, handled(method(putNull, throwIt, pop, pop), over(1, 2, 2, 0)))
	refuse(t, handled(method(putInt, ins(api.SIf, 2, 1), comeBack, pop, pop), over(1, 2, 3, 0)))
	refuse(t, handled(method(putNull, ins(api.SIfNull, 2), comeBack, pop, pop), over(1, 2, 3, 0)))
	for _, x := range shapes() {
		values := putAll(valuesFor(x.takes)...)
		at := len(values)
		l := join(values, code(x.i, comeBack, ins(api.SGet, lower, 0), comeBack))
		for c := range classes() {
			m := handled(method(l...), over(at, at+1, at+2, c))
			acceptIf(t, isBelow(c, lower), withCalled(m)...)
		}
	}
}

func TestE3FromAndToOfAHandler(t *testing.T) {
	l := code(putInt, pop, comeBack, pop, pop)
	for from := range l {
		for to := from + 1; to <= len(l); to++ {
			// The last two are come to from a handler alone.
			acceptIf(t, from > 2, handled(method(l...), over(from, to, 3, 0)))
		}
	}
}

func TestE3LocalsAsTheInstructionWasComeTo(t *testing.T) {
	for _, k := range allKnown() {
		l := code(putKnown(k), store(0, k.Kind), comeBack, pop, load(0, k.Kind), comeBack)
		refuse(t, handled(method(l...), over(1, 2, 3, 0)))
		refuse(t, handled(method(l...), over(1, 3, 3, 0)))
		accept(t, handled(method(l...), over(2, 3, 3, 0)))
		// What was there ahead of the store is there in the handler.
		l = join(code(putInt, store(0, api.KInt)), code(putKnown(k), store(0, k.Kind), comeBack, pop, load(0, api.KInt), comeBack))
		accept(t, handled(method(l...), over(2, 3, 5, 0)))
		accept(t, handled(method(l...), over(3, 4, 5, 0)))
		acceptIf(t, k == intType, handled(method(l...), over(3, 5, 5, 0)))
		acceptIf(t, k == intType, handled(method(l...), over(4, 5, 5, 0)))
	}
}

// Of all instructions under a handler the locals are taken together.
func TestE3LocalsOfManyInstructions(t *testing.T) {
	l := code(putNew(lower), store(0, api.KRef), putNew(beside), store(0, api.KRef), comeBack, pop, load(0, api.KRef), comeBack)
	for c := range classes() {
		m := giving(ref(c), l...)
		m.Code[4] = ins(api.SGoto, 4)
		acceptIf(t, isBelow(lower, c), handled(m, over(2, 4, 5, 0)))
		acceptIf(t, isBelow(upper, c), handled(m, over(2, 5, 5, 0)))
		acceptIf(t, isBelow(beside, c), handled(m, over(4, 5, 5, 0)))
		refuse(t, handled(m, over(1, 5, 5, 0)))
	}
	long := code(putLong, store(0, api.KLong), putInt, store(1, api.KInt), comeBack, pop, load(0, api.KLong), comeBack)
	accept(t, handled(method(long...), over(2, 4, 5, 0)))
	refuse(t, handled(method(long...), over(2, 5, 5, 0)))
	refuse(t, handled(method(long...), over(4, 5, 5, 0)))
}

func TestE3AHandlerWithoutAStack(t *testing.T) {
	accept(t, onStack(0, comeBack, pop, comeBack))
	refuse(t, handled(onStack(0, comeBack, pop, comeBack), over(0, 1, 1, 0)))
	accept(t, handled(onStack(1, comeBack, pop, comeBack), over(0, 1, 1, 0)))
	refuse(t, handled(onStack(0, ins(api.SGoto, 0), comeBack), over(0, 1, 1, 0)))
	// It does not matter, where nothing comes to what it is over.
	accept(t, handled(onStack(0, comeBack, comeBack), over(1, 2, 1, 0)))
}

func TestE3AHandlerOverItself(t *testing.T) {
	l := code(putNull, throwIt, pop, comeBack)
	for class := range classes() {
		accept(t, handled(method(l...), over(0, 4, 2, class)))
		accept(t, handled(method(l...), over(2, 4, 2, class)))
	}
	// It is come to with a reference, and, from the one ahead, with something else.
	accept(t, handled(method(putNull, pop, comeBack), over(0, 3, 1, other)))
	accept(t, handled(giving(ref(upper), putNew(beside), comeBack), over(0, 2, 1, lower)))
	refuse(t, handled(giving(ref(upper), putNew(beside), comeBack), over(0, 2, 1, other)))
	refuse(t, handled(method(putInt, pop, comeBack), over(0, 3, 1, other)))
	refuse(t, handled(method(putInt, pop, comeBack), over(0, 3, 2, other)))
	// The stack is empty at the first instruction.
	refuse(t, handled(method(ins(api.SGoto, 0)), over(0, 1, 0, 0)))
	// What a handler changes is known of less where it is come to again.
	again := code(putInt, store(0, api.KInt), putNull, throwIt, pop, load(0, api.KInt), pop, putNull, store(0, api.KRef), comeBack)
	accept(t, handled(method(again...), over(2, 9, 4, 0)))
	refuse(t, handled(method(again...), over(2, 10, 4, 0)))
}

func TestE3WhatCannotBeSoUnderAHandler(t *testing.T) {
	for _, i := range []api.Ins{pop, throwIt, load(0, api.KInt), ins(api.SIntOp, api.OpAdd), ins(api.SGet, upper, 0)} {
		refuse(t, handled(method(i, comeBack, pop, comeBack), over(0, 1, 2, 0)))
	}
	refuse(t, handled(onStack(1, putInt, putInt, comeBack, pop, comeBack), over(0, 3, 3, 0)))
}

// Each handler counts, also one that a handler ahead of it takes everything from.
func TestE3ManyHandlers(t *testing.T) {
	l := code(comeBack, pop, comeBack, ins(api.SGet, lower, 0), comeBack)
	accept(t, handled(method(l...), over(0, 1, 1, 0), over(0, 1, 3, lower)))
	accept(t, handled(method(l...), over(0, 1, 3, lowest), over(0, 1, 1, other)))
	refuse(t, handled(method(l...), over(0, 1, 1, 0), over(0, 1, 3, upper)))
	// Of two that go on at one place the classes are taken together.
	for c := range classes() {
		m := giving(ref(c), ins(api.SGoto, 0), comeBack)
		acceptIf(t, isBelow(upper, c), handled(m, over(0, 1, 1, lower), over(0, 1, 1, beside)))
		acceptIf(t, isBelow(lower, c), handled(m, over(0, 1, 1, lower), over(0, 1, 1, lowest)))
	}
	var most []api.Handler
	for class := range api.MaxHandlers {
		most = append(most, over(0, 1, 1, class))
	}
	accept(t, handled(method(l...), most...))
}
