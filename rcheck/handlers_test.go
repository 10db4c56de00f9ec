package rcheck_test

import (
	"testing"

	"crosswalk/api"
)

// Whether an instruction can throw, or goes on, does not matter.
func TestH2EveryInstructionLeadsToItsHandlers(t *testing.T) {
	for _, x := range shapes() {
		begin := given(x)
		at := len(begin)
		l := join(begin, code(x.i, comeBack, caught(70), get(72, 70, lower, 0), comeBack))
		for c := range classes() {
			m := handled(method(l...), over(at, at+1, at+2, c))
			acceptIf(t, isBelow(c, lower), withCalled(m)...)
		}
	}
	bad := use(70, api.KInt)
	refuse(t, handled(method(comeBack, bad, comeBack), over(0, 1, 1, 0)))
	refuse(t, handled(method(jump(0), bad, comeBack), over(0, 1, 1, 0)))
	refuse(t, handled(method(setNull(0), throwIt(0), bad, comeBack), over(1, 2, 2, 0)))
	refuse(t, handled(method(setInt(0), jumpIf(2, 0), comeBack, bad, comeBack), over(1, 2, 3, 0)))
	refuse(t, handled(method(setNull(0), jumpIfNull(2, 0), comeBack, bad, comeBack), over(1, 2, 3, 0)))
	refuse(t, handled(method(call(0), result(0, api.KInt), comeBack, bad, comeBack), over(1, 2, 3, 0)))
}

func TestH2FromAndToOfAHandler(t *testing.T) {
	l := code(setInt(0), setInt(1), comeBack, use(70, api.KInt), comeBack)
	for from := range l {
		for to := from + 1; to <= len(l); to++ {
			// The last two are come to from a handler alone.
			acceptIf(t, from > 2, handled(method(l...), over(from, to, 3, 0)))
		}
	}
}

// A handler has the registers as the instruction was come to: ahead of what is written there.
func TestH2AheadOfAndBehindWhatIsWritten(t *testing.T) {
	for _, k := range allKnown() {
		l := code(set(0, k), comeBack, use(0, k.Kind), comeBack)
		refuse(t, handled(method(l...), over(0, 1, 2, 0)))
		refuse(t, handled(method(l...), over(0, 2, 2, 0)))
		accept(t, handled(method(l...), over(1, 2, 2, 0)))
		// What was there ahead of it is there in the handler.
		l = code(setInt(0), set(0, k), comeBack, use(0, api.KInt), comeBack)
		accept(t, handled(method(l...), over(1, 2, 3, 0)))
		acceptIf(t, k == intType, handled(method(l...), over(1, 3, 3, 0)))
		acceptIf(t, k == intType, handled(method(l...), over(2, 3, 3, 0)))
		refuse(t, handled(method(l...), over(0, 2, 3, 0)))
	}
}

func TestH2EachInstructionUnderAHandler(t *testing.T) {
	for _, x := range shapes() {
		for _, w := range x.writes {
			begin := given(x)
			at := len(begin)
			l := join(begin, code(x.i, comeBack, use(w.at, w.is.Kind), comeBack))
			// A cast alone has something of that kind there already.
			acceptIf(t, x.i.Op == api.RCast, withCalled(handled(method(l...), over(at, at+1, at+2, 0)))...)
			accept(t, withCalled(handled(method(l...), over(at+1, at+2, at+2, 0)))...)
		}
	}
	// Of a cast the class is known behind it alone.
	l := code(setNew(0, 0), cast(0, lower), jump(2), giveBack(0))
	refuse(t, handled(giving(ref(lower), l...), over(1, 2, 3, 0)))
	refuse(t, handled(giving(ref(lower), l...), over(1, 3, 3, 0)))
	accept(t, handled(giving(ref(lower), l...), over(2, 3, 3, 0)))
}

func TestH2ResultUnderAHandler(t *testing.T) {
	gives := giving(intType, setInt(0), giveBack(0))
	l := code(call(1), result(0, api.KInt), comeBack, caught(1), use(0, api.KInt), comeBack)
	for from := range 3 {
		for to := from + 1; to <= 3; to++ {
			acceptIf(t, from == 2, handled(method(l...), over(from, to, 3, 0)), gives)
		}
	}
}

// Of all instructions under a handler the registers are taken together.
func TestH2RegistersOfManyInstructions(t *testing.T) {
	l := code(setNew(0, lower), setNew(0, beside), jump(2), giveBack(0))
	for c := range classes() {
		m := giving(ref(c), l...)
		acceptIf(t, isBelow(lower, c), handled(m, over(1, 2, 3, 0)))
		acceptIf(t, isBelow(upper, c), handled(m, over(1, 3, 3, 0)))
		acceptIf(t, isBelow(beside, c), handled(m, over(2, 3, 3, 0)))
		refuse(t, handled(m, over(0, 3, 3, 0)))
	}
	for slot := range 2 {
		long := code(setLong(0), setInt(slot), comeBack, use(0, api.KLong), comeBack)
		accept(t, handled(method(long...), over(1, 2, 3, 0)))
		refuse(t, handled(method(long...), over(1, 3, 3, 0)))
		refuse(t, handled(method(long...), over(2, 3, 3, 0)))
	}
}

func TestH2AHandlerOverItself(t *testing.T) {
	for class := range classes() {
		l := code(setNull(0), throwIt(0), caught(1), comeBack)
		accept(t, handled(method(l...), over(0, 4, 2, class)))
		accept(t, handled(method(l...), over(2, 4, 2, class)))
		accept(t, handled(method(setNull(0), throwIt(0)), over(0, 2, 0, class)))
	}
	// What a handler changes is known of less where it is come to again.
	again := code(setInt(0), jump(1), caught(1), use(0, api.KInt), setNull(0), comeBack)
	accept(t, handled(method(again...), over(1, 5, 2, 0)))
	refuse(t, handled(method(again...), over(1, 6, 2, 0)))
}

func TestH2WhatCannotBeSoUnderAHandler(t *testing.T) {
	for _, x := range shapes() {
		if len(x.reads) > 0 {
			refuse(t, withCalled(handled(method(x.i, comeBack, caught(0), comeBack), over(0, 1, 2, 0)))...)
		}
	}
	refuse(t, handled(method(setInt(0), setInt(0), caught(0), comeBack), over(0, 2, 2, 0)))
}

// Each handler counts, also one that a handler ahead of it takes everything from.
func TestH2ManyHandlers(t *testing.T) {
	l := code(comeBack, caught(0), comeBack, caught(0), get(2, 0, lower, 0), comeBack)
	accept(t, handled(method(l...), over(0, 1, 1, 0), over(0, 1, 3, lower)))
	accept(t, handled(method(l...), over(0, 1, 3, lowest), over(0, 1, 1, other)))
	refuse(t, handled(method(l...), over(0, 1, 1, 0), over(0, 1, 3, upper)))
	var most []api.Handler
	for class := range api.MaxHandlers {
		most = append(most, over(0, 1, 1, class))
	}
	accept(t, handled(method(l...), most...))
}
