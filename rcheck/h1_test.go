package rcheck_test

import (
	"testing"

	"crosswalk/api"
)

func TestH1WhatIsInARegister(t *testing.T) {
	for _, k := range allKnown() {
		for kind := api.KInt; kind <= api.KRef; kind++ {
			acceptIf(t, k.Kind == kind, method(set(3, k), use(3, kind), comeBack))
			// The register behind has nothing of its own, nor has the one ahead.
			refuse(t, method(set(3, k), use(4, kind), comeBack))
			refuse(t, method(set(3, k), use(2, kind), comeBack))
		}
		givesBack(t, k, 3, set(3, k))
		givesBack(t, k, 9, set(3, k), move(9, 3, k.Kind))
	}
}

func TestH1AnythingIsNoValue(t *testing.T) {
	for kind := api.KInt; kind <= api.KRef; kind++ {
		refuse(t, method(use(0, kind), comeBack))
		refuse(t, method(use(api.MaxRegs-2, kind), comeBack))
	}
}

func TestH1TheFirstInstruction(t *testing.T) {
	for _, k := range allTypes() {
		for _, want := range allTypes() {
			m := taking(types(k), giveBack(0))
			m.Ret = want
			acceptIf(t, fits(k, want), m)
		}
		m := taking(types(k), giveBack(0))
		m.Ret, m.Regs = k, slotsOf(k)
		accept(t, m)
		for kind := api.KInt; kind <= api.KRef; kind++ {
			refuse(t, taking(types(k), use(slotsOf(k), kind), comeBack))
		}
	}
}

func TestH1ParametersLieOneBehindTheOther(t *testing.T) {
	l := types(intType, longType, ref(lower), longType)
	at := []int{0, 1, 3, 4}
	for k, p := range l {
		for _, want := range allTypes() {
			m := taking(l, giveBack(at[k]))
			m.Ret = want
			acceptIf(t, fits(p, want), m)
		}
	}
	for _, slot := range []int{2, 5, 6} {
		for kind := api.KInt; kind <= api.KRef; kind++ {
			refuse(t, taking(l, use(slot, kind), comeBack))
		}
	}
	for slot := range 2 {
		refuse(t, taking(types(longType), setInt(slot), use(0, api.KLong), comeBack))
	}
}

func TestH1ALongLosesItsSlotsTogether(t *testing.T) {
	for _, k := range allKnown() {
		if k == longType {
			continue
		}
		for slot := 3; slot <= 4; slot++ {
			lost := code(setLong(3), set(slot, k))
			accept(t, method(join(lost, code(use(slot, k.Kind), comeBack))...))
			refuse(t, method(join(lost, code(use(3, api.KLong), comeBack))...))
			for kind := api.KInt; kind <= api.KRef; kind++ {
				refuse(t, method(join(lost, code(use(7-slot, kind), comeBack))...))
			}
		}
	}
}

func TestH1ALongOverALong(t *testing.T) {
	for slot := 2; slot <= 6; slot++ {
		l := code(setLong(4), setLong(slot))
		accept(t, method(join(l, code(use(slot, api.KLong), comeBack))...))
		acceptIf(t, slot != 3 && slot != 5, method(join(l, code(use(4, api.KLong), comeBack))...))
		// What was lost stays lost, when the slot that took it is written to in its turn.
		for at := slot; at <= slot+1; at++ {
			again := join(l, code(setInt(at)))
			acceptIf(t, slot == 2 || slot == 6, method(join(again, code(use(4, api.KLong), comeBack))...))
			refuse(t, method(join(again, code(use(slot, api.KLong), comeBack))...))
		}
	}
}

// One long may lie over two others, and takes both from them.
func TestH1ALongOverTwoLongs(t *testing.T) {
	l := code(setLong(0), setLong(2), setLong(1))
	for slot := range 4 {
		for kind := api.KInt; kind <= api.KRef; kind++ {
			acceptIf(t, slot == 1 && kind == api.KLong, method(join(l, code(use(slot, kind), comeBack))...))
		}
	}
}

// What is left of a long beside the one that lies over it has no part in that one.
func TestH1WhatIsLeftOfALong(t *testing.T) {
	accept(t, method(setLong(4), setLong(3), setInt(5), use(3, api.KLong), use(5, api.KInt), comeBack))
	refuse(t, method(setLong(4), setLong(3), setInt(5), setInt(4), use(3, api.KLong), comeBack))
	refuse(t, method(setLong(4), setLong(3), setInt(5), setInt(3), use(3, api.KLong), comeBack))
	accept(t, method(setLong(4), setLong(5), setInt(4), use(5, api.KLong), use(4, api.KInt), comeBack))
	refuse(t, method(setLong(4), setLong(5), setInt(4), setInt(6), use(5, api.KLong), comeBack))
	refuse(t, method(setLong(4), setLong(5), setInt(4), setInt(5), use(5, api.KLong), comeBack))
	refuse(t, method(setLong(0), setInt(0), setInt(1), use(0, api.KLong), comeBack))
	accept(t, method(setLong(0), setInt(0), setNull(1), use(0, api.KInt), use(1, api.KRef), comeBack))
	last := api.MaxRegs - 2
	accept(t, method(setLong(last), setInt(last+1), emit(last+1, api.KInt), comeBack))
	accept(t, method(setLong(last), setLong(last), emit(last, api.KLong), comeBack))
}

// A move onto one's own slots: what was read is there afterwards, whatever it was read from.
func TestH1LongsMovedOverThemselves(t *testing.T) {
	for to := 2; to <= 6; to++ {
		l := code(setLong(4), move(to, 4, api.KLong))
		accept(t, method(join(l, code(use(to, api.KLong), comeBack))...))
		acceptIf(t, to != 3 && to != 5, method(join(l, code(use(4, api.KLong), comeBack))...))
	}
}

// twoWays comes to the last list by two ways.
func twoWays(one, two, last []api.Ins) []api.Ins {
	second := 3 + len(one)
	end := second + len(two)
	return join(code(setInt(80), jumpIf(second, 80)), one, code(jump(end)), two, last)
}

// togetherOf tells by hand what is known of two values together; false where that is anything.
func togetherOf(a, b known) (known, bool) {
	switch {
	case a == b:
		return a, true
	case a.Kind != api.KRef || b.Kind != api.KRef:
		return known{}, false
	case a == none:
		return b, true
	case b == none:
		return a, true
	}
	for _, c := range []int{beside, other, lowest, lower, upper, 3, 2, 1} {
		if isBelow(a.Class, c) && isBelow(b.Class, c) {
			return ref(c), true
		}
	}
	return ref(0), true
}

func TestH1BothTogetherOfAllPairs(t *testing.T) {
	for _, a := range allKnown() {
		for _, b := range allKnown() {
			both, ok := togetherOf(a, b)
			in := func(last ...api.Ins) []api.Ins {
				return twoWays(code(set(2, a)), code(set(2, b)), last)
			}
			// Anything may be in a register that nobody reads.
			accept(t, method(in(comeBack)...))
			for _, want := range allTypes() {
				acceptIf(t, ok && fits(both, want), giving(want, in(giveBack(2))...))
			}
		}
	}
}

// The chapter's Joins by name: one of both, one above both, class 0.
func TestH1Joins(t *testing.T) {
	for _, x := range []struct{ a, b, join int }{
		{lower, upper, upper}, {lowest, upper, upper}, {lowest, lower, lower}, {lowest, lowest, lowest},
		{lower, beside, upper}, {lowest, beside, upper}, {lower, other, 0}, {other, 1, 0}, {0, lowest, 0},
	} {
		for c := range classes() {
			want := isBelow(x.join, c)
			acceptIf(t, want, giving(ref(c), twoWays(code(setNew(2, x.a)), code(setNew(2, x.b)), code(giveBack(2)))...))
			acceptIf(t, want, giving(ref(c), twoWays(code(setNew(2, x.b)), code(setNew(2, x.a)), code(giveBack(2)))...))
		}
	}
}

func TestH1SomethingOnOneWayAlone(t *testing.T) {
	for _, k := range allKnown() {
		accept(t, method(twoWays(code(set(2, k)), nil, code(comeBack))...))
		refuse(t, method(twoWays(code(set(2, k)), nil, code(use(2, k.Kind), comeBack))...))
		refuse(t, method(twoWays(nil, code(set(2, k)), code(use(2, k.Kind), comeBack))...))
		// What is written behind both ways is there again.
		accept(t, method(twoWays(code(set(2, k)), nil, code(set(2, k), use(2, k.Kind), comeBack))...))
	}
}

func TestH1ALongLostOnOneWayOrOnBoth(t *testing.T) {
	read := code(use(3, api.KLong), comeBack)
	whole := code(setLong(3))
	accept(t, method(twoWays(whole, whole, read)...))
	for first := 3; first <= 4; first++ {
		lost := code(setLong(3), setInt(first))
		refuse(t, method(twoWays(lost, whole, read)...))
		refuse(t, method(twoWays(whole, lost, read)...))
		refuse(t, method(twoWays(whole, lost, code(use(first, api.KInt), comeBack))...))
		for second := 3; second <= 4; second++ {
			alsoLost := code(setLong(3), setInt(second))
			refuse(t, method(twoWays(lost, alsoLost, read)...))
			acceptIf(t, first == second, method(twoWays(lost, alsoLost, code(use(first, api.KInt), comeBack))...))
		}
	}
}

// A second slot on one way and a first one on the other are no long, nor is what lies beside them.
func TestH1LongsThatLieAcross(t *testing.T) {
	one, two := code(setLong(2)), code(setLong(3))
	accept(t, method(twoWays(one, two, code(comeBack))...))
	for slot := 2; slot <= 4; slot++ {
		for kind := api.KInt; kind <= api.KRef; kind++ {
			refuse(t, method(twoWays(one, two, code(use(slot, kind), comeBack))...))
			refuse(t, method(twoWays(two, one, code(use(slot, kind), comeBack))...))
		}
	}
}

// Three ways: together with the third one less is known than of the first two.
func TestH1ThreeWays(t *testing.T) {
	three := func(a, b, c int) []api.Ins {
		return code(
			setInt(80), jumpIf(4, 80), setNew(0, a), jump(7),
			jumpIf(8, 80), setNew(0, b), jump(7),
			giveBack(0),
			setNew(0, c), jump(7))
	}
	accept(t, giving(ref(upper), three(lower, beside, upper)...))
	accept(t, giving(ref(lower), three(lower, lowest, lower)...))
	refuse(t, giving(ref(upper), three(lower, beside, other)...))
	refuse(t, giving(ref(upper), three(lower, other, beside)...))
	refuse(t, giving(ref(upper), three(other, lower, beside)...))
	accept(t, giving(ref(0), three(other, lower, beside)...))
}

// Of two handlers that go on at one RCaught the classes are taken together.
func TestH1TwoTypesAtHand(t *testing.T) {
	for c := range classes() {
		for d := range classes() {
			both, _ := togetherOf(ref(c), ref(d))
			for want := range classes() {
				m := giving(ref(want), jump(0), caught(0), giveBack(0))
				acceptIf(t, fits(both, ref(want)), handled(m, over(0, 1, 1, c), over(0, 1, 1, d)))
				m = giving(ref(want), setInt(80), jump(1), caught(0), giveBack(0))
				acceptIf(t, fits(both, ref(want)), handled(m, over(0, 1, 2, c), over(1, 2, 2, d)))
			}
		}
	}
}

// Something at hand on one way, and nothing on the other: it is broken, whichever comes first.
func TestH1AtHandOnOneWayAlone(t *testing.T) {
	gives := giving(intType, setInt(0), giveBack(0))
	refuse(t, method(setInt(80), jumpIf(3, 80), call(1), result(0, api.KInt), comeBack), gives)
	refuse(t, method(call(1), result(0, api.KInt), jumpIf(1, 0), comeBack), gives)
	refuse(t, handled(method(setInt(80), jumpIf(3, 80), comeBack, caught(0), comeBack), over(0, 1, 3, 0)))
	refuse(t, handled(method(setInt(80), jumpIf(3, 80), comeBack, caught(0), comeBack), over(2, 3, 3, 0)))
}
