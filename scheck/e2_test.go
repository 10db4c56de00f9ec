package scheck_test

import (
	"testing"

	"crosswalk/api"
)

// twoWays comes to the last list by two ways.
func twoWays(one, two, last []api.Ins) []api.Ins {
	second := 3 + len(one)
	end := second + len(two)
	return join(
		code(putInt, ins(api.SIf, second, api.CondZero)), one, code(ins(api.SGoto, end)),
		two, last)
}

// togetherOf tells by hand what is known of two values together; false where that is anything.
func togetherOf(a, b known) (known, bool) {
	switch {
	case a == b:
		return a, true
	case a.Kind != api.KRef || b.Kind != api.KRef:
		return known{}, false
	case a == none:
		return b, true
	case b == none:
		return a, true
	}
	for _, c := range []int{beside, other, lowest, lower, upper, 3, 2, 1} {
		if isBelow(a.Class, c) && isBelow(b.Class, c) {
			return ref(c), true
		}
	}
	return ref(0), true
}

func TestE2SlotsOfAllPairs(t *testing.T) {
	for _, a := range allKnown() {
		for _, b := range allKnown() {
			both, ok := togetherOf(a, b)
			in := func(last ...api.Ins) []api.Ins {
				return twoWays(code(putKnown(a), store(2, a.Kind)), code(putKnown(b), store(2, b.Kind)), last)
			}
			accept(t, method(in(comeBack)...))
			for _, want := range allTypes() {
				acceptIf(t, ok && fits(both, want), giving(want, in(load(2, want.Kind), comeBack)...))
			}
		}
	}
}

func TestE2StacksOfAllPairs(t *testing.T) {
	for _, a := range allKnown() {
		for _, b := range allKnown() {
			both, ok := togetherOf(a, b)
			in := func(last ...api.Ins) []api.Ins {
				return twoWays(code(putKnown(a)), code(putKnown(b)), last)
			}
			// Where they are anything together, the state is broken, even if nobody takes the value.
			acceptIf(t, ok, method(in(comeBack)...))
			acceptIf(t, ok, method(in(pop, comeBack)...))
			for _, want := range allTypes() {
				acceptIf(t, ok && fits(both, want), giving(want, in(comeBack)...))
			}
		}
	}
}

// The chapter's Joins by name: one of both, one above both, class 0.
func TestE2Joins(t *testing.T) {
	for _, x := range []struct{ a, b, join int }{
		{lower, upper, upper}, {lowest, upper, upper}, {lowest, lower, lower}, {lowest, lowest, lowest},
		{lower, beside, upper}, {lowest, beside, upper}, {lower, other, 0}, {other, 1, 0}, {0, lowest, 0},
	} {
		for c := range classes() {
			want := isBelow(x.join, c)
			acceptIf(t, want, giving(ref(c), twoWays(code(putNew(x.a)), code(putNew(x.b)), code(comeBack))...))
			acceptIf(t, want, giving(ref(c), twoWays(code(putNew(x.b)), code(putNew(x.a)), code(comeBack))...))
		}
	}
}

func TestE2StacksAreComparedValueByValue(t *testing.T) {
	last := code(ins(api.SPut, upper, 0), comeBack)
	accept(t, method(twoWays(code(putNew(lower), putInt), code(putNew(beside), putInt), last)...))
	accept(t, method(twoWays(code(putNull, putInt), code(putNew(beside), putInt), last)...))
	refuse(t, method(twoWays(code(putNew(other), putInt), code(putNew(beside), putInt), last)...))
	refuse(t, method(twoWays(code(putNew(lower), putInt), code(putInt, putNew(lower)), code(comeBack))...))
	refuse(t, method(twoWays(code(putInt, putLong), code(putLong, putLong), code(comeBack))...))
	refuse(t, method(twoWays(code(putLong, putInt), code(putLong, putNull), code(comeBack))...))
}

func TestE2StacksOfDifferentHeights(t *testing.T) {
	for low := range 4 {
		for high := range 4 {
			acceptIf(t, low == high, method(twoWays(times(low, putInt), times(high, putInt), code(comeBack))...))
		}
	}
	// As many slots are not as many values.
	refuse(t, method(twoWays(code(putLong), code(putInt, putInt), code(comeBack))...))
	refuse(t, method(twoWays(nil, code(putNull), code(comeBack))...))
}

func TestE2ALongLostOnOneWayOrOnBoth(t *testing.T) {
	keep := code(putInt, pop)
	for first := 3; first <= 4; first++ {
		for second := 3; second <= 4; second++ {
			loseFirst := code(putInt, store(first, api.KInt))
			loseSecond := code(putInt, store(second, api.KInt))
			begin := code(putLong, store(3, api.KLong))
			// The ways stand behind two instructions: so do the places that they go to.
			shift := func(l []api.Ins) []api.Ins {
				l[1].A += len(begin)
				for k := range l {
					if l[k].Op == api.SGoto {
						l[k].A += len(begin)
					}
				}
				return join(begin, l)
			}
			refuse(t, method(shift(twoWays(loseFirst, keep, code(load(3, api.KLong), comeBack)))...))
			refuse(t, method(shift(twoWays(keep, loseSecond, code(load(3, api.KLong), comeBack)))...))
			refuse(t, method(shift(twoWays(loseFirst, loseSecond, code(load(3, api.KLong), comeBack)))...))
			accept(t, method(shift(twoWays(keep, keep, code(load(3, api.KLong), comeBack)))...))
			acceptIf(t, first == second, method(shift(twoWays(loseFirst, loseSecond, code(load(first, api.KInt), comeBack)))...))
			refuse(t, method(shift(twoWays(loseFirst, keep, code(load(first, api.KInt), comeBack)))...))
		}
	}
}

// A second slot on one way and a first one on the other are no long, nor is what lies beside them.
func TestE2LongsThatLieAcross(t *testing.T) {
	one := code(putLong, store(2, api.KLong))
	two := code(putLong, store(3, api.KLong))
	accept(t, method(twoWays(one, two, code(comeBack))...))
	for slot := 2; slot <= 4; slot++ {
		for kind := api.KInt; kind <= api.KRef; kind++ {
			refuse(t, method(twoWays(one, two, code(load(slot, kind), comeBack))...))
			refuse(t, method(twoWays(two, one, code(load(slot, kind), comeBack))...))
		}
	}
}

// Three ways: together with the third one less is known than of the first two.
func TestE2ThreeWays(t *testing.T) {
	three := func(a, b, c int) []api.Ins {
		return code(
			putInt, ins(api.SIf, 4, api.CondZero), putNew(a), ins(api.SGoto, 8),
			putInt, ins(api.SIf, 9, api.CondZero), putNew(b), ins(api.SGoto, 8),
			comeBack,
			putNew(c), ins(api.SGoto, 8))
	}
	accept(t, giving(ref(upper), three(lower, beside, upper)...))
	accept(t, giving(ref(lower), three(lower, lowest, lower)...))
	refuse(t, giving(ref(upper), three(lower, beside, other)...))
	refuse(t, giving(ref(upper), three(lower, other, beside)...))
	refuse(t, giving(ref(upper), three(other, lower, beside)...))
	accept(t, giving(ref(0), three(other, lower, beside)...))
}
