package scheck_test

import (
	"testing"

	"crosswalk/api"
)

func TestE1WhatFitsAResult(t *testing.T) {
	for _, k := range allKnown() {
		for _, want := range allTypes() {
			acceptIf(t, fits(k, want), giving(want, putKnown(k), comeBack))
		}
	}
}

func TestE1WhatFitsAParameter(t *testing.T) {
	for _, k := range allKnown() {
		for _, want := range allTypes() {
			acceptIf(t, fits(k, want),
				method(putKnown(k), ins(api.SCall, 1), comeBack),
				taking(types(want), comeBack))
		}
	}
}

func TestE1WhatFitsAField(t *testing.T) {
	for _, k := range allKnown() {
		for c, class := range classes() {
			for n, want := range class.Fields {
				acceptIf(t, fits(k, want), method(putNew(c), putKnown(k), ins(api.SPut, c, n), comeBack))
			}
		}
	}
}

func TestE1WhatIsInASlot(t *testing.T) {
	for _, k := range allKnown() {
		for kind := api.KInt; kind <= api.KRef; kind++ {
			acceptIf(t, k.Kind == kind, method(putKnown(k), store(0, k.Kind), load(0, kind), comeBack))
			acceptIf(t, k.Kind == kind, method(putKnown(k), store(0, kind), comeBack))
			refuse(t, method(putKnown(k), store(0, k.Kind), load(1, kind), comeBack))
			refuse(t, method(putKnown(k), store(1, k.Kind), load(0, kind), comeBack))
		}
		for _, want := range allTypes() {
			acceptIf(t, fits(k, want), giving(want, putKnown(k), store(7, k.Kind), load(7, want.Kind), comeBack))
		}
	}
}

func TestE1AnythingIsNoValue(t *testing.T) {
	for kind := api.KInt; kind <= api.KRef; kind++ {
		refuse(t, method(load(0, kind), pop, comeBack))
		refuse(t, method(load(api.MaxLocals-2, kind), pop, comeBack))
	}
}

func TestE1TheSecondSlotIsNoValue(t *testing.T) {
	for kind := api.KInt; kind <= api.KRef; kind++ {
		refuse(t, method(putLong, store(3, api.KLong), load(4, kind), pop, comeBack))
	}
	accept(t, method(putLong, store(3, api.KLong), load(3, api.KLong), pop, comeBack))
}

// A long behind another one has its first slot where that one has none.
func TestE1LongsSideBySide(t *testing.T) {
	two := code(putLong, store(0, api.KLong), putLong, store(2, api.KLong))
	accept(t, method(join(two, code(load(0, api.KLong), load(2, api.KLong), comeBack))...))
	refuse(t, method(join(two, code(load(1, api.KLong), comeBack))...))
	refuse(t, method(join(two, code(load(3, api.KLong), comeBack))...))
}

func TestE1ALongLosesItsSlotsTogether(t *testing.T) {
	for _, k := range allKnown() {
		if k.Kind == api.KLong {
			continue
		}
		for slot := 3; slot <= 4; slot++ {
			lost := code(putLong, store(3, api.KLong), putKnown(k), store(slot, k.Kind))
			accept(t, method(join(lost, code(load(slot, k.Kind), comeBack))...))
			refuse(t, method(join(lost, code(load(3, api.KLong), comeBack))...))
			for kind := api.KInt; kind <= api.KRef; kind++ {
				refuse(t, method(join(lost, code(load(7-slot, kind), comeBack))...))
			}
		}
	}
}

func TestE1ALongOverALong(t *testing.T) {
	for slot := 2; slot <= 6; slot++ {
		over := code(putLong, store(4, api.KLong), putLong, store(slot, api.KLong))
		accept(t, method(join(over, code(load(slot, api.KLong), comeBack))...))
		apart := slot == 2 || slot == 4 || slot == 6
		acceptIf(t, apart, method(join(over, code(load(4, api.KLong), comeBack))...))
		// What was lost stays lost, when the slot that took it is stored into in its turn.
		for at := slot; at <= slot+1; at++ {
			again := join(over, code(putInt, store(at, api.KInt)))
			acceptIf(t, slot == 2 || slot == 6, method(join(again, code(load(4, api.KLong), comeBack))...))
			refuse(t, method(join(again, code(load(slot, api.KLong), comeBack))...))
		}
	}
}

// One long may lie over two others, and takes both from them.
func TestE1ALongOverTwoLongs(t *testing.T) {
	over := code(putLong, store(0, api.KLong), putLong, store(2, api.KLong), putLong, store(1, api.KLong))
	accept(t, method(join(over, code(load(1, api.KLong), comeBack))...))
	for slot := range 4 {
		for kind := api.KInt; kind <= api.KRef; kind++ {
			if slot != 1 || kind != api.KLong {
				refuse(t, method(join(over, code(load(slot, kind), comeBack))...))
			}
		}
	}
}

// What is left of a long behind the one that lies over it is lost, and has no part in that one.
func TestE1WhatIsLeftOfALong(t *testing.T) {
	over := code(putLong, store(4, api.KLong), putLong, store(3, api.KLong), putInt, store(5, api.KInt))
	accept(t, method(join(over, code(load(3, api.KLong), load(5, api.KInt), comeBack))...))
	refuse(t, method(join(over, code(putInt, store(4, api.KInt), load(3, api.KLong), comeBack))...))
	refuse(t, method(join(over, code(putInt, store(3, api.KInt), load(3, api.KLong), comeBack))...))
	over = code(putLong, store(4, api.KLong), putLong, store(5, api.KLong), putInt, store(4, api.KInt))
	accept(t, method(join(over, code(load(5, api.KLong), load(4, api.KInt), comeBack))...))
	refuse(t, method(join(over, code(putInt, store(6, api.KInt), load(5, api.KLong), comeBack))...))
}

func TestE1BothSlotsStoredIntoOneByOne(t *testing.T) {
	refuse(t, method(putLong, store(0, api.KLong), putInt, store(0, api.KInt), putInt, store(1, api.KInt), load(0, api.KLong), comeBack))
	accept(t, method(putLong, store(0, api.KLong), putInt, store(0, api.KInt), putNull, store(1, api.KRef), load(0, api.KInt), load(1, api.KRef), comeBack))
	// The last slot is one of a pair, too.
	last := api.MaxLocals - 2
	accept(t, method(putLong, store(last, api.KLong), putInt, store(last+1, api.KInt), load(last+1, api.KInt), comeBack))
	accept(t, method(putLong, store(last, api.KLong), putLong, store(last, api.KLong), load(last, api.KLong), comeBack))
	accept(t, method(putLong, store(0, api.KLong), putLong, store(0, api.KLong), load(0, api.KLong), comeBack))
}
