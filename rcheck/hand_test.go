package rcheck_test

import (
	"testing"

	"crosswalk/api"
)

// gives has a method of that result.
func gives(t api.Type) api.Method {
	return giving(t, set(0, t), giveBack(0))
}

func TestH2ResultBehindItsCall(t *testing.T) {
	for _, ret := range allTypes() {
		for kind := api.KInt; kind <= api.KRef; kind++ {
			acceptIf(t, ret.Kind == kind, method(call(1), result(4, kind), comeBack), gives(ret))
		}
		// What is written is what the called method gives, not the one that calls.
		for _, want := range allTypes() {
			acceptIf(t, fits(ret, want), giving(want, call(1), result(4, ret.Kind), giveBack(4)), gives(ret))
		}
		refuse(t, method(call(1), result(4, ret.Kind), use(5, ret.Kind), comeBack), gives(ret))
	}
}

func TestH2ResultOverHalfALong(t *testing.T) {
	for _, ret := range types(intType, ref(0)) {
		for slot := 2; slot <= 5; slot++ {
			l := code(setLong(3), call(1), result(slot, ret.Kind), use(3, api.KLong), comeBack)
			acceptIf(t, slot == 2 || slot == 5, method(l...), gives(ret))
		}
	}
	for slot := 1; slot <= 5; slot++ {
		l := code(setLong(3), call(1), result(slot, api.KLong), use(slot, api.KLong), use(3, api.KLong), comeBack)
		acceptIf(t, slot != 2 && slot != 4, method(l...), gives(longType))
	}
}

func TestH2ResultBehindAnotherInstruction(t *testing.T) {
	for _, ret := range allTypes() {
		fetch := result(4, ret.Kind)
		refuse(t, method(fetch, comeBack), gives(ret))
		refuse(t, method(set(0, ret), fetch, comeBack), gives(ret))
		// What is at hand and not fetched at once is lost.
		accept(t, method(call(1), set(0, ret), comeBack), gives(ret))
		refuse(t, method(call(1), set(0, ret), fetch, comeBack), gives(ret))
		refuse(t, method(call(1), jump(2), fetch, comeBack), gives(ret))
		refuse(t, method(call(1), fetch, fetch, comeBack), gives(ret))
		refuse(t, method(call(1), fetch, set(0, ret), fetch, comeBack), gives(ret))
		refuse(t, method(call(1), fetch, comeBack), method(comeBack))
		accept(t, method(call(1), comeBack), gives(ret))
		accept(t, method(call(1), fetch, call(1), fetch, comeBack), gives(ret))
		// A parameter is nothing at hand.
		refuse(t, taking(types(ret), fetch, comeBack))
	}
	for _, x := range shapes() {
		if !x.last && x.i.Op != api.RCall {
			l := join(given(x), code(x.i, result(4, api.KInt), comeBack))
			refuse(t, withCalled(method(l...))...)
		}
	}
}

// The example of the chapter: an RResult at a method's start.
func TestH2ResultAtTheStart(t *testing.T) {
	accept(t, giving(intType, setInt(0), giveBack(0)))
	for kind := api.KInt; kind <= api.KRef; kind++ {
		refuse(t, giving(intType, result(0, kind), setInt(0), giveBack(0)))
	}
	// It does not matter that a call goes back there.
	refuse(t, giving(intType, result(0, api.KInt), call(0), jump(0)))
}

func TestH2ResultOfTheLastCall(t *testing.T) {
	for kind := api.KInt; kind <= api.KRef; kind++ {
		twice := method(call(1), call(2), result(0, kind), comeBack)
		acceptIf(t, kind == api.KLong, twice, gives(intType), gives(longType))
		refuse(t, method(call(1), call(2), result(0, kind), comeBack), gives(intType), method(comeBack))
		acceptIf(t, kind == api.KInt, method(call(1), call(2), result(0, kind), comeBack), method(comeBack), gives(intType))
	}
}

func TestH2ResultReachedByAJumpAsWell(t *testing.T) {
	fetch := result(0, api.KInt)
	refuse(t, method(setInt(1), jumpIf(3, 1), call(1), fetch, comeBack), gives(intType))
	refuse(t, method(setNull(1), jumpIfNull(3, 1), call(1), fetch, comeBack), gives(intType))
	refuse(t, method(call(1), fetch, jump(1)), gives(intType))
	refuse(t, method(call(1), fetch, jumpIf(1, 0), comeBack), gives(intType))
	refuse(t, method(jump(2), call(1), fetch, comeBack), gives(intType))
	// A jump from another call is one, too, and so is one to the next instruction.
	refuse(t, method(setInt(1), jumpIf(2, 1), fetch, comeBack), gives(intType))
	refuse(t, method(jump(3), call(1), fetch, call(1), jump(2)), gives(intType))
	// One that jumps to the call itself takes nothing away, nor does one that can't be come to.
	accept(t, method(call(1), fetch, jump(0)), gives(intType))
	accept(t, method(setInt(1), jumpIf(2, 1), call(1), fetch, comeBack), gives(intType))
	accept(t, method(call(1), fetch, comeBack, jump(1)), gives(intType))
}

func TestH2ResultReachedByAHandler(t *testing.T) {
	l := code(call(1), result(0, api.KRef), comeBack)
	for class := range classes() {
		refuse(t, handled(method(l...), over(0, 1, 1, class)), gives(ref(class)))
		refuse(t, handled(method(l...), over(1, 2, 1, class)), gives(ref(class)))
		refuse(t, handled(method(l...), over(2, 3, 1, class)), gives(ref(class)))
		refuse(t, handled(method(comeBack, result(0, api.KRef), comeBack), over(0, 1, 1, class)))
	}
	accept(t, handled(method(l...), over(0, 1, 2, 0)), gives(ref(0)))
}

// What was caught is no result, and a result is not caught.
func TestH2OneIsNotFetchedAsTheOther(t *testing.T) {
	refuse(t, method(call(1), caught(0), comeBack), gives(ref(0)))
	refuse(t, handled(method(comeBack, result(0, api.KRef), comeBack), over(0, 1, 1, 0)))
	refuse(t, handled(method(call(1), caught(0), comeBack), over(0, 1, 1, 0)), gives(ref(0)))
	accept(t, handled(method(call(1), comeBack, caught(0), comeBack), over(0, 1, 2, 0)), gives(ref(0)))
	// Behind what a handler goes on at, a call gives as ever.
	accept(t, handled(method(comeBack, caught(0), call(1), result(1, api.KRef), comeBack), over(0, 1, 1, 0)), gives(ref(0)))
	accept(t, handled(method(comeBack, call(1), result(1, api.KRef), comeBack), over(0, 1, 1, 0)), gives(ref(0)))
}

func TestH2CaughtAtAHandlersStart(t *testing.T) {
	for class := range classes() {
		for want := range classes() {
			m := giving(ref(want), jump(0), caught(4), giveBack(4))
			acceptIf(t, isBelow(class, want), handled(m, over(0, 1, 1, class)))
		}
		for kind := api.KInt; kind <= api.KRef; kind++ {
			m := method(comeBack, caught(4), use(4, kind), comeBack)
			acceptIf(t, kind == api.KRef, handled(m, over(0, 1, 1, class)))
			refuse(t, handled(method(comeBack, caught(4), use(5, kind), comeBack), over(0, 1, 1, class)))
		}
		for slot := 2; slot <= 5; slot++ {
			m := method(setLong(3), jump(1), caught(slot), use(3, api.KLong), comeBack)
			acceptIf(t, slot == 2 || slot == 5, handled(m, over(1, 2, 2, class)))
		}
	}
}

func TestH2CaughtElsewhere(t *testing.T) {
	refuse(t, method(caught(0), comeBack))
	refuse(t, method(setNull(0), caught(0), comeBack))
	// At the start nothing is at hand, also where a handler goes on there.
	refuse(t, handled(method(caught(0), comeBack), over(0, 1, 0, 0)))
	refuse(t, handled(method(caught(0), comeBack), over(1, 2, 0, 0)))
	// What is at hand and not fetched at once is lost.
	refuse(t, handled(method(comeBack, setInt(0), caught(0), comeBack), over(0, 1, 1, 0)))
	refuse(t, handled(method(comeBack, jump(2), caught(0), comeBack), over(0, 1, 1, 0)))
	refuse(t, handled(method(comeBack, caught(0), caught(1), comeBack), over(0, 1, 1, 0)))
	accept(t, handled(method(comeBack, caught(0), move(1, 0, api.KRef), comeBack), over(0, 1, 1, 0)))
}

func TestH2CaughtReachedByAJumpAsWell(t *testing.T) {
	refuse(t, handled(method(setInt(0), caught(1), comeBack), over(0, 1, 1, 0)))
	refuse(t, handled(method(setInt(0), jumpIf(3, 0), comeBack, caught(1), comeBack), over(1, 2, 3, 0)))
	refuse(t, handled(method(setNull(0), jumpIfNull(3, 0), comeBack, caught(1), comeBack), over(0, 1, 3, 0)))
	refuse(t, handled(method(comeBack, caught(1), jump(1)), over(0, 1, 1, 0)))
	// Also from something over which that very handler stands.
	refuse(t, handled(method(jump(1), caught(1), comeBack), over(0, 1, 1, 0)))
	accept(t, handled(method(jump(0), caught(1), comeBack, jump(1)), over(0, 1, 1, 0)))
}

func TestH2AHandlerThatGoesOnAtNoCaught(t *testing.T) {
	for class := range classes() {
		accept(t, handled(method(jump(0), comeBack), over(0, 1, 1, class)))
		accept(t, handled(method(jump(0)), over(0, 1, 0, class)))
		// It may be come to by a jump as well.
		accept(t, handled(method(setInt(0), jumpIf(3, 0), comeBack, comeBack), over(0, 4, 3, class)))
		// One that goes on at RCaught and one that does not may stand over one instruction.
		accept(t, handled(method(jump(0), caught(0), comeBack), over(0, 1, 1, class), over(0, 1, 2, class)))
	}
	for _, x := range shapes() {
		begin := given(x)
		at := len(begin)
		// It goes on at the instruction with the registers as they were where it was come to, and nothing else.
		l := join(begin, code(jump(at+2), comeBack, x.i, comeBack))
		accept(t, withCalled(handled(method(l...), over(at, at+1, at+2, 0)))...)
		if len(x.reads) > 0 {
			refuse(t, withCalled(handled(method(l...), over(at-1, at, at+2, 0)))...)
		}
	}
}
