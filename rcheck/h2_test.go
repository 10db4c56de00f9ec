package rcheck_test

import (
	"testing"

	"crosswalk/api"
)

// operand is a register that an instruction reads, or writes: none stands for any reference.
type operand struct {
	at int
	is known
}

// shape says what an instruction reads and writes.
type shape struct {
	i      api.Ins
	reads  []operand
	writes []operand
	// Of most instructions the next one is the way on.
	last bool
}

// Registers of the shapes: each has room for a long behind it.
const (
	atA = 10
	atB = 12
	atC = 14
	atD = 16
)

func operands(l ...operand) []operand {
	return l
}

func shapes() []shape {
	a := func(k known) []operand { return operands(operand{atA, k}) }
	b := func(k known) []operand { return operands(operand{atB, k}) }
	bc := func(k known) []operand { return operands(operand{atB, k}, operand{atC, k}) }
	l := []shape{
		{i: setInt(atA), writes: a(intType)},
		{i: setLong(atA), writes: a(longType)},
		{i: setNull(atA), writes: a(none)},
		{i: move(atA, atB, api.KInt), reads: b(intType), writes: a(intType)},
		{i: move(atA, atB, api.KLong), reads: b(longType), writes: a(longType)},
		{i: move(atA, atB, api.KRef), reads: b(none), writes: a(none)},
		{i: ins(api.RWiden, atA, atB), reads: b(intType), writes: a(longType)},
		{i: ins(api.RNarrow, atA, atB), reads: b(longType), writes: a(intType)},
		{i: ins(api.RCmp, atA, atB, atC), reads: bc(longType), writes: a(intType)},
		{i: emit(atA, api.KInt), reads: a(intType)},
		{i: emit(atA, api.KLong), reads: a(longType)},
		{i: comeIn(atA), writes: a(longType)},
		{i: throwIt(atA), reads: a(none), last: true},
		{i: comeBack, last: true},
		{i: call(1)},
		{i: call(2, atA, atB, atC, atD), reads: operands(operand{atA, intType}, operand{atB, longType}, operand{atC, ref(lower)}, operand{atD, ref(0)})},
		{i: call(3, atA), reads: a(longType)},
		{i: call(4, atC, atB), reads: operands(operand{atC, ref(upper)}, operand{atB, ref(upper)})},
	}
	for op := api.OpAdd; op <= api.OpXor; op++ {
		l = append(l, shape{i: intOp(op, atA, atB, atC), reads: bc(intType), writes: a(intType)},
			shape{i: longOp(op, atA, atB, atC), reads: bc(longType), writes: a(longType)})
	}
	for c, class := range classes() {
		l = append(l, shape{i: setNew(atA, c), writes: a(ref(c))},
			shape{i: cast(atA, c), reads: a(none), writes: a(ref(c))},
			shape{i: is(atA, atB, c), reads: b(none), writes: a(intType)})
		for n, f := range class.Fields {
			l = append(l, shape{i: get(atA, atB, c, n), reads: b(ref(c)), writes: a(f)},
				shape{i: put(atA, atB, c, n), reads: operands(operand{atB, ref(c)}, operand{atA, f})})
		}
	}
	return l
}

// called are the methods behind the first one, which the shapes call.
func called() []api.Method {
	l := []api.Method{
		method(comeBack),
		giving(ref(lower), setNull(0), giveBack(0)),
		giving(longType, setLong(0), giveBack(0)),
		giving(intType, setInt(0), giveBack(0)),
	}
	l[1].Params = types(intType, longType, ref(lower), ref(0))
	l[2].Params = types(longType)
	l[3].Params = types(ref(upper), ref(upper))
	return l
}

func withCalled(m api.Method) []api.Method {
	return append([]api.Method{m}, called()...)
}

func fitsRead(k known, t api.Type) bool {
	return fits(k, t) || t == none && k.Kind == api.KRef
}

// given writes all that the shape reads, but for the operands that are left out.
func given(x shape, leaveOut ...int) []api.Ins {
	var l []api.Ins
	for n, o := range x.reads {
		if len(leaveOut) == 0 || leaveOut[0] != n {
			l = append(l, set(o.at, o.is))
		}
	}
	return l
}

func TestH2WhatIsReadAndWritten(t *testing.T) {
	for _, x := range shapes() {
		begin := join(given(x), code(x.i))
		accept(t, withCalled(method(join(begin, code(comeBack))...))...)
		// The end of the code is no way on.
		acceptIf(t, x.last, withCalled(method(begin...))...)
		for _, w := range x.writes {
			for _, want := range allTypes() {
				acceptIf(t, fits(w.is, want), withCalled(giving(want, join(begin, code(giveBack(w.at)))...))...)
			}
			// A long is written in both slots.
			for kind := api.KInt; kind <= api.KRef; kind++ {
				refuse(t, withCalled(method(join(begin, code(use(w.at+1, kind), comeBack))...))...)
				kept := w.is != longType && kind == api.KRef
				acceptIf(t, kept, withCalled(method(join(code(setNull(w.at+1)), begin, code(use(w.at+1, kind), comeBack))...))...)
			}
		}
	}
}

func TestH2EachValueInEachPlace(t *testing.T) {
	for _, x := range shapes() {
		for n, o := range x.reads {
			for _, k := range allKnown() {
				l := join(given(x), code(set(o.at, k), x.i, comeBack))
				acceptIf(t, fitsRead(k, o.is), withCalled(method(l...))...)
			}
			refuse(t, withCalled(method(join(given(x, n), code(x.i, comeBack))...))...)
		}
	}
}

// Half a long is none, nor is one whose other half was written to.
func TestH2EachLongWithoutASlot(t *testing.T) {
	for _, x := range shapes() {
		for _, o := range x.reads {
			if o.is != longType {
				continue
			}
			for slot := o.at - 1; slot <= o.at+2; slot++ {
				whole := slot < o.at || slot > o.at+1
				l := join(given(x), code(setInt(slot)), given(shape{reads: otherThan(x.reads, o)}), code(x.i, comeBack))
				acceptIf(t, whole, withCalled(method(l...))...)
			}
		}
	}
}

func otherThan(l []operand, o operand) []operand {
	var rest []operand
	for _, x := range l {
		if x != o {
			rest = append(rest, x)
		}
	}
	return rest
}

// What is read stays, but where it is written to; so does all else.
func TestH2WhatIsNotWrittenStays(t *testing.T) {
	for _, x := range shapes() {
		if x.last {
			continue
		}
		begin := join(given(x), code(x.i))
		for _, o := range x.reads {
			if len(x.writes) > 0 && o.at == x.writes[0].at {
				continue
			}
			accept(t, withCalled(method(join(begin, code(use(o.at, o.is.Kind), comeBack))...))...)
		}
		for _, k := range allKnown() {
			l := join(code(set(30, k), set(0, k)), begin)
			for _, want := range types(intType, longType, ref(upper)) {
				acceptIf(t, fits(k, want), withCalled(giving(want, join(l, code(giveBack(30)))...))...)
				acceptIf(t, fits(k, want), withCalled(giving(want, join(l, code(giveBack(0)))...))...)
			}
		}
	}
}

// What was in the register that is written to does not matter, unless it is read.
func TestH2WhatIsWrittenOver(t *testing.T) {
	for _, x := range shapes() {
		for _, w := range x.writes {
			if x.i.Op == api.RCast {
				continue
			}
			for _, k := range allKnown() {
				l := join(code(set(w.at, k)), given(x), code(x.i, use(w.at, w.is.Kind), comeBack))
				accept(t, withCalled(method(l...))...)
			}
		}
	}
}

// One register may be read and written by one instruction: it is read first.
func TestH2ReadAndWrittenAtOnce(t *testing.T) {
	accept(t, giving(longType, setInt(0), ins(api.RWiden, 0, 0), giveBack(0)))
	accept(t, giving(longType, setInt(1), ins(api.RWiden, 0, 1), giveBack(0)))
	refuse(t, method(setInt(1), ins(api.RWiden, 0, 1), use(1, api.KInt), comeBack))
	accept(t, giving(intType, setLong(0), ins(api.RNarrow, 0, 0), giveBack(0)))
	accept(t, giving(intType, setLong(0), ins(api.RNarrow, 1, 0), giveBack(1)))
	refuse(t, method(setLong(0), ins(api.RNarrow, 1, 0), use(0, api.KLong), comeBack))
	accept(t, giving(longType, setLong(0), setLong(2), longOp(api.OpAdd, 1, 0, 2), giveBack(1)))
	refuse(t, method(setLong(0), setLong(2), longOp(api.OpAdd, 1, 0, 2), use(2, api.KLong), comeBack))
	accept(t, giving(intType, setNew(0, upper), get(0, 0, upper, 0), giveBack(0)))
	accept(t, giving(longType, setNew(1, upper), get(0, 1, upper, 1), giveBack(0)))
	accept(t, giving(ref(upper), setNew(0, lower), get(0, 0, upper, 2), giveBack(0)))
	refuse(t, giving(ref(lower), setNew(0, lower), get(0, 0, upper, 2), giveBack(0)))
	accept(t, giving(intType, setNull(0), is(0, 0, upper), giveBack(0)))
	accept(t, giving(intType, setInt(0), intOp(api.OpDiv, 0, 0, 0), giveBack(0)))
}

func TestH2MovesTellWhatWasRead(t *testing.T) {
	for _, k := range allKnown() {
		givesBack(t, k, 9, set(3, k), move(6, 3, k.Kind), move(9, 6, k.Kind))
		givesBack(t, k, 3, set(3, k), move(3, 3, k.Kind))
		givesBack(t, k, 3, set(3, k), move(6, 3, k.Kind))
	}
}

// A cast tells the class, also of nothing, and of what was known to be of a lower one.
func TestH2CastsTellTheClass(t *testing.T) {
	for _, k := range allKnown() {
		for c := range classes() {
			if k.Kind == api.KRef {
				givesBack(t, ref(c), 2, set(2, k), cast(2, c))
			} else {
				refuse(t, method(set(2, k), cast(2, c), comeBack))
			}
		}
	}
}

func TestH2NothingStaysNothing(t *testing.T) {
	accept(t, method(setNull(0), throwIt(0)))
	for c, class := range classes() {
		accept(t, giving(ref(c), setNull(0), giveBack(0)))
		for n, f := range class.Fields {
			accept(t, method(setNull(0), get(2, 0, c, n), comeBack))
			accept(t, method(setNull(0), set(2, f), put(2, 0, c, n), comeBack))
		}
	}
}

func TestH2WaysOn(t *testing.T) {
	bad := use(70, api.KInt)
	// RGoto does not lead to the next one, nor do RReturn and RThrow.
	accept(t, method(jump(0)))
	accept(t, method(jump(2), bad, comeBack))
	refuse(t, method(jump(1), bad, comeBack))
	accept(t, method(comeBack, bad))
	accept(t, method(setNull(0), throwIt(0), bad))
	// RIf and RIfNull lead to both.
	for _, x := range []struct{ set, branch api.Ins }{
		{setInt(0), jumpIf(3, 0)}, {setNull(0), jumpIfNull(3, 0)}, {setNew(0, other), jumpIfNull(3, 0)},
	} {
		accept(t, method(x.set, x.branch, comeBack, comeBack))
		refuse(t, method(x.set, x.branch, bad, comeBack))
		refuse(t, method(x.set, x.branch, comeBack, bad))
		// The last one has no next one, even if it goes back.
		x.branch.A = 0
		refuse(t, method(x.set, x.branch))
		accept(t, method(x.set, x.branch, comeBack))
	}
	for _, k := range allKnown() {
		acceptIf(t, k == intType, method(set(5, k), jumpIf(2, 5), comeBack))
		acceptIf(t, k.Kind == api.KRef, method(set(5, k), jumpIfNull(2, 5), comeBack))
	}
	refuse(t, method(jumpIf(1, 5), comeBack))
	refuse(t, method(jumpIfNull(1, 5), comeBack))
}

func TestH2TheEndOfTheCode(t *testing.T) {
	refuse(t, method(setInt(0)))
	refuse(t, method(setInt(0), setInt(0)))
	refuse(t, method(setInt(0), jumpIf(0, 0)))
	refuse(t, method(setNull(0), jumpIfNull(0, 0)))
	refuse(t, method(call(0)))
	refuse(t, giving(intType, call(0)))
	refuse(t, method(call(1), result(0, api.KInt)), giving(intType, setInt(0), giveBack(0)))
	refuse(t, handled(method(comeBack, caught(0)), over(0, 1, 1, 0)))
	// A handler is no way on.
	refuse(t, handled(method(setInt(0)), over(0, 1, 0, 0)))
	accept(t, method(jump(0)))
	accept(t, method(setInt(0), jump(0)))
	accept(t, method(setNull(0), throwIt(0)))
}

// RIfNull and RIs tell nothing about the register.
func TestH2AskingTellsNothing(t *testing.T) {
	refuse(t, giving(ref(other), setNew(0, lower), jumpIfNull(3, 0), jump(2), giveBack(0)))
	accept(t, giving(ref(upper), setNew(0, lower), jumpIfNull(3, 0), giveBack(0), giveBack(0)))
	refuse(t, giving(ref(other), setNew(0, 0), is(1, 0, other), jumpIf(2, 1), giveBack(0)))
}

func TestH2ReturnOfEachKind(t *testing.T) {
	accept(t, method(comeBack))
	for _, k := range allKnown() {
		givesBack(t, k, 0, set(0, k))
		givesBack(t, k, 5, set(5, k))
		// Of KVoid nothing is read, whatever the register 0 has.
		accept(t, method(set(0, k), comeBack))
	}
	for _, want := range allTypes() {
		refuse(t, giving(want, giveBack(0)))
		refuse(t, giving(want, set(5, want), giveBack(0)))
	}
	for slot := range 2 {
		refuse(t, giving(longType, setLong(0), setInt(slot), giveBack(0)))
	}
}

func TestH2Calls(t *testing.T) {
	for _, k := range allKnown() {
		for _, want := range allTypes() {
			acceptIf(t, fits(k, want), method(set(3, k), call(1, 3), comeBack), taking(types(want), comeBack))
		}
	}
	begin := code(setInt(0), setLong(1), setNew(3, lowest), setNull(4), setNew(5, other), setNew(6, 0))
	all := taking(types(intType, longType, ref(upper), ref(upper)), comeBack)
	for _, x := range []struct {
		args []int
		want bool
	}{
		{[]int{0, 1, 3, 4}, true}, {[]int{0, 1, 4, 3}, true}, {[]int{0, 1, 3, 3}, true},
		{[]int{0, 1, 5, 4}, false}, {[]int{0, 1, 3, 5}, false}, {[]int{0, 1, 6, 4}, false},
		{[]int{1, 1, 3, 4}, false}, {[]int{0, 0, 3, 4}, false}, {[]int{0, 2, 3, 4}, false}, {[]int{0, 1, 0, 4}, false},
		{[]int{7, 1, 3, 4}, false}, {[]int{0, 7, 3, 4}, false}, {[]int{0, 1, 7, 4}, false}, {[]int{0, 1, 3, 7}, false},
	} {
		acceptIf(t, x.want, method(join(begin, code(call(1, x.args...), comeBack))...), all)
	}
	// A method may call itself.
	accept(t, giving(intType, call(0), result(0, api.KInt), giveBack(0)))
}
