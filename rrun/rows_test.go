package rrun_test

import (
	"fmt"
	"testing"

	"crosswalk/api"
)

// held is what the tests have in a register: a kind of KVoid says that nothing can be read there.
type held struct {
	name string
	// puts is how it comes there; it writes to the registers beside, too.
	puts func(at int) []api.Ins
	kind int
	// class is that of the object; -1 of nothing.
	class int
}

func allHeld() []held {
	l := []held{
		{"unwritten", func(at int) []api.Ins { return nil }, api.KVoid, 0},
		{"int", func(at int) []api.Ins { return code(setInt(at, 5)) }, api.KInt, 0},
		{"long", func(at int) []api.Ins { return code(setLong(at, 6)) }, api.KLong, 0},
		{"nothing", func(at int) []api.Ins { return code(setNull(at)) }, api.KRef, -1},
		{"second of a long", func(at int) []api.Ins { return code(setLong(at-1, 6)) }, api.KVoid, 0},
		{"first of a long, an int behind", func(at int) []api.Ins { return code(setLong(at, 6), setInt(at+1, 5)) }, api.KVoid, 0},
		{"first of a long, another long behind", func(at int) []api.Ins { return code(setLong(at, 6), setLong(at+1, 7)) }, api.KVoid, 0},
		{"int in a long's first", func(at int) []api.Ins { return code(setLong(at, 6), setInt(at, 5)) }, api.KInt, 0},
		{"long over half of another", func(at int) []api.Ins { return code(setLong(at+1, 7), setLong(at, 6)) }, api.KLong, 0},
	}
	for _, class := range []int{0, upper, lower, lowest, other} {
		l = append(l, held{"object", func(at int) []api.Ins { return code(setNew(at, class)) }, api.KRef, class})
	}
	return l
}

func (h held) isOf(t api.Type) bool {
	if h.kind != t.Kind || h.kind != api.KRef || h.class < 0 {
		return h.kind == t.Kind
	}
	return isBelow(h.class, t.Class)
}

// Registers of the rows: what is read stands far enough from each other for all that is held, what is written far from all.
const (
	r1 = 10
	r2 = 14
	r3 = 18
	to = 30
)

// read is one of a register.
type read struct {
	at int
	t  api.Type
}

// row says of an instruction what it reads, and what it writes to the register to (of KVoid nothing).
type row struct {
	i      api.Ins
	reads  []read
	writes api.Type
}

func reads(l ...api.Type) []read {
	var all []read
	for k, t := range l {
		all = append(all, read{[]int{r1, r2, r3}[k], t})
	}
	return all
}

// Methods that the rows call: they stand behind the entry.
const (
	calledWithAll = 1
	calledForVoid = 2
)

func calledMethods() []api.Method {
	all := giving(longType, setLong(0, 9), giveBack(0))
	all.Params = types(intType, longType, ref(upper))
	return []api.Method{all, method(comeBack)}
}

// rows has all instructions, but for those that end the call, and RResult and RCaught, which need something ahead.
func rows() []row {
	l := []row{
		{setInt(to, 3), nil, intType},
		{setLong(to, 3), nil, longType},
		{setNull(to), nil, ref(0)},
		{move(to, r1, api.KInt), reads(intType), intType},
		{move(to, r1, api.KLong), reads(longType), longType},
		{move(to, r1, api.KRef), reads(ref(0)), ref(0)},
		{ins(api.RWiden, to, r1), reads(intType), longType},
		{ins(api.RNarrow, to, r1), reads(longType), intType},
		{ins(api.RCmp, to, r1, r2), reads(longType, longType), intType},
		{jump(next), nil, voidType},
		{jumpIfNull(next, r1), reads(ref(0)), voidType},
		{setNew(to, upper), nil, ref(upper)},
		{get(to, r1, upper, 0), reads(ref(upper)), intType},
		{get(to, r1, upper, 1), reads(ref(upper)), longType},
		{get(to, r1, lower, 1), reads(ref(lower)), ref(other)},
		{put(r2, r1, other, 0), reads(ref(other), intType), voidType},
		{put(r2, r1, lower, 0), reads(ref(lower), longType), voidType},
		{put(r2, r1, upper, 2), reads(ref(upper), ref(upper)), voidType},
		{put(r2, r1, lower, 1), reads(ref(lower), ref(other)), voidType},
		{cast(r1, 0), reads(ref(0)), voidType},
		{is(to, r1, upper), reads(ref(0)), intType},
		{call(calledWithAll, r1, r2, r3), reads(intType, longType, ref(upper)), voidType},
		{call(calledForVoid), nil, voidType},
		{emitInt(r1), reads(intType), voidType},
		{emitLong(r1), reads(longType), voidType},
		{comeIn(to), nil, longType},
	}
	for op := api.OpAdd; op <= api.OpXor; op++ {
		l = append(l,
			row{intOp(op, to, r1, r2), reads(intType, intType), intType},
			row{longOp(op, to, r1, r2), reads(longType, longType), longType})
	}
	for cond := api.CondZero; cond <= api.CondAbove; cond++ {
		l = append(l, row{jumpIf(next, cond, r1), reads(intType), voidType})
	}
	return l
}

// next is where an instruction goes that goes to the one behind itself.
const next = -1

func placed(i api.Ins, at int) api.Ins {
	if i.A == next {
		i.A = at + 1
	}
	return i
}

// eachHeld goes through all that so many registers can have in them.
func eachHeld(n int, each func(l []held)) {
	if n == 0 {
		each(nil)
		return
	}
	eachHeld(n-1, func(l []held) {
		for _, h := range allHeld() {
			each(append(l[:n-1:n-1], h))
		}
	})
}

func names(l []held) string {
	s := ""
	for _, h := range l {
		s += fmt.Sprintf("%s %d, ", h.name, h.class)
	}
	return s
}

// checkReads looks at all that the registers which are read can have in them.
func checkReads(t *testing.T, i api.Ins, l []read, ret api.Type) {
	t.Helper()
	eachHeld(len(l), func(have []held) {
		var puts []api.Ins
		fits := true
		for k, h := range have {
			puts = append(puts, h.puts(l[k].at)...)
			fits = fits && h.isOf(l[k].t)
		}
		m := giving(ret, join(puts, code(placed(i, len(puts)), giveBack(0)))...)
		s := runFile(t, file(append([]api.Method{m}, calledMethods()...)...), nil, []int64{8}, len(puts)+1)
		if stuck := s.End == api.EndStuck; stuck == fits || s.Steps != len(puts)+1 {
			t.Errorf("%+v of %s: %+v", i, names(have), s)
		}
	})
}

func TestG2WhatEachInstructionReads(t *testing.T) {
	for _, r := range rows() {
		checkReads(t, r.i, r.reads, voidType)
	}
	checkReads(t, throwIt(r1), reads(ref(0)), voidType)
	for _, ret := range types(intType, longType, ref(0), ref(upper), ref(lower), ref(other), ref(api.ClassCast)) {
		checkReads(t, giveBack(r1), reads(ret), ret)
	}
	checkReads(t, comeBack, nil, voidType)
}

// sample writes a value of the type.
func sample(at int, t api.Type) api.Ins {
	switch t.Kind {
	case api.KLong:
		return setLong(at, 6)
	case api.KRef:
		return setNew(at, t.Class)
	}
	return setInt(at, 5)
}

// sampled has the instruction behind what it reads, and behind a number in each other register.
func sampled(r row) []api.Ins {
	var l []api.Ins
	for at := range api.MaxRegs {
		l = append(l, setInt(at, int64(100+at)))
	}
	for _, x := range r.reads {
		l = append(l, sample(x.at, x.t))
	}
	return append(l, placed(r.i, len(l)))
}

func runSampled(t *testing.T, r row, behind ...api.Ins) api.Shown {
	t.Helper()
	m := method(join(sampled(r), behind)...)
	return runFile(t, file(append([]api.Method{m}, calledMethods()...)...), nil, []int64{8}, api.MaxFuel)
}

// kindsAfter says which kind is in each register: of a long's second one none.
func kindsAfter(r row) [api.MaxRegs]int {
	var kinds [api.MaxRegs]int
	for at := range kinds {
		kinds[at] = api.KInt
	}
	has := func(at, kind int) {
		kinds[at] = kind
		if kind == api.KLong {
			kinds[at+1] = api.KVoid
		}
	}
	for _, x := range r.reads {
		has(x.at, x.t.Kind)
	}
	if r.writes.Kind != api.KVoid {
		has(to, r.writes.Kind)
	}
	return kinds
}

// The register that is written to has what is written, of its kind alone; all others stay as they are.
func TestG2WhatEachInstructionWrites(t *testing.T) {
	for _, r := range rows() {
		for at, kind := range kindsAfter(r) {
			for asked := api.KInt; asked <= api.KRef; asked++ {
				if asked == api.KLong && at == api.MaxRegs-1 {
					continue
				}
				s := runSampled(t, r, move(at, at, asked), comeBack)
				if want := endIf(asked == kind, api.EndDone, api.EndStuck); s.End != want {
					t.Errorf("%+v, then %d of kind %d: %+v", r.i, at, asked, s)
				}
			}
		}
	}
}

func TestG2OtherRegistersKeepTheirNumbers(t *testing.T) {
	for _, r := range rows() {
		var behind []api.Ins
		var want []int64
		for at, kind := range kindsAfter(r) {
			inReads := at >= r1 && at < r3+2
			if kind == api.KInt && at != to && !inReads {
				behind = append(behind, emitInt(at))
				want = append(want, int64(100+at))
			}
		}
		s := runSampled(t, r, append(behind, comeBack)...)
		if r.i.Op == api.REmit {
			s.Out = s.Out[1:]
		}
		if s.End != api.EndDone || fmt.Sprint(s.Out) != fmt.Sprint(want) {
			t.Errorf("%+v: %+v", r.i, s)
		}
	}
}

func TestG2TheLastInstructionWithoutAWayOn(t *testing.T) {
	for _, r := range rows() {
		if r.i.A == next {
			continue
		}
		steps := len(sampled(r)) + 1
		if r.i.Op == api.RCall {
			steps += len(calledMethods()[r.i.A-1].Code)
		}
		if s := runSampled(t, r); s.End != api.EndStuck || s.Steps != steps {
			t.Errorf("%+v: %+v, want %d steps", r.i, s, steps)
		}
	}
	checkStuck(t, 3, method(setInt(0, 1), jumpIf(0, api.CondZero, 0)))
	checkStuck(t, 3, method(setNew(0, 0), jumpIfNull(0, 0)))
	checkStuck(t, 5, method(call(1), result(0, api.KInt)), giving(intType, setInt(0, 1), giveBack(0)))
	checkEnd(t, api.EndFuel, method(setInt(0, 0), jumpIf(0, api.CondZero, 0)))
	checkEnd(t, api.EndFuel, method(setNull(0), jumpIfNull(0, 0)))
}
