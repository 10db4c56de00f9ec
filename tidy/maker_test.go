package tidy_test

import (
	"math/rand"
	"slices"

	"crosswalk/api"
	"crosswalk/hier"
	"crosswalk/sform"
)

// variable is a register that keeps to a type.
type variable struct {
	at int
	is api.Type
}

// A maker makes methods that are mostly as rcheck.Check wants them: registers that keep to a type each, and some scratch ones
// that are written right ahead of being read. It moves registers to themselves, and jumps past what can't be come to. Now and then it is careless.
type maker struct {
	r     *rand.Rand
	heads []api.Method
	m     api.Method
	vars  []variable
	// scratch is the first of the scratch registers; taken counts how often one was asked for.
	scratch, taken int
	starts         []int
	jumps          []int
	// One statement of so many is careless; of 0 none.
	careless int
}

// As many scratch registers as one statement may need, with room for longs.
const scratchSlots = 14

func fits(t, want api.Type) bool {
	return t.Kind == want.Kind && (t.Kind != api.KRef || hier.Below(classes(), t.Class, want.Class))
}

func (k *maker) chance(percent int) bool {
	return k.r.Intn(100) < percent
}

func (k *maker) say(l ...api.Ins) {
	k.m.Code = append(k.m.Code, l...)
}

func (k *maker) anyType() api.Type {
	l := types(intType, longType, ref(0), ref(upper), ref(upper), ref(lower), ref(lowest), ref(other), ref(beside))
	return l[k.r.Intn(len(l))]
}

func randomHead(r *rand.Rand) api.Method {
	k := &maker{r: r}
	var m api.Method
	for range r.Intn(api.MaxParams + 1) {
		t := k.anyType()
		if t.Kind == api.KRef && k.chance(50) {
			t = intType
		}
		m.Params = append(m.Params, t)
	}
	if k.chance(80) {
		m.Ret = k.anyType()
	}
	return m
}

// layRegisters leaves some out between, so that not all are named.
func (k *maker) layRegisters() {
	for _, t := range k.m.Params {
		k.vars = append(k.vars, variable{at: k.m.Regs, is: t})
		k.m.Regs += sform.Slots(t)
	}
	for _, t := range types(intType, intType, longType, longType, ref(upper), ref(lower), ref(0)) {
		if k.chance(20) {
			k.m.Regs += k.r.Intn(8)
		}
		k.vars = append(k.vars, variable{at: k.m.Regs, is: t})
		k.m.Regs += sform.Slots(t)
	}
	k.scratch = k.m.Regs
	k.m.Regs += scratchSlots
	k.m.Regs = min(k.m.Regs, api.MaxRegs)
}

func (k *maker) someVar() variable {
	return k.vars[k.r.Intn(len(k.vars))]
}

func (k *maker) someRefVar() variable {
	for {
		if v := k.someVar(); v.is.Kind == api.KRef {
			return v
		}
	}
}

func (k *maker) nextScratch() int {
	k.taken++
	return k.scratch + 2*(k.taken%(scratchSlots/2))
}

// from answers a register with something that fits the type.
func (k *maker) from(t api.Type) int {
	for _, n := range k.r.Perm(len(k.vars)) {
		if fits(k.vars[n].is, t) && k.chance(90) {
			return k.vars[n].at
		}
	}
	at := k.nextScratch()
	k.plain(at, t)
	return at
}

// to answers a register that may become of the type.
func (k *maker) to(t api.Type) int {
	for _, n := range k.r.Perm(len(k.vars)) {
		if fits(t, k.vars[n].is) {
			return k.vars[n].at
		}
	}
	return k.nextScratch()
}

func (k *maker) classBelow(class int) int {
	for {
		if c := k.r.Intn(len(classes())); hier.Below(classes(), c, class) {
			return c
		}
	}
}

func (k *maker) plain(at int, t api.Type) {
	n := int64(k.r.Intn(4) - 1)
	switch {
	case t == intType:
		k.say(setInt(at, n))
	case t == longType:
		k.say(setLong(at, n))
	case k.chance(30):
		k.say(setNull(at))
	default:
		k.say(setNew(at, k.classBelow(t.Class)))
	}
}

func (k *maker) reckon() {
	op := api.OpAdd + k.r.Intn(8)
	switch k.r.Intn(7) {
	case 0:
		k.say(intOp(op, k.to(intType), k.from(intType), k.from(intType)))
	case 1:
		k.say(longOp(op, k.to(longType), k.from(longType), k.from(longType)))
	case 2:
		k.say(widen(k.to(longType), k.from(intType)))
	case 3:
		k.say(narrow(k.to(intType), k.from(longType)))
	case 4:
		k.say(compare(k.to(intType), k.from(longType), k.from(longType)))
	case 5:
		k.say(comeIn(k.to(longType)))
	case 6:
		k.say(is(k.to(intType), k.from(ref(0)), k.r.Intn(len(classes()))))
	}
}

func (k *maker) handleObject() {
	c := []int{upper, upper, lower, other}[k.r.Intn(4)]
	n := k.r.Intn(len(classes()[c].Fields))
	f := classes()[c].Fields[n]
	switch k.r.Intn(4) {
	case 0:
		v := k.someRefVar()
		k.say(setNew(v.at, k.classBelow(v.is.Class)))
	case 1:
		k.say(get(k.to(f), k.from(ref(c)), c, n))
	case 2:
		k.say(put(k.from(f), k.from(ref(c)), c, n))
	case 3:
		v := k.someRefVar()
		k.say(cast(v.at, k.classBelow(v.is.Class)))
	}
}

// callOne fetches what the method gave, more often than not.
func (k *maker) callOne() {
	n := k.r.Intn(len(k.heads))
	i := call(n)
	for _, t := range k.heads[n].Params {
		i.Args = append(i.Args, k.from(t))
	}
	k.say(i)
	if ret := k.heads[n].Ret; ret.Kind != api.KVoid && k.chance(70) {
		k.say(result(k.to(ret), ret.Kind))
	}
}

// jumpTo has its place filled in when all statements stand.
func (k *maker) jumpTo(i api.Ins) {
	k.jumps = append(k.jumps, len(k.m.Code))
	k.say(i)
}

func (k *maker) branch() {
	switch k.r.Intn(4) {
	case 0:
		k.jumpTo(jump(0))
	case 1:
		at := k.from(ref(0))
		k.jumpTo(jumpIfNull(0, at))
	default:
		at := k.from(intType)
		k.jumpTo(jumpIf(0, api.CondZero+k.r.Intn(4), at))
	}
}

func (k *maker) comeBack() {
	if k.m.Ret.Kind == api.KVoid {
		k.say(comeBack)
		return
	}
	k.say(giveBack(k.from(k.m.Ret)))
}

func (k *maker) statement() {
	k.starts = append(k.starts, len(k.m.Code))
	if k.careless > 0 && k.r.Intn(k.careless) == 0 {
		k.carelessly()
		return
	}
	switch k.r.Intn(15) {
	case 0:
		v := k.someVar()
		k.plain(v.at, v.is)
	case 1:
		v := k.someVar()
		k.say(move(v.at, k.from(v.is), v.is.Kind))
	case 2, 3:
		k.reckon()
	case 4, 5:
		k.handleObject()
	case 6, 7:
		k.callOne()
	case 8, 9:
		k.branch()
	case 10:
		t := types(intType, longType)[k.r.Intn(2)]
		k.say(emit(k.from(t), t.Kind))
	case 11:
		if k.chance(50) {
			k.say(throwIt(k.from(ref(0))))
			return
		}
		k.comeBack()
	case 12, 13:
		for range 1 + k.r.Intn(3) {
			v := k.someVar()
			k.say(stay(v.at, v.is.Kind))
		}
	case 14:
		k.leap()
	}
}

// leap goes past something that can't be come to: all jumps and handlers go on at the beginning of a statement.
func (k *maker) leap() {
	n := 1 + k.r.Intn(3)
	k.say(jump(len(k.m.Code) + 1 + n))
	for range n {
		k.say(randomIns(k.r, k.m, 1, k.heads))
	}
}

func (k *maker) carelessly() {
	v := k.someVar()
	t := k.anyType()
	switch k.r.Intn(4) {
	case 0:
		k.say(randomIns(k.r, k.m, 1, k.heads))
	case 1:
		k.plain(k.r.Intn(k.m.Regs-1), t)
	case 2:
		at := min(v.at, k.m.Regs-2)
		k.plain(at, t)
		k.plain(v.at, v.is)
	case 3:
		k.callOne()
		k.say(setInt(k.scratch, 1), result(k.to(t), t.Kind))
	}
}

// catches lays behind all statements what the handlers go on at; some go on at a statement, to which other ways lead as well.
func (k *maker) catches(from int) {
	size := len(k.m.Code)
	for range k.r.Intn(4) {
		if k.careless > 0 && k.chance(5) {
			from = 0
		}
		first := from + k.r.Intn(size-from)
		h := over(first, first+1+k.r.Intn(size-first), len(k.m.Code), k.r.Intn(len(classes())))
		if k.chance(30) {
			h.To = first + 1
		}
		if k.chance(20) {
			h.At = k.starts[k.r.Intn(len(k.starts))]
			k.m.Handlers = append(k.m.Handlers, h)
			continue
		}
		k.m.Handlers = append(k.m.Handlers, h)
		if k.chance(75) {
			at := k.to(ref(h.Class))
			k.say(caught(at), is(k.to(intType), at, upper))
		}
		k.say(emitInt(k.vars[len(k.m.Params)].at))
		k.jumpTo(jump(0))
	}
}

func (k *maker) fillJumps() {
	for _, at := range k.jumps {
		k.m.Code[at].A = k.starts[k.r.Intn(len(k.starts))]
	}
}

func makeMethod(r *rand.Rand, heads []api.Method, n, statements, careless int) api.Method {
	k := &maker{r: r, heads: heads, m: heads[n], careless: careless}
	k.layRegisters()
	for _, v := range k.vars[len(k.m.Params):] {
		if k.careless == 0 || !k.chance(3) {
			k.plain(v.at, v.is)
		}
	}
	from := len(k.m.Code)
	for range r.Intn(statements) {
		k.statement()
	}
	k.starts = append(k.starts, len(k.m.Code))
	k.comeBack()
	k.catches(from)
	k.fillJumps()
	return k.m
}

func makeFile(r *rand.Rand, statements, careless int) api.File {
	var heads []api.Method
	for range 1 + r.Intn(3) {
		heads = append(heads, randomHead(r))
	}
	var methods []api.Method
	for n := range heads {
		methods = append(methods, makeMethod(r, heads, n, statements, careless))
	}
	return file(methods...)
}

// spoil changes one instruction, handler or size of a file, which may be then, or not.
func spoil(r *rand.Rand, f api.File) api.File {
	m := &f.Methods[r.Intn(len(f.Methods))]
	switch r.Intn(6) {
	case 0:
		m.Regs -= r.Intn(3)
	case 1:
		if len(m.Handlers) > 0 {
			h := &m.Handlers[r.Intn(len(m.Handlers))]
			h.From, h.At = r.Intn(h.From+1), r.Intn(len(m.Code))
		}
	case 2:
		m.Code[r.Intn(len(m.Code))] = m.Code[r.Intn(len(m.Code))]
	case 3:
		m.Code = slices.Delete(m.Code, len(m.Code)-1, len(m.Code))
	default:
		m.Code[r.Intn(len(m.Code))] = randomIns(r, *m, len(m.Code), f.Methods)
	}
	return f
}

// randomIns may be in a method of so many instructions, in a file with these methods. It reads and writes few registers.
func randomIns(r *rand.Rand, m api.Method, size int, heads []api.Method) api.Ins {
	reg := func() int { return r.Intn(min(m.Regs-1, 4)) }
	op := api.RInt + r.Intn(api.RIn)
	kind := api.KInt + r.Intn(3)
	class := r.Intn(len(classes()))
	switch op {
	case api.RInt, api.RLong:
		return insN(op, int64(r.Intn(5)-2), reg())
	case api.RMove:
		if r.Intn(2) == 0 {
			return stay(reg(), kind)
		}
		return move(reg(), reg(), kind)
	case api.RIntOp, api.RLongOp:
		return insN(op, int64(api.OpAdd+r.Intn(8)), reg(), reg(), reg())
	case api.RWiden, api.RNarrow:
		return ins(op, reg(), reg())
	case api.RCmp:
		return ins(op, reg(), reg(), reg())
	case api.RGoto:
		return jump(r.Intn(size))
	case api.RIf:
		return jumpIf(r.Intn(size), api.CondZero+r.Intn(4), reg())
	case api.RIfNull:
		return jumpIfNull(r.Intn(size), reg())
	case api.RNew, api.RCast:
		return ins(op, reg(), class)
	case api.RGet, api.RPut:
		return insN(op, int64(r.Intn(3)), reg(), reg(), upper+r.Intn(2))
	case api.RIs:
		return is(reg(), reg(), class)
	case api.RCall:
		i := call(r.Intn(len(heads)))
		for range heads[i.A].Params {
			i.Args = append(i.Args, reg())
		}
		return i
	case api.RResult:
		return result(reg(), kind)
	case api.REmit:
		return emit(reg(), api.KInt+r.Intn(2))
	case api.RReturn:
		if m.Ret.Kind == api.KVoid {
			return comeBack
		}
	}
	return ins(op, reg())
}

// randomMethod is as small as to be checked now and then; most calls are followed by an RResult, and most handlers go on at an RCaught.
// Half of them begin with something in each of the registers that they name.
func randomMethod(r *rand.Rand, heads []api.Method, n int) api.Method {
	size := 1 + r.Intn(7)
	m := heads[n]
	if r.Intn(2) == 0 {
		m.Code = code(setInt(0, 4), setLong(1, 5), setNew(3, lower))
		size += len(m.Code)
	}
	for len(m.Code) < size {
		m.Code = append(m.Code, randomIns(r, m, size, heads))
	}
	for at, i := range m.Code[1:] {
		if last := m.Code[at]; last.Op == api.RCall && r.Intn(3) > 0 {
			m.Code[at+1] = result(i.A%3, api.KInt+r.Intn(3))
		}
	}
	for range r.Intn(3) {
		from := r.Intn(size)
		h := over(from, from+1+r.Intn(size-from), r.Intn(size), r.Intn(len(classes())))
		if r.Intn(3) > 0 {
			m.Code[h.At] = caught(r.Intn(4))
		}
		m.Handlers = append(m.Handlers, h)
	}
	return m
}

func smallHead(r *rand.Rand) api.Method {
	m := api.Method{Regs: 8, Ret: api.Type{Kind: r.Intn(4)}}
	for range r.Intn(4) {
		m.Params = append(m.Params, api.Type{Kind: api.KInt + r.Intn(3)})
	}
	return m
}

func randomFile(r *rand.Rand, methods int) api.File {
	var heads []api.Method
	for range methods {
		heads = append(heads, smallHead(r))
	}
	f := file()
	for n := range heads {
		f.Methods = append(f.Methods, randomMethod(r, heads, n))
	}
	return f
}
