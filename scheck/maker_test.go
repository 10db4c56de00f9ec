package scheck_test

import (
	"math/rand"

	"crosswalk/api"
)

// A maker makes methods that are mostly as Check wants them: statements that begin and end with an empty stack, and
// locals that keep to a type each. Now and then it is careless.

type local struct {
	slot int
	is   api.Type
}

type maker struct {
	r      *rand.Rand
	heads  []api.Method
	m      api.Method
	locals []local
	starts []int
	jumps  []int
	// One statement of so many is careless; of 0 none.
	careless int
}

func (k *maker) chance(percent int) bool {
	return k.r.Intn(100) < percent
}

func (k *maker) say(l ...api.Ins) {
	k.m.Code = append(k.m.Code, l...)
}

func (k *maker) anyType() api.Type {
	l := types(intType, longType, ref(0), ref(upper), ref(upper), ref(lower), ref(lowest), ref(other), ref(beside))
	return l[k.r.Intn(len(l))]
}

func randomHead(r *rand.Rand) api.Method {
	k := &maker{r: r}
	var m api.Method
	for range r.Intn(api.MaxParams) {
		m.Params = append(m.Params, k.anyType())
	}
	if k.chance(70) {
		m.Ret = k.anyType()
	}
	return m
}

func (k *maker) layLocals() {
	l := append(append([]api.Type{}, k.m.Params...), intType, longType, ref(upper), ref(lower), ref(0), longType)
	slot := 0
	for _, t := range l {
		k.locals = append(k.locals, local{slot: slot, is: t})
		slot += slotsOf(t)
	}
	k.m.Locals = slot
}

// locally answers a local that fits the type, if there is one.
func (k *maker) locally(t api.Type) (local, bool) {
	for _, n := range k.r.Perm(len(k.locals)) {
		if fits(k.locals[n].is, t) {
			return k.locals[n], true
		}
	}
	return local{}, false
}

func (k *maker) methodGiving(t api.Type) (int, bool) {
	for _, n := range k.r.Perm(len(k.heads)) {
		if fits(k.heads[n].Ret, t) {
			return n, true
		}
	}
	return 0, false
}

type fieldPlace struct{ class, field int }

func (k *maker) fieldOf(t api.Type) (fieldPlace, bool) {
	var l []fieldPlace
	for c, class := range classes() {
		for n, f := range class.Fields {
			if fits(f, t) {
				l = append(l, fieldPlace{c, n})
			}
		}
	}
	if len(l) == 0 {
		return fieldPlace{}, false
	}
	return l[k.r.Intn(len(l))], true
}

// value puts a value that fits the type.
func (k *maker) value(t api.Type, deep int) {
	if deep > 0 {
		switch k.r.Intn(6) {
		case 0:
			if n, ok := k.methodGiving(t); ok && k.chance(40) {
				k.call(n, deep-1)
				return
			}
		case 1:
			if p, ok := k.fieldOf(t); ok {
				k.value(ref(p.class), deep-1)
				k.say(ins(api.SGet, p.class, p.field))
				return
			}
		case 2, 3:
			k.made(t, deep-1)
			return
		}
	}
	if v, ok := k.locally(t); ok && deep > -1 && k.chance(60) {
		k.say(load(v.slot, t.Kind))
		return
	}
	k.plain(t)
}

func (k *maker) plain(t api.Type) {
	switch t.Kind {
	case api.KInt:
		k.say(api.Ins{Op: api.SInt, N: int64(k.r.Intn(4) - 1)})
	case api.KLong:
		k.say(api.Ins{Op: api.SLong, N: int64(k.r.Intn(4) - 1)})
	default:
		if k.chance(30) {
			k.say(putNull)
			return
		}
		for {
			if c := k.r.Intn(len(classes())); isBelow(c, t.Class) {
				k.say(putNew(c))
				return
			}
		}
	}
}

func (k *maker) made(t api.Type, deep int) {
	switch t.Kind {
	case api.KInt:
		switch k.r.Intn(4) {
		case 0:
			k.value(longType, deep)
			k.say(ins(api.SNarrow))
		case 1:
			k.value(longType, deep)
			k.value(longType, deep)
			k.say(ins(api.SCmp))
		case 2:
			k.value(ref(0), deep)
			k.say(ins(api.SIs, k.r.Intn(len(classes()))))
		default:
			k.value(intType, deep)
			k.value(intType, deep)
			k.say(ins(api.SIntOp, api.OpAdd+k.r.Intn(8)))
		}
	case api.KLong:
		switch k.r.Intn(4) {
		case 0:
			k.value(intType, deep)
			k.say(ins(api.SWiden))
		case 1:
			k.say(ins(api.SIn))
		default:
			k.value(longType, deep)
			k.value(longType, deep)
			k.say(ins(api.SLongOp, api.OpAdd+k.r.Intn(8)))
		}
	default:
		k.value(ref(0), deep)
		k.say(ins(api.SCast, t.Class))
	}
}

func (k *maker) call(n, deep int) {
	for _, t := range k.heads[n].Params {
		k.value(t, deep)
	}
	k.say(ins(api.SCall, n))
}

// jumpTo has its place filled in when all statements stand.
func (k *maker) jumpTo(i api.Ins) {
	k.jumps = append(k.jumps, len(k.m.Code))
	k.say(i)
}

func (k *maker) giveBack() {
	if k.m.Ret.Kind != api.KVoid {
		k.value(k.m.Ret, 2)
	}
	k.say(comeBack)
}

func (k *maker) statement() {
	k.starts = append(k.starts, len(k.m.Code))
	if k.careless > 0 && k.r.Intn(k.careless) == 0 {
		k.carelessly()
		return
	}
	switch k.r.Intn(14) {
	case 0, 1, 2:
		v := k.locals[k.r.Intn(len(k.locals))]
		k.value(v.is, 3)
		k.say(store(v.slot, v.is.Kind))
	case 3, 4:
		t := types(intType, longType)[k.r.Intn(2)]
		k.value(t, 3)
		k.say(ins(api.SEmit, t.Kind))
	case 5:
		p, _ := k.fieldOf(types(intType, longType, ref(upper), ref(other))[k.r.Intn(4)])
		k.value(ref(p.class), 2)
		k.value(classes()[p.class].Fields[p.field], 2)
		k.say(ins(api.SPut, p.class, p.field))
	case 6, 7:
		k.value(intType, 2)
		k.jumpTo(ins(api.SIf, 0, api.CondZero+k.r.Intn(4)))
	case 8:
		k.value(ref(0), 2)
		k.jumpTo(ins(api.SIfNull))
	case 9:
		k.jumpTo(ins(api.SGoto))
	case 10:
		n := k.r.Intn(len(k.heads))
		k.call(n, 2)
		if k.heads[n].Ret.Kind != api.KVoid {
			k.say(pop)
		}
	case 11:
		k.value(ref(0), 2)
		k.say(throwIt)
	case 12:
		k.giveBack()
	case 13:
		k.value(k.anyType(), 2)
		k.say(dup, pop, pop)
	}
}

func (k *maker) carelessly() {
	switch k.r.Intn(3) {
	case 0:
		k.say(randomIns(k.r, 1, len(k.heads)))
	case 1:
		t := k.anyType()
		k.value(t, 1)
		k.say(store(k.r.Intn(k.m.Locals-1), t.Kind))
	case 2:
		v := k.locals[k.r.Intn(len(k.locals))]
		t := k.anyType()
		k.value(t, 1)
		k.say(store(v.slot, t.Kind))
		k.value(v.is, 1)
		k.say(store(v.slot, v.is.Kind))
	}
}

// catches lays behind all statements what the handlers go on at.
func (k *maker) catches(from int) {
	size := len(k.m.Code)
	for range k.r.Intn(4) {
		if k.chance(5) {
			from = 0
		}
		first := from + k.r.Intn(size-from)
		h := api.Handler{From: first, To: first + 1 + k.r.Intn(size-first), At: len(k.m.Code), Class: k.r.Intn(len(classes()))}
		k.m.Handlers = append(k.m.Handlers, h)
		switch k.r.Intn(4) {
		case 0:
			k.say(pop)
		case 1:
			v, _ := k.locally(ref(0))
			k.say(ins(api.SCast, v.is.Class), store(v.slot, api.KRef))
		case 2:
			k.say(ins(api.SIs, upper), ins(api.SEmit, api.KInt))
		case 3:
			k.jumpTo(ins(api.SIfNull))
		}
		k.jumpTo(ins(api.SGoto))
	}
}

func (k *maker) fillJumps() {
	for _, at := range k.jumps {
		k.m.Code[at].A = k.starts[k.r.Intn(len(k.starts))]
	}
}

func makeMethod(r *rand.Rand, heads []api.Method, n, careless int) api.Method {
	k := &maker{r: r, heads: heads, m: heads[n], careless: careless}
	k.layLocals()
	for _, v := range k.locals[len(k.m.Params):] {
		if k.careless == 0 || !k.chance(4) {
			k.value(v.is, -1)
			k.say(store(v.slot, v.is.Kind))
		}
	}
	from := len(k.m.Code)
	for range r.Intn(8) {
		k.statement()
	}
	k.starts = append(k.starts, len(k.m.Code))
	k.giveBack()
	k.catches(from)
	k.fillJumps()
	k.m.Stack = 6 + r.Intn(api.MaxStack-5)
	if len(k.m.Code) > api.MaxCode {
		return makeMethod(r, heads, n, careless)
	}
	return k.m
}

func makeFile(r *rand.Rand, careless int) api.File {
	var heads []api.Method
	for range 1 + r.Intn(3) {
		heads = append(heads, randomHead(r))
	}
	var methods []api.Method
	for n := range heads {
		methods = append(methods, makeMethod(r, heads, n, careless))
	}
	return file(methods...)
}

// spoil changes one instruction, handler or size of a file, which may be then, or not.
func spoil(r *rand.Rand, f api.File) api.File {
	m := &f.Methods[r.Intn(len(f.Methods))]
	switch r.Intn(6) {
	case 0:
		m.Stack = r.Intn(8)
	case 1:
		if len(m.Handlers) > 0 {
			h := &m.Handlers[r.Intn(len(m.Handlers))]
			h.From, h.At = r.Intn(h.From+1), r.Intn(len(m.Code))
		}
	case 2:
		i := &m.Code[r.Intn(len(m.Code))]
		*i = m.Code[r.Intn(len(m.Code))]
	default:
		m.Code[r.Intn(len(m.Code))] = randomIns(r, len(m.Code), len(f.Methods))
	}
	return f
}

// randomIns may be in a method of so many instructions, in a file of so many methods.
func randomIns(r *rand.Rand, size, methods int) api.Ins {
	op := api.SInt + r.Intn(api.SIn)
	switch op {
	case api.SInt, api.SLong:
		return api.Ins{Op: op, N: int64(r.Intn(5) - 2)}
	case api.SLoad, api.SStore:
		return ins(op, r.Intn(5), api.KInt+r.Intn(3))
	case api.SIntOp, api.SLongOp:
		return ins(op, api.OpAdd+r.Intn(8))
	case api.SGoto, api.SIfNull:
		return ins(op, r.Intn(size))
	case api.SIf:
		return ins(op, r.Intn(size), api.CondZero+r.Intn(4))
	case api.SNew, api.SCast, api.SIs:
		return ins(op, r.Intn(len(classes())))
	case api.SGet, api.SPut:
		return ins(op, upper+r.Intn(2), r.Intn(3))
	case api.SCall:
		return ins(op, r.Intn(methods))
	case api.SEmit:
		return ins(op, api.KInt+r.Intn(2))
	}
	return ins(op)
}

// randomMethod is as small as to be checked now and then.
func randomMethod(r *rand.Rand, methods int) api.Method {
	size := 1 + r.Intn(7)
	m := api.Method{Stack: r.Intn(6), Locals: 6, Ret: api.Type{Kind: r.Intn(4)}}
	for range r.Intn(3) {
		m.Params = append(m.Params, api.Type{Kind: api.KInt + r.Intn(3)})
	}
	for range size {
		m.Code = append(m.Code, randomIns(r, size, methods))
	}
	for range r.Intn(3) {
		from := r.Intn(size)
		m.Handlers = append(m.Handlers, api.Handler{From: from, To: from + 1 + r.Intn(size-from), At: r.Intn(size), Class: r.Intn(len(classes()))})
	}
	return m
}
