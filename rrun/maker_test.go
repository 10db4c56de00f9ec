package rrun_test

import (
	"math"
	"math/rand"

	"crosswalk/api"
	"crosswalk/sform"
)

// maker makes methods whose registers mostly keep one kind each, so that most runs go far.
type maker struct {
	*rand.Rand
	heads []api.Method
	// wild of a hundred registers are any that may be, whatever stands in them.
	wild int
	m    api.Method
	// number is that of the method that is being made.
	number int
	of     [api.KRef + 1][]int
	// spare is for what was caught, which has no fields.
	spare int
}

// randomFile has three methods that may be.
func randomFile(r *rand.Rand) api.File {
	k := &maker{Rand: r, wild: []int{0, 1, 3, 20}[r.Intn(4)]}
	for range 3 {
		k.heads = append(k.heads, k.head(len(k.heads) == 0))
	}
	f := file()
	for n := range k.heads {
		f.Methods = append(f.Methods, k.method(n))
	}
	return f
}

func (k *maker) someType() api.Type {
	t := api.Type{Kind: api.KInt + k.Intn(3)}
	if t.Kind == api.KRef {
		t.Class = k.someClass(0, upper, lower, lowest)
	}
	return t
}

// someClass is one of the list, or any at all.
func (k *maker) someClass(l ...int) int {
	if k.isWild() {
		return k.Intn(len(classes()))
	}
	return l[k.Intn(len(l))]
}

func (k *maker) isWild() bool {
	return k.Intn(100) < k.wild
}

// head has no references among the Params of the entry, which nobody could call then.
func (k *maker) head(entry bool) api.Method {
	m := api.Method{}
	for range k.Intn(api.MaxParams + 1) {
		t := k.someType()
		if entry && t.Kind == api.KRef {
			t = longType
		}
		m.Params = append(m.Params, t)
	}
	if k.Intn(4) > 0 {
		m.Ret = k.someType()
	}
	return m
}

func (k *maker) method(n int) api.Method {
	k.m, k.number, k.of = k.heads[n], n, [api.KRef + 1][]int{}
	for _, t := range append(k.m.Params, intType, intType, longType, longType, ref(0), ref(0)) {
		k.of[t.Kind] = append(k.of[t.Kind], k.m.Regs)
		k.m.Regs += sform.Width(t.Kind)
	}
	k.spare = k.m.Regs
	k.m.Regs++
	k.begin()
	first := len(k.m.Code)
	size := first + 5 + k.Intn(40)
	for len(k.m.Code) < size-1 {
		k.m.Code = append(k.m.Code, k.some(size))
		last := k.m.Code[len(k.m.Code)-1]
		if last.Op == api.RCall && len(k.m.Code) < size-1 {
			k.askResult(last.A)
		}
	}
	k.m.Code = append(k.m.Code, k.back())
	k.handle(first)
	return k.m
}

// begin writes to nearly all registers that have no parameter in them.
func (k *maker) begin() {
	params := sform.Slots(k.m.Params...)
	for kind, l := range k.of {
		for _, at := range l {
			if at < params || k.isWild() {
				continue
			}
			switch kind {
			case api.KInt:
				k.m.Code = append(k.m.Code, setInt(at, k.someNumber(api.KInt)))
			case api.KLong:
				k.m.Code = append(k.m.Code, setLong(at, k.someNumber(api.KLong)))
			default:
				k.m.Code = append(k.m.Code, setNew(at, lowest))
			}
		}
	}
}

func (k *maker) someNumber(kind int) int64 {
	near := []int64{0, 0, 1, -1, 2, 5, math.MaxInt32, math.MinInt32}
	if kind == api.KLong {
		near = append(near, 1<<32, math.MaxInt64, math.MinInt64)
	}
	return near[k.Intn(len(near))]
}

// reg answers a register of the kind.
func (k *maker) reg(kind int) int {
	return k.oneOf(kind, k.of[kind])
}

func (k *maker) oneOf(kind int, l []int) int {
	if k.isWild() {
		return k.Intn(k.m.Regs - sform.Width(kind) + 1)
	}
	return l[k.Intn(len(l))]
}

func (k *maker) askResult(method int) {
	kind := k.heads[method].Ret.Kind
	if k.isWild() {
		kind = api.KInt + k.Intn(3)
	}
	if kind != api.KVoid && k.Intn(4) > 0 {
		k.m.Code = append(k.m.Code, result(k.reg(kind), kind))
	}
}

func (k *maker) back() api.Ins {
	if k.m.Ret.Kind == api.KVoid {
		return comeBack
	}
	return giveBack(k.reg(k.m.Ret.Kind))
}

// handle lays handlers over the code, most of which go on at RCaught.
func (k *maker) handle(first int) {
	size := len(k.m.Code)
	for range k.Intn(4) {
		from := k.Intn(size)
		h := api.Handler{From: from, To: from + 1 + k.Intn(size-from), At: first + k.Intn(size-first), Class: []int{0, k.Intn(len(classes()))}[k.Intn(2)]}
		if k.Intn(4) > 0 && h.At < size-1 {
			k.m.Code[h.At] = caught(k.oneOf(api.KRef, []int{k.spare}))
			// Nearly nobody comes there from ahead.
			if h.At > first && !k.isWild() {
				k.m.Code[h.At-1] = jump(min(h.At+1, size-1))
			}
		}
		k.m.Handlers = append(k.m.Handlers, h)
	}
}

// some answers an instruction that may be in a method of so many; those that are seldom well are seldom made.
func (k *maker) some(size int) api.Ins {
	op := api.RInt + k.Intn(api.RIn)
	if k.Intn(5) == 0 {
		op = api.RCall
	}
	switch op {
	case api.RCaught, api.RResult:
		if !k.isWild() {
			return k.some(size)
		}
		if op == api.RCaught {
			return caught(k.spare)
		}
		kind := api.KInt + k.Intn(3)
		return result(k.reg(kind), kind)
	case api.RReturn, api.RThrow:
		if k.Intn(3) > 0 {
			return k.some(size)
		}
		if op == api.RReturn {
			return k.back()
		}
		return throwIt(k.reg(api.KRef))
	case api.RGoto:
		return jump(k.Intn(size))
	case api.RIf:
		return jumpIf(k.Intn(size), api.CondZero+k.Intn(4), k.reg(api.KInt))
	case api.RIfNull:
		return jumpIfNull(k.Intn(size), k.reg(api.KRef))
	case api.RCall:
		return k.call(size)
	case api.RNew, api.RGet, api.RPut, api.RCast, api.RIs:
		return k.onObject(op)
	}
	return k.onNumbers(op)
}

// call mostly calls a later method: what calls itself for ever ends soon.
func (k *maker) call(size int) api.Ins {
	i := call(k.Intn(len(k.heads)))
	if i.A <= k.number && k.Intn(8) > 0 {
		return k.some(size)
	}
	for _, t := range k.heads[i.A].Params {
		i.Args = append(i.Args, k.reg(t.Kind))
	}
	return i
}

func (k *maker) onObject(op int) api.Ins {
	switch op {
	case api.RNew:
		return setNew(k.reg(api.KRef), k.someClass(lowest))
	case api.RCast:
		return cast(k.reg(api.KRef), k.someClass(0, upper, lower, lowest, other))
	case api.RIs:
		return is(k.reg(api.KInt), k.reg(api.KRef), k.someClass(0, upper, lowest, other))
	}
	class := []int{upper, lower}[k.Intn(2)]
	n := k.Intn(len(classes()[class].Fields))
	if class == lower && n == 1 && !k.isWild() {
		// Hardly any object here is of that field's class.
		n = 0
	}
	kind := classes()[class].Fields[n].Kind
	return insN(op, int64(n), k.reg(kind), k.reg(api.KRef), class)
}

func (k *maker) onNumbers(op int) api.Ins {
	kind := api.KInt + k.Intn(3)
	switch op {
	case api.RInt:
		return setInt(k.reg(api.KInt), k.someNumber(api.KInt))
	case api.RLong:
		return setLong(k.reg(api.KLong), k.someNumber(api.KLong))
	case api.RNull:
		return setNull(k.reg(api.KRef))
	case api.RMove:
		return move(k.reg(kind), k.reg(kind), kind)
	case api.RIntOp:
		return intOp(api.OpAdd+k.Intn(8), k.reg(api.KInt), k.reg(api.KInt), k.reg(api.KInt))
	case api.RLongOp:
		return longOp(api.OpAdd+k.Intn(8), k.reg(api.KLong), k.reg(api.KLong), k.reg(api.KLong))
	case api.RWiden:
		return ins(op, k.reg(api.KLong), k.reg(api.KInt))
	case api.RNarrow:
		return ins(op, k.reg(api.KInt), k.reg(api.KLong))
	case api.RCmp:
		return ins(op, k.reg(api.KInt), k.reg(api.KLong), k.reg(api.KLong))
	case api.REmit:
		kind = api.KInt + k.Intn(2)
		return emit(k.reg(kind), kind)
	}
	return comeIn(k.reg(api.KLong))
}
