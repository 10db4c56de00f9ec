package wire_test

import (
	"math"
	"math/rand"

	"crosswalk/api"
	"crosswalk/sform"
)

// maker makes files that may be; what they do is of no matter here.
type maker struct {
	*rand.Rand
	api.File
	// code is the most instructions of a method.
	code int
}

func newMaker(seed int64, code int) *maker {
	return &maker{Rand: rand.New(rand.NewSource(seed)), code: code}
}

func (r *maker) from(least, most int) int {
	return least + r.Intn(most-least+1)
}

func (r *maker) make(first byte) api.File {
	r.File = api.File{Classes: make([]api.Class, r.from(4, api.MaxClasses))}
	for c := range r.Classes {
		r.Classes[c].Super = -1
		if c > 0 {
			r.Classes[c].Super = r.Intn(c)
		}
		r.Classes[c].Fields = r.types(api.MaxFields)
	}
	r.Methods = make([]api.Method, r.from(1, api.MaxMethods))
	for k := range r.Methods {
		r.Methods[k] = r.head(first)
	}
	for k := range r.Methods {
		r.fill(first, &r.Methods[k])
	}
	return r.File
}

func (r *maker) class() int {
	return r.Intn(len(r.Classes))
}

func (r *maker) types(most int) []api.Type {
	var l []api.Type
	for range r.Intn(most + 1) {
		l = append(l, r.oneType())
	}
	return l
}

func (r *maker) oneType() api.Type {
	switch r.Intn(3) {
	case 0:
		return intType
	case 1:
		return longType
	}
	return ref(r.class())
}

// head makes all of a method but its instructions, which name other methods.
func (r *maker) head(first byte) api.Method {
	m := api.Method{Params: r.types(api.MaxParams)}
	if r.Intn(2) == 0 {
		m.Ret = r.oneType()
	}
	if slots := sform.Slots(m.Params...); first == stack {
		m.Stack, m.Locals = r.from(0, api.MaxStack), r.from(slots, api.MaxLocals)
	} else {
		m.Regs = r.from(max(2, slots), api.MaxRegs)
	}
	m.Code = make([]api.Ins, r.from(1, r.code))
	for range r.Intn(api.MaxHandlers + 1) {
		from := r.Intn(len(m.Code))
		m.Handlers = append(m.Handlers, api.Handler{From: from, To: r.from(from+1, len(m.Code)), At: r.Intn(len(m.Code)), Class: r.class()})
	}
	return m
}

func (r *maker) fill(first byte, m *api.Method) {
	for at := range m.Code {
		if first == stack {
			m.Code[at] = r.onStack(*m)
		} else {
			m.Code[at] = r.onRegisters(*m)
		}
	}
}

func (r *maker) long() int64 {
	n := int64(r.Uint64())
	return []int64{math.MinInt64, math.MaxInt64, -1, 0, n, n >> 32, n >> 56}[r.Intn(7)]
}

func (r *maker) onStack(m api.Method) api.Ins {
	i := api.Ins{Op: r.from(api.SInt, api.SIn)}
	place := r.Intn(len(m.Code))
	switch i.Op {
	case api.SInt:
		i.N = int64(int32(r.long()))
	case api.SLong:
		i.N = r.long()
	case api.SLoad, api.SStore:
		i.B = r.from(api.KInt, api.KRef)
		most := m.Locals - sform.Width(i.B)
		if most < 0 {
			return api.Ins{Op: api.SNull}
		}
		i.A = r.from(0, most)
	case api.SIntOp, api.SLongOp:
		i.A = r.from(api.OpAdd, api.OpXor)
	case api.SGoto, api.SIfNull:
		i.A = place
	case api.SIf:
		i.A, i.B = place, r.from(api.CondZero, api.CondAbove)
	case api.SNew, api.SCast, api.SIs:
		i.A = r.class()
	case api.SGet, api.SPut:
		i.A = r.class()
		fields := len(r.Classes[i.A].Fields)
		if fields == 0 {
			return api.Ins{Op: api.SDup}
		}
		i.B = r.Intn(fields)
	case api.SCall:
		i.A = r.Intn(len(r.Methods))
	case api.SEmit:
		i.A = r.from(api.KInt, api.KLong)
	}
	return i
}

func (r *maker) onRegisters(m api.Method) api.Ins {
	i := api.Ins{Op: r.from(api.RInt, api.RIn)}
	of := func(kind int) int { return r.from(0, m.Regs-sform.Width(kind)) }
	place, kind := r.Intn(len(m.Code)), r.from(api.KInt, api.KRef)
	switch i.Op {
	case api.RInt:
		i.A, i.N = of(api.KInt), int64(int32(r.long()))
	case api.RLong:
		i.A, i.N = of(api.KLong), r.long()
	case api.RNull, api.RThrow, api.RCaught:
		i.A = of(api.KRef)
	case api.RMove:
		i.A, i.B, i.C = of(kind), of(kind), kind
	case api.RIntOp, api.RLongOp:
		i.A, i.B, i.C, i.N = of(api.KLong), of(api.KLong), of(api.KLong), int64(r.from(api.OpAdd, api.OpXor))
	case api.RWiden, api.RNarrow:
		i.A, i.B = of(api.KLong), of(api.KLong)
	case api.RCmp:
		i.A, i.B, i.C = of(api.KInt), of(api.KLong), of(api.KLong)
	case api.RGoto:
		i.A = place
	case api.RIf:
		i.A, i.B, i.C = place, r.from(api.CondZero, api.CondAbove), of(api.KInt)
	case api.RIfNull:
		i.A, i.C = place, of(api.KRef)
	case api.RNew, api.RCast:
		i.A, i.B = of(api.KRef), r.class()
	case api.RIs:
		i.A, i.B, i.C = of(api.KInt), of(api.KRef), r.class()
	case api.RGet, api.RPut:
		return r.field(i.Op, of)
	case api.RCall:
		return r.call(of)
	case api.RResult:
		i.A, i.B = of(kind), kind
	case api.REmit:
		i.A, i.B = of(api.KLong), r.from(api.KInt, api.KLong)
	case api.RReturn:
		if m.Ret.Kind != api.KVoid {
			i.A = of(m.Ret.Kind)
		}
	case api.RIn:
		i.A = of(api.KLong)
	}
	return i
}

func (r *maker) field(op int, of func(int) int) api.Ins {
	c := r.class()
	if len(r.Classes[c].Fields) == 0 {
		return api.Ins{Op: api.RNull}
	}
	n := r.Intn(len(r.Classes[c].Fields))
	return api.Ins{Op: op, A: of(r.Classes[c].Fields[n].Kind), B: of(api.KRef), C: c, N: int64(n)}
}

func (r *maker) call(of func(int) int) api.Ins {
	i := api.Ins{Op: api.RCall, A: r.Intn(len(r.Methods))}
	for _, p := range r.Methods[i.A].Params {
		i.Args = append(i.Args, of(p.Kind))
	}
	return i
}
