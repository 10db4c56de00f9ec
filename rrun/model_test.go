package rrun_test

import (
	"crosswalk/api"
	"crosswalk/num"
)

// model runs a file by the chapter's words, in another way than the program: a call is one of the language's own, what an instruction reads stands in a table, and registers know which one has their long's other slot.
type model struct {
	file    api.File
	input   []int64
	fuel    int
	shown   api.Shown
	objects []object
	depth   int
	// done counts the instructions that did not end the run.
	done [api.RIn + 1]int
}

// object has its fields by class and number.
type object struct {
	class  int
	fields map[[2]int]value
}

// value is of a kind; a reference is the number of an object, -1 of nothing.
type value struct {
	kind int
	n    int64
}

var nothing = value{api.KRef, -1}

// register has a value; mate is the other slot of a long, in which nothing is asked for.
type register struct {
	has  value
	mate int
}

// outcome is how an instruction, or a call, came out.
type outcome struct {
	over   bool
	thrown *value
	gave   *value
	comes  bool
	to     int
}

var over = outcome{over: true}

func (m *model) end(how int) outcome {
	m.shown.End = how
	return over
}

func (m *model) run(entry int, args []int64) api.Shown {
	var params []value
	for k, t := range m.file.Methods[entry].Params {
		v := value{t.Kind, args[k]}
		if t.Kind == api.KInt {
			v.n = int64(int32(args[k]))
		}
		params = append(params, v)
	}
	o := m.call(entry, params)
	switch {
	case o.over:
	case o.thrown != nil:
		m.shown.End, m.shown.Class = api.EndThrown, m.objects[o.thrown.n].class
	default:
		m.shown.End = api.EndDone
		if o.gave != nil && o.gave.kind != api.KRef {
			m.shown.Value = o.gave.n
		}
	}
	return m.shown
}

// frame is a call's: result and caught are there for one instruction.
type frame struct {
	method         api.Method
	registers      map[int]register
	result, caught *value
}

func (f *frame) write(at int, v value) {
	f.empty(at)
	if v.kind != api.KLong {
		f.registers[at] = register{v, at}
		return
	}
	f.empty(at + 1)
	f.registers[at] = register{v, at + 1}
	f.registers[at+1] = register{value{}, at}
}

func (f *frame) empty(at int) {
	if r, ok := f.registers[at]; ok {
		delete(f.registers, r.mate)
		delete(f.registers, at)
	}
}

func (m *model) call(number int, params []value) outcome {
	f := &frame{method: m.file.Methods[number], registers: map[int]register{}}
	at := 0
	for _, v := range params {
		f.write(at, v)
		at++
		if v.kind == api.KLong {
			at++
		}
	}
	at = 0
	for {
		o := m.step(f, at)
		if o.thrown != nil {
			h, ok := m.handler(f.method, at, *o.thrown)
			if !ok {
				return o
			}
			f.result, f.caught = nil, o.thrown
			at = h.At
			continue
		}
		if o.over || o.comes {
			return o
		}
		f.result, f.caught = o.gave, nil
		at = o.to
	}
}

func (m *model) handler(method api.Method, at int, thrown value) (api.Handler, bool) {
	for _, h := range method.Handlers {
		if h.From <= at && at < h.To && isBelow(m.objects[thrown.n].class, h.Class) {
			return h, true
		}
	}
	return api.Handler{}, false
}

func (m *model) step(f *frame, at int) outcome {
	if m.shown.Steps == m.fuel {
		return m.end(api.EndFuel)
	}
	m.shown.Steps++
	if at == len(f.method.Code) {
		return m.end(api.EndStuck)
	}
	i := f.method.Code[at]
	var values []value
	for _, x := range m.needs(f.method, i) {
		v := f.registers[x.at].has
		if !m.fits(v, x.t) {
			return m.end(api.EndStuck)
		}
		values = append(values, v)
	}
	if i.Op == api.RResult && (f.result == nil || f.result.kind != i.B) || i.Op == api.RCaught && f.caught == nil {
		return m.end(api.EndStuck)
	}
	o := m.do(f, i, at, values)
	if !o.over {
		m.done[i.Op]++
	}
	return o
}

func (m *model) fits(v value, t api.Type) bool {
	return v.kind == t.Kind && (v.kind != api.KRef || v == nothing || isBelow(m.objects[v.n].class, t.Class))
}

// needs says what an instruction reads, in this order.
func (m *model) needs(method api.Method, i api.Ins) []read {
	reads := func(t api.Type, registers ...int) []read {
		var l []read
		for _, r := range registers {
			l = append(l, read{r, t})
		}
		return l
	}
	switch i.Op {
	case api.RMove:
		return reads(api.Type{Kind: i.C}, i.B)
	case api.RIntOp:
		return reads(intType, i.B, i.C)
	case api.RLongOp, api.RCmp:
		return reads(longType, i.B, i.C)
	case api.RWiden:
		return reads(intType, i.B)
	case api.RNarrow:
		return reads(longType, i.B)
	case api.RIf:
		return reads(intType, i.C)
	case api.RIfNull:
		return reads(ref(0), i.C)
	case api.RGet:
		return reads(ref(i.C), i.B)
	case api.RPut:
		return append(reads(ref(i.C), i.B), reads(m.file.Classes[i.C].Fields[i.N], i.A)...)
	case api.RCast, api.RThrow:
		return reads(ref(0), i.A)
	case api.RIs:
		return reads(ref(0), i.B)
	case api.RCall:
		var l []read
		for k, t := range m.file.Methods[i.A].Params {
			l = append(l, read{i.Args[k], t})
		}
		return l
	case api.RReturn:
		if method.Ret.Kind != api.KVoid {
			return reads(method.Ret, i.A)
		}
	case api.REmit:
		return reads(api.Type{Kind: i.B}, i.A)
	}
	return nil
}

func (m *model) do(f *frame, i api.Ins, at int, read []value) outcome {
	switch i.Op {
	case api.RGoto:
		return outcome{to: i.A}
	case api.RIf:
		if num.Holds(i.B, read[0].n) {
			return outcome{to: i.A}
		}
	case api.RIfNull:
		if read[0] == nothing {
			return outcome{to: i.A}
		}
	case api.RCall:
		if m.depth == api.MaxCalls-1 {
			return m.end(api.EndDeep)
		}
		m.depth++
		o := m.call(i.A, read)
		m.depth--
		return outcome{over: o.over, thrown: o.thrown, gave: o.gave, to: at + 1}
	case api.RReturn:
		o := outcome{comes: true}
		if len(read) > 0 {
			o.gave = &read[0]
		}
		return o
	case api.REmit:
		m.shown.Out = append(m.shown.Out, read[0].n)
	default:
		if o := m.change(f, i, read); o.over || o.thrown != nil {
			return o
		}
	}
	return outcome{to: at + 1}
}

// change does an instruction of objects, or one that writes.
func (m *model) change(f *frame, i api.Ins, read []value) outcome {
	field := [2]int{i.C, int(i.N)}
	switch i.Op {
	case api.RThrow:
		if read[0] == nothing {
			return m.throw(api.ClassNull)
		}
		return outcome{thrown: &read[0]}
	case api.RCast:
		if read[0] != nothing && !m.fits(read[0], ref(i.B)) {
			return m.throw(api.ClassCast)
		}
	case api.RPut:
		if read[0] == nothing {
			return m.throw(api.ClassNull)
		}
		m.objects[read[0].n].fields[field] = read[1]
	case api.RGet:
		if read[0] == nothing {
			return m.throw(api.ClassNull)
		}
		f.write(i.A, m.objects[read[0].n].fields[field])
	case api.RNew:
		v, ok := m.make(i.B)
		if !ok {
			return over
		}
		f.write(i.A, v)
	case api.RIn:
		if m.shown.Used == len(m.input) {
			return m.end(api.EndInput)
		}
		f.write(i.A, value{api.KLong, m.input[m.shown.Used]})
		m.shown.Used++
	case api.RIntOp, api.RLongOp:
		work, kind := num.Int, api.KInt
		if i.Op == api.RLongOp {
			work, kind = num.Long, api.KLong
		}
		n, ok := work(int(i.N), read[0].n, read[1].n)
		if !ok {
			return m.throw(api.ClassDivide)
		}
		f.write(i.A, value{kind, n})
	default:
		f.write(i.A, m.plain(f, i, read))
	}
	return outcome{}
}

// plain answers what is written where nothing can go wrong any more.
func (m *model) plain(f *frame, i api.Ins, read []value) value {
	switch i.Op {
	case api.RInt:
		return value{api.KInt, i.N}
	case api.RLong:
		return value{api.KLong, i.N}
	case api.RMove:
		return read[0]
	case api.RWiden:
		return value{api.KLong, read[0].n}
	case api.RNarrow:
		return value{api.KInt, int64(int32(read[0].n))}
	case api.RCmp:
		return value{api.KInt, num.Cmp(read[0].n, read[1].n)}
	case api.RIs:
		if read[0] != nothing && m.fits(read[0], ref(i.C)) {
			return value{api.KInt, 1}
		}
		return value{api.KInt, 0}
	case api.RResult:
		return *f.result
	case api.RCaught:
		return *f.caught
	}
	return nothing
}

func (m *model) make(class int) (value, bool) {
	if len(m.objects) == api.MaxObjects {
		m.end(api.EndFull)
		return value{}, false
	}
	fields := map[[2]int]value{}
	for c := class; c >= 0; c = m.file.Classes[c].Super {
		for k, t := range m.file.Classes[c].Fields {
			fields[[2]int{c, k}] = value{kind: t.Kind}
			if t.Kind == api.KRef {
				fields[[2]int{c, k}] = nothing
			}
		}
	}
	m.objects = append(m.objects, object{class, fields})
	return value{api.KRef, int64(len(m.objects) - 1)}, true
}

func (m *model) throw(class int) outcome {
	v, ok := m.make(class)
	if !ok {
		return over
	}
	return outcome{thrown: &v}
}
