package tostack

import "crosswalk/api"

// turn says what does on a stack what an instruction does; next is the number of the one behind it.
func (w *maker) turn(i api.Ins, next int) {
	switch i.Op {
	case api.RGoto:
		w.Say(api.Ins{Op: api.SGoto, A: i.A})
	case api.RIf:
		w.bring(register{i.C, api.KInt})
		w.Say(api.Ins{Op: api.SIf, A: i.A, B: i.B})
	case api.RIfNull:
		w.bring(register{i.C, api.KRef})
		w.Say(api.Ins{Op: api.SIfNull, A: i.A})
	case api.RPut:
		w.bring(register{i.B, api.KRef}, register{i.A, w.kindOfField(i)})
		w.Say(api.Ins{Op: api.SPut, A: i.C, B: int(i.N)})
	case api.RCall:
		w.call(i, next)
	case api.RReturn:
		w.giveBack(i.A)
	case api.RThrow:
		w.bring(register{i.A, api.KRef})
		w.Say(api.Ins{Op: api.SThrow})
	case api.REmit:
		w.bring(register{i.A, i.B})
		w.Say(api.Ins{Op: api.SEmit, A: i.B})
	default:
		kind := w.put(i)
		w.keep(register{i.A, kind})
	}
}

func (w *maker) kindOfField(i api.Ins) int {
	return w.file.Classes[i.C].Fields[i.N].Kind
}

// call leaves on the stack what the method gives, if the next instruction fetches it.
func (w *maker) call(i api.Ins, next int) {
	m := w.file.Methods[i.A]
	var args []register
	for k, t := range m.Params {
		args = append(args, register{i.Args[k], t.Kind})
	}
	w.bring(args...)
	w.Say(api.Ins{Op: api.SCall, A: i.A})
	if m.Ret.Kind != api.KVoid && w.Code[next].Op != api.RResult {
		w.drop(m.Ret.Kind)
	}
}

func (w *maker) giveBack(at int) {
	if w.Ret.Kind != api.KVoid {
		w.bring(register{at, w.Ret.Kind})
	}
	w.Say(api.Ins{Op: api.SReturn})
}

// put says what puts on the stack what an instruction writes, and answers its kind.
func (w *maker) put(i api.Ins) int {
	switch i.Op {
	case api.RInt:
		w.Say(api.Ins{Op: api.SInt, N: i.N})
		return api.KInt
	case api.RLong:
		w.Say(api.Ins{Op: api.SLong, N: i.N})
		return api.KLong
	case api.RIn:
		w.Say(api.Ins{Op: api.SIn})
		return api.KLong
	case api.RMove:
		w.bring(register{i.B, i.C})
		return i.C
	case api.RResult:
		// It is at hand: so it is on the stack.
		return i.B
	case api.RIntOp, api.RLongOp, api.RWiden, api.RNarrow, api.RCmp:
		return w.putReckoned(i)
	}
	return w.putOfObjects(i)
}

func (w *maker) putReckoned(i api.Ins) int {
	switch i.Op {
	case api.RIntOp:
		w.bring(register{i.B, api.KInt}, register{i.C, api.KInt})
		w.Say(api.Ins{Op: api.SIntOp, A: int(i.N)})
		return api.KInt
	case api.RLongOp:
		w.bring(register{i.B, api.KLong}, register{i.C, api.KLong})
		w.Say(api.Ins{Op: api.SLongOp, A: int(i.N)})
		return api.KLong
	case api.RWiden:
		w.bring(register{i.B, api.KInt})
		w.Say(api.Ins{Op: api.SWiden})
		return api.KLong
	case api.RNarrow:
		w.bring(register{i.B, api.KLong})
		w.Say(api.Ins{Op: api.SNarrow})
		return api.KInt
	}
	w.bring(register{i.B, api.KLong}, register{i.C, api.KLong})
	w.Say(api.Ins{Op: api.SCmp})
	return api.KInt
}

func (w *maker) putOfObjects(i api.Ins) int {
	switch i.Op {
	case api.RNull:
		w.Say(api.Ins{Op: api.SNull})
	case api.RNew:
		w.Say(api.Ins{Op: api.SNew, A: i.B})
	case api.RCast:
		w.bring(register{i.A, api.KRef})
		w.Say(api.Ins{Op: api.SCast, A: i.B})
	case api.RGet:
		w.bring(register{i.B, api.KRef})
		w.Say(api.Ins{Op: api.SGet, A: i.C, B: int(i.N)})
		return w.kindOfField(i)
	case api.RIs:
		w.bring(register{i.B, api.KRef})
		w.Say(api.Ins{Op: api.SIs, A: i.C})
		return api.KInt
	}
	// What is left is RCaught: that is at hand, and so on the stack.
	return api.KRef
}
