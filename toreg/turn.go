package toreg

import "crosswalk/api"

// turned answers what does on registers what an instruction does that is come to with such a stack.
func (w *maker) turned(i api.Ins, stack []api.Type) []api.Ins {
	at := w.standing(stack)
	switch i.Op {
	case api.SPop:
		// What stands behind the stack's end is never read: it may stay.
		return nil
	case api.SDup:
		return []api.Ins{{Op: api.RMove, A: at(0), B: at(1), C: stack[len(stack)-1].Kind}}
	case api.SCall:
		return w.call(i.A, at)
	case api.SReturn:
		return []api.Ins{w.giveBack(at)}
	}
	return []api.Ins{turnedOne(i, at)}
}

// call puts what the method gives where the first of the values stood that it takes.
func (w *maker) call(method int, at place) []api.Ins {
	m := w.methods[method]
	count := len(m.Params)
	i := api.Ins{Op: api.RCall, A: method}
	for k := range count {
		i.Args = append(i.Args, at(count-k))
	}
	if m.Ret.Kind == api.KVoid {
		return []api.Ins{i}
	}
	return []api.Ins{i, {Op: api.RResult, A: at(count), B: m.Ret.Kind}}
}

func (w *maker) giveBack(at place) api.Ins {
	if w.Ret.Kind == api.KVoid {
		return api.Ins{Op: api.RReturn}
	}
	return api.Ins{Op: api.RReturn, A: at(1)}
}

// turnedOne answers the one instruction that does the same.
func turnedOne(i api.Ins, at place) api.Ins {
	switch i.Op {
	case api.SInt:
		return api.Ins{Op: api.RInt, A: at(0), N: i.N}
	case api.SLong:
		return api.Ins{Op: api.RLong, A: at(0), N: i.N}
	case api.SNull:
		return api.Ins{Op: api.RNull, A: at(0)}
	case api.SLoad:
		return api.Ins{Op: api.RMove, A: at(0), B: i.A, C: i.B}
	case api.SStore:
		return api.Ins{Op: api.RMove, A: i.A, B: at(1), C: i.B}
	case api.SGoto:
		return api.Ins{Op: api.RGoto, A: i.A}
	case api.SIf:
		return api.Ins{Op: api.RIf, A: i.A, B: i.B, C: at(1)}
	case api.SIfNull:
		return api.Ins{Op: api.RIfNull, A: i.A, C: at(1)}
	case api.SEmit:
		return api.Ins{Op: api.REmit, A: at(1), B: i.A}
	case api.SIn:
		return api.Ins{Op: api.RIn, A: at(0)}
	case api.SIntOp, api.SLongOp, api.SWiden, api.SNarrow, api.SCmp:
		return reckoning(i, at)
	}
	return handling(i, at)
}

func reckoning(i api.Ins, at place) api.Ins {
	switch i.Op {
	case api.SIntOp:
		return api.Ins{Op: api.RIntOp, A: at(2), B: at(2), C: at(1), N: int64(i.A)}
	case api.SLongOp:
		return api.Ins{Op: api.RLongOp, A: at(2), B: at(2), C: at(1), N: int64(i.A)}
	case api.SWiden:
		return api.Ins{Op: api.RWiden, A: at(1), B: at(1)}
	case api.SNarrow:
		return api.Ins{Op: api.RNarrow, A: at(1), B: at(1)}
	}
	return api.Ins{Op: api.RCmp, A: at(2), B: at(2), C: at(1)}
}

// handling answers an instruction of objects.
func handling(i api.Ins, at place) api.Ins {
	switch i.Op {
	case api.SNew:
		return api.Ins{Op: api.RNew, A: at(0), B: i.A}
	case api.SGet:
		return api.Ins{Op: api.RGet, A: at(1), B: at(1), C: i.A, N: int64(i.B)}
	case api.SPut:
		return api.Ins{Op: api.RPut, A: at(1), B: at(2), C: i.A, N: int64(i.B)}
	case api.SCast:
		return api.Ins{Op: api.RCast, A: at(1), B: i.A}
	case api.SIs:
		return api.Ins{Op: api.RIs, A: at(1), B: at(1), C: i.A}
	}
	return api.Ins{Op: api.RThrow, A: at(1)}
}
