package toreg

import (
	"crosswalk/api"
	"crosswalk/flow"
	"crosswalk/remake"
	"crosswalk/sform"
)

// maker makes one method over. Its locals are the first registers, the slots of its stack those behind them: MaxRegs is as many as both can be.
type maker struct {
	api.Method
	remake.Work
	methods []api.Method
}

func types(values []flow.Value) []api.Type {
	l := make([]api.Type, len(values))
	for k, v := range values {
		l[k] = api.Type(v)
	}
	return l
}

// landing lets a handler go on at a place of its own behind all code, to which nothing else leads: so what was caught is at hand there.
func (w *maker) landing(h api.Handler) int {
	at := len(w.Made)
	onEmpty := w.standing(nil)
	w.Say(api.Ins{Op: api.RCaught, A: onEmpty(0)}, api.Ins{Op: api.RGoto, A: h.At})
	return at
}

// place answers the register in which a value of a stack stands: 1 asks for the last value, 2 for the one ahead of it; 0 for where the next one is put.
type place func(last int) int

func (w *maker) standing(stack []api.Type) place {
	return func(last int) int {
		return w.Locals + sform.Slots(stack[:len(stack)-last]...)
	}
}
