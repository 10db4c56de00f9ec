package toreg

import (
	"crosswalk/api"
	"crosswalk/flow"
	"crosswalk/sform"
)

// maker makes one method over. Its locals are the first registers, the slots of its stack those behind them: MaxRegs is as many as both can be.
type maker struct {
	api.Method
	methods []api.Method
	made    []api.Ins
	// starts has of each instruction where that begins which was made of it; behind the last one where all of that ends.
	starts []int
}

// makeCode makes nothing of what can't be come to: there it is not known what is on the stack, and it may be wrong.
func (w *maker) makeCode(states []*flow.State) {
	for k, i := range w.Code {
		w.starts = append(w.starts, len(w.made))
		if states[k] != nil {
			w.say(w.turned(i, types(states[k].Stack))...)
		}
	}
	w.starts = append(w.starts, len(w.made))
}

func (w *maker) say(l ...api.Ins) {
	w.made = append(w.made, l...)
}

func types(values []flow.Value) []api.Type {
	l := make([]api.Type, len(values))
	for k, v := range values {
		l[k] = api.Type(v)
	}
	return l
}

// makeHandlers lets each handler go on at a place of its own behind all code, to which nothing else leads: so what was caught is at hand there.
// One that stands over nothing that was made can catch nothing; where it goes on, perhaps nothing was made, either.
func (w *maker) makeHandlers() []api.Handler {
	var handlers []api.Handler
	onEmpty := w.standing(nil)
	for _, h := range w.Handlers {
		from, to := w.starts[h.From], w.starts[h.To]
		if from == to {
			continue
		}
		handlers = append(handlers, api.Handler{From: from, To: to, At: len(w.made), Class: h.Class})
		w.say(api.Ins{Op: api.RCaught, A: onEmpty(0)}, api.Ins{Op: api.RGoto, A: h.At})
	}
	return handlers
}

// aim comes last, as jumps name instructions on the stack until it is known where each begins.
func (w *maker) aim() {
	for k, i := range w.made {
		switch i.Op {
		case api.RGoto, api.RIf, api.RIfNull:
			w.made[k].A = w.starts[i.A]
		}
	}
}

// place answers the register in which a value of a stack stands: 1 asks for the last value, 2 for the one ahead of it; 0 for where the next one is put.
type place func(last int) int

func (w *maker) standing(stack []api.Type) place {
	return func(last int) int {
		return w.Locals + sform.Slots(stack[:len(stack)-last]...)
	}
}
