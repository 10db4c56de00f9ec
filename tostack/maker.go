package tostack

import (
	"crosswalk/api"
	"crosswalk/remake"
	"crosswalk/sform"
)

// maker makes one method over. Its registers are the locals; where an instruction begins, nothing is on the stack but what is at hand there.
type maker struct {
	api.Method
	remake.Work
	file api.File
	// room is how many slots of the stack are needed.
	room int
}

// register is one, with the kind of what is in it.
type register struct{ at, kind int }

func (w *maker) need(slots int) {
	w.room = max(w.room, slots)
}

// bring puts what is in registers on the stack, which is empty.
func (w *maker) bring(l ...register) {
	slots := 0
	for _, r := range l {
		slots += sform.Width(r.kind)
		w.Say(api.Ins{Op: api.SLoad, A: r.at, B: r.kind})
	}
	w.need(slots)
}

// keep takes what is on the stack into a register: nothing else is there.
func (w *maker) keep(r register) {
	w.need(sform.Width(r.kind))
	w.Say(api.Ins{Op: api.SStore, A: r.at, B: r.kind})
}

// drop takes what is on the stack away.
func (w *maker) drop(kind int) {
	w.need(sform.Width(kind))
	w.Say(api.Ins{Op: api.SPop})
}

// landing answers where a handler goes on. What was caught is always put on the stack, but an RCaught alone takes it.
// To an RCaught nothing but handlers lead; to others, other ways may lead as well, with nothing on the stack.
func (w *maker) landing(h api.Handler) int {
	if w.Code[h.At].Op == api.RCaught {
		return w.Start(h.At)
	}
	at := len(w.Made)
	w.drop(api.KRef)
	w.Say(api.Ins{Op: api.SGoto, A: h.At})
	return at
}

// pack leaves out the locals that nothing names, as there may be more registers than locals, and answers how many are left.
// Both slots of a long are named: so they stay side by side.
func (w *maker) pack() int {
	named := w.namedLocals()
	places := make([]int, len(named))
	count := 0
	for at, so := range named {
		places[at] = count
		if so {
			count++
		}
	}
	for k, i := range w.Made {
		if namesLocal(i) {
			w.Made[k].A = places[i.A]
		}
	}
	return count
}

// namedLocals counts in the parameters, also where nobody reads them: they stay in the first slots.
func (w *maker) namedLocals() []bool {
	named := make([]bool, w.Regs)
	for at := range sform.Slots(w.Params...) {
		named[at] = true
	}
	for _, i := range w.Made {
		if namesLocal(i) {
			for more := range sform.Width(i.B) {
				named[i.A+more] = true
			}
		}
	}
	return named
}

func namesLocal(i api.Ins) bool {
	return i.Op == api.SLoad || i.Op == api.SStore
}
