package flow

import (
	"slices"

	"crosswalk/api"
	"crosswalk/hier"
	"crosswalk/span"
)

// Check answers the states of each method of a file that is asked whether it may be, or the fault of that file.
// They are what through finds out of a method, which answers false where that could get stuck.
func Check(f api.File, may func(api.File) bool, through func(api.File, api.Method) ([]*State, bool)) ([][]*State, api.Fault) {
	if !may(f) {
		return nil, api.Fault{Code: api.ErrForm}
	}
	all := make([][]*State, len(f.Methods))
	for k, m := range f.Methods {
		states, ok := through(f, m)
		if !ok {
			return nil, api.Fault{Code: api.ErrKind, Method: k}
		}
		all[k] = states
	}
	return all, api.Fault{}
}

// Flow goes through a method.
type Flow struct {
	// State is that of the instruction At, changed as far as it is done.
	State
	Classes []api.Class
	Method  api.Method
	At      int
	// Of what nothing leads to there is no state.
	states []*State
	// waiting are the numbers of the instructions that are to be done, the least one first.
	waiting []int
	joins   [][]int
}

// New answers the flow of a method that has so many slots, locals or registers, with classes that may be.
func New(classes []api.Class, m api.Method, slots int) *Flow {
	return &Flow{
		State:   newState(slots, m.Params),
		Classes: classes,
		Method:  m,
		states:  make([]*State, len(m.Code)),
		joins:   hier.Joins(classes),
	}
}

// Through does each instruction that can be come to, and does it again where less is known than it was done with.
// It answers the state of each one, nil where nothing leads to it; false, if it gave up.
func (w *Flow) Through(do func(api.Ins)) ([]*State, bool) {
	ok := holds(func() {
		w.Lead(0)
		for len(w.waiting) > 0 {
			w.At = w.waiting[0]
			w.waiting = slices.Delete(w.waiting, 0, 1)
			w.State = w.states[w.At].copied()
			do(w.Method.Code[w.At])
		}
	})
	if !ok {
		return nil, false
	}
	return w.states, true
}

// Lead leads to an instruction in the state as it is now.
func (w *Flow) Lead(at int) {
	w.LeadWith(at, w.Stack...)
}

// LeadNext leads to the next instruction in the state as it is now.
func (w *Flow) LeadNext() {
	w.Lead(w.At + 1)
}

// Branch leads to an instruction and to the next one, in the state as it is now.
func (w *Flow) Branch(to int) {
	w.Lead(to)
	w.LeadNext()
}

// LeadWith leads to an instruction with the slots as they are now, and another stack.
// A broken state is never told: once there is one, the whole method has failed, and giving up tells that.
func (w *Flow) LeadWith(at int, stack ...Value) {
	if !span.Numbers(at, len(w.states)) {
		GiveUp()
	}
	s := State{Slots: w.Slots, Stack: stack}
	old := w.states[at]
	if old != nil && !old.merge(w.joins, s) {
		return
	}
	if old == nil {
		first := s.copied()
		w.states[at] = &first
	}
	w.wait(at)
}

// wait keeps the order of the code, in which most of what leads to an instruction is done ahead of it: else it would be done again for each.
func (w *Flow) wait(at int) {
	if k, waits := slices.BinarySearch(w.waiting, at); !waits {
		w.waiting = slices.Insert(w.waiting, k, at)
	}
}

// Over answers the handlers over the instruction.
func (w *Flow) Over() []api.Handler {
	var over []api.Handler
	for _, h := range w.Method.Handlers {
		if span.Within(w.At, h.From, h.To-1) {
			over = append(over, h)
		}
	}
	return over
}

// MustFit answers v; it gives up, if v may not be stored as what is of the type.
func (w *Flow) MustFit(v Value, t api.Type) Value {
	v.MustBe(t.Kind)
	if t.Kind == api.KRef && v != Nothing() && !w.below(v.Class, t.Class) {
		GiveUp()
	}
	return v
}

// below asks the joins: of two classes, one of which is below the other, that other one is the Join.
func (w *Flow) below(c, d int) bool {
	return w.joins[c][d] == d
}
