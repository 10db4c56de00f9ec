package flow

import (
	"slices"

	"crosswalk/api"
	"crosswalk/sform"
)

// State is what is known where an instruction is come to: of the slots, locals or registers, and of the stack.
// On registers, which have no stack, what is at hand stands there.
type State struct {
	Slots []Value
	Stack []Value
}

// newState has the parameters in the first slots, anything in all others, and nothing on the stack.
func newState(slots int, params []api.Type) State {
	s := State{Slots: make([]Value, slots)}
	at := 0
	for _, t := range params {
		s.Write(at, Value(t))
		at += sform.Width(t.Kind)
	}
	return s
}

func (s *State) copied() State {
	return State{Slots: slices.Clone(s.Slots), Stack: slices.Clone(s.Stack)}
}

// Read answers what is in a slot; it gives up, if that is not of the kind.
// Slots of a long are lost together: so where the first one is, the second one is behind it.
func (s *State) Read(at, kind int) Value {
	return s.Slots[at].MustBe(kind)
}

// Write stores v in a slot, a long in the next one, too.
func (s *State) Write(at int, v Value) {
	s.lose(at)
	if v.Kind == api.KLong {
		s.lose(at + 1)
		s.Slots[at+1] = Value{Kind: second}
	}
	s.Slots[at] = v
}

// lose forgets the long of which this is one slot.
func (s *State) lose(at int) {
	switch s.Slots[at].Kind {
	case api.KLong:
		s.Slots[at+1] = Value{}
	case second:
		s.Slots[at-1] = Value{}
	}
}

// merge makes s both together of s and of another state, and answers whether it says less then than it did.
func (s *State) merge(joins [][]int, other State) bool {
	if len(s.Stack) != len(other.Stack) {
		GiveUp()
	}
	less := mergeAll(joins, s.Slots, other.Slots)
	if mergeAll(joins, s.Stack, other.Stack) {
		less = true
	}
	if slices.Contains(s.Stack, Value{}) {
		GiveUp()
	}
	return less
}

func mergeAll(joins [][]int, values, others []Value) bool {
	less := false
	for k, v := range values {
		if v == others[k] {
			continue
		}
		values[k] = both(joins, v, others[k])
		if values[k] != v {
			less = true
		}
	}
	return less
}
