// Package remake has what is alike wherever code is made over: the file around it, and where that stands which was made of an instruction (doc/09-toreg.md, doc/10-tostack.md, doc/11-tidy.md).
package remake

import (
	"slices"

	"crosswalk/api"
	"crosswalk/flow"
)

// File answers a file with the classes of f, and of each method what is made of it and of its states, with its parameters and what it gives.
func File(f api.File, states [][]*flow.State, over func(api.File, api.Method, []*flow.State) api.Method) api.File {
	made := api.File{}
	for _, c := range f.Classes {
		made.Classes = append(made.Classes, api.Class{Super: c.Super, Fields: copied(c.Fields)})
	}
	for k, m := range f.Methods {
		n := over(f, m, states[k])
		n.Params, n.Ret = copied(m.Params), m.Ret
		made.Methods = append(made.Methods, n)
	}
	return made
}

func copied(types []api.Type) []api.Type {
	return append([]api.Type(nil), types...)
}

// Work is what has been made so far of a method's instructions, one after the other.
type Work struct {
	Made []api.Ins
	// starts has of each instruction where that begins which was made of it; behind the last one where all of that ends.
	starts []int
}

// Say lays instructions behind what has been made.
func (w *Work) Say(l ...api.Ins) {
	w.Made = append(w.Made, l...)
}

// Start answers where that begins which was made of an instruction.
func (w *Work) Start(at int) int {
	return w.starts[at]
}

// Through makes each instruction over by turn, which says what becomes of the one of that number.
// Of what can't be come to nothing is made: there is no state of it, and it may be wrong.
func (w *Work) Through(states []*flow.State, turn func(at int)) {
	for at, s := range states {
		w.starts = append(w.starts, len(w.Made))
		if s != nil {
			turn(at)
		}
	}
	w.starts = append(w.starts, len(w.Made))
}

// MakeHandlers answers handlers over what was made of that which they stood over, each of which goes on where landing says; landing may say more, behind all code.
// One that stands over nothing that was made can catch nothing; where it goes on, perhaps nothing was made, either.
func (w *Work) MakeHandlers(l []api.Handler, landing func(api.Handler) int) []api.Handler {
	var made []api.Handler
	for _, h := range l {
		from, to := w.starts[h.From], w.starts[h.To]
		if from < to {
			made = append(made, api.Handler{From: from, To: to, At: landing(h), Class: h.Class})
		}
	}
	return made
}

// Aim comes last, as what jumps names the instructions that were given until it is known where each begins.
func (w *Work) Aim(jumps ...int) {
	for k, i := range w.Made {
		if slices.Contains(jumps, i.Op) {
			w.Made[k].A = w.starts[i.A]
		}
	}
}
