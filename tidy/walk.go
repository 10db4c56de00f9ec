package tidy

import (
	"slices"

	"crosswalk/api"
	"crosswalk/span"
)

// walk goes through a method of a checked file as it will be without what is idle.
// The states of the check tell too much: by them what is idle leads to the handlers over it, and so perhaps to what nothing else leads to.
type walk struct {
	api.Method
	come []bool
	// waiting are the numbers of the instructions that were come to, and not yet gone on from.
	waiting []int
}

// comeTo answers of each instruction whether it can be come to, if what is idle leads to nothing but what stands behind it.
func comeTo(m api.Method) []bool {
	w := &walk{Method: m, come: make([]bool, len(m.Code))}
	w.lead(0)
	for len(w.waiting) > 0 {
		last := len(w.waiting) - 1
		at := w.waiting[last]
		w.waiting = w.waiting[:last]
		w.leave(at)
	}
	return w.come
}

func (w *walk) lead(at int) {
	if !w.come[at] {
		w.come[at] = true
		w.waiting = append(w.waiting, at)
	}
}

// leave leads to all that an instruction leads to. Where a checked one goes on at the next one, there is one.
func (w *walk) leave(at int) {
	i := w.Code[at]
	if !ends(i) {
		w.lead(at + 1)
	}
	if slices.Contains(jumps(), i.Op) {
		w.lead(i.A)
	}
	if !idle(i) {
		w.throw(at)
	}
}

// throw leads to every handler over an instruction, as the check does, which does not ask whether that throws.
func (w *walk) throw(at int) {
	for _, h := range w.Handlers {
		if span.Within(at, h.From, h.To-1) {
			w.lead(h.At)
		}
	}
}

// ends answers whether an instruction never goes on at the next one by itself.
func ends(i api.Ins) bool {
	return slices.Contains([]int{api.RGoto, api.RReturn, api.RThrow}, i.Op)
}

// jumps are the instructions that go on at A.
func jumps() []int {
	return []int{api.RGoto, api.RIf, api.RIfNull}
}
