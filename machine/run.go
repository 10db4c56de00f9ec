package machine

import (
	"crosswalk/api"
	"crosswalk/num"
	"crosswalk/span"
)

// Form is one of code: which files of it may be, and how a call begins in it.
type Form struct {
	May   func(f api.File) bool
	Begin func(r *Run, m api.Method, params []Value) Call
}

// Call is one that has not come back. What it does, its form does in its own way.
type Call struct {
	// Do does its instruction.
	Do func()
	// Back goes on behind the instruction that called, with what the called method gave.
	Back func(v Value)
	// Catch goes on at the handler of what is thrown, and answers whether there is one.
	Catch func(thrown Value) bool
}

// Run is a run of either form.
type Run struct {
	*Heap
	Methods []api.Method
	begin   func(r *Run, m api.Method, params []Value) Call
	calls   []Call
	input   []int64
	fuel    int
	steps   int
	used    int
	out     []int64
}

// Run calls the method entry of a file, and answers what is shown when the run has ended.
func (form Form) Run(f api.File, entry int, args, input []int64, fuel int) (api.Shown, api.Errno) {
	if e := form.refuses(f, entry, args, input, fuel); e != api.OK {
		return api.Shown{}, e
	}
	r := &Run{Heap: newHeap(f.Classes), Methods: f.Methods, begin: form.Begin, input: input, fuel: fuel}
	r.Call(entry, values(f.Methods[entry].Params, args))
	return r.shown(r.untilStop()), api.OK
}

func (form Form) refuses(f api.File, entry int, args, input []int64, fuel int) api.Errno {
	switch {
	case !form.May(f):
		return api.ErrForm
	case !span.Numbers(entry, len(f.Methods)) || !span.Within(fuel, 0, api.MaxFuel):
		return api.ErrRange
	case len(input) > api.MaxInput:
		return api.ErrSize
	case !takes(f.Methods[entry].Params, args):
		return api.ErrKind
	}
	return api.OK
}

func takes(params []api.Type, args []int64) bool {
	for _, t := range params {
		if t.Kind == api.KRef {
			return false
		}
	}
	return len(args) == len(params)
}

func values(params []api.Type, args []int64) []Value {
	l := make([]Value, len(params))
	for k, t := range params {
		l[k] = Long(args[k])
		if t.Kind == api.KInt {
			l[k] = Int(num.Narrow(args[k]))
		}
	}
	return l
}

// untilStop does steps until one of them, or the fuel, ends the run.
func (r *Run) untilStop() stop {
	for {
		s, stopped := attempt(r.step)
		if stopped && s.end == api.EndThrown {
			thrown := s.value
			s, stopped = attempt(func() { r.unwind(thrown) })
		}
		if stopped {
			return s
		}
	}
}

func (r *Run) step() {
	if r.steps >= r.fuel {
		End(api.EndFuel)
	}
	r.steps++
	r.top().Do()
}

func (r *Run) top() Call {
	return r.calls[len(r.calls)-1]
}

func (r *Run) drop() {
	r.calls = r.calls[:len(r.calls)-1]
}

// unwind ends calls until one catches what is thrown; where none does, it is thrown once more, and ends the run.
func (r *Run) unwind(thrown Value) {
	for len(r.calls) > 0 {
		if r.top().Catch(thrown) {
			return
		}
		r.drop()
	}
	r.Throw(thrown)
}

// Call calls a method.
func (r *Run) Call(method int, params []Value) {
	if len(r.calls) >= api.MaxCalls {
		End(api.EndDeep)
	}
	r.calls = append(r.calls, r.begin(r, r.Methods[method], params))
}

// Return comes back from the call, with what it gave: a value without a kind, if that is nothing.
func (r *Run) Return(v Value) {
	r.drop()
	if len(r.calls) == 0 {
		panic(stop{end: api.EndDone, value: v})
	}
	r.top().Back(v)
}

// Emit lets the number of v come out.
func (r *Run) Emit(v Value) {
	r.out = append(r.out, v.N)
}

// In answers the next number of the input, as a long.
func (r *Run) In() Value {
	if r.used >= len(r.input) {
		End(api.EndInput)
	}
	r.used++
	return Long(r.input[r.used-1])
}

func (r *Run) shown(s stop) api.Shown {
	shown := api.Shown{End: s.end, Out: r.out, Used: r.used, Steps: r.steps}
	switch {
	case s.end == api.EndThrown:
		shown.Class = r.classOf(s.value)
	case s.value.Kind != api.KRef:
		// A reference that the method gave is not told: its number is the heap's own.
		shown.Value = s.value.N
	}
	return shown
}
