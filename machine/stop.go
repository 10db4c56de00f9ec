package machine

import "crosswalk/api"

// stop is what a step panics with: it ends the run, or something is thrown (EndThrown, if nobody catches it).
type stop struct {
	end   int
	value Value
}

// End ends the run.
func End(end int) {
	panic(stop{end: end})
}

// Stuck ends the run where an instruction can't be done.
func Stuck() {
	End(api.EndStuck)
}

// attempt does something, and answers what stopped it, if anything did.
func attempt(do func()) (s stop, stopped bool) {
	defer func() {
		switch x := recover().(type) {
		case nil:
		case stop:
			s, stopped = x, true
		default:
			// No step panics with anything else: it would be a fault of this program, which must not pass for a stop.
			panic(x)
		}
	}()
	do()
	return stop{}, false
}
