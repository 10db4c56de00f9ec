package flow

// cannot is what is panicked with where an instruction can't be so, or a state is broken.
type cannot struct{}

// GiveUp gives the method up.
func GiveUp() {
	panic(cannot{})
}

// holds does something, and answers whether it did not give up.
func holds(do func()) (so bool) {
	defer func() {
		switch x := recover().(type) {
		case nil, cannot:
		default:
			// Nothing panics with anything else: it would be a fault of this program, which must not pass for one of the method.
			panic(x)
		}
	}()
	do()
	return true
}
