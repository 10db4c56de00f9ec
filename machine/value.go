// Package machine has what runs have alike in both forms of code: values, slots, objects, calls, and how a run ends (doc/04-srun.md, doc/07-rrun.md).
package machine

import (
	"crosswalk/api"
	"crosswalk/sform"
)

// Value is an int, a long or a reference; one without a kind is none.
type Value struct {
	Kind int
	// Objects are numbered from 1 on: so a reference to nothing is 0, as a number is that nobody has stored yet.
	N int64
}

// Int answers n as an int.
func Int(n int64) Value {
	return Value{Kind: api.KInt, N: n}
}

// Long answers n as a long.
func Long(n int64) Value {
	return Value{Kind: api.KLong, N: n}
}

// Nothing answers a reference to nothing.
func Nothing() Value {
	return Value{Kind: api.KRef}
}

// RefOf answers the type of references to objects of the class.
func RefOf(class int) api.Type {
	return api.Type{Kind: api.KRef, Class: class}
}

// Truth answers the int that tells whether something is so.
func Truth(so bool) Value {
	if so {
		return Int(1)
	}
	return Int(0)
}

// IsNothing answers whether v is a reference to nothing.
func (v Value) IsNothing() bool {
	return v == Nothing()
}

// MustBe answers v; the run is stuck, if it is not of the kind.
func (v Value) MustBe(kind int) Value {
	if v.Kind != kind {
		Stuck()
	}
	return v
}

// Slots are the locals of a call, or its registers.
type Slots []Value

// second is the kind of what is in the second slot of a long: no instruction asks for it.
const second = api.KRef + 1

// NewSlots answers so many slots, with the values in the first ones.
func NewSlots(count int, values ...Value) Slots {
	s := make(Slots, count)
	at := 0
	for _, v := range values {
		s.Write(at, v)
		at += sform.Width(v.Kind)
	}
	return s
}

// Read answers the value in a slot; the run is stuck, if none of the kind is there.
// A long that has lost one of its slots is found out here: nothing but the storing of a long makes a second slot behind a first one.
func (s Slots) Read(at, kind int) Value {
	v := s[at].MustBe(kind)
	if kind == api.KLong {
		s[at+1].MustBe(second)
	}
	return v
}

// Write stores v in a slot, a long in the next one, too.
func (s Slots) Write(at int, v Value) {
	s[at] = v
	if v.Kind == api.KLong {
		s[at+1] = Value{Kind: second}
	}
}
