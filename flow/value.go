// Package flow has what checks have alike in both forms of code: what is known of values, the states of instructions, and which one leads where (doc/05-scheck.md, doc/08-rcheck.md).
package flow

import "crosswalk/api"

// Value is what a state says of a value, or of a slot: mostly a type; without a kind it is anything.
type Value api.Type

// second is the kind of what is in the second slot of a long: no instruction asks for it.
const second = api.KRef + 1

// noClass is no class's number: so a reference to nothing is of the kind of all references, and the same as none of a class.
const noClass = -1

// Int answers what is said of an int.
func Int() Value {
	return Value{Kind: api.KInt}
}

// Long answers what is said of a long, or of its first slot.
func Long() Value {
	return Value{Kind: api.KLong}
}

// Ref answers what is said of a reference of the class.
func Ref(class int) Value {
	return Value{Kind: api.KRef, Class: class}
}

// Nothing answers what is said of a reference to nothing.
func Nothing() Value {
	return Ref(noClass)
}

// MustBe answers v; it gives up, if v is not of the kind.
func (v Value) MustBe(kind int) Value {
	if v.Kind != kind {
		GiveUp()
	}
	return v
}

// both answers what two that say not the same say together.
func both(joins [][]int, v, w Value) Value {
	switch {
	case v.Kind != api.KRef || w.Kind != api.KRef:
		return Value{}
	case v == Nothing():
		return w
	case w == Nothing():
		return v
	}
	return Ref(joins[v.Class][w.Class])
}
