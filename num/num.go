// Package num works out ints and longs: see doc/01-num.md.
package num

import "crosswalk/api"

// Int answers the operation op of two ints, as an int; false where there is none.
func Int(op int, a, b int64) (int64, bool) {
	n, ok := Long(op, Narrow(a), Narrow(b))
	return Narrow(n), ok
}

// Long answers the operation op of two longs; 0 and false where there is none.
func Long(op int, a, b int64) (int64, bool) {
	switch op {
	case api.OpAdd:
		return a + b, true
	case api.OpSub:
		return a - b, true
	case api.OpMul:
		return a * b, true
	case api.OpDiv:
		return quotient(a, b)
	case api.OpRem:
		return remainder(a, b)
	case api.OpAnd:
		return a & b, true
	case api.OpOr:
		return a | b, true
	case api.OpXor:
		return a ^ b, true
	}
	return 0, false
}

// The least number by -1 needs no case of its own: the language itself answers the least number there.
func quotient(a, b int64) (int64, bool) {
	if b == 0 {
		return 0, false
	}
	return a / b, true
}

// Likewise 0 of the least number and -1.
func remainder(a, b int64) (int64, bool) {
	if b == 0 {
		return 0, false
	}
	return a % b, true
}

// Narrow answers the int that has a's lower 32 bits.
func Narrow(a int64) int64 {
	return int64(int32(a))
}

// Cmp answers -1, 0 or 1: a is less than b, the same, greater.
func Cmp(a, b int64) int64 {
	switch {
	case a < b:
		return -1
	case a > b:
		return 1
	}
	return 0
}

// Holds answers whether a is as cond says; a cond that is none holds of no number.
func Holds(cond int, a int64) bool {
	ask := asker(cond)
	return ask(a)
}

func asker(cond int) func(a int64) bool {
	return func(a int64) bool {
		switch cond {
		case api.CondZero:
			return a == 0
		case api.CondLess:
			return a < 0
		case api.CondBoth:
			return a != 0
		case api.CondAbove:
			return a > 0
		}
		return false
	}
}
