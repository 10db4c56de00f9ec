package drive

import (
	"strconv"
	"strings"
)

// maxNumber is the greatest number that a line may have.
const maxNumber = 999999

// readNumbers reads those that stand in rest with one blank between; there are none, if there is no more behind a line's first word.
func readNumbers(rest string, more bool) ([]int64, bool) {
	var l []int64
	for more {
		var word string
		word, rest, more = strings.Cut(rest, " ")
		n, ok := readNumber(word)
		if !ok {
			return nil, false
		}
		l = append(l, n)
	}
	return l, true
}

// readNumber takes a number only as it is told: so a 0 ahead of others, a + and a - ahead of 0 are none.
func readNumber(word string) (int64, bool) {
	n, err := strconv.ParseInt(word, 10, 64)
	if err != nil || n < -maxNumber || n > maxNumber || strconv.FormatInt(n, 10) != word {
		return 0, false
	}
	return n, true
}

// readBytes reads bytes that are written as two digits each.
func readBytes(digits string) ([]byte, bool) {
	if len(digits)%2 != 0 {
		return nil, false
	}
	b := make([]byte, len(digits)/2)
	for k := range b {
		high, low := digitOf(digits[2*k]), digitOf(digits[2*k+1])
		if high < 0 || low < 0 {
			return nil, false
		}
		b[k] = byte(16*high + low)
	}
	return b, true
}

// digitOf answers which digit c is; -1, if it is none.
func digitOf(c byte) int {
	return strings.IndexByte("0123456789abcdef", c)
}
