package wire_test

import (
	"bytes"
	"encoding/binary"
	"math"
	"runtime"
	"slices"
	"testing"

	"crosswalk/api"
)

// withNumber has another number at a place.
func withNumber(b []byte, at int, n int64) []byte {
	b = slices.Clone(b)
	binary.BigEndian.PutUint64(b[at:], uint64(n))
	return b
}

func numberAt(b []byte, at int) int64 {
	return int64(binary.BigEndian.Uint64(b[at:]))
}

// The number of each list's items is another one, while the items stay as they are.
func TestL2WrongNumbersOfItems(t *testing.T) {
	for _, s := range samples() {
		l := laid(s.first, s.file)
		for _, at := range l.counts {
			was := numberAt(l.bytes, at)
			left := int64(len(l.bytes) - at - 8)
			for _, n := range []int64{
				-1, -2, -was - 1, was - 1, was + 1, was + 2, was + 100,
				left / 8, left/8 + 1, left, left + 1, int64(len(l.bytes)),
				was + 1<<8, was + 1<<16, was + 1<<31, was + 1<<32, was + 1<<48, was + 1<<56, was + 1<<60, was + 1<<61, was + 1<<62, was + math.MinInt64,
				math.MinInt64, math.MinInt64 + 1, math.MinInt32, math.MaxInt32, math.MaxInt64 - 1, math.MaxInt64,
			} {
				if n != was {
					checkNone(t, withNumber(l.bytes, at, n))
				}
			}
		}
	}
}

// The same, with an item more or less, as the number says, or with one less or more than it says.
func TestL2ItemsAndTheirNumber(t *testing.T) {
	add := []func(f *api.File){
		func(f *api.File) { f.Classes = append(f.Classes, api.Class{}) },
		func(f *api.File) { f.Classes[4].Fields = append(f.Classes[4].Fields, intType) },
		func(f *api.File) { f.Methods = append(f.Methods, f.Methods[1]) },
		func(f *api.File) { f.Methods[1].Code = append(f.Methods[1].Code, f.Methods[1].Code[0]) },
		func(f *api.File) { f.Methods[0].Handlers = append(f.Methods[0].Handlers, api.Handler{To: 1}) },
	}
	for k, f := range []func() api.File{stackFile, registersFile} {
		for _, change := range add {
			more := f()
			change(&more)
			was, now := laid(forms()[k], f()), laid(forms()[k], more)
			checkBoth(t, now.bytes, more)
			// A list that was put in has a number of its own: it is the first one with another number that tells.
			for n, at := range was.counts {
				if numberAt(was.bytes, at) != numberAt(now.bytes, now.counts[n]) {
					checkNone(t, withNumber(was.bytes, at, numberAt(was.bytes, at)+1))
					checkNone(t, withNumber(now.bytes, now.counts[n], numberAt(was.bytes, at)))
					break
				}
			}
		}
	}
}

// vast is so many bytes behind a beginning.
func vast(begin []byte, fill byte) []byte {
	return slices.Concat(begin, bytes.Repeat([]byte{fill}, 1<<23))
}

// There are bytes for a great many items, and numbers that name as many, or more: they are refused at once, and take little memory.
func TestP1ManyItems(t *testing.T) {
	l := laid(registers, registersFile())
	for _, n := range []int64{1 << 16, 1 << 19, 1 << 40, math.MaxInt64, -1} {
		for _, at := range l.counts {
			b := vast(withNumber(l.bytes, at, n)[:at+8], 0)
			var was, now runtime.MemStats
			runtime.ReadMemStats(&was)
			checkNone(t, b)
			runtime.ReadMemStats(&now)
			if used := now.TotalAlloc - was.TotalAlloc; used > 1<<20 {
				t.Errorf("%d at %d: %d bytes of memory", n, at, used)
			}
		}
	}
}

func TestP1VastBytes(t *testing.T) {
	for _, fill := range []byte{0, 1, 2, 4, 127, 128, 255} {
		for _, begin := range [][]byte{
			nil, {1}, {2},
			lay(1, 4), lay(2, 12), lay(1, math.MaxInt64),
			lay(1, 4, -1, 0, 0, 0, 0, 0, 0, 0, 1),
			lay(2, 4, -1, 0, 0, 0, 0, 0, 0, 0, 8, 0, 0, 0, 0, 0, 9, 2400),
			laid(2, registersFile()).bytes,
			laid(1, greatest(stack)).bytes,
		} {
			checkNone(t, vast(begin, fill))
		}
	}
}
