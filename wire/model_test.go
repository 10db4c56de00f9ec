package wire_test

import (
	"math/big"
	"reflect"
	"slices"
	"testing"

	"crosswalk/api"
)

// layer lays anything field by field, in the order in which package api has the fields, whether it may be or not.
type layer struct {
	bytes []byte
	// counts are the places at which the numbers of lists begin, rows those of all other numbers.
	counts, rows []int
}

func laid(first byte, f api.File) layer {
	l := layer{bytes: []byte{first}}
	l.lay(reflect.ValueOf(f))
	return l
}

func (l *layer) lay(v reflect.Value) {
	switch v.Kind() {
	case reflect.Slice:
		l.counts = append(l.counts, len(l.bytes))
		l.number(int64(v.Len()))
		for k := range v.Len() {
			l.lay(v.Index(k))
		}
	case reflect.Struct:
		for k := range v.NumField() {
			l.lay(v.Field(k))
		}
	default:
		l.rows = append(l.rows, len(l.bytes))
		l.number(v.Int())
	}
}

// number goes by the document's words: one below 0 is laid as it and 2^64 together.
func (l *layer) number(n int64) {
	all := big.NewInt(n)
	if n < 0 {
		all.Add(all, new(big.Int).Lsh(big.NewInt(1), 64))
	}
	l.bytes = append(l.bytes, all.FillBytes(make([]byte, 8))...)
}

// finder finds the file of which bytes are, if there is one.
type finder struct {
	left []byte
	lost bool
}

func found(b []byte) (api.File, bool) {
	var f api.File
	if len(b) == 0 {
		return f, false
	}
	x := &finder{left: b[1:]}
	x.find(reflect.ValueOf(&f).Elem())
	if x.lost || len(x.left) > 0 || b[0] == 0 || formOf(f) != b[0] {
		return api.File{}, false
	}
	return f, true
}

func (x *finder) find(v reflect.Value) {
	switch v.Kind() {
	case reflect.Slice:
		for n := x.number(); n != 0 && !x.lost; n-- {
			one := reflect.New(v.Type().Elem()).Elem()
			x.find(one)
			v.Set(reflect.Append(v, one))
		}
	case reflect.Struct:
		for k := range v.NumField() {
			x.find(v.Field(k))
		}
	default:
		v.SetInt(int64(x.number()))
	}
}

func (x *finder) number() uint64 {
	if len(x.left) < 8 {
		x.lost = true
		return 0
	}
	n := new(big.Int).SetBytes(x.left[:8]).Uint64()
	x.left = x.left[8:]
	return n
}

// checkFound looks whether Get answers what is found, and answers whether there is a file.
func checkFound(t *testing.T, b []byte) bool {
	t.Helper()
	f, ok := found(b)
	if !ok {
		checkNone(t, b)
		return false
	}
	checkBoth(t, b, f)
	return true
}

// The models must know their own words, or the tests that lean on them would look at nothing.
func TestModels(t *testing.T) {
	for _, s := range samples() {
		l := laid(s.first, s.file)
		if f, ok := found(l.bytes); !ok || !sameFile(f, s.file) {
			t.Errorf("%s: found %+v", s.name, f)
		}
		if 8*(len(l.counts)+len(l.rows))+1 != len(l.bytes) {
			t.Errorf("%s: %d lists, %d other numbers, %d bytes", s.name, len(l.counts), len(l.rows), len(l.bytes))
		}
	}
	if l := laid(2, api.File{Classes: []api.Class{{Super: -2}, {Super: 258}}}); !slices.Equal(l.bytes, lay(2, 2, -2, 0, 258, 0, 0)) {
		t.Errorf("laid %v", l.bytes)
	}
	for _, f := range wrongFiles() {
		for _, first := range []byte{0, 1, 2, 3} {
			if g, ok := found(laid(first, f).bytes); ok {
				t.Errorf("found %+v", g)
			}
		}
	}
}
