package wire_test

import (
	"bytes"
	"math"
	"reflect"
	"slices"
	"testing"
	"unsafe"

	"crosswalk/api"
	"crosswalk/wire"
)

// Put answers bytes of files that may be, and of those alone, whatever it is given.
func TestP1WhateverIsGiven(t *testing.T) {
	far := []int{math.MinInt, -1, 0, 1, 2, 3, 20, 24, 90, 1 << 32, math.MaxInt}
	look := func(f api.File) {
		if first := formOf(f); first == 0 {
			checkNoPut(t, f)
			checkNone(t, laid(1, f).bytes)
			checkNone(t, laid(2, f).bytes)
		} else {
			checkBoth(t, laid(first, f).bytes, f)
		}
	}
	for _, a := range far {
		for _, b := range far {
			for _, op := range far {
				for _, i := range []api.Ins{{Op: op, A: a, B: b}, {Op: op, A: a, C: b}, {Op: op, A: a, N: int64(b)}, {Op: op, A: a, Args: []int{b}}} {
					for regs := range 2 {
						f := least(regs)
						f.Methods[0].Code[0] = i
						look(f)
						f.Methods[0].Handlers = []api.Handler{{From: a, To: b, At: op, Class: a}}
						look(f)
					}
					look(api.File{Classes: []api.Class{{Super: a, Fields: types(api.Type{Kind: b, Class: op})}}, Methods: []api.Method{{Code: []api.Ins{i}}}})
					look(api.File{Classes: classes(), Methods: []api.Method{{Params: types(ref(a)), Ret: api.Type{Kind: b}, Stack: a, Locals: b, Regs: op, Code: []api.Ins{i}}}})
				}
			}
		}
	}
}

// stuffed has behind the length of each list what may not be.
func stuffed(f api.File) api.File {
	f.Classes = append(f.Classes, api.Class{Super: 99})
	f.Methods = append(f.Methods, api.Method{Stack: 99})
	for c := range f.Classes {
		f.Classes[c].Fields = append(f.Classes[c].Fields, ref(99))
	}
	for k := range f.Methods {
		m := &f.Methods[k]
		m.Params = append(m.Params, ref(99))
		m.Code = append(m.Code, api.Ins{Op: 99})
		m.Handlers = append(m.Handlers, api.Handler{From: 99})
		for at := range m.Code {
			m.Code[at].Args = append(m.Code[at].Args, 99)
		}
	}
	return f
}

// cut cuts what stuffed has put behind the lists off again; it lies behind their lengths.
func cut(f api.File) api.File {
	f.Classes = slices.Clone(f.Classes)
	for c, class := range f.Classes {
		f.Classes[c].Fields = class.Fields[:len(class.Fields)-1]
	}
	f.Methods = slices.Clone(f.Methods)
	for k := range f.Methods {
		m := &f.Methods[k]
		m.Params, m.Handlers = m.Params[:len(m.Params)-1], m.Handlers[:len(m.Handlers)-1]
		m.Code = slices.Clone(m.Code)
		for at, i := range m.Code {
			m.Code[at].Args = i.Args[:len(i.Args)-1]
		}
		m.Code = m.Code[:len(m.Code)-1]
	}
	f.Classes, f.Methods = f.Classes[:len(f.Classes)-1], f.Methods[:len(f.Methods)-1]
	return f
}

func TestP3FilesAreNotChangedNorReadBeyondTheLengths(t *testing.T) {
	for _, s := range samples() {
		want := put(t, s.file)
		again, _ := found(want)
		whole := stuffed(again)
		f := cut(whole)
		checkBoth(t, want, f)
		again, _ = found(want)
		if !reflect.DeepEqual(whole, stuffed(again)) {
			t.Errorf("%s: changed: %+v", s.name, whole)
		}
		if c := f.Classes[:len(f.Classes)+1]; c[len(c)-1].Super != 99 {
			t.Errorf("%s: changed: %+v", s.name, c)
		}
		for _, m := range f.Methods {
			if l := m.Code[:len(m.Code)+1]; l[len(l)-1].Op != 99 {
				t.Errorf("%s: changed: %+v", s.name, l)
			}
		}
	}
}

func TestP3WrongFilesAreNotChanged(t *testing.T) {
	same := wrongFiles()
	for k, f := range wrongFiles() {
		checkNoPut(t, f)
		if !reflect.DeepEqual(f, same[k]) {
			t.Fatalf("changed: %+v", f)
		}
	}
}

// What lies behind the bytes is neither read nor written, be it what lacks or what is too much.
func TestP3BytesAreNotChangedNorReadBeyondTheirLength(t *testing.T) {
	for _, s := range samples() {
		b := put(t, s.file)
		for n := range b {
			was := slices.Clone(b)
			checkNone(t, b[:n])
			if !bytes.Equal(b, was) {
				t.Fatalf("%s: changed: %v", s.name, b)
			}
		}
		whole := slices.Concat(b, b, []byte{1, 2, 3})
		was := slices.Clone(whole)
		checkGet(t, s.file, whole[:len(b)])
		if !bytes.Equal(whole, was) {
			t.Errorf("%s: changed: %v", s.name, whole)
		}
	}
}

func get(t *testing.T, b []byte) api.File {
	t.Helper()
	f, e := wire.Get(b)
	if e != api.OK {
		t.Fatalf("Get answers %d", e)
	}
	return f
}

// Bytes that were put are written over, and so are those that were got, and the files: nothing else is.
func TestP3NothingIsKept(t *testing.T) {
	for k, s := range samples() {
		want := put(t, s.file)
		for at := range want {
			want[at] = 77
		}
		if !sameFile(s.file, samples()[k].file) {
			t.Fatalf("%s: changed: %+v", s.name, s.file)
		}
		want = put(t, s.file)
		checkBoth(t, laid(s.first, s.file).bytes, s.file)
		b := slices.Clone(want)
		one, other := get(t, b), get(t, b)
		for at := range b {
			b[at] = 77
		}
		if !sameFile(one, s.file) {
			t.Fatalf("%s: changed: %+v", s.name, one)
		}
		wreck(one)
		if !sameFile(other, s.file) {
			t.Fatalf("%s: changed: %+v", s.name, other)
		}
		checkBoth(t, want, s.file)
	}
}

// wreck writes over all that a file has, and behind it.
func wreck(f api.File) {
	for c := range f.Classes {
		fill(f.Classes[c].Fields, ref(77))
	}
	for _, m := range f.Methods {
		fill(m.Params, ref(77))
		fill(m.Handlers, api.Handler{At: 77})
		for _, i := range m.Code {
			fill(i.Args, 77)
		}
		fill(m.Code, api.Ins{Op: 77})
	}
	fill(f.Classes, api.Class{Super: 77})
	fill(f.Methods, api.Method{Regs: 77})
}

func fill[T any](l []T, item T) {
	l = l[:cap(l)]
	for k := range l {
		l[k] = item
	}
}

// span is where the memory of a list begins and ends, with what lies behind its length.
type span struct{ from, to uintptr }

func spanOf[T any](l []T) span {
	var one T
	from := uintptr(unsafe.Pointer(unsafe.SliceData(l)))
	return span{from, from + uintptr(cap(l))*unsafe.Sizeof(one)}
}

func spans(f api.File) []span {
	l := []span{spanOf(f.Classes), spanOf(f.Methods)}
	for _, c := range f.Classes {
		l = append(l, spanOf(c.Fields))
	}
	for _, m := range f.Methods {
		l = append(l, spanOf(m.Params), spanOf(m.Code), spanOf(m.Handlers))
		for _, i := range m.Code {
			l = append(l, spanOf(i.Args))
		}
	}
	return l
}

func TestP3NoTwoListsShareMemory(t *testing.T) {
	r := newMaker(5, 20)
	files := []api.File{stackFile(), registersFile()}
	for n := range 40 {
		files = append(files, r.make(forms()[n%2]))
	}
	for _, f := range files {
		b := put(t, f)
		all := append(spans(f), spanOf(b))
		for _, s := range spans(get(t, b)) {
			for _, x := range all {
				if s.from < x.to && x.from < s.to {
					t.Fatalf("shared: %+v", f)
				}
			}
			all = append(all, s)
		}
	}
}

// What is answered hangs on nothing but what is given.
func TestP3TheSameAgain(t *testing.T) {
	r := newMaker(6, 30)
	for n := range 200 {
		f := r.make(forms()[n%2])
		b := put(t, f)
		g := get(t, b)
		checkNone(t, b[:len(b)-1])
		checkNoPut(t, api.File{})
		checkBoth(t, b, f)
		checkBoth(t, b, g)
	}
}
