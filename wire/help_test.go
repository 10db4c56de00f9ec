package wire_test

import (
	"bytes"
	"encoding/binary"
	"slices"
	"testing"

	"crosswalk/api"
	"crosswalk/rform"
	"crosswalk/sform"
	"crosswalk/wire"
)

var (
	intType  = api.Type{Kind: api.KInt}
	longType = api.Type{Kind: api.KLong}
)

func ref(class int) api.Type {
	return api.Type{Kind: api.KRef, Class: class}
}

func types(l ...api.Type) []api.Type {
	return l
}

// What the first byte is.
const (
	stack     = 1
	registers = 2
)

func forms() []byte {
	return []byte{stack, registers}
}

// classes has five: class 3 has three fields of its own, class 4, which stands below it, one.
func classes() []api.Class {
	return []api.Class{
		{Super: -1},
		{Super: 0},
		{Super: 1},
		{Super: 0, Fields: types(intType, ref(4), longType)},
		{Super: 3, Fields: types(ref(2))},
	}
}

// stackFile has something in each list that a file on a stack may have, and something else in each field.
func stackFile() api.File {
	return api.File{Classes: classes(), Methods: []api.Method{
		{
			Params: types(longType, ref(3)),
			Ret:    ref(4),
			Stack:  7,
			Locals: 5,
			Code: []api.Ins{
				{Op: api.SInt, N: -2147483648},
				{Op: api.SLong, N: -1 << 63},
				{Op: api.SLoad, A: 2, B: api.KRef},
				{Op: api.SIf, A: 1, B: api.CondAbove},
				{Op: api.SGet, A: 3, B: 1},
				{Op: api.SReturn},
			},
			Handlers: []api.Handler{{From: 1, To: 4, At: 5, Class: 2}, {From: 0, To: 6, At: 3, Class: 4}},
		},
		{Code: []api.Ins{{Op: api.SReturn}}},
	}}
}

// registersFile is the same of a file on registers.
func registersFile() api.File {
	return api.File{Classes: classes(), Methods: []api.Method{
		{
			Params: types(ref(4), longType, intType),
			Ret:    longType,
			Regs:   9,
			Code: []api.Ins{
				{Op: api.RLong, A: 4, N: 1<<63 - 1},
				{Op: api.RMove, A: 1, B: 4, C: api.KLong},
				{Op: api.RIntOp, A: 6, B: 7, C: 8, N: api.OpXor},
				{Op: api.RCall, A: 0, Args: []int{8, 6, 3}},
				{Op: api.RPut, A: 5, B: 2, C: 3, N: 2},
				{Op: api.RReturn, A: 7},
			},
			Handlers: []api.Handler{{From: 2, To: 3, At: 4, Class: 1}},
		},
		{Regs: 1, Code: []api.Ins{{Op: api.RReturn}}},
	}}
}

// least is the least file on registers, or on a stack.
func least(regs int) api.File {
	op := api.SReturn
	if regs > 0 {
		op = api.RReturn
	}
	return api.File{
		Classes: []api.Class{{Super: -1}, {}, {}, {}},
		Methods: []api.Method{{Regs: regs, Code: []api.Ins{{Op: op}}}},
	}
}

// sample is a file that may be, with its first byte.
type sample struct {
	name  string
	first byte
	file  api.File
}

func samples() []sample {
	return []sample{
		{"stack", stack, stackFile()},
		{"registers", registers, registersFile()},
		{"least on a stack", stack, least(0)},
		{"least on registers", registers, least(1)},
	}
}

// lay lays numbers behind a first byte, each as eight bytes.
func lay(first byte, numbers ...int64) []byte {
	b := []byte{first}
	for _, n := range numbers {
		b = binary.BigEndian.AppendUint64(b, uint64(n))
	}
	return b
}

func formOf(f api.File) byte {
	switch {
	case sform.May(f):
		return stack
	case rform.May(f):
		return registers
	}
	return 0
}

func put(t *testing.T, f api.File) []byte {
	t.Helper()
	b, e := wire.Put(f)
	if e != api.OK {
		t.Fatalf("Put answers %d of %+v", e, f)
	}
	return b
}

func checkPut(t *testing.T, want []byte, f api.File) {
	t.Helper()
	if got := put(t, f); !bytes.Equal(got, want) {
		t.Fatalf("Put answers\n%v, want\n%v of %+v", got, want, f)
	}
}

func checkGet(t *testing.T, want api.File, b []byte) {
	t.Helper()
	got, e := wire.Get(b)
	if e != api.OK || !sameFile(got, want) {
		t.Fatalf("Get answers %d and\n%+v, want\n%+v", e, got, want)
	}
}

// checkBoth looks at both ways.
func checkBoth(t *testing.T, b []byte, f api.File) {
	t.Helper()
	checkPut(t, b, f)
	checkGet(t, f, b)
}

// checkNoPut looks whether Put refuses a file, and answers nothing else.
func checkNoPut(t *testing.T, f api.File) {
	t.Helper()
	if b, e := wire.Put(f); e != api.ErrForm || len(b) != 0 {
		t.Fatalf("Put answers %v and %d of %+v", b, e, f)
	}
}

// checkNone looks whether Get refuses bytes, and answers nothing else.
func checkNone(t *testing.T, b []byte) {
	t.Helper()
	if f, e := wire.Get(b); e != api.ErrForm || len(f.Classes) != 0 || len(f.Methods) != 0 {
		t.Fatalf("Get answers %+v and %d of %v", f, e, b[:min(len(b), 2000)])
	}
}

// sameFile takes an empty list for the same, whether it is nil or not.
func sameFile(f, g api.File) bool {
	return slices.EqualFunc(f.Classes, g.Classes, sameClass) && slices.EqualFunc(f.Methods, g.Methods, sameMethod)
}

func sameClass(c, d api.Class) bool {
	return c.Super == d.Super && slices.Equal(c.Fields, d.Fields)
}

func sameMethod(m, n api.Method) bool {
	return slices.Equal(m.Params, n.Params) && m.Ret == n.Ret && m.Stack == n.Stack && m.Locals == n.Locals && m.Regs == n.Regs &&
		slices.EqualFunc(m.Code, n.Code, sameIns) && slices.Equal(m.Handlers, n.Handlers)
}

func sameIns(i, j api.Ins) bool {
	return i.Op == j.Op && i.A == j.A && i.B == j.B && i.C == j.C && i.N == j.N && slices.Equal(i.Args, j.Args)
}
