package wire_test

import (
	"bytes"
	"slices"
	"testing"

	"crosswalk/api"
)

// What was put is got, and put again.
func TestL2ThereAndBack(t *testing.T) {
	for _, s := range samples() {
		b := put(t, s.file)
		if b[0] != s.first {
			t.Errorf("%s: begins with %d", s.name, b[0])
		}
		checkGet(t, s.file, b)
		checkPut(t, b, s.file)
	}
}

func TestL2NoBytes(t *testing.T) {
	checkNone(t, nil)
	checkNone(t, []byte{})
	checkNone(t, put(t, least(1))[:0])
	for first := range 256 {
		checkNone(t, []byte{byte(first)})
		checkNone(t, lay(byte(first), 0))
		checkNone(t, lay(byte(first), 0, 0))
		checkNone(t, lay(byte(first), 4))
	}
}

func TestL2EachFirstByte(t *testing.T) {
	for _, s := range samples() {
		b := put(t, s.file)
		for first := range 256 {
			b[0] = byte(first)
			if b[0] == s.first {
				checkGet(t, s.file, b)
			} else {
				checkNone(t, b)
			}
		}
		checkNone(t, b[1:])
		checkNone(t, append([]byte{s.first, s.first}, b[1:]...))
		checkNone(t, append([]byte{0}, put(t, s.file)...))
	}
}

func TestL2EachBeginning(t *testing.T) {
	for _, s := range samples() {
		b := put(t, s.file)
		for n := range b {
			checkNone(t, b[:n])
			checkNone(t, slices.Clip(slices.Clone(b[:n])))
		}
		checkGet(t, s.file, b[:len(b):len(b)])
	}
	for _, first := range forms() {
		b := put(t, greatest(first))
		for n := 1; n < 100; n++ {
			checkNone(t, b[:len(b)-n])
			checkNone(t, b[:len(b)/100*n])
		}
	}
}

// An ending of a file's bytes is no file's, either, also with a first byte that could be.
func TestL2EachEnding(t *testing.T) {
	for _, s := range samples() {
		b := put(t, s.file)
		for n := 1; n < len(b); n++ {
			checkNone(t, b[n:])
			checkNone(t, append([]byte{s.first}, b[n+1:]...))
		}
	}
}

func TestL2MoreBytesBehind(t *testing.T) {
	for _, s := range samples() {
		b := put(t, s.file)
		for more := range 256 {
			checkNone(t, append(slices.Clone(b), byte(more)))
		}
		for n := 1; n < 200; n++ {
			checkNone(t, append(slices.Clone(b), make([]byte, n)...))
			checkNone(t, append(slices.Clone(b), b[:min(n, len(b))]...))
		}
		checkNone(t, append(slices.Clone(b), make([]byte, 1<<20)...))
		checkNone(t, bytes.Repeat(b, 2))
		checkNone(t, bytes.Repeat(b, 500))
	}
	for _, first := range forms() {
		checkNone(t, append(put(t, greatest(first)), 0))
	}
}

// wrongFiles may not be, on a stack nor on registers.
func wrongFiles() []api.File {
	l := []api.File{
		{},
		{Classes: []api.Class{}, Methods: []api.Method{}},
		{Classes: classes()},
		{Methods: stackFile().Methods},
		{Methods: registersFile().Methods},
		{Classes: classes(), Methods: []api.Method{{}}},
		{Classes: classes(), Methods: []api.Method{stackFile().Methods[1], registersFile().Methods[1]}},
		{Classes: classes(), Methods: []api.Method{registersFile().Methods[1], stackFile().Methods[1]}},
		{Classes: classes(), Methods: make([]api.Method, api.MaxMethods)},
	}
	for _, change := range wrongs() {
		for _, f := range []api.File{stackFile(), registersFile()} {
			change(&f)
			l = append(l, f)
		}
	}
	return l
}

// wrongs are changes of which each makes of any file one that may not be.
func wrongs() []func(f *api.File) {
	code := func(m *api.Method, least int) {
		m.Code = append(m.Code, slices.Repeat(m.Code[:1], max(0, least-len(m.Code)))...)
	}
	return []func(f *api.File){
		func(f *api.File) { f.Classes[0].Super = 0 },
		func(f *api.File) { f.Classes[0].Super = -2 },
		func(f *api.File) { f.Classes[3].Super = 3 },
		func(f *api.File) { f.Classes[3].Super = -1 },
		func(f *api.File) { f.Classes = f.Classes[:3] },
		func(f *api.File) { f.Classes = append(f.Classes, make([]api.Class, api.MaxClasses)...) },
		func(f *api.File) { f.Classes[4].Fields[0].Kind = api.KVoid },
		func(f *api.File) { f.Classes[4].Fields[0].Kind = 4 },
		func(f *api.File) { f.Classes[4].Fields[0] = ref(len(f.Classes)) },
		func(f *api.File) { f.Classes[4].Fields[0] = ref(-1) },
		func(f *api.File) { f.Classes[4].Fields[0] = api.Type{Kind: api.KInt, Class: 1} },
		func(f *api.File) { f.Classes[1].Fields = slices.Repeat(types(intType), api.MaxFields+1) },
		func(f *api.File) { f.Methods = nil },
		func(f *api.File) { f.Methods = slices.Repeat(f.Methods[1:2], api.MaxMethods+1) },
		func(f *api.File) { f.Methods[1].Params = slices.Repeat(types(intType), api.MaxParams+1) },
		func(f *api.File) { f.Methods[0].Params[0] = api.Type{} },
		func(f *api.File) { f.Methods[0].Ret = api.Type{Class: 1} },
		func(f *api.File) { f.Methods[0].Ret.Kind = -1 },
		func(f *api.File) { f.Methods[0].Stack, f.Methods[0].Regs = 1, 9 },
		func(f *api.File) { f.Methods[0].Stack = -1 },
		func(f *api.File) { f.Methods[0].Stack = api.MaxStack + 1 },
		func(f *api.File) { f.Methods[0].Locals = api.MaxLocals + 1 },
		func(f *api.File) { f.Methods[0].Regs = api.MaxRegs + 1 },
		func(f *api.File) { f.Methods[0].Locals, f.Methods[0].Regs = 0, 0 },
		func(f *api.File) { f.Methods[1].Code = nil },
		func(f *api.File) { code(&f.Methods[0], api.MaxRegCode+1) },
		func(f *api.File) { f.Methods[0].Code[0].Op = 0 },
		func(f *api.File) { f.Methods[0].Code[0].Op = -1 },
		func(f *api.File) { f.Methods[0].Code[0].Op = 26 },
		func(f *api.File) { f.Methods[0].Code[0].Op += 256 },
		func(f *api.File) { f.Methods[0].Code[0].A = 1 << 32 },
		func(f *api.File) { f.Methods[0].Code[0].A = -1 },
		func(f *api.File) { f.Methods[0].Code[0].B = 1 },
		func(f *api.File) { f.Methods[0].Code[0].C = 1 },
		func(f *api.File) { f.Methods[0].Code[0] = api.Ins{Op: api.SInt, N: 1 << 31} },
		func(f *api.File) { f.Methods[0].Code[0] = api.Ins{Op: api.SNull, N: 1} },
		func(f *api.File) { f.Methods[0].Code[0].Args = []int{0} },
		func(f *api.File) { f.Methods[0].Code[0].Args = []int{0, 0, 0, 0, 0} },
		func(f *api.File) { f.Methods[0].Handlers[0].From = -1 },
		func(f *api.File) { f.Methods[0].Handlers[0].From = f.Methods[0].Handlers[0].To },
		func(f *api.File) { f.Methods[0].Handlers[0].To = len(f.Methods[0].Code) + 1 },
		func(f *api.File) { f.Methods[0].Handlers[0].At = len(f.Methods[0].Code) },
		func(f *api.File) { f.Methods[0].Handlers[0].Class = len(f.Classes) },
		func(f *api.File) {
			f.Methods[0].Handlers = slices.Repeat([]api.Handler{{To: 1}}, api.MaxHandlers+1)
		},
	}
}

func TestL2FilesThatMayNotBe(t *testing.T) {
	for _, f := range wrongFiles() {
		checkNoPut(t, f)
		for _, first := range []byte{0, 1, 2, 3, 255} {
			checkNone(t, laid(first, f).bytes)
		}
	}
}

// A method on a stack may have fewer instructions than one on registers.
func TestL2InstructionsOfEitherForm(t *testing.T) {
	for regs, first := range forms() {
		for _, n := range []int{1, 2, api.MaxCode - 1, api.MaxCode, api.MaxCode + 1, api.MaxRegCode - 1, api.MaxRegCode, api.MaxRegCode + 1} {
			f := least(regs)
			f.Methods[0].Code = slices.Repeat(f.Methods[0].Code, n)
			b := laid(first, f).bytes
			if first == stack && n > api.MaxCode || n > api.MaxRegCode {
				checkNoPut(t, f)
				checkNone(t, b)
			} else {
				checkBoth(t, b, f)
			}
		}
	}
}

// One too many of each, where all others are few.
func TestL2OneTooMany(t *testing.T) {
	for regs, first := range forms() {
		for _, change := range []func(f *api.File){
			func(f *api.File) { f.Classes = append(f.Classes, make([]api.Class, api.MaxClasses-3)...) },
			func(f *api.File) { f.Classes[3].Fields = slices.Repeat(types(intType), api.MaxFields+1) },
			func(f *api.File) { f.Methods = slices.Repeat(f.Methods, api.MaxMethods+1) },
			func(f *api.File) {
				f.Methods[0].Params = slices.Repeat(types(intType), api.MaxParams+1)
				f.Methods[0].Locals, f.Methods[0].Regs = 9*(1-regs), 9*regs
			},
			func(f *api.File) {
				f.Methods[0].Handlers = slices.Repeat([]api.Handler{{To: 1}}, api.MaxHandlers+1)
			},
			func(f *api.File) {
				f.Methods[0].Code = []api.Ins{{Op: []int{api.SCall, api.RCall}[regs], Args: []int{0}}}
			},
		} {
			f := least(regs)
			change(&f)
			checkNoPut(t, f)
			checkNone(t, laid(first, f).bytes)
		}
	}
}
