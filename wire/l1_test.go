package wire_test

import (
	"bytes"
	"math"
	"slices"
	"testing"

	"crosswalk/api"
)

func TestL1ByteForByte(t *testing.T) {
	checkBoth(t, []byte{
		2,
		0, 0, 0, 0, 0, 0, 0, 4, // Classes
		255, 255, 255, 255, 255, 255, 255, 255, // Super
		0, 0, 0, 0, 0, 0, 0, 0, // Fields
		0, 0, 0, 0, 0, 0, 0, 0, // Super
		0, 0, 0, 0, 0, 0, 0, 1, // Fields
		0, 0, 0, 0, 0, 0, 0, 2, // Kind
		0, 0, 0, 0, 0, 0, 0, 0, // Class
		0, 0, 0, 0, 0, 0, 0, 0, // Super
		0, 0, 0, 0, 0, 0, 0, 0, // Fields
		0, 0, 0, 0, 0, 0, 0, 2, // Super
		0, 0, 0, 0, 0, 0, 0, 0, // Fields
		0, 0, 0, 0, 0, 0, 0, 1, // Methods
		0, 0, 0, 0, 0, 0, 0, 0, // Params
		0, 0, 0, 0, 0, 0, 0, 3, // Ret: Kind
		0, 0, 0, 0, 0, 0, 0, 1, // Class
		0, 0, 0, 0, 0, 0, 0, 0, // Stack
		0, 0, 0, 0, 0, 0, 0, 0, // Locals
		0, 0, 0, 0, 0, 0, 0, 90, // Regs
		0, 0, 0, 0, 0, 0, 0, 2, // Code
		0, 0, 0, 0, 0, 0, 0, 2, // Op
		0, 0, 0, 0, 0, 0, 0, 88, // A
		0, 0, 0, 0, 0, 0, 0, 0, // B
		0, 0, 0, 0, 0, 0, 0, 0, // C
		254, 253, 252, 251, 250, 249, 248, 247, // N
		0, 0, 0, 0, 0, 0, 0, 0, // Args
		0, 0, 0, 0, 0, 0, 0, 20, // Op
		0, 0, 0, 0, 0, 0, 0, 7, // A
		0, 0, 0, 0, 0, 0, 0, 0, // B
		0, 0, 0, 0, 0, 0, 0, 0, // C
		0, 0, 0, 0, 0, 0, 0, 0, // N
		0, 0, 0, 0, 0, 0, 0, 0, // Args
		0, 0, 0, 0, 0, 0, 0, 0, // Handlers
	}, api.File{
		Classes: []api.Class{{Super: -1}, {Fields: types(longType)}, {}, {Super: 2}},
		Methods: []api.Method{{Ret: ref(1), Regs: 90, Code: []api.Ins{{Op: api.RLong, A: 88, N: -0x0102030405060709}, {Op: api.RReturn, A: 7}}}},
	})
}

// classNumbers are those of classes().
func classNumbers() []int64 {
	return []int64{
		5,
		-1, 0,
		0, 0,
		1, 0,
		0, 3, 1, 0, 3, 4, 2, 0,
		3, 1, 3, 2,
	}
}

func TestL1AFileOnAStack(t *testing.T) {
	numbers := slices.Concat(classNumbers(), []int64{
		2,
		// Params, Ret, Stack, Locals, Regs
		2, 2, 0, 3, 3,
		3, 4,
		7, 5, 0,
		// Code: Op, A, B, C, N, Args
		6,
		1, 0, 0, 0, -2147483648, 0,
		2, 0, 0, 0, math.MinInt64, 0,
		4, 2, 3, 0, 0, 0,
		12, 1, 4, 0, 0, 0,
		15, 3, 1, 0, 0, 0,
		20, 0, 0, 0, 0, 0,
		// Handlers: From, To, At, Class
		2,
		1, 4, 5, 2,
		0, 6, 3, 4,
		// The other method
		0,
		0, 0,
		0, 0, 0,
		1,
		20, 0, 0, 0, 0, 0,
		0,
	})
	checkBoth(t, lay(stack, numbers...), stackFile())
}

func TestL1AFileOnRegisters(t *testing.T) {
	numbers := slices.Concat(classNumbers(), []int64{
		2,
		// Params, Ret, Stack, Locals, Regs
		3, 3, 4, 2, 0, 1, 0,
		2, 0,
		0, 0, 9,
		// Code: Op, A, B, C, N, Args
		6,
		2, 4, 0, 0, math.MaxInt64, 0,
		4, 1, 4, 2, 0, 0,
		5, 6, 7, 8, 8, 0,
		18, 0, 0, 0, 0, 3, 8, 6, 3,
		15, 5, 2, 3, 2, 0,
		20, 7, 0, 0, 0, 0,
		// Handlers: From, To, At, Class
		1,
		2, 3, 4, 1,
		// The other method
		0,
		0, 0,
		0, 0, 1,
		1,
		20, 0, 0, 0, 0, 0,
		0,
	})
	checkBoth(t, lay(registers, numbers...), registersFile())
}

func TestL1Example(t *testing.T) {
	for regs, first := range forms() {
		b := put(t, least(regs))
		if !bytes.HasPrefix(b, []byte{first, 0, 0, 0, 0, 0, 0, 0, 4}) {
			t.Errorf("begins with %v", b[:9])
		}
	}
}

// leastAround has the bytes of least(regs) ahead of N of its one instruction, and behind it.
func leastAround(regs, op int64) (ahead, behind []int64) {
	return []int64{4, -1, 0, 0, 0, 0, 0, 0, 0, 1, 0, 0, 0, 0, 0, regs, 1, op, 0, 0, 0}, []int64{0, 0}
}

func TestL1EachNumber(t *testing.T) {
	numbers := []int64{
		math.MinInt64, math.MinInt64 + 1, math.MaxInt64, math.MaxInt64 - 1, 0, 1, -1, -2, -255, -256, -257, 127, 128, 255, 256, 257,
		0x0102030405060708, -0x0102030405060708, 1 << 32, -1 << 32, 1<<32 - 1, math.MinInt32, math.MaxInt32,
	}
	for bit := range 64 {
		numbers = append(numbers, 1<<bit, -1<<bit, 1<<bit-1, ^(1 << bit))
	}
	for _, n := range numbers {
		for k, op := range []int{api.SLong, api.RLong} {
			regs := 2 * k
			f := least(regs)
			f.Methods[0].Code[0] = api.Ins{Op: op, N: n}
			ahead, behind := leastAround(int64(regs), int64(op))
			checkBoth(t, lay(forms()[k], slices.Concat(ahead, []int64{n}, behind)...), f)
		}
	}
}

func TestL1TheEightBytesOfANumber(t *testing.T) {
	for _, x := range []struct {
		n    int64
		want []byte
	}{
		{-1, []byte{255, 255, 255, 255, 255, 255, 255, 255}},
		{-2, []byte{255, 255, 255, 255, 255, 255, 255, 254}},
		{-256, []byte{255, 255, 255, 255, 255, 255, 255, 0}},
		{math.MinInt64, []byte{128, 0, 0, 0, 0, 0, 0, 0}},
		{math.MaxInt64, []byte{127, 255, 255, 255, 255, 255, 255, 255}},
		{0, []byte{0, 0, 0, 0, 0, 0, 0, 0}},
		{258, []byte{0, 0, 0, 0, 0, 0, 1, 2}},
		{0x0102030405060708, []byte{1, 2, 3, 4, 5, 6, 7, 8}},
	} {
		f := least(2)
		f.Methods[0].Code[0] = api.Ins{Op: api.RLong, N: x.n}
		b := put(t, f)
		if got := b[len(b)-24 : len(b)-16]; !bytes.Equal(got, x.want) {
			t.Errorf("%d: got %v", x.n, got)
		}
		checkGet(t, f, b)
	}
}

// An empty list is nil or not: nobody can tell by the bytes.
func TestL1EmptyLists(t *testing.T) {
	for regs, first := range forms() {
		f := least(regs)
		want := laid(first, f).bytes
		checkBoth(t, want, f)
		for c := range f.Classes {
			f.Classes[c].Fields = []api.Type{}
		}
		m := &f.Methods[0]
		m.Params, m.Handlers, m.Code[0].Args = []api.Type{}, []api.Handler{}, make([]int, 0, 9)
		checkBoth(t, want, f)
	}
}

// greatest has the most items of all that there may be.
func greatest(first byte) api.File {
	f := api.File{Classes: make([]api.Class, api.MaxClasses), Methods: make([]api.Method, api.MaxMethods)}
	for c := range f.Classes {
		f.Classes[c] = api.Class{Super: c - 1, Fields: slices.Repeat(types(longType, ref(11-c)), api.MaxFields/2)}
	}
	for k := range f.Methods {
		m := api.Method{Params: slices.Repeat(types(longType), api.MaxParams), Ret: ref(k), Regs: api.MaxRegs}
		code, ins := api.MaxRegCode, api.Ins{Op: api.RCall, A: k, Args: []int{88, k, 0, 3}}
		if first == stack {
			m.Stack, m.Locals, m.Regs = api.MaxStack, api.MaxLocals, 0
			code, ins = api.MaxCode, api.Ins{Op: api.SLong, N: int64(-k)}
		}
		m.Code = slices.Repeat([]api.Ins{ins}, code)
		for n := range api.MaxHandlers {
			m.Handlers = append(m.Handlers, api.Handler{From: n, To: code - n, At: code - 1, Class: n})
		}
		f.Methods[k] = m
	}
	return f
}

func TestL1TheMostItems(t *testing.T) {
	for _, first := range forms() {
		f := greatest(first)
		code, args := api.MaxCode, 0
		if first == registers {
			code, args = api.MaxRegCode, api.MaxParams
		}
		method := 1 + 2*api.MaxParams + 2 + 3 + 1 + code*(6+args) + 1 + 4*api.MaxHandlers
		numbers := 1 + api.MaxClasses*(2+2*api.MaxFields) + 1 + api.MaxMethods*method
		if b := put(t, f); len(b) != 1+8*numbers {
			t.Errorf("%d bytes, want %d", len(b), 1+8*numbers)
		}
		checkBoth(t, laid(first, f).bytes, f)
	}
}

// Each of them by itself is at its most.
func TestL1TheMostItemsOfEach(t *testing.T) {
	for regs, first := range forms() {
		for _, change := range []func(f, most *api.File){
			func(f, most *api.File) { f.Classes = most.Classes },
			func(f, most *api.File) { f.Methods = slices.Repeat(f.Methods, api.MaxMethods) },
			func(f, most *api.File) { f.Classes[3].Fields = slices.Repeat(types(intType), api.MaxFields) },
			func(f, most *api.File) {
				m := &f.Methods[0]
				m.Params = slices.Repeat(types(intType), api.MaxParams)
				if first == stack {
					m.Locals = api.MaxParams
				} else {
					m.Regs = api.MaxParams
				}
			},
			func(f, most *api.File) {
				f.Methods[0].Code = slices.Repeat(f.Methods[0].Code, len(most.Methods[0].Code))
			},
			func(f, most *api.File) {
				f.Methods[0].Handlers = slices.Repeat([]api.Handler{{To: 1}}, api.MaxHandlers)
			},
		} {
			f, most := least(regs), greatest(first)
			change(&f, &most)
			checkBoth(t, laid(first, f).bytes, f)
		}
	}
}

func TestL1ManyFiles(t *testing.T) {
	r := newMaker(1, 40)
	seen := map[[2]int]int{}
	for n := range 3000 {
		first := forms()[n%2]
		f := r.make(first)
		if formOf(f) != first {
			t.Fatalf("may not be: %+v", f)
		}
		for _, m := range f.Methods {
			for _, i := range m.Code {
				seen[[2]int{int(first), i.Op}]++
			}
		}
		checkBoth(t, laid(first, f).bytes, f)
	}
	if len(seen) != api.SIn+api.RIn {
		t.Errorf("%d Ops are looked at", len(seen))
	}
}

// Each field alone is another number: just its eight bytes are others.
func TestL1EachFieldHasItsPlace(t *testing.T) {
	for k, x := range []struct {
		f      api.File
		change []func(f *api.File)
	}{
		{stackFile(), []func(f *api.File){
			func(f *api.File) { f.Classes[2].Super = 0 },
			func(f *api.File) { f.Classes[3].Fields[0].Kind = api.KLong },
			func(f *api.File) { f.Classes[4].Fields[0].Class = 1 },
			func(f *api.File) { f.Methods[0].Params[1].Class = 4 },
			func(f *api.File) { f.Methods[0].Ret.Class = 1 },
			func(f *api.File) { f.Methods[0].Stack = 30 },
			func(f *api.File) { f.Methods[0].Locals = 60 },
			func(f *api.File) { f.Methods[0].Code[0].N = 2147483647 },
			func(f *api.File) { f.Methods[0].Code[2].Op = api.SStore },
			func(f *api.File) { f.Methods[0].Code[3].A = 5 },
			func(f *api.File) { f.Methods[0].Code[4].B = 2 },
			func(f *api.File) { f.Methods[0].Handlers[0].From = 0 },
			func(f *api.File) { f.Methods[0].Handlers[0].To = 6 },
			func(f *api.File) { f.Methods[0].Handlers[1].At = 0 },
			func(f *api.File) { f.Methods[0].Handlers[1].Class = 0 },
		}},
		{registersFile(), []func(f *api.File){
			func(f *api.File) { f.Methods[0].Params[2].Kind = api.KLong; f.Methods[0].Code[3].Args[2] = 3 },
			func(f *api.File) { f.Methods[0].Ret.Kind = api.KInt },
			func(f *api.File) { f.Methods[0].Regs = 90 },
			func(f *api.File) { f.Methods[1].Regs = 2 },
			func(f *api.File) { f.Methods[0].Code[1].B = 5 },
			func(f *api.File) { f.Methods[0].Code[2].C = 0 },
			func(f *api.File) { f.Methods[0].Code[2].N = 1 },
			func(f *api.File) { f.Methods[0].Code[3].Args[0] = 0 },
			func(f *api.File) { f.Methods[0].Code[3].Args[1] = 0 },
			func(f *api.File) { f.Methods[0].Code[3].Args[2] = 0 },
		}},
	} {
		first, places := forms()[k], map[int]int{}
		was := laid(first, x.f).bytes
		for n, change := range x.change {
			f, _ := found(was)
			change(&f)
			b := put(t, f)
			checkBoth(t, laid(first, f).bytes, f)
			var at []int
			for p := 1; p < len(was); p += 8 {
				if !bytes.Equal(b[p:p+8], was[p:p+8]) {
					at = append(at, p)
				}
			}
			if len(b) != len(was) || len(at) != 1 || places[at[0]] > 0 {
				t.Fatalf("the change %d of %d: others at %v", n, first, at)
			}
			places[at[0]]++
		}
	}
}
