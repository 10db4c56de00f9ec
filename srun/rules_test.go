package srun_test

import (
	"math"
	"math/rand"
	"reflect"
	"slices"
	"testing"

	"crosswalk/api"
	"crosswalk/sform"
	"crosswalk/srun"
)

func TestP1WhateverIsGiven(t *testing.T) {
	far := []int{math.MinInt, -1, 0, 1, math.MaxInt}
	for _, f := range []api.File{
		{},
		{Methods: []api.Method{{}}},
		{Classes: classes()},
		file(api.Method{}),
		file(method()),
		file(method(api.Ins{Op: math.MinInt, A: math.MaxInt, N: math.MinInt64, Args: []int{1}})),
		file(method(comeBack)),
	} {
		for _, entry := range far {
			for _, fuel := range far {
				for _, args := range [][]int64{nil, {}, {1}, make([]int64, 1000)} {
					srun.Run(f, entry, args, args, fuel)
				}
			}
		}
	}
}

// randomIns may be in a method of so many instructions, in a file of three methods.
func randomIns(r *rand.Rand, size int) api.Ins {
	op := api.SInt + r.Intn(api.SIn)
	switch op {
	case api.SInt, api.SLong:
		return api.Ins{Op: op, N: int64(r.Intn(5) - 2)}
	case api.SLoad, api.SStore:
		return ins(op, r.Intn(5), api.KInt+r.Intn(3))
	case api.SIntOp, api.SLongOp:
		return ins(op, api.OpAdd+r.Intn(8))
	case api.SGoto, api.SIfNull:
		return ins(op, r.Intn(size))
	case api.SIf:
		return ins(op, r.Intn(size), api.CondZero+r.Intn(4))
	case api.SNew, api.SCast, api.SIs:
		return ins(op, r.Intn(len(classes())))
	case api.SGet, api.SPut:
		return ins(op, upper+r.Intn(2), r.Intn(3))
	case api.SCall:
		return ins(op, r.Intn(3))
	case api.SEmit:
		return ins(op, api.KInt+r.Intn(2))
	}
	return ins(op)
}

func randomMethod(r *rand.Rand) api.Method {
	size := 1 + r.Intn(30)
	m := api.Method{Stack: r.Intn(api.MaxStack), Locals: 6, Ret: api.Type{Kind: r.Intn(4)}}
	for range r.Intn(3) {
		m.Params = append(m.Params, api.Type{Kind: api.KInt + r.Intn(2)})
	}
	for range size {
		m.Code = append(m.Code, randomIns(r, size))
	}
	for range r.Intn(api.MaxHandlers) {
		from := r.Intn(size)
		m.Handlers = append(m.Handlers, api.Handler{From: from, To: from + 1 + r.Intn(size-from), At: r.Intn(size), Class: r.Intn(len(classes()))})
	}
	return m
}

// What a run shows with less fuel is the beginning of what it shows with more.
func checkLessFuel(t *testing.T, f api.File, args, input []int64, whole api.Shown) {
	t.Helper()
	for _, fuel := range []int{0, whole.Steps / 2, whole.Steps - 1} {
		if fuel < 0 || fuel >= whole.Steps {
			continue
		}
		s := runFile(t, f, args, input, fuel)
		if s.End != api.EndFuel || s.Steps != fuel || s.Value != 0 || s.Class != 0 || s.Used > whole.Used {
			t.Fatalf("fuel %d: %+v, of %+v", fuel, s, whole)
		}
		if len(s.Out) > len(whole.Out) || !slices.Equal(s.Out, whole.Out[:len(s.Out)]) {
			t.Fatalf("fuel %d: out %v, of %v", fuel, s.Out, whole.Out)
		}
	}
	checkShown(t, runFile(t, f, args, input, whole.Steps), whole)
}

func TestP1RandomFiles(t *testing.T) {
	r := rand.New(rand.NewSource(4))
	ends := map[int]int{}
	for range 20000 {
		f := file(randomMethod(r), randomMethod(r), randomMethod(r))
		if !sform.May(f) {
			t.Fatalf("may not be: %+v", f)
		}
		args := make([]int64, len(f.Methods[0].Params))
		input := []int64{1, 0, -1}
		s := runFile(t, f, args, input, 300)
		ends[s.End]++
		if s.End != api.EndFuel {
			checkLessFuel(t, f, args, input, s)
		} else if s.Steps != 300 {
			t.Fatalf("got %+v", s)
		}
	}
	for end := api.EndFuel; end <= api.EndStuck; end++ {
		if ends[end] == 0 && end != api.EndFull {
			t.Errorf("no run ended by %d: %v", end, ends)
		}
	}
}

func sharedFile() api.File {
	return file(
		handled(taking(types(intType), comeIn, emitLong, ins(api.SLoad, 0, api.KInt), emitInt, ins(api.SNew, lower), ins(api.SDup), putInt(4), ins(api.SPut, upper, 0), ins(api.SCall, 1), comeBack),
			api.Handler{From: 0, To: 9, At: 9}),
		taking(types(ref(upper)), putNull, throwIt))
}

func TestP3WhatIsHandedInStays(t *testing.T) {
	f := sharedFile()
	args := []int64{1<<32 + 9}
	input := []int64{5, 6}
	s := runFile(t, f, args, input, 99)
	checkShown(t, s, api.Shown{End: api.EndDone, Out: []int64{5, 9}, Used: 1, Steps: 12})
	if !reflect.DeepEqual(f, sharedFile()) || !slices.Equal(args, []int64{1<<32 + 9}) || !slices.Equal(input, []int64{5, 6}) {
		t.Errorf("changed: %+v %v %v", f, args, input)
	}
}

func TestP3WhatComesOutIsNew(t *testing.T) {
	f := file(method(comeIn, emitLong, comeIn, emitLong, comeBack))
	input := []int64{5, 6}
	first := runFile(t, f, nil, input, 99)
	second := runFile(t, f, nil, input, 99)
	first.Out[0] = 1
	input[1] = 2
	checkShown(t, second, api.Shown{End: api.EndDone, Out: []int64{5, 6}, Used: 2, Steps: 5})
	if input[0] != 5 || first.Out[1] != 6 {
		t.Errorf("shared: %v %v", input, first.Out)
	}
}

func TestP3WhatLiesBehindAListIsNotRead(t *testing.T) {
	f := file(method(comeIn, emitLong, comeIn, emitLong, comeBack))
	input := []int64{5, 6}
	checkShown(t, runFile(t, f, nil, input[:1], 99), api.Shown{End: api.EndInput, Out: []int64{5}, Used: 1, Steps: 3})
	l := code(putInt(1), pop, comeBack)
	checkEnd(t, api.EndStuck, method(l[:2]...))
	handlers := []api.Handler{{From: 0, To: 2, At: 1}}
	m := method(putNull, throwIt)
	m.Handlers = handlers[:0]
	checkEnd(t, api.EndThrown, m)
	a := well()
	a.args = a.args[:1]
	checkAsked(t, api.ErrKind, a)
}
