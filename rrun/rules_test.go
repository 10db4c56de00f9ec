package rrun_test

import (
	"math"
	"math/rand"
	"reflect"
	"slices"
	"testing"

	"crosswalk/api"
	"crosswalk/rform"
	"crosswalk/rrun"
)

func TestP1WhateverIsGiven(t *testing.T) {
	far := []int{math.MinInt, -1, 0, 1, math.MaxInt}
	for _, f := range []api.File{
		{},
		{Methods: []api.Method{{}}},
		{Classes: classes()},
		file(api.Method{}),
		file(method()),
		file(method(api.Ins{Op: math.MinInt, A: math.MaxInt, N: math.MinInt64, Args: []int{1}})),
		file(method(call(math.MaxInt, math.MinInt))),
		file(method(call(0, math.MinInt, math.MaxInt))),
		file(method(insN(api.RGet, math.MaxInt64, math.MaxInt, math.MinInt, math.MaxInt))),
		file(method(comeBack)),
	} {
		for _, entry := range far {
			for _, fuel := range far {
				for _, args := range [][]int64{nil, {}, {1}, make([]int64, 1000)} {
					rrun.Run(f, entry, args, args, fuel)
				}
			}
		}
	}
}

// What a run shows with less fuel is the beginning of what it shows with more.
func checkLessFuel(t *testing.T, f api.File, args, input []int64, whole api.Shown) {
	t.Helper()
	for _, fuel := range []int{0, whole.Steps / 2, whole.Steps - 1} {
		if fuel < 0 || fuel >= whole.Steps {
			continue
		}
		s := runFile(t, f, args, input, fuel)
		if s.End != api.EndFuel || s.Steps != fuel || s.Value != 0 || s.Class != 0 || s.Used > whole.Used {
			t.Fatalf("fuel %d: %+v, of %+v", fuel, s, whole)
		}
		if len(s.Out) > len(whole.Out) || !slices.Equal(s.Out, whole.Out[:len(s.Out)]) {
			t.Fatalf("fuel %d: out %v, of %v", fuel, s.Out, whole.Out)
		}
	}
	checkShown(t, runFile(t, f, args, input, whole.Steps), whole)
}

// Runs of files made at random are held against the model, which must have done each instruction, and ended each way, often enough to tell.
func TestG2RunsAreAsTheModelSays(t *testing.T) {
	r := rand.New(rand.NewSource(7))
	var ends [api.EndStuck + 1]int
	var done [api.RIn + 1]int
	for range 20000 {
		f := randomFile(r)
		if !rform.May(f) {
			t.Fatalf("may not be: %+v", f)
		}
		args := make([]int64, len(f.Methods[0].Params))
		for k := range args {
			args[k] = r.Int63() >> r.Intn(64)
		}
		input := []int64{1, 0, -1, 1 << 40, 3, 4, 5, 6}[:r.Intn(9)]
		m := &model{file: f, input: input, fuel: 1 + r.Intn(1000)}
		want := m.run(0, args)
		got := runFile(t, f, args, input, m.fuel)
		if !same(got, want) {
			t.Fatalf("got %+v, want %+v: %+v, args %v, input %v", got, want, f, args, input)
		}
		checkLessFuel(t, f, args, input, got)
		ends[want.End]++
		for op, n := range m.done {
			done[op] += n
		}
	}
	for end, n := range ends {
		if n < 20 {
			t.Errorf("%d runs ended by %d", n, end)
		}
	}
	for op, n := range done[api.RInt:] {
		if n < 500 {
			t.Errorf("%d were done of the instruction %d", n, op+api.RInt)
		}
	}
}

func sharedFile() api.File {
	return file(
		handled(taking(types(intType), comeIn(2), emitLong(2), emitInt(0), setNew(5, lower), setInt(1, 4), put(1, 5, upper, 0), call(1, 5), comeBack),
			api.Handler{From: 0, To: 7, At: 7}),
		taking(types(ref(upper)), setNull(0), throwIt(0)))
}

func TestP3WhatIsHandedInStays(t *testing.T) {
	f := sharedFile()
	args := []int64{1<<32 + 9}
	input := []int64{5, 6}
	s := runFile(t, f, args, input, 99)
	checkShown(t, s, api.Shown{End: api.EndDone, Out: []int64{5, 9}, Used: 1, Steps: 10})
	if !reflect.DeepEqual(f, sharedFile()) || !slices.Equal(args, []int64{1<<32 + 9}) || !slices.Equal(input, []int64{5, 6}) {
		t.Errorf("changed: %+v %v %v", f, args, input)
	}
}

func TestP3WhatComesOutIsNew(t *testing.T) {
	f := file(method(comeIn(0), emitLong(0), comeIn(0), emitLong(0), comeBack))
	input := []int64{5, 6}
	first := runFile(t, f, nil, input, 99)
	second := runFile(t, f, nil, input, 99)
	first.Out[0] = 1
	input[1] = 2
	checkShown(t, second, api.Shown{End: api.EndDone, Out: []int64{5, 6}, Used: 2, Steps: 5})
	if input[0] != 5 || first.Out[1] != 6 {
		t.Errorf("shared: %v %v", input, first.Out)
	}
}

func TestP3WhatLiesBehindAListIsNotRead(t *testing.T) {
	f := file(method(comeIn(0), emitLong(0), comeIn(0), emitLong(0), comeBack))
	input := []int64{5, 6}
	checkShown(t, runFile(t, f, nil, input[:1], 99), api.Shown{End: api.EndInput, Out: []int64{5}, Used: 1, Steps: 3})
	l := code(setInt(0, 1), emitInt(0), comeBack)
	checkEnd(t, api.EndStuck, method(l[:2]...))
	handlers := []api.Handler{{From: 0, To: 2, At: 1}}
	m := method(setNull(0), throwIt(0))
	m.Handlers = handlers[:0]
	checkEnd(t, api.EndThrown, m)
	a := well()
	a.args = a.args[:1]
	checkAsked(t, api.ErrKind, a)
	registers := []int{0, 1}
	a.file.Methods[0].Code = code(api.Ins{Op: api.RCall, A: 1, Args: registers[:1]})
	checkAsked(t, api.ErrForm, a)
}

func TestP3TheSameIsAnsweredOnceMore(t *testing.T) {
	r := rand.New(rand.NewSource(3))
	for range 200 {
		f := randomFile(r)
		args := make([]int64, len(f.Methods[0].Params))
		first := runFile(t, f, args, []int64{1, 2}, 500)
		checkShown(t, runFile(t, f, args, []int64{1, 2}, 500), first)
	}
}
