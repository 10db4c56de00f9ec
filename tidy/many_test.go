package tidy_test

import (
	"math/rand"
	"slices"
	"testing"

	"crosswalk/api"
	"crosswalk/rcheck"
	"crosswalk/rrun"
	"crosswalk/srun"
	"crosswalk/toreg"
	"crosswalk/tostack"
)

// tally counts what came of many files.
type tally struct {
	accepted, refused int
	ends              [api.EndStuck + 1]int
	out               int
	// ops counts the instructions of the files that were made over, and less, handlersLess those that were left out.
	ops                [api.RIn + 1]int
	less, handlersLess int
	handlers           int
}

func argsFor(r *rand.Rand, m api.Method) []int64 {
	args := []int64{}
	for range m.Params {
		args = append(args, []int64{0, 1, -1, 2, 1 << 40, -1 << 63}[r.Intn(6)])
	}
	return args
}

func (y *tally) count(m, n api.Method) {
	for _, i := range m.Code {
		y.ops[i.Op]++
	}
	y.handlers += len(m.Handlers)
	y.less += len(m.Code) - len(n.Code)
	y.handlersLess += len(m.Handlers) - len(n.Handlers)
}

// look holds a file against what is made of it; what is at fault must have the fault that the check tells.
func (y *tally) look(t *testing.T, r *rand.Rand, f api.File) {
	t.Helper()
	if x := rcheck.Check(f); x.Code != api.OK {
		y.refused++
		checkFault(t, x, f)
		return
	}
	y.accepted++
	left := made(t, f)
	if again := made(t, left); !slices.EqualFunc(again.Methods, left.Methods, sameMethod) {
		t.Fatalf("made once: %+v\nand again: %+v", left.Methods, again.Methods)
	}
	for entry, m := range f.Methods {
		y.count(m, left.Methods[entry])
		for _, input := range [][]int64{nil, {0}, {1, -1, 0, 2, 0, 7, 0, 1, 5, 4, 3, 2, 1, 0}} {
			for _, fuel := range []int{0, 1, r.Intn(30), r.Intn(100), 700} {
				s, e := checkRun(t, f, left, asked{entry: entry, args: argsFor(r, m), input: input, fuel: fuel})
				if e == api.OK {
					y.ends[s.End]++
					y.out += len(s.Out)
				}
			}
		}
	}
}

func (y *tally) mustHaveSeen(t *testing.T, accepted, refused int) {
	t.Helper()
	if y.accepted < accepted || y.refused < refused || y.out < accepted || y.handlers < accepted/8 || y.less < accepted || y.handlersLess < accepted/20 {
		t.Errorf("too few to tell: %+v", y)
	}
	for op, n := range y.ops[api.RInt:] {
		if n == 0 {
			t.Errorf("no instruction %d in what was made over", op+api.RInt)
		}
	}
}

func TestK3MadeFiles(t *testing.T) {
	r := rand.New(rand.NewSource(1))
	y := tally{}
	for range 2000 {
		y.look(t, r, makeFile(r, 14, 0))
	}
	y.mustHaveSeen(t, 2000, 0)
	for end := api.EndFuel; end < api.EndStuck; end++ {
		if y.ends[end] < 20 {
			t.Errorf("few runs ended by %d: %+v", end, y)
		}
	}
}

func TestK3GreatFiles(t *testing.T) {
	r := rand.New(rand.NewSource(2))
	y := tally{}
	for range 200 {
		y.look(t, r, makeFile(r, 700, 0))
	}
	y.mustHaveSeen(t, 200, 0)
}

func TestK3CarelessFiles(t *testing.T) {
	r := rand.New(rand.NewSource(3))
	y := tally{}
	for range 2500 {
		y.look(t, r, makeFile(r, 14, 15))
	}
	y.mustHaveSeen(t, 500, 500)
}

func TestK3SpoiledFiles(t *testing.T) {
	r := rand.New(rand.NewSource(4))
	y := tally{}
	for range 3000 {
		y.look(t, r, spoil(r, makeFile(r, 14, 0)))
	}
	y.mustHaveSeen(t, 500, 500)
}

func TestK3RandomFiles(t *testing.T) {
	r := rand.New(rand.NewSource(5))
	y := tally{}
	for range 60000 {
		y.look(t, r, randomFile(r, 1))
	}
	for range 10000 {
		y.look(t, r, randomFile(r, 2))
	}
	y.mustHaveSeen(t, 300, 300)
}

// Whatever fuel a run is given, from the first step to the last one.
func TestK3EachFuelOfMadeFiles(t *testing.T) {
	r := rand.New(rand.NewSource(6))
	for range 150 {
		f := makeFile(r, 14, 0)
		left := made(t, f)
		for entry, m := range f.Methods {
			a := asked{entry: entry, args: argsFor(r, m), input: []int64{3, 1, 2}, fuel: 120}
			whole, _ := checkRun(t, f, left, a)
			for a.fuel = range whole.Steps {
				checkRun(t, f, left, a)
			}
		}
	}
}

// Of a file with more that can be left out, the same is left.
func TestK2PaddedFiles(t *testing.T) {
	r := rand.New(rand.NewSource(7))
	y := tally{}
	for range 1500 {
		f := prefixed(makeFile(r, 14, 0))
		more := paddedFile(r, f)
		if x := rcheck.Check(more); x.Code != api.OK {
			t.Fatalf("fault %+v of %+v\nof %+v", x, more.Methods, f.Methods)
		}
		y.look(t, r, more)
		want, got := made(t, f), made(t, more)
		if !slices.EqualFunc(got.Methods, want.Methods, sameMethod) {
			t.Fatalf("left: %+v\nwant: %+v\nof %+v", got.Methods, want.Methods, more.Methods)
		}
		for entry, m := range f.Methods {
			a := asked{entry: entry, args: argsFor(r, m), input: []int64{3, 1, 2}, fuel: 300}
			checkRun(t, more, want, a)
		}
	}
	y.mustHaveSeen(t, 1500, 0)
}

// What is left can be made over to a stack and back, and tidied again: still nobody can tell.
func TestK3MadeOverAgain(t *testing.T) {
	r := rand.New(rand.NewSource(8))
	for range 200 {
		f := makeFile(r, 10, 0)
		left := made(t, f)
		onStack, x := tostack.Make(left)
		if x.Code != api.OK {
			t.Fatalf("fault %+v", x)
		}
		onRegisters, x := toreg.Make(onStack)
		if x.Code != api.OK {
			t.Fatalf("fault %+v", x)
		}
		again := made(t, onRegisters)
		for entry, m := range f.Methods {
			args := argsFor(r, m)
			want, e := rrun.Run(f, entry, args, []int64{4, 5}, 100)
			if got, x := srun.Run(onStack, entry, args, []int64{4, 5}, 8*100+8); x != e || !shownAlike(got, want) {
				t.Fatalf("got %+v, want %+v of %+v", got, want, f.Methods)
			}
			if got, x := rrun.Run(again, entry, args, []int64{4, 5}, 8*808+8); x != e || !shownAlike(got, want) {
				t.Fatalf("got %+v, want %+v of %+v", got, want, f.Methods)
			}
		}
	}
}
