package tostack_test

import (
	"math/rand"
	"testing"

	"crosswalk/api"
	"crosswalk/rcheck"
	"crosswalk/rrun"
	"crosswalk/srun"
	"crosswalk/toreg"
)

// tally counts what came of many files.
type tally struct {
	accepted, refused int
	// great counts files with a method that need not have room on a stack; notFound those of them of which nothing was found.
	great, notFound int
	ends            [api.EndStuck + 1]int
	out, handlers   int
	// ops counts the instructions of the files that were made over.
	ops [api.RIn + 1]int
}

func argsFor(r *rand.Rand, m api.Method) []int64 {
	args := []int64{}
	for range m.Params {
		args = append(args, []int64{0, 1, -1, 2, 1 << 40, -1 << 63}[r.Intn(6)])
	}
	return args
}

func (y *tally) count(m api.Method) {
	for _, i := range m.Code {
		y.ops[i.Op]++
	}
	y.handlers += len(m.Handlers)
}

// look holds a file against what is made of it; what is at fault must have the fault that the check tells.
func (y *tally) look(t *testing.T, r *rand.Rand, f api.File) {
	t.Helper()
	if x := rcheck.Check(f); x.Code != api.OK {
		y.refused++
		checkFault(t, x, f)
		return
	}
	y.accepted++
	if tooGreat(f) >= 0 {
		y.great++
	}
	over, found := madeIfFound(t, f)
	if !found {
		y.notFound++
		return
	}
	for entry, m := range f.Methods {
		y.count(m)
		for _, input := range [][]int64{nil, {0}, {1, -1, 0, 2, 0, 7, 0, 1, 5, 4, 3, 2, 1, 0}} {
			for _, fuel := range []int{0, 1, r.Intn(30), r.Intn(100), 700} {
				s, e := checkRun(t, f, over, asked{entry: entry, args: argsFor(r, m), input: input, fuel: fuel})
				if e == api.OK {
					y.ends[s.End]++
					y.out += len(s.Out)
				}
			}
		}
	}
}

func (y *tally) mustHaveSeen(t *testing.T, accepted, refused int) {
	t.Helper()
	if y.accepted < accepted || y.refused < refused || y.out < accepted || y.handlers < accepted/8 {
		t.Errorf("too few to tell: %+v", y)
	}
	for op, n := range y.ops[api.RInt:] {
		if n == 0 {
			t.Errorf("no instruction %d in what was made over", op+api.RInt)
		}
	}
}

func TestJ2MadeFiles(t *testing.T) {
	r := rand.New(rand.NewSource(1))
	y := tally{}
	for range 2000 {
		y.look(t, r, makeFile(r, 14, 0))
	}
	y.mustHaveSeen(t, 2000, 0)
	for end := api.EndFuel; end < api.EndStuck; end++ {
		if y.ends[end] < 20 {
			t.Errorf("few runs ended by %d: %+v", end, y)
		}
	}
}

// Methods of many instructions: of some something is found, of others nothing.
func TestJ2GreatFiles(t *testing.T) {
	r := rand.New(rand.NewSource(2))
	y := tally{}
	for range 300 {
		y.look(t, r, makeFile(r, 600, 0))
	}
	y.mustHaveSeen(t, 300, 0)
	if y.notFound < 30 || y.great-y.notFound < 30 {
		t.Errorf("too few to tell: %+v", y)
	}
}

func TestJ2CarelessFiles(t *testing.T) {
	r := rand.New(rand.NewSource(3))
	y := tally{}
	for range 2500 {
		y.look(t, r, makeFile(r, 14, 15))
	}
	y.mustHaveSeen(t, 500, 500)
}

func TestJ2SpoiledFiles(t *testing.T) {
	r := rand.New(rand.NewSource(4))
	y := tally{}
	for range 3000 {
		y.look(t, r, spoil(r, makeFile(r, 14, 0)))
	}
	y.mustHaveSeen(t, 500, 500)
}

func TestJ2RandomFiles(t *testing.T) {
	r := rand.New(rand.NewSource(5))
	y := tally{}
	for range 60000 {
		y.look(t, r, randomFile(r, 1))
	}
	for range 10000 {
		y.look(t, r, randomFile(r, 2))
	}
	y.mustHaveSeen(t, 300, 300)
}

// Whatever fuel a run is given, from the first step to the last one.
func TestJ2EachFuelOfMadeFiles(t *testing.T) {
	r := rand.New(rand.NewSource(6))
	for range 150 {
		f := makeFile(r, 14, 0)
		over := made(t, f)
		for entry, m := range f.Methods {
			a := asked{entry: entry, args: argsFor(r, m), input: []int64{3, 1, 2}, fuel: 120}
			whole, _ := checkRun(t, f, over, a)
			for a.fuel = range whole.Steps {
				checkRun(t, f, over, a)
			}
		}
	}
}

// What is made can be made over again, to registers and once more to a stack: still nobody can tell.
func TestJ2MadeOverAgain(t *testing.T) {
	r := rand.New(rand.NewSource(7))
	for range 200 {
		f := makeFile(r, 10, 0)
		onStack := made(t, f)
		onRegisters, x := toreg.Make(onStack)
		if x.Code != api.OK {
			t.Fatalf("fault %+v", x)
		}
		again, found := madeIfFound(t, onRegisters)
		for entry, m := range f.Methods {
			args := argsFor(r, m)
			want, e := rrun.Run(f, entry, args, []int64{4, 5}, 100)
			if got, x := rrun.Run(onRegisters, entry, args, []int64{4, 5}, 8*808+8); x != e || !shownAlike(got, want) {
				t.Fatalf("got %+v, want %+v of %+v", got, want, f.Methods)
			}
			if !found {
				continue
			}
			if got, x := srun.Run(again, entry, args, []int64{4, 5}, 8*(8*808+8)+8); x != e || !shownAlike(got, want) {
				t.Fatalf("got %+v, want %+v of %+v", got, want, f.Methods)
			}
		}
	}
}
