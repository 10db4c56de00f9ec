package rcheck_test

import (
	"math/rand"
	"testing"

	"crosswalk/api"
	"crosswalk/rcheck"
	"crosswalk/rform"
	"crosswalk/rrun"
)

// tally counts what came of many files.
type tally struct {
	accepted, refused, mayNot int
	ends                      [api.EndStuck + 1]int
	// ops counts the instructions of the files that were accepted.
	ops [api.RIn + 1]int
}

func argsFor(r *rand.Rand, m api.Method) []int64 {
	args := []int64{}
	for range m.Params {
		args = append(args, []int64{0, 1, -1, 2, 1 << 40, -1 << 63}[r.Intn(6)])
	}
	return args
}

func (y *tally) runAll(t *testing.T, r *rand.Rand, f api.File) {
	t.Helper()
	for entry, m := range f.Methods {
		for _, i := range m.Code {
			y.ops[i.Op]++
		}
		for _, input := range [][]int64{nil, {0}, {1, -1, 0, 2, 0, 7, 0, 1}} {
			for _, fuel := range []int{0, 1, r.Intn(30), 400} {
				s, e := rrun.Run(f, entry, argsFor(r, m), input, fuel)
				if e != api.OK {
					continue
				}
				y.ends[s.End]++
				if s.End == api.EndStuck {
					t.Fatalf("stuck: entry %d, input %v, %+v: %+v", entry, input, s, f.Methods)
				}
			}
		}
	}
}

func (y *tally) look(t *testing.T, r *rand.Rand, f api.File) {
	t.Helper()
	if !rform.May(f) {
		y.mayNot++
		checkFault(t, api.Fault{Code: api.ErrForm}, f)
		return
	}
	got := rcheck.Check(f)
	if want := modelCheck(f); got != want {
		t.Fatalf("got %+v, want %+v: %+v", got, want, f.Methods)
	}
	if got.Code != api.OK {
		y.refused++
		return
	}
	y.accepted++
	y.runAll(t, r, f)
}

func (y *tally) mustHaveSeen(t *testing.T, accepted, refused int, ends ...int) {
	t.Helper()
	if y.accepted < accepted || y.refused < refused {
		t.Errorf("too few to tell: %+v", y)
	}
	for _, end := range ends {
		if y.ends[end] == 0 {
			t.Errorf("no run ended by %d: %+v", end, y)
		}
	}
	for op, n := range y.ops[api.RInt:] {
		if n == 0 {
			t.Errorf("no instruction %d in what was accepted", op+api.RInt)
		}
	}
}

func TestH4MadeFiles(t *testing.T) {
	r := rand.New(rand.NewSource(5))
	y := tally{}
	for range 1500 {
		y.look(t, r, makeFile(r, 0))
	}
	if y.refused > 0 || y.mayNot > 0 {
		t.Errorf("the maker makes none but files that are checked: %+v", y)
	}
	y.mustHaveSeen(t, 1500, 0, api.EndFuel, api.EndDone, api.EndThrown, api.EndInput, api.EndFull, api.EndDeep)
}

func TestH4CarelessFiles(t *testing.T) {
	r := rand.New(rand.NewSource(6))
	y := tally{}
	for range 2000 {
		y.look(t, r, makeFile(r, 15))
	}
	y.mustHaveSeen(t, 300, 300, api.EndFuel, api.EndDone, api.EndThrown)
}

func TestH4SpoiledFiles(t *testing.T) {
	r := rand.New(rand.NewSource(7))
	y := tally{}
	for range 3000 {
		y.look(t, r, spoil(r, makeFile(r, 0)))
	}
	y.mustHaveSeen(t, 300, 300, api.EndFuel, api.EndDone, api.EndThrown)
}

func TestH4RandomFiles(t *testing.T) {
	r := rand.New(rand.NewSource(8))
	y := tally{}
	for range 60000 {
		y.look(t, r, randomFile(r, 1))
	}
	for range 10000 {
		y.look(t, r, randomFile(r, 2))
	}
	y.mustHaveSeen(t, 300, 300, api.EndFuel, api.EndDone, api.EndThrown)
}
