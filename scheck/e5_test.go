package scheck_test

import (
	"math/rand"
	"testing"

	"crosswalk/api"
	"crosswalk/scheck"
	"crosswalk/sform"
	"crosswalk/srun"
)

// tally counts what came of many files.
type tally struct {
	accepted, refused, mayNot int
	ends                      map[int]int
}

func argsFor(r *rand.Rand, m api.Method) []int64 {
	args := []int64{}
	for range m.Params {
		args = append(args, []int64{0, 1, -1, 2, 1 << 40, -1 << 63}[r.Intn(6)])
	}
	return args
}

func (y *tally) runAll(t *testing.T, r *rand.Rand, f api.File) {
	t.Helper()
	for entry, m := range f.Methods {
		for _, input := range [][]int64{nil, {0}, {1, -1, 0, 2, 0, 7, 0, 1}} {
			for _, fuel := range []int{0, 1, r.Intn(30), 400} {
				s, e := srun.Run(f, entry, argsFor(r, m), input, fuel)
				if e != api.OK {
					continue
				}
				y.ends[s.End]++
				if s.End == api.EndStuck {
					t.Fatalf("stuck: entry %d, input %v, %+v: %+v", entry, input, s, f.Methods)
				}
			}
		}
	}
}

func (y *tally) look(t *testing.T, r *rand.Rand, f api.File) {
	t.Helper()
	got := scheck.Check(f)
	if !sform.May(f) {
		y.mayNot++
		checkFault(t, api.Fault{Code: api.ErrForm}, f)
		return
	}
	if want := modelCheck(f); got != want {
		t.Fatalf("got %+v, want %+v: %+v", got, want, f.Methods)
	}
	if got.Code != api.OK {
		y.refused++
		return
	}
	y.accepted++
	y.runAll(t, r, f)
}

func (y *tally) mustHaveSeen(t *testing.T, accepted, refused int, ends ...int) {
	t.Helper()
	if y.accepted < accepted || y.refused < refused {
		t.Errorf("too few to tell: %+v", y)
	}
	for _, end := range ends {
		if y.ends[end] == 0 {
			t.Errorf("no run ended by %d: %+v", end, y)
		}
	}
}

func TestE5MadeFiles(t *testing.T) {
	r := rand.New(rand.NewSource(5))
	y := tally{ends: map[int]int{}}
	for range 1500 {
		y.look(t, r, makeFile(r, 0))
	}
	y.mustHaveSeen(t, 500, 0, api.EndFuel, api.EndDone, api.EndThrown, api.EndInput, api.EndFull, api.EndDeep)
}

func TestE5CarelessFiles(t *testing.T) {
	r := rand.New(rand.NewSource(6))
	y := tally{ends: map[int]int{}}
	for range 1500 {
		y.look(t, r, makeFile(r, 12))
	}
	y.mustHaveSeen(t, 200, 200, api.EndFuel, api.EndDone, api.EndThrown)
}

func TestE5SpoiledFiles(t *testing.T) {
	r := rand.New(rand.NewSource(7))
	y := tally{ends: map[int]int{}}
	for range 2500 {
		y.look(t, r, spoil(r, makeFile(r, 0)))
	}
	y.mustHaveSeen(t, 200, 200, api.EndFuel, api.EndDone, api.EndThrown)
}

func TestE5RandomFiles(t *testing.T) {
	r := rand.New(rand.NewSource(8))
	y := tally{ends: map[int]int{}}
	for range 40000 {
		y.look(t, r, file(randomMethod(r, 1)))
	}
	y.mustHaveSeen(t, 200, 200, api.EndFuel, api.EndDone, api.EndThrown)
}
