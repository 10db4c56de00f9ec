package hier_test

import (
	"math"
	"reflect"
	"testing"

	"crosswalk/api"
	"crosswalk/hier"
)

// under makes classes of their Supers alone.
func under(supers ...int) []api.Class {
	l := make([]api.Class, len(supers))
	for i, s := range supers {
		l[i].Super = s
	}
	return l
}

// flat has n classes, all below 0 alone.
func flat(n int) []api.Class {
	l := make([]api.Class, n)
	if n > 0 {
		l[0].Super = -1
	}
	return l
}

// chain has n classes, each below the one ahead of it.
func chain(n int) []api.Class {
	l := make([]api.Class, n)
	for i := range l {
		l[i].Super = i - 1
	}
	return l
}

func withFields(at int, fields ...api.Type) []api.Class {
	l := flat(5)
	l[at].Fields = fields
	return l
}

func copies(t api.Type, n int) []api.Type {
	l := make([]api.Type, n)
	for i := range l {
		l[i] = t
	}
	return l
}

func checkMay(t *testing.T, want bool, l []api.Class) {
	t.Helper()
	if hier.May(l) != want {
		t.Errorf("May of %v: want %v", l, want)
	}
}

func TestB1HowManyClasses(t *testing.T) {
	for n := 0; n <= api.MaxClasses+20; n++ {
		want := n >= 4 && n <= api.MaxClasses
		checkMay(t, want, flat(n))
		checkMay(t, want, chain(n))
	}
	checkMay(t, false, nil)
	checkMay(t, false, flat(100000))
}

func TestB1Super(t *testing.T) {
	for at := range api.MaxClasses {
		for _, super := range []int{math.MinInt, -1 << 32, -3, -2, -1, 0, 1, 2, at - 1, at, at + 1, api.MaxClasses - 1, api.MaxClasses, 1 << 32, math.MaxInt} {
			l := flat(api.MaxClasses)
			l[at].Super = super
			want := super >= 0 && super < at
			if at == 0 {
				want = super == -1
			}
			checkMay(t, want, l)
		}
	}
}

func TestB1HowManyFields(t *testing.T) {
	for at := range 5 {
		for n := 0; n <= api.MaxFields+3; n++ {
			for _, one := range []api.Type{{Kind: api.KInt}, {Kind: api.KLong}, {Kind: api.KRef, Class: 4}} {
				checkMay(t, n <= api.MaxFields, withFields(at, copies(one, n)...))
			}
		}
	}
	checkMay(t, false, withFields(4, copies(api.Type{Kind: api.KInt}, 1000)...))
}

func TestB1NumbersAsFields(t *testing.T) {
	for _, kind := range []int{api.KInt, api.KLong} {
		checkMay(t, true, withFields(2, api.Type{Kind: kind}))
		for _, class := range []int{math.MinInt, -1, 1, 2, 4, 5, 1 << 32, math.MaxInt} {
			checkMay(t, false, withFields(2, api.Type{Kind: kind, Class: class}))
		}
	}
}

func TestB1ReferencesAsFields(t *testing.T) {
	for at := range 5 {
		for class := range 5 {
			checkMay(t, true, withFields(at, api.Type{Kind: api.KRef, Class: class}))
		}
		for _, class := range []int{math.MinInt, -5, -1, 5, 6, api.MaxClasses, 1 << 32, math.MaxInt} {
			checkMay(t, false, withFields(at, api.Type{Kind: api.KRef, Class: class}))
		}
	}
}

func TestB1OtherKindsOfFields(t *testing.T) {
	for _, kind := range []int{math.MinInt, -1, api.KVoid, 4, 5, 1<<32 + api.KInt, 1<<8 + api.KRef, math.MaxInt} {
		for _, class := range []int{0, 1, -1} {
			checkMay(t, false, withFields(1, api.Type{Kind: kind, Class: class}))
		}
	}
}

func TestB1OneBadFieldAmongGoodOnes(t *testing.T) {
	for at := range 5 {
		for place := range api.MaxFields {
			fields := copies(api.Type{Kind: api.KLong}, api.MaxFields)
			fields[place] = api.Type{Kind: api.KRef, Class: 3}
			checkMay(t, true, withFields(at, fields...))
			fields[place].Class = 5
			checkMay(t, false, withFields(at, fields...))
			fields[place] = api.Type{Kind: api.KVoid}
			checkMay(t, false, withFields(at, fields...))
		}
	}
}

// tables are some classes that may be: flat, a chain, and trees of several shapes.
func tables() [][]api.Class {
	return [][]api.Class{
		flat(4),
		flat(api.MaxClasses),
		chain(4),
		chain(api.MaxClasses),
		under(-1, 0, 1, 1),
		under(-1, 0, 0, 1, 2, 1, 2),
		under(-1, 0, 1, 0, 3, 1, 4, 2, 2, 6, 5, 6),
		under(-1, 0, 0, 0, 1, 4, 1, 6, 2, 8, 9, 4),
		withFields(3, api.Type{Kind: api.KRef, Class: 4}, api.Type{Kind: api.KInt}),
	}
}

// reach answers of all pairs whether one is below the other, worked out from the bottom up rather than by going upward.
func reach(l []api.Class) [][]bool {
	r := make([][]bool, len(l))
	for c := range l {
		r[c] = make([]bool, len(l))
		if c > 0 {
			copy(r[c], r[l[c].Super])
		}
		r[c][c] = true
	}
	return r
}

func TestB2Below(t *testing.T) {
	for _, l := range tables() {
		for c, row := range reach(l) {
			for d, want := range row {
				if hier.Below(l, c, d) != want {
					t.Errorf("Below(%v, %d, %d): want %v", l, c, d, want)
				}
			}
		}
	}
}

func TestB2Join(t *testing.T) {
	for _, l := range tables() {
		r := reach(l)
		for c := range l {
			for d := range l {
				want := -1
				for e := range l {
					if r[c][e] && r[d][e] {
						want = e
					}
				}
				if got := hier.Join(l, c, d); got != want {
					t.Errorf("Join(%v, %d, %d): got %d, want %d", l, c, d, got, want)
				}
			}
		}
	}
}

func TestB2JoinsOfAllPairs(t *testing.T) {
	for _, l := range tables() {
		all := hier.Joins(l)
		if len(all) != len(l) {
			t.Fatalf("%d rows of %v", len(all), l)
		}
		for c, row := range all {
			if len(row) != len(l) {
				t.Fatalf("%d in the row %d of %v", len(row), c, l)
			}
			for d, got := range row {
				if want := hier.Join(l, c, d); got != want {
					t.Errorf("Joins(%v) of %d and %d: got %d, want %d", l, c, d, got, want)
				}
			}
		}
	}
}

func TestB2ByHand(t *testing.T) {
	l := under(-1, 0, 1, 1, 3, 0)
	for _, x := range []struct {
		c, d  int
		below bool
		join  int
	}{
		{4, 4, true, 4},
		{4, 3, true, 3},
		{3, 4, false, 3},
		{4, 1, true, 1},
		{4, 0, true, 0},
		{4, 2, false, 1},
		{2, 4, false, 1},
		{4, 5, false, 0},
		{5, 4, false, 0},
		{0, 5, false, 0},
		{0, 0, true, 0},
	} {
		if got := hier.Below(l, x.c, x.d); got != x.below {
			t.Errorf("Below %d, %d: got %v", x.c, x.d, got)
		}
		if got := hier.Join(l, x.c, x.d); got != x.join {
			t.Errorf("Join %d, %d: got %d, want %d", x.c, x.d, got, x.join)
		}
	}
}

func TestB2Example(t *testing.T) {
	if got := hier.Join(flat(4), 1, 2); got != 0 {
		t.Errorf("Join of 1 and 2: got %d", got)
	}
}

func checkNothing(t *testing.T, l []api.Class, c, d int) {
	t.Helper()
	if hier.Below(l, c, d) {
		t.Errorf("Below(%v, %d, %d): want false", l, c, d)
	}
	if got := hier.Join(l, c, d); got != -1 {
		t.Errorf("Join(%v, %d, %d): got %d, want -1", l, c, d, got)
	}
}

func TestB2NoClassNumbers(t *testing.T) {
	for _, l := range tables() {
		for _, no := range []int{math.MinInt, -1 << 32, -2, -1, len(l), len(l) + 1, 1 << 32, math.MaxInt} {
			for c := range l {
				checkNothing(t, l, c, no)
				checkNothing(t, l, no, c)
			}
			checkNothing(t, l, no, no)
			checkNothing(t, l, no, -1)
			checkNothing(t, l, -1, no)
		}
	}
}

func TestB2ClassesThatMayNotBe(t *testing.T) {
	bad := [][]api.Class{
		nil,
		{},
		flat(1),
		flat(3),
		chain(3),
		flat(api.MaxClasses + 1),
		chain(api.MaxClasses + 1),
		under(0, 0, 0, 0),
		under(-2, 0, 0, 0),
		under(-1, -1, 0, 0),
		under(-1, 1, 0, 0),
		under(-1, 2, 1, 0),
		under(-1, 0, 0, 7),
		under(1, 0, 0, 0),
		under(-1, 0, 0, math.MaxInt),
		under(-1, 0, math.MinInt, 0),
		withFields(4, api.Type{Kind: api.KVoid}),
		withFields(4, api.Type{Kind: api.KRef, Class: 5}),
		withFields(4, copies(api.Type{Kind: api.KInt}, api.MaxFields+1)...),
	}
	for _, l := range bad {
		checkMay(t, false, l)
		if got := hier.Joins(l); len(got) != 0 {
			t.Errorf("Joins(%v): got %v", l, got)
		}
		for c := -2; c <= len(l)+1; c++ {
			for d := -2; d <= len(l)+1; d++ {
				checkNothing(t, l, c, d)
			}
		}
	}
}

func TestB3JoinIsBelowAllThatBothAreBelow(t *testing.T) {
	for _, l := range tables() {
		for c := range l {
			for d := range l {
				checkLeast(t, l, c, d)
			}
		}
	}
}

func checkLeast(t *testing.T, l []api.Class, c, d int) {
	t.Helper()
	j := hier.Join(l, c, d)
	if !hier.Below(l, c, j) || !hier.Below(l, d, j) {
		t.Errorf("%v: %d and %d are not both below their Join %d", l, c, d, j)
	}
	for e := range l {
		if hier.Below(l, c, e) && hier.Below(l, d, e) && !hier.Below(l, j, e) {
			t.Errorf("%v: Join %d of %d and %d is not below %d", l, j, c, d, e)
		}
	}
}

// All tables of four and five classes without fields: few enough to go through each of them.
func TestB3AllSmallTables(t *testing.T) {
	for b := range 2 {
		for c := range 3 {
			for d := range 4 {
				l := under(-1, 0, b, c, d)
				for x := range l {
					for y := range l {
						checkLeast(t, l, x, y)
						checkLeast(t, l[:4], min(x, 3), min(y, 3))
					}
				}
			}
		}
	}
}

func TestP3NothingIsChangedNorReadBeyondTheLength(t *testing.T) {
	fields := []api.Type{{Kind: api.KInt}, {Kind: api.KRef, Class: 2}, {Kind: 9, Class: 9}}
	all := under(-1, 0, 1, 1, 77)
	all[2].Fields = fields[:2]
	before := under(-1, 0, 1, 1, 77)
	before[2].Fields = []api.Type{{Kind: api.KInt}, {Kind: api.KRef, Class: 2}}
	checkMay(t, true, all[:4])
	if !hier.Below(all[:4], 3, 1) || hier.Join(all[:4], 2, 3) != 1 {
		t.Error("what is behind the length counts")
	}
	if !reflect.DeepEqual(all, before) || (fields[2] != api.Type{Kind: 9, Class: 9}) {
		t.Errorf("changed: %v", all)
	}
}
