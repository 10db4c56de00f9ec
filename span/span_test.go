package span_test

import (
	"math"
	"testing"

	"crosswalk/span"
)

func TestP4ListsAreNumberedFromNoughtOn(t *testing.T) {
	for _, x := range []struct {
		n, count int
		want     bool
	}{
		{0, 0, false}, {0, 1, true}, {1, 1, false}, {-1, 1, false}, {4, 5, true}, {5, 5, false},
		{math.MinInt, 5, false}, {math.MaxInt, 5, false}, {0, -1, false}, {-1, -1, false},
		{math.MaxInt - 1, math.MaxInt, true}, {math.MaxInt, math.MaxInt, false},
	} {
		if got := span.Numbers(x.n, x.count); got != x.want {
			t.Errorf("Numbers(%d, %d): got %v", x.n, x.count, got)
		}
	}
}

func TestP5BoundsAreWithin(t *testing.T) {
	for _, x := range []struct {
		n, least, most int
		want           bool
	}{
		{1, 1, 3, true}, {2, 1, 3, true}, {3, 1, 3, true}, {0, 1, 3, false}, {4, 1, 3, false},
		{2, 2, 2, true}, {2, 3, 1, false}, {math.MinInt, 1, 3, false}, {math.MaxInt, 1, 3, false},
		{math.MinInt, math.MinInt, math.MaxInt, true}, {math.MaxInt, math.MinInt, math.MaxInt, true},
	} {
		if got := span.Within(x.n, x.least, x.most); got != x.want {
			t.Errorf("Within(%d, %d, %d): got %v", x.n, x.least, x.most, got)
		}
	}
}

func TestF1NumbersKeepTheirUpperBits(t *testing.T) {
	for _, n := range []int64{math.MinInt64, -1 << 32, 1 << 32, 1<<32 + 1, math.MaxInt64} {
		if span.Numbers(n, 5) || span.Within(n, 0, 5) {
			t.Errorf("%d is among five", n)
		}
	}
	if !span.Numbers(int64(4), 5) || span.Numbers(int64(5), 5) || !span.Within(int64(5), 0, 5) {
		t.Error("longs are not held against bounds as ints are")
	}
}
