package num_test

import (
	"math"
	"math/big"
	"testing"

	"crosswalk/api"
	"crosswalk/num"
)

const (
	leastLong    = math.MinInt64
	greatestLong = math.MaxInt64
	leastInt     = math.MinInt32
	greatestInt  = math.MaxInt32
)

// edges are the numbers around which something turns over: 0, 31, 32, 33, 63 and 64 bits.
func edges() []int64 {
	var l []int64
	for _, n := range []int64{0, 7, -7, 1000, 65536, -65536, 46341, 3037000500, leastInt, greatestInt, 1 << 32, -1 << 32, 1 << 33, leastLong, greatestLong, 0x123456789abcdef0, -0x123456789abcdef0} {
		l = append(l, n-2, n-1, n, n+1, n+2)
	}
	return l
}

func noOps() []int {
	return []int{0, 9, 10, -1, -8, 100, math.MinInt, math.MaxInt, 1<<32 + api.OpAdd, 1<<8 + api.OpDiv}
}

// kept is the number from -2^(bits-1) to below 2^(bits-1) that n is but for multiples of 2^bits.
func kept(n *big.Int, bits uint) int64 {
	whole := new(big.Int).Lsh(big.NewInt(1), bits)
	half := new(big.Int).Rsh(whole, 1)
	r := new(big.Int).Add(n, half)
	r.Mod(r, whole)
	return r.Sub(r, half).Int64()
}

// exact is what an operation gives with nothing lost; false, where there is no answer.
func exact(op int, a, b int64) (*big.Int, bool) {
	x, y, z := big.NewInt(a), big.NewInt(b), new(big.Int)
	switch op {
	case api.OpAdd:
		return z.Add(x, y), true
	case api.OpSub:
		return z.Sub(x, y), true
	case api.OpMul:
		return z.Mul(x, y), true
	case api.OpDiv:
		return z, b != 0 && z.Quo(x, y) != nil
	case api.OpRem:
		return z, b != 0 && z.Rem(x, y) != nil
	case api.OpAnd:
		return z.And(x, y), true
	case api.OpOr:
		return z.Or(x, y), true
	case api.OpXor:
		return z.Xor(x, y), true
	}
	return z, false
}

type answer struct {
	n  int64
	ok bool
}

type sum struct {
	op   int
	a, b int64
	want answer
}

func yes(n int64) answer { return answer{n, true} }

func checkSums(t *testing.T, f func(int, int64, int64) (int64, bool), sums []sum) {
	t.Helper()
	for _, s := range sums {
		if n, ok := f(s.op, s.a, s.b); (answer{n, ok}) != s.want {
			t.Errorf("op %d of %d and %d: got %d %v, want %d %v", s.op, s.a, s.b, n, ok, s.want.n, s.want.ok)
		}
	}
}

func TestA1Narrow(t *testing.T) {
	for _, c := range []struct{ a, want int64 }{
		{0, 0},
		{5, 5},
		{-5, -5},
		{greatestInt, greatestInt},
		{greatestInt + 1, leastInt},
		{leastInt, leastInt},
		{leastInt - 1, greatestInt},
		{1<<32 - 1, -1},
		{1 << 32, 0},
		{1<<32 + 7, 7},
		{-1 << 32, 0},
		{-1<<32 - 1, -1},
		{leastLong, 0},
		{greatestLong, -1},
		{0x123456789abcdef0, 0x9abcdef0 - 1<<32},
	} {
		if n := num.Narrow(c.a); n != c.want {
			t.Errorf("Narrow(%d): got %d, want %d", c.a, n, c.want)
		}
	}
}

func TestA1NarrowHasLowerBits(t *testing.T) {
	for _, a := range edges() {
		if n, want := num.Narrow(a), kept(big.NewInt(a), 32); n != want {
			t.Errorf("Narrow(%d): got %d, want %d", a, n, want)
		}
	}
}

func TestA2LongOrdinary(t *testing.T) {
	checkSums(t, num.Long, []sum{
		{api.OpAdd, 3, 4, yes(7)},
		{api.OpSub, 3, 4, yes(-1)},
		{api.OpMul, -3, 4, yes(-12)},
		{api.OpDiv, 7, 2, yes(3)},
		{api.OpDiv, -7, 2, yes(-3)},
		{api.OpDiv, 7, -2, yes(-3)},
		{api.OpDiv, -7, -2, yes(3)},
		{api.OpRem, 7, 2, yes(1)},
		{api.OpRem, -7, 2, yes(-1)},
		{api.OpRem, 7, -2, yes(1)},
		{api.OpRem, -7, -2, yes(-1)},
		{api.OpAnd, 12, 10, yes(8)},
		{api.OpOr, 12, 10, yes(14)},
		{api.OpXor, 12, 10, yes(6)},
		{api.OpAnd, -1, 10, yes(10)},
		{api.OpOr, -1, 10, yes(-1)},
		{api.OpXor, -1, 10, yes(-11)},
	})
}

func TestA2LongEdges(t *testing.T) {
	checkSums(t, num.Long, []sum{
		{api.OpDiv, leastLong, -1, yes(leastLong)},
		{api.OpRem, leastLong, -1, yes(0)},
		{api.OpDiv, leastInt, -1, yes(greatestInt + 1)},
		{api.OpRem, leastInt, -1, yes(0)},
		{api.OpDiv, leastLong, 1, yes(leastLong)},
		{api.OpDiv, greatestLong, -1, yes(-greatestLong)},
		{api.OpAdd, greatestLong, 1, yes(leastLong)},
		{api.OpSub, leastLong, 1, yes(greatestLong)},
		{api.OpSub, 0, leastLong, yes(leastLong)},
		{api.OpMul, 1 << 32, 1 << 32, yes(0)},
		{api.OpMul, 65536, 65536, yes(1 << 32)},
		{api.OpMul, leastLong, -1, yes(leastLong)},
		{api.OpDiv, 1, 0, answer{}},
		{api.OpDiv, 0, 0, answer{}},
		{api.OpDiv, leastLong, 0, answer{}},
		{api.OpRem, 1, 0, answer{}},
		{api.OpRem, 0, 0, answer{}},
		{api.OpRem, leastLong, 0, answer{}},
		{api.OpDiv, 1, 1 << 32, yes(0)},
		{api.OpRem, 1, 1 << 32, yes(1)},
	})
}

func TestA2IntOrdinary(t *testing.T) {
	checkSums(t, num.Int, []sum{
		{api.OpAdd, 3, 4, yes(7)},
		{api.OpSub, 3, 4, yes(-1)},
		{api.OpMul, -3, 4, yes(-12)},
		{api.OpDiv, -7, 2, yes(-3)},
		{api.OpRem, -7, 2, yes(-1)},
		{api.OpRem, 7, -2, yes(1)},
		{api.OpAnd, 12, 10, yes(8)},
		{api.OpOr, 12, 10, yes(14)},
		{api.OpXor, 12, 10, yes(6)},
	})
}

func TestA2IntEdges(t *testing.T) {
	checkSums(t, num.Int, []sum{
		{api.OpMul, 65536, 65536, yes(0)},
		{api.OpDiv, leastInt, -1, yes(leastInt)},
		{api.OpRem, leastInt, -1, yes(0)},
		{api.OpAdd, greatestInt, 1, yes(leastInt)},
		{api.OpSub, leastInt, 1, yes(greatestInt)},
		{api.OpSub, 0, leastInt, yes(leastInt)},
		{api.OpMul, 46341, 46341, yes(46341*46341 - 1<<32)},
		{api.OpDiv, 1, 0, answer{}},
		{api.OpDiv, leastInt, 0, answer{}},
		{api.OpRem, 1, 0, answer{}},
		{api.OpRem, 0, 0, answer{}},
	})
}

func TestA2IntBeyond32Bits(t *testing.T) {
	checkSums(t, num.Int, []sum{
		{api.OpAdd, 1<<32 + 3, 1<<33 + 4, yes(7)},
		{api.OpDiv, 1<<32 + 9, 2, yes(4)},
		{api.OpDiv, 1 << 31, -1, yes(leastInt)},
		{api.OpDiv, 1 << 31, 1<<32 - 1, yes(leastInt)},
		{api.OpRem, 1 << 31, 1<<32 - 1, yes(0)},
		{api.OpDiv, 1, 1 << 32, answer{}},
		{api.OpRem, 1, 1 << 32, answer{}},
		{api.OpDiv, leastLong, -1, yes(0)},
		{api.OpDiv, 1, leastLong, answer{}},
		{api.OpRem, 1<<32 - 7, 2, yes(-1)},
		{api.OpOr, 1 << 32, 1 << 31, yes(leastInt)},
		{api.OpAnd, -1, 1<<32 - 1, yes(-1)},
		{api.OpXor, greatestLong, leastLong, yes(-1)},
	})
}

func TestA2OtherOps(t *testing.T) {
	for _, op := range noOps() {
		for _, a := range []int64{0, 1, -1, leastLong, greatestLong} {
			want := []sum{{op, a, 0, answer{}}, {op, a, 1, answer{}}, {op, a, -1, answer{}}}
			checkSums(t, num.Long, want)
			checkSums(t, num.Int, want)
		}
	}
}

func TestA2AgainstExactNumbers(t *testing.T) {
	for op := api.OpAdd; op <= api.OpXor; op++ {
		for _, a := range edges() {
			for _, b := range edges() {
				checkExact(t, op, a, b)
			}
		}
	}
}

func checkExact(t *testing.T, op int, a, b int64) {
	t.Helper()
	long, ok := exact(op, a, b)
	checkSums(t, num.Long, []sum{{op, a, b, answer{kept(long, 64), ok}}})
	narrow, ok := exact(op, kept(big.NewInt(a), 32), kept(big.NewInt(b), 32))
	checkSums(t, num.Int, []sum{{op, a, b, answer{kept(narrow, 32), ok}}})
}

func TestA3Cmp(t *testing.T) {
	for _, c := range []struct{ a, b, want int64 }{
		{3, 4, -1},
		{4, 4, 0},
		{4, 3, 1},
		{-1, 0, -1},
		{0, 0, 0},
		{0, -1, 1},
		{leastLong, greatestLong, -1},
		{greatestLong, leastLong, 1},
		{leastLong, leastLong, 0},
		{greatestLong, greatestLong, 0},
		{leastLong, 1, -1},
		{1, leastLong, 1},
		{0, 1 << 32, -1},
		{1 << 32, 0, 1},
	} {
		if n := num.Cmp(c.a, c.b); n != c.want {
			t.Errorf("Cmp(%d, %d): got %d, want %d", c.a, c.b, n, c.want)
		}
	}
}

func TestA3CmpAgainstExactNumbers(t *testing.T) {
	for _, a := range edges() {
		for _, b := range edges() {
			if n, want := num.Cmp(a, b), int64(big.NewInt(a).Cmp(big.NewInt(b))); n != want {
				t.Errorf("Cmp(%d, %d): got %d, want %d", a, b, n, want)
			}
		}
	}
}

func TestA3Holds(t *testing.T) {
	for _, c := range []struct {
		cond               int
		below, zero, above bool
	}{
		{api.CondZero, false, true, false},
		{api.CondLess, true, false, false},
		{api.CondBoth, true, false, true},
		{api.CondAbove, false, false, true},
	} {
		checkHolds(t, c.cond, c.below, -1, -2, leastInt, leastInt-1, -1<<32, leastLong)
		checkHolds(t, c.cond, c.zero, 0)
		checkHolds(t, c.cond, c.above, 1, 2, greatestInt, greatestInt+1, 1<<32, greatestLong)
	}
}

func TestA3OtherConds(t *testing.T) {
	for _, cond := range []int{0, 5, 6, 7, 9, -1, -4, math.MinInt, math.MaxInt, 1<<32 + api.CondZero, 1<<8 + api.CondBoth} {
		checkHolds(t, cond, false, edges()...)
	}
}

func checkHolds(t *testing.T, cond int, want bool, numbers ...int64) {
	t.Helper()
	for _, a := range numbers {
		if num.Holds(cond, a) != want {
			t.Errorf("Holds(%d, %d): want %v", cond, a, want)
		}
	}
}
