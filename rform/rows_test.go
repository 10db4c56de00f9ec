package rform_test

import (
	"math"
	"math/rand"
	"testing"

	"crosswalk/api"
	"crosswalk/rform"
)

// span are the numbers that a field may have; all others it may not.
type span struct{ least, most int64 }

func (s span) has(n int64) bool {
	return s.least <= n && n <= s.most
}

func only(n int64) span {
	return span{n, n}
}

// row is one of the table, as far as its fields do not hang on each other; what it does not name is 0.
type row struct {
	op         int
	a, b, c, n span
}

func (r row) has(i api.Ins) bool {
	return r.op == i.Op && r.a.has(int64(i.A)) && r.b.has(int64(i.B)) && r.c.has(int64(i.C)) && r.n.has(i.N)
}

// rows has the table, for a method of so many registers that is otherwise as the method 1 of file(), and gives
// back what the kind says.
func rows(regs int64, ret int) []row {
	reg, pair := span{0, regs - 1}, span{0, regs - 2}
	place, class, none := span{0, 4}, span{0, 4}, only(0)
	l := []row{
		{api.RInt, reg, none, none, span{math.MinInt32, math.MaxInt32}},
		{api.RLong, pair, none, none, span{math.MinInt64, math.MaxInt64}},
		{api.RNull, reg, none, none, none},
		{api.RThrow, reg, none, none, none},
		{api.RCaught, reg, none, none, none},
		{api.RMove, reg, reg, only(api.KInt), none},
		{api.RMove, pair, pair, only(api.KLong), none},
		{api.RMove, reg, reg, only(api.KRef), none},
		{api.RIntOp, reg, reg, reg, span{1, 8}},
		{api.RLongOp, pair, pair, pair, span{1, 8}},
		{api.RWiden, pair, reg, none, none},
		{api.RNarrow, reg, pair, none, none},
		{api.RCmp, reg, pair, pair, none},
		{api.RGoto, place, none, none, none},
		{api.RIf, place, span{1, 4}, reg, none},
		{api.RIfNull, place, none, reg, none},
		{api.RNew, reg, class, none, none},
		{api.RCast, reg, class, none, none},
		{api.RIs, reg, reg, class, none},
		{api.RCall, only(0), none, none, none},
		{api.RCall, only(2), none, none, none},
		{api.RResult, reg, only(api.KInt), none, none},
		{api.RResult, pair, only(api.KLong), none, none},
		{api.RResult, reg, only(api.KRef), none, none},
		{api.REmit, reg, only(api.KInt), none, none},
		{api.REmit, pair, only(api.KLong), none, none},
		{api.RReturn, map[int]span{api.KVoid: none, api.KInt: reg, api.KLong: pair, api.KRef: reg}[ret], none, none, none},
		{api.RIn, pair, none, none, none},
	}
	for _, op := range []int{api.RGet, api.RPut} {
		l = append(l,
			row{op, reg, reg, only(3), only(0)},
			row{op, reg, reg, only(3), only(1)},
			row{op, pair, reg, only(4), only(0)})
	}
	return l
}

func mayByRows(l []row, i api.Ins) bool {
	for _, r := range l {
		if r.has(i) {
			return true
		}
	}
	return false
}

func rets() []api.Type {
	return []api.Type{{}, intType, longType, ref(3)}
}

// checker looks at one instruction within a method of so many registers; the method 1 takes nothing here, so that
// it may have few of them.
func checker(t *testing.T, regs int, ret api.Type) func(ins api.Ins) {
	f := file()
	m := &f.Methods[1]
	m.Params, m.Regs, m.Ret = nil, regs, ret
	m.Code = copies(api.Ins{Op: api.RGoto}, 5)
	l := append(rows(int64(regs), ret.Kind), row{op: api.RCall, a: only(1)})
	return func(ins api.Ins) {
		t.Helper()
		m.Code[2] = ins
		if want, got := mayByRows(l, ins), rform.May(f); got != want {
			t.Errorf("%d registers, giving %v: May with %+v: got %v", regs, ret, ins, got)
		}
	}
}

// good has instructions of each row, with the fields at their bounds, the greatest ones first.
func good(regs int64, ret int) []api.Ins {
	var l []api.Ins
	for _, r := range rows(regs, ret) {
		l = append(l,
			api.Ins{Op: r.op, A: int(r.a.most), B: int(r.b.most), C: int(r.c.most), N: r.n.most},
			api.Ins{Op: r.op, A: int(r.a.least), B: int(r.b.least), C: int(r.c.least), N: r.n.least})
	}
	return l
}

func TestF1EachOpIsLookedAt(t *testing.T) {
	seen := map[int]bool{}
	for _, ins := range good(6, api.KVoid) {
		seen[ins.Op] = true
		checkIns(t, true, ins)
	}
	for op := api.RInt; op <= api.RIn; op++ {
		if !seen[op] {
			t.Errorf("Op %d is not looked at", op)
		}
	}
	if len(seen) != api.RIn {
		t.Errorf("%d Ops are looked at", len(seen))
	}
}

func longs() []int64 {
	l := []int64{math.MinInt32 - 1, math.MinInt32, math.MinInt32 + 1, math.MaxInt32 - 1, math.MaxInt32, math.MaxInt32 + 1, math.MaxUint32}
	for _, n := range append(far(), near()...) {
		l = append(l, int64(n))
	}
	return l
}

// One field at a time is anything, while the others are at their bounds.
func TestF1EachFieldByItself(t *testing.T) {
	for _, ret := range rets() {
		check := checker(t, 6, ret)
		for _, ins := range good(6, ret.Kind) {
			check(ins)
			for _, n := range append(far(), near()...) {
				for _, other := range []api.Ins{
					{Op: ins.Op, A: n, B: ins.B, C: ins.C, N: ins.N},
					{Op: ins.Op, A: ins.A, B: n, C: ins.C, N: ins.N},
					{Op: ins.Op, A: ins.A, B: ins.B, C: n, N: ins.N},
					{Op: n, A: ins.A, B: ins.B, C: ins.C, N: ins.N},
				} {
					check(other)
				}
			}
			for _, n := range longs() {
				check(api.Ins{Op: ins.Op, A: ins.A, B: ins.B, C: ins.C, N: n})
			}
		}
	}
}

// The first and the last register, and those beside them, for each number of registers that there may be.
func TestF1EachNumberOfRegisters(t *testing.T) {
	for regs := 1; regs <= api.MaxRegs; regs++ {
		check := checker(t, regs, longType)
		numbers := []int{-1, 0, 1, regs - 3, regs - 2, regs - 1, regs, regs + 1}
		for _, r := range rows(6, api.KLong) {
			for _, n := range numbers {
				check(api.Ins{Op: r.op, A: n, B: int(r.b.least), C: int(r.c.least), N: r.n.least})
				check(api.Ins{Op: r.op, A: int(r.a.least), B: n, C: int(r.c.least), N: r.n.least})
				check(api.Ins{Op: r.op, A: int(r.a.least), B: int(r.b.least), C: n, N: r.n.least})
				check(api.Ins{Op: r.op, A: n, B: n, C: n, N: r.n.least})
				check(api.Ins{Op: r.op, A: n, B: n, C: int(r.c.least), N: r.n.least})
			}
		}
	}
}

func TestF1AllFieldsTogether(t *testing.T) {
	numbers := []int{-1, 0, 1, 2, 3, 4, 5, 6, 7, 1 << 32, math.MaxInt}
	for _, ret := range rets() {
		check := checker(t, 6, ret)
		for op := -1; op <= api.RIn+2; op++ {
			for _, a := range numbers {
				for _, b := range numbers {
					for _, c := range numbers {
						for _, n := range []int64{0, 1, 9} {
							check(api.Ins{Op: op, A: a, B: b, C: c, N: n})
						}
					}
				}
			}
		}
	}
}

func TestF1WildInstructions(t *testing.T) {
	r := rand.New(rand.NewSource(1))
	numbers := append(far(), near()...)
	one := func() int { return numbers[r.Intn(len(numbers))] }
	for regs := range 8 {
		check := checker(t, regs+1, rets()[regs%4])
		for range 20000 {
			check(api.Ins{Op: r.Intn(26), A: one(), B: one(), C: one(), N: int64(one())})
		}
	}
}

func TestF1NoSuchOp(t *testing.T) {
	for _, op := range append(far(), 0, api.RIn+1, api.RIn+2, 100) {
		checkIns(t, false, api.Ins{Op: op})
		checkIns(t, false, api.Ins{Op: op, A: 1, B: 1, C: 1, N: 1})
	}
}

func TestF1NoArgsButOfCall(t *testing.T) {
	for _, ins := range good(6, api.KVoid) {
		ins.Args = []int{}
		checkIns(t, true, ins)
		for _, args := range [][]int{{0}, {1}, {-1}, {0, 0}, {0, 2, 3}, make([]int, 1000)} {
			ins.Args = args
			checkIns(t, false, ins)
		}
	}
}

func TestF1NumbersOfInts(t *testing.T) {
	for _, n := range []int64{math.MinInt32, math.MinInt32 + 1, -1, 0, 1, math.MaxInt32 - 1, math.MaxInt32} {
		checkIns(t, true, api.Ins{Op: api.RInt, N: n})
		checkIns(t, true, api.Ins{Op: api.RLong, N: n})
	}
	for _, n := range []int64{math.MinInt64, -1 << 32, math.MinInt32 - 1, math.MaxInt32 + 1, math.MaxUint32, 1 << 32, math.MaxInt64} {
		checkIns(t, false, api.Ins{Op: api.RInt, N: n})
		checkIns(t, true, api.Ins{Op: api.RLong, N: n})
	}
}

func TestF1MoveResultAndEmitOfEachKind(t *testing.T) {
	for kind := -1; kind < 6; kind++ {
		for r := -1; r < 8; r++ {
			may := map[int]bool{api.KInt: r >= 0 && r <= 5, api.KLong: r >= 0 && r <= 4, api.KRef: r >= 0 && r <= 5}[kind]
			checkIns(t, may, api.Ins{Op: api.RMove, A: r, B: 1, C: kind})
			checkIns(t, may, api.Ins{Op: api.RMove, A: 1, B: r, C: kind})
			checkIns(t, may, api.Ins{Op: api.RMove, A: r, B: r, C: kind})
			checkIns(t, may, api.Ins{Op: api.RResult, A: r, B: kind})
			checkIns(t, may && kind != api.KRef, api.Ins{Op: api.REmit, A: r, B: kind})
		}
	}
}

func TestF1ReturnOfEachKind(t *testing.T) {
	for _, x := range []struct {
		ret  api.Type
		most int
	}{{api.Type{}, 0}, {intType, 5}, {longType, 4}, {ref(0), 5}, {ref(4), 5}} {
		for _, r := range append(far(), near()...) {
			checkMethods(t, r >= 0 && r <= x.most, func(m *api.Method) {
				m.Ret = x.ret
				m.Code[4] = api.Ins{Op: api.RReturn, A: r}
			})
		}
	}
}

func TestF1FieldsOfTheClassItself(t *testing.T) {
	kinds := [][]int{{}, {}, {}, {api.KInt, api.KRef}, {api.KLong}}
	for _, op := range []int{api.RGet, api.RPut} {
		for class := -2; class < 9; class++ {
			for n := int64(-2); n < 9; n++ {
				there := class >= 0 && class < 5 && n >= 0 && n < int64(len(kinds[class]))
				for r := -1; r < 8; r++ {
					most := 5
					if there && kinds[class][n] == api.KLong {
						most = 4
					}
					checkIns(t, there && r >= 0 && r <= most, api.Ins{Op: op, A: r, B: 2, C: class, N: n})
					checkIns(t, there && r >= 0 && r <= 5, api.Ins{Op: op, A: 2, B: r, C: class, N: n})
				}
			}
		}
		for _, n := range far() {
			checkIns(t, false, api.Ins{Op: op, C: n})
			checkIns(t, false, api.Ins{Op: op, C: n, N: int64(n)})
			checkIns(t, false, api.Ins{Op: op, C: 3, N: int64(n)})
			checkIns(t, false, api.Ins{Op: op, C: 4, N: int64(n)})
		}
	}
}
