package tidy_test

import (
	"slices"
	"testing"

	"crosswalk/api"
	"crosswalk/rrun"
)

func TestK3JumpsBackward(t *testing.T) {
	f := file(giving(longType,
		stayInt(0), setLong(1, 0), setInt(3, 1), jump(5), stayInt(9),
		widen(4, 0), stay(4, api.KLong), longOp(api.OpAdd, 1, 1, 4), stayInt(0), intOp(api.OpSub, 0, 0, 3), stay(1, api.KLong), jumpIf(5, api.CondAbove, 0),
		stay(1, api.KLong), giveBack(1)))
	f.Methods[0].Params = types(intType)
	for _, n := range []int64{1, 2, 10} {
		if s := follow(t, f, asked{args: numbers(n)}); s.End != api.EndDone || s.Value != n*(n+1)/2 {
			t.Errorf("%d: %+v", n, s)
		}
	}
	// To the first instruction, by each jump; that is idle, or not.
	for _, x := range []struct {
		back api.Ins
		want []int64
	}{{jump(0), numbers(2, 1, 0)}, {jumpIf(0, api.CondAbove, 0), numbers(2, 1)}, {jumpIfNull(0, 2), numbers(2, 1, 0)}} {
		l := code(setInt(1, 1), setNull(2), emitInt(0), intOp(api.OpSub, 0, 0, 1), jumpIf(6, api.CondLess, 0), x.back, comeBack)
		checkStays(t, taking(types(intType), l...))
		idle := taking(types(intType), join(code(stayInt(0), stayInt(0)), shifted(2, l))...)
		idle.Code[7].A = 0
		checkLeft(t, method(l...), idle)
		checkArg(t, file(idle), 2, x.want...)
	}
}

func TestK3JumpsToThemselves(t *testing.T) {
	checkStays(t, method(jump(0)))
	checkStays(t, method(setInt(0, 0), jumpIf(1, api.CondZero, 0), comeBack))
	checkStays(t, method(setNull(0), jumpIfNull(1, 0), comeBack))
	checkLeft(t, method(jump(0)), method(jump(0), jump(1)))
	checkLeft(t, method(setInt(0, 0), jumpIf(1, api.CondZero, 0), comeBack), method(setInt(0, 0), stayInt(0), jumpIf(2, api.CondZero, 0), stayInt(0), comeBack))
	checkLeft(t, method(setNull(0), jumpIfNull(1, 0), comeBack), method(setNull(0), stayRef(0), jumpIfNull(2, 0), comeBack, comeBack))
	// And to the next one, which is come to anyway.
	checkStays(t, method(setInt(0, 0), jump(2), jumpIf(3, api.CondZero, 0), setNull(1), jumpIfNull(5, 1), emitInt(0), comeBack))
}

// Jumps over each other, both ways, with what is idle or can't be come to strewn in: all go on where they went on.
func TestK3JumpsBothWays(t *testing.T) {
	m := taking(types(intType),
		jump(9), throwIt(20),
		setInt(1, 1), stayInt(1), emitInt(1), jump(12), stayInt(1),
		setInt(1, 2), jump(3), stayInt(0), jumpIf(2, api.CondAbove, 0), jump(7),
		stayInt(0), stayInt(1), emitInt(0), intOp(api.OpSub, 0, 0, 1), jumpIf(9, api.CondAbove, 0), comeBack)
	checkLeft(t, method(
		jump(6),
		setInt(1, 1), emitInt(1), jump(8),
		setInt(1, 2), jump(2), jumpIf(1, api.CondAbove, 0), jump(4),
		emitInt(0), intOp(api.OpSub, 0, 0, 1), jumpIf(6, api.CondAbove, 0), comeBack), m)
	checkArg(t, file(m), 2, 1, 2, 1, 1)
	checkArg(t, file(m), 0, 2, 0)
}

// Every entry is one that a run may begin with.
func TestK3EachEntry(t *testing.T) {
	f := file(
		method(setInt(0, 10), stayInt(0), emitInt(0), comeBack),
		giving(intType, setInt(0, 11), stayInt(0), giveBack(0)),
		giving(longType, setLong(0, 12), giveBack(0), stay(0, api.KLong)),
		method(setNew(0, upper), throwIt(0), caught(0)))
	r := made(t, f)
	for entry, want := range []api.Shown{{End: api.EndDone, Out: numbers(10)}, {End: api.EndDone, Value: 11}, {End: api.EndDone, Value: 12}, {End: api.EndThrown, Class: upper}} {
		if s := followMade(t, f, r, asked{entry: entry}); !shownAlike(s, want) {
			t.Errorf("%d: %+v", entry, s)
		}
	}
}

func TestK3Args(t *testing.T) {
	f := file(taking(types(intType, longType, intType, longType), stayInt(0), stay(1, api.KLong), stayInt(3), stay(4, api.KLong), emitInt(0), emitLong(1), emitInt(3), emitLong(4), comeBack))
	r := made(t, f)
	for _, args := range [][]int64{{1, 2, 3, 4}, {1 << 32, 1 << 32, -1 << 31, -1 << 63}, {1 << 31, 0, -1, 0}} {
		s := followMade(t, f, r, asked{args: args})
		if s.End != api.EndDone || s.Out[1] != args[1] || s.Out[3] != args[3] {
			t.Errorf("%v: %+v", args, s)
		}
	}
}

func TestK3Recursion(t *testing.T) {
	product := giving(longType,
		stayInt(0), jumpIf(5, api.CondAbove, 0), setLong(1, 1), giveBack(1), caught(0),
		setInt(1, 1), intOp(api.OpSub, 1, 0, 1), stayInt(1), call(0, 1), result(2, api.KLong), stay(2, api.KLong), widen(4, 0), longOp(api.OpMul, 2, 4, 2), giveBack(2))
	product.Params = types(intType)
	f := file(product)
	for _, x := range []struct{ n, want int64 }{{0, 1}, {1, 1}, {5, 120}, {19, 121645100408832000}} {
		if s := follow(t, f, asked{args: numbers(x.n)}); s.End != api.EndDone || s.Value != x.want {
			t.Errorf("%d: %+v", x.n, s)
		}
	}
	if s := follow(t, f, asked{args: numbers(20)}); s.End != api.EndDeep {
		t.Errorf("got %+v", s)
	}
}

// loop goes round so often, lets a number come out in each round, and has so many idle ones in it.
func loop(rounds int64, idle int) api.Method {
	return giving(intType, join(code(setInt(0, rounds), setInt(1, 1)), times(idle, stayInt(0)), code(emitInt(0), intOp(api.OpSub, 0, 0, 1), jumpIf(2, api.CondAbove, 0), giveBack(0)))...)
}

// Each fuel of a small run: at each step what comes out begins with what came out, and from the last step on all is the same.
func TestK3EachFuel(t *testing.T) {
	for idle := range 4 {
		f := file(loop(5, idle))
		r := made(t, f)
		whole, _ := checkRun(t, f, r, asked{fuel: api.MaxFuel})
		if want := 3 + 5*(3+idle); whole.End != api.EndDone || whole.Steps != want {
			t.Errorf("%d: %+v", idle, whole)
		}
		for fuel := range whole.Steps + 3 {
			s, _ := checkRun(t, f, r, asked{fuel: fuel})
			if (s.End == api.EndDone) != (fuel >= whole.Steps) {
				t.Errorf("%d with %d: %+v", idle, fuel, s)
			}
		}
		// What is left takes no more steps than it had.
		if s, _ := rrun.Run(r, 0, nil, nil, 3+5*3); s.End != api.EndDone {
			t.Errorf("%d: %+v", idle, s)
		}
	}
}

// The most fuel that may be, and runs that end with its last step, or need one more.
func TestK3TheMostFuel(t *testing.T) {
	ended := map[int]int{}
	for idle := range 3 {
		for ahead := range 6 {
			steps := 3 + idle
			rounds := int64((api.MaxFuel-3-ahead)/steps) + int64(ahead%2)
			m := loop(rounds, idle)
			m.Code = join(times(ahead, setInt(2, 1)), shifted(ahead, m.Code))
			f := file(m)
			r := made(t, f)
			for _, fuel := range []int{api.MaxFuel, api.MaxFuel - 1, api.MaxFuel - 2, api.MaxFuel / 2} {
				s, _ := checkRun(t, f, r, asked{fuel: fuel})
				ended[s.End]++
				if s.End == api.EndDone && s.Steps == fuel {
					ended[-1]++
				}
			}
		}
	}
	if ended[api.EndFuel] == 0 || ended[api.EndDone] == 0 || ended[-1] == 0 {
		t.Errorf("none ended at the last step: %v", ended)
	}
}

// Methods of the most instructions and handlers: nothing is left out, all but one, all that can't be come to, and every other one.
func TestK2TheGreatestMethods(t *testing.T) {
	all := func(l ...api.Ins) []api.Ins { return slices.Repeat(l, (api.MaxRegCode-1)/len(l)) }
	look := func(want, m api.Method) {
		t.Helper()
		for len(m.Code) < api.MaxRegCode {
			m.Code = append(m.Code, comeBack)
		}
		checkLeftOnce(t, want, m)
	}
	one := types(intType)
	look(method(join(all(emitInt(0)), code(comeBack))...), taking(one, all(emitInt(0))...))
	look(method(comeBack), taking(one, all(stayInt(0))...))
	look(method(comeBack), method(join(code(comeBack), all(caught(0)))...))
	look(method(jump(0)), method(join(code(jump(0)), all(jump(api.MaxRegCode-1)))...))
	half := api.MaxRegCode/2 - 1
	look(method(join(times(half, emitInt(0)), code(comeBack))...), taking(one, slices.Repeat(code(emitInt(0), stayInt(0)), half)...))
	last := api.MaxRegCode - 1
	look(method(jump(1), comeBack), method(join(code(jump(last)), times(last-1, throwIt(3)))...))
	// All jumps go one past the next one, where something can't be come to.
	var jumps, left []api.Ins
	for len(jumps) < last-1 {
		jumps = append(jumps, jump(len(jumps)+2), result(0, 1))
		left = append(left, jump(len(left)+1))
	}
	look(method(append(left, comeBack)...), method(jumps...))
}

func TestK2TheMostHandlers(t *testing.T) {
	const at = api.MaxRegCode - 3
	m := taking(types(intType), join(slices.Repeat(code(emitInt(0), stayInt(0)), 1197), code(jump(at-1), throwIt(0), comeBack, caught(1), stayInt(0), jump(at-1)))...)
	if len(m.Code) != api.MaxRegCode {
		t.Fatalf("%d instructions", len(m.Code))
	}
	for n := range api.MaxHandlers {
		m.Handlers = append(m.Handlers, over(n*300, n*300+1+n%2*299, at, n))
	}
	want := method(join(times(1197, emitInt(0)), code(jump(1198), comeBack, caught(1), jump(1198)))...)
	for n := range api.MaxHandlers {
		want.Handlers = append(want.Handlers, over(n*150, n*150+1+n%2*149, 1199, n))
	}
	// The last one ends within what can't be come to, or behind it.
	m.Handlers[7].To, want.Handlers[7].To = 2396, 1198
	checkLeftOnce(t, want, m)
	m.Handlers[7].To, want.Handlers[7].To = 2397, 1199
	checkLeftOnce(t, want, m)
	// All of them stand over what is idle alone: all go.
	for n := range m.Handlers {
		m.Handlers[n].From, m.Handlers[n].To = 2*n+1, 2*n+2
	}
	checkLeftOnce(t, method(want.Code[:1199]...), m)
}

// checkLeftOnce is for methods of which all fuels would take long.
func checkLeftOnce(t *testing.T, want, m api.Method) {
	t.Helper()
	f := file(m)
	r := made(t, f)
	if got := r.Methods[0]; !slices.EqualFunc(got.Code, want.Code, sameIns) || !slices.Equal(got.Handlers, want.Handlers) {
		t.Errorf("left are %d instructions, want %d, and %v, want %v", len(got.Code), len(want.Code), got.Handlers, want.Handlers)
	}
	for _, fuel := range []int{0, 1, 2, 700, 1200, 2395, 2396, 2397, 2398, 2399, 2400, api.MaxFuel} {
		checkRun(t, f, r, asked{args: make([]int64, len(m.Params)), fuel: fuel})
	}
}
