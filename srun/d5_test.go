package srun_test

import (
	"math"
	"testing"

	"crosswalk/api"
)

func TestD5DoneWithAValue(t *testing.T) {
	for _, n := range []int64{0, 1, -1, math.MaxInt32, math.MinInt32} {
		checkShown(t, run(t, giving(intType, putInt(n), comeBack)), api.Shown{End: api.EndDone, Value: n, Steps: 2})
	}
	for _, n := range []int64{0, 1, -1, 1 << 32, math.MaxInt64, math.MinInt64} {
		checkShown(t, run(t, giving(longType, putLong(n), comeBack)), api.Shown{End: api.EndDone, Value: n, Steps: 2})
	}
}

func TestD5DoneWithoutANumber(t *testing.T) {
	checkShown(t, run(t, method(putInt(5), comeBack)), api.Shown{End: api.EndDone, Steps: 2})
	checkShown(t, run(t, giving(ref(0), putNull, comeBack)), api.Shown{End: api.EndDone, Steps: 2})
	checkShown(t, run(t, giving(ref(upper), ins(api.SNew), pop, ins(api.SNew, lower), comeBack)), api.Shown{End: api.EndDone, Steps: 4})
}

func TestD5TheValueIsThatOfTheEntry(t *testing.T) {
	checkShown(t, run(t, method(ins(api.SCall, 1), pop, comeBack), giving(intType, putInt(8), comeBack)), api.Shown{End: api.EndDone, Steps: 5})
	checkShown(t, run(t, giving(longType, ins(api.SCall, 1), ins(api.SWiden), comeBack), giving(intType, putInt(8), comeBack)), api.Shown{End: api.EndDone, Value: 8, Steps: 5})
	checkShown(t, run(t, giving(intType, putInt(1), ins(api.SCall, 1), comeBack), method(comeBack)), api.Shown{End: api.EndDone, Value: 1, Steps: 4})
}

func TestD5ClassIsThatOfTheObject(t *testing.T) {
	for class := range classes() {
		thrower := method(ins(api.SNew, class), throwIt)
		checkShown(t, run(t, thrower), api.Shown{End: api.EndThrown, Class: class, Steps: 2})
		checkShown(t, run(t, giving(intType, ins(api.SCall, 1), comeBack), thrower), api.Shown{End: api.EndThrown, Class: class, Steps: 3})
	}
}

// What came out, what was taken and the steps are shown whichever way the run ends, from within a call, too.
func TestD5EachWayToEnd(t *testing.T) {
	begin := code(comeIn, emitLong, comeIn, pop, putInt(77), emitInt)
	for _, x := range []struct {
		l    []api.Ins
		fuel int
		want api.Shown
	}{
		{code(comeBack), 99, api.Shown{End: api.EndDone, Steps: 7}},
		{code(ins(api.SNew, other), throwIt), 99, api.Shown{End: api.EndThrown, Class: other, Steps: 8}},
		{code(comeIn, comeIn), 99, api.Shown{End: api.EndInput, Used: 1, Steps: 8}},
		{times(api.MaxObjects+1, ins(api.SNew), pop), 999, api.Shown{End: api.EndFull, Steps: 7 + 2*api.MaxObjects}},
		{code(ins(api.SCall, 2)), 99, api.Shown{End: api.EndDeep}},
		{code(pop), 99, api.Shown{End: api.EndStuck, Steps: 7}},
		{code(ins(api.SGoto, 6)), 99, api.Shown{End: api.EndFuel, Steps: 99}},
	} {
		x.want.Out = []int64{-4, 77}
		x.want.Used += 2
		m := method(join(begin, x.l)...)
		deep := method(ins(api.SCall, 2))
		steps := x.want.Steps
		if x.want.End == api.EndDeep {
			x.want.Steps = 7 + api.MaxCalls - 1
		}
		input := []int64{-4, 5, 6}
		checkShown(t, runFile(t, file(m, deep, deep), nil, input, x.fuel), x.want)
		switch x.want.End {
		case api.EndFuel, api.EndDeep:
			// One call more is one step more, and one call, or one step of the fuel, less.
		case api.EndDone:
			x.want.Steps = steps + 2
		default:
			x.want.Steps = steps + 1
		}
		caller := method(ins(api.SCall, 1), comeBack)
		checkShown(t, runFile(t, file(caller, m, deep), nil, input, x.fuel), x.want)
	}
}
