package drive_test

import (
	"strconv"
	"strings"
	"testing"

	"crosswalk/api"
)

// ending is a run of files of both forms that ends so.
type ending struct {
	files pair[api.Method]
	want  string
}

func endings() []ending {
	return []ending{
		{pair[api.Method]{
			onStack(api.Ins{Op: api.SGoto}),
			onRegisters(api.Ins{Op: api.RGoto}),
		}, "fuel 0 0 0"},
		{pair[api.Method]{
			onStack(api.Ins{Op: api.SReturn}),
			onRegisters(api.Ins{Op: api.RReturn}),
		}, "done 0 0 0"},
		{pair[api.Method]{giveOnStack(-12), giveOnRegisters(-12)}, "done -12 0 0"},
		// What is a reference is no Value.
		{pair[api.Method]{
			with(onStack(api.Ins{Op: api.SNew, A: 3}, api.Ins{Op: api.SReturn}), refType),
			with(onRegisters(api.Ins{Op: api.RNew, B: 3}, api.Ins{Op: api.RReturn}), refType),
		}, "done 0 0 0"},
		{pair[api.Method]{
			onStack(api.Ins{Op: api.SIn}, api.Ins{Op: api.SEmit, A: api.KLong}, api.Ins{Op: api.SInt, N: 1}, api.Ins{Op: api.SInt}, api.Ins{Op: api.SIntOp, A: api.OpDiv}, api.Ins{Op: api.SPop}, api.Ins{Op: api.SReturn}),
			onRegisters(api.Ins{Op: api.RIn}, api.Ins{Op: api.REmit, B: api.KLong}, api.Ins{Op: api.RInt}, api.Ins{Op: api.RIntOp, N: api.OpDiv}, api.Ins{Op: api.RReturn}),
		}, "thrown 0 2 1 -30"},
		{pair[api.Method]{
			onStack(api.Ins{Op: api.SNew, A: 3}, api.Ins{Op: api.SThrow}),
			onRegisters(api.Ins{Op: api.RNew, B: 3}, api.Ins{Op: api.RThrow}),
		}, "thrown 0 3 0"},
		{echoOf(), "input 0 0 3 -30 0 999999"},
		{pair[api.Method]{
			onStack(api.Ins{Op: api.SIn}, api.Ins{Op: api.SPop}, api.Ins{Op: api.SNew}, api.Ins{Op: api.SPop}, api.Ins{Op: api.SGoto, A: 2}),
			onRegisters(api.Ins{Op: api.RIn}, api.Ins{Op: api.RNew}, api.Ins{Op: api.RGoto, A: 1}),
		}, "full 0 0 1"},
		{pair[api.Method]{
			onStack(api.Ins{Op: api.SCall}, api.Ins{Op: api.SReturn}),
			onRegisters(api.Ins{Op: api.RCall}, api.Ins{Op: api.RReturn}),
		}, "deep 0 0 0"},
		{pair[api.Method]{
			onStack(api.Ins{Op: api.SIn}, api.Ins{Op: api.SEmit, A: api.KLong}, api.Ins{Op: api.SIn}, api.Ins{Op: api.SEmit, A: api.KInt}),
			onRegisters(api.Ins{Op: api.RIn}, api.Ins{Op: api.REmit, B: api.KLong}, api.Ins{Op: api.RIn}, api.Ins{Op: api.REmit, B: api.KInt}),
		}, "stuck 0 0 2 -30"},
		{pair[api.Method]{
			onStack(api.Ins{Op: api.SInt, N: -2147483648}, api.Ins{Op: api.SEmit, A: api.KInt}, api.Ins{Op: api.SLong, N: -1 << 63}, api.Ins{Op: api.SEmit, A: api.KLong}, api.Ins{Op: api.SReturn}),
			onRegisters(api.Ins{Op: api.RInt, N: -2147483648}, api.Ins{Op: api.REmit, B: api.KInt}, api.Ins{Op: api.RLong, N: -1 << 63}, api.Ins{Op: api.REmit, B: api.KLong}, api.Ins{Op: api.RReturn}),
		}, "done 0 0 0 -2147483648 -9223372036854775808"},
	}
}

func echoOf() pair[api.Method] {
	p := echoing()
	return pair[api.Method]{p.stack.Methods[0], p.registers.Methods[0]}
}

func TestM2RunEnds(t *testing.T) {
	ends := map[string]int{}
	for _, x := range endings() {
		ends[strings.Fields(x.want)[0]]++
		for k, m := range x.files.both() {
			checkAnswers(t, lines("ok 3", formNames()[k]+" 1", x.want, x.want), "in -30 0 999999", fileLine(t, file(m)), "run 0 60000", "run 0 60000")
		}
	}
	if len(ends) != 7 {
		t.Errorf("ends: %v", ends)
	}
}

// A file that is checked ends so when it is made over, too.
func TestM2RunEndsOfFilesMadeOver(t *testing.T) {
	for _, x := range endings() {
		if strings.HasPrefix(x.want, "stuck") {
			continue
		}
		for k, m := range x.files.both() {
			checkAnswers(t, lines("ok 3", formNames()[k]+" 1", formNames()[otherForm(k)]+" 1", x.want, formNames()[k]+" 1", x.want),
				"in -30 0 999999", fileLine(t, file(m)), "over", "run 0 60000", "over", "run 0 60000")
		}
	}
}

func TestM2RunFuels(t *testing.T) {
	for k, f := range echoing().both() {
		name := formNames()[k] + " 1"
		line := fileLine(t, f)
		checkAnswers(t, lines("ok 2", name, "fuel 0 0 0", "fuel 0 0 1", "fuel 0 0 1 -3", "fuel 0 0 1 -3", "fuel 0 0 2 -3", "fuel 0 0 2 -3 4", "fuel 0 0 2 -3 4", "input 0 0 2 -3 4"),
			"in -3 4", line, "run 0 0", "run 0 1", "run 0 2", "run 0 3", "run 0 4", "run 0 5", "run 0 6", "run 0 7")
		checkAnswers(t, lines("ok 2", name, "input 0 0 2 -3 4", "bad 4", "bad 4", "bad 4", "?", "?"),
			"in -3 4", line, "run 0 60000", "run 0 60001", "run 0 100000", "run 0 999999", "run 0 1000000", "run 0 -1")
	}
	for k, m := range endings()[0].files.both() {
		checkAnswers(t, lines(formNames()[k]+" 1", "fuel 0 0 0", "fuel 0 0 0", "fuel 0 0 0"), fileLine(t, file(m)), "run 0 0", "run 0 1", "run 0 60000")
	}
}

func TestM2RunEntries(t *testing.T) {
	for n := 1; n <= api.MaxMethods; n++ {
		for k, f := range giving(n).both() {
			said, want := lines(fileLine(t, f)), lines(formNames()[k]+" "+strconv.Itoa(n))
			for entry := range 12 {
				said = append(said, "run "+strconv.Itoa(entry)+" 9")
				if entry < n {
					want = append(want, "done "+strconv.Itoa(100+entry)+" 0 0")
				} else {
					want = append(want, "bad 4")
				}
			}
			checkAnswers(t, append(want, "bad 4", "?", "?", "?"), append(said, "run 999999 9", "run 1000000 9", "run -1 9", "run 00 9")...)
		}
	}
}

func TestM2RunArgs(t *testing.T) {
	for k, f := range summing().both() {
		checkAnswers(t, lines("ok 1", formNames()[k]+" 1",
			"done 10 0 1 1 2", "done 10 0 1 2 1", "done -1000006 0 1 -999999 999999", "done 999992 0 1 0 -1",
			"bad 3", "bad 3", "bad 3", "bad 3", "bad 3", "bad 4", "bad 4"),
			"in 7", fileLine(t, f),
			"run 0 99 1 2 17", "run 0 99 2 1 17", "run 0 99 -999999 999999 -999999", "run 0 99 0 -1 999999",
			"run 0 99", "run 0 99 1", "run 0 99 1 2", "run 0 99 1 2 3 4", "run 0 99"+strings.Repeat(" 1", 9000), "run 1 99 1 2 3", "run 0 60001 1")
	}
}

// Nobody can say an argument that is a reference.
func TestM2RunOfAMethodThatTakesAReference(t *testing.T) {
	stack := with(onStack(api.Ins{Op: api.SReturn}), api.Type{}, intType, refType)
	registers := with(onRegisters(api.Ins{Op: api.RReturn}), api.Type{}, intType, refType)
	for k, m := range []api.Method{stack, registers} {
		checkAnswers(t, lines(formNames()[k]+" 1", "bad 3", "bad 3", "bad 3", "bad 3", "bad 4"), fileLine(t, file(m)), "run 0 9", "run 0 9 1", "run 0 9 1 0", "run 0 9 1 0 0", "run 1 9 1 0")
	}
}

// A run leaves nothing for the next one: not its objects, nor its input.
func TestM2RunsLeaveNothing(t *testing.T) {
	many := onStack(api.Ins{Op: api.SNew}, api.Ins{Op: api.SPop}, api.Ins{Op: api.SIn}, api.Ins{Op: api.SEmit, A: api.KLong}, api.Ins{Op: api.SGoto})
	said, want := lines(fileLine(t, file(many)), "in"+strings.Repeat(" 5", 100)), lines("stack 1", "ok 100")
	for range 10 {
		said, want = append(said, "run 0 60000"), append(want, "full 0 0 100"+strings.Repeat(" 5", 100))
	}
	checkAnswers(t, want, said...)
}

// As much comes out as may be.
func TestM2RunOfMuchThatComesOut(t *testing.T) {
	stack := onStack(api.Ins{Op: api.SLong, N: -1 << 63}, api.Ins{Op: api.SDup}, api.Ins{Op: api.SEmit, A: api.KLong}, api.Ins{Op: api.SGoto, A: 1})
	registers := onRegisters(api.Ins{Op: api.RLong, N: -1 << 63}, api.Ins{Op: api.REmit, B: api.KLong}, api.Ins{Op: api.REmit, B: api.KLong}, api.Ins{Op: api.RGoto, A: 1})
	out := func(n int) string { return "fuel 0 0 0" + strings.Repeat(" -9223372036854775808", n) }
	checkAnswers(t, lines("stack 1", out(20000)), fileLine(t, file(stack)), "run 0 60000")
	checkAnswers(t, lines("registers 1", out(40000)), fileLine(t, file(registers)), "run 0 60000")
}
