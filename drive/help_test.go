package drive_test

import (
	"encoding/hex"
	"slices"
	"strconv"
	"strings"
	"testing"

	"crosswalk/api"
	"crosswalk/drive"
	"crosswalk/wire"
)

var (
	intType  = api.Type{Kind: api.KInt}
	longType = api.Type{Kind: api.KLong}
	refType  = api.Type{Kind: api.KRef, Class: 3}
)

func types(l ...api.Type) []api.Type {
	return l
}

func code(l ...api.Ins) []api.Ins {
	return l
}

func file(methods ...api.Method) api.File {
	return api.File{Classes: []api.Class{{Super: -1}, {}, {}, {Fields: types(longType)}}, Methods: methods}
}

// onStack is a method with the most room.
func onStack(l ...api.Ins) api.Method {
	return api.Method{Stack: api.MaxStack, Locals: api.MaxLocals, Code: l}
}

func onRegisters(l ...api.Ins) api.Method {
	return api.Method{Regs: api.MaxLocals, Code: l}
}

// with answers a method with other parameters and another type that it gives.
func with(m api.Method, ret api.Type, params ...api.Type) api.Method {
	m.Ret, m.Params = ret, params
	return m
}

// giveOnStack gives a long; giveOnRegisters does the same.
func giveOnStack(n int64) api.Method {
	return with(onStack(api.Ins{Op: api.SLong, N: n}, api.Ins{Op: api.SReturn}), longType)
}

func giveOnRegisters(n int64) api.Method {
	return with(onRegisters(api.Ins{Op: api.RLong, N: n}, api.Ins{Op: api.RReturn}), longType)
}

// stuckOnStack finds nothing to take; stuckOnRegisters nothing to read.
func stuckOnStack() api.Method {
	return onStack(api.Ins{Op: api.SPop}, api.Ins{Op: api.SReturn})
}

func stuckOnRegisters() api.Method {
	return onRegisters(api.Ins{Op: api.RMove, A: 1, B: 2, C: api.KInt}, api.Ins{Op: api.RReturn})
}

// pair has a thing of each form.
type pair[T any] struct{ stack, registers T }

func (p pair[T]) both() []T {
	return []T{p.stack, p.registers}
}

// formNames are the words of both forms, in the order of both.
func formNames() []string {
	return []string{"stack", "registers"}
}

// giving answers files whose methods each give their number and a hundred.
func giving(methods int) pair[api.File] {
	var p pair[[]api.Method]
	for k := range methods {
		p.stack = append(p.stack, giveOnStack(int64(100+k)))
		p.registers = append(p.registers, giveOnRegisters(int64(100+k)))
	}
	return pair[api.File]{file(p.stack...), file(p.registers...)}
}

// stuckIn answers files of three methods of which one is stuck.
func stuckIn(method int) pair[api.File] {
	p := giving(3)
	p.stack.Methods[method] = stuckOnStack()
	p.registers.Methods[method] = stuckOnRegisters()
	return p
}

// summing answers files whose method takes two ints and a long, lets the first two come out, and gives the long less a number that comes in.
func summing() pair[api.File] {
	stack := onStack(
		api.Ins{Op: api.SLoad, A: 0, B: api.KInt}, api.Ins{Op: api.SEmit, A: api.KInt},
		api.Ins{Op: api.SLoad, A: 1, B: api.KInt}, api.Ins{Op: api.SEmit, A: api.KInt},
		api.Ins{Op: api.SLoad, A: 2, B: api.KLong}, api.Ins{Op: api.SIn},
		api.Ins{Op: api.SLongOp, A: api.OpSub}, api.Ins{Op: api.SReturn},
	)
	registers := onRegisters(
		api.Ins{Op: api.REmit, A: 0, B: api.KInt}, api.Ins{Op: api.REmit, A: 1, B: api.KInt},
		api.Ins{Op: api.RIn, A: 4}, api.Ins{Op: api.RLongOp, A: 2, B: 2, C: 4, N: api.OpSub}, api.Ins{Op: api.RReturn, A: 2},
	)
	params := types(intType, intType, longType)
	return pair[api.File]{file(with(stack, longType, params...)), file(with(registers, longType, params...))}
}

// echoing answers files whose method lets all come out that comes in.
func echoing() pair[api.File] {
	return pair[api.File]{
		file(onStack(api.Ins{Op: api.SIn}, api.Ins{Op: api.SEmit, A: api.KLong}, api.Ins{Op: api.SGoto})),
		file(onRegisters(api.Ins{Op: api.RIn}, api.Ins{Op: api.REmit, B: api.KLong}, api.Ins{Op: api.RGoto})),
	}
}

// tooGreat is a checked file on registers of which there is none on a stack: its second method is it.
func tooGreat() api.File {
	m := giveOnRegisters(4)
	m.Code = append(slices.Repeat(m.Code[:1], api.MaxRegCode-1), m.Code[1])
	return file(giveOnRegisters(3), m)
}

// idle is a file on registers with an instruction that tidying leaves out.
func idle() api.File {
	m := giveOnRegisters(6)
	m.Code = []api.Ins{m.Code[0], {Op: api.RMove, C: api.KLong}, m.Code[1]}
	return file(m)
}

// fileLine is the line that makes f the file.
func fileLine(t testing.TB, f api.File) string {
	t.Helper()
	b, e := wire.Put(f)
	if e != api.OK {
		t.Fatalf("Put answers %d of %+v", e, f)
	}
	return "file " + hex.EncodeToString(b)
}

// lines are what is said to a player, or what it answers.
func lines(l ...string) []string {
	return l
}

func script(l []string) string {
	return strings.Join(append(slices.Clone(l), ""), "\n")
}

// checkPlay looks at the answer to a script.
func checkPlay(t *testing.T, want, said string) {
	t.Helper()
	if got := drive.Play(said); got != want {
		t.Fatalf("of %s\ngot %s, want %s", short(said), short(got), short(want))
	}
}

// checkAnswers looks at the answers to lines, whether a byte 10 ends the last one or not.
func checkAnswers(t *testing.T, want []string, said ...string) {
	t.Helper()
	s := script(said)
	checkPlay(t, script(want), s)
	if last := said[len(said)-1]; last != "" {
		checkPlay(t, script(want), strings.TrimSuffix(s, "\n"))
	}
}

// short keeps what is told of vast scripts readable.
func short(s string) string {
	if len(s) > 3000 {
		s = s[:1500] + " .. " + s[len(s)-1500:]
	}
	return strconv.Quote(s)
}
