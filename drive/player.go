package drive

import (
	"strings"

	"crosswalk/api"
	"crosswalk/tidy"
	"crosswalk/wire"
)

// The words that answer lines of several kinds.
const (
	wordOK    = "ok"
	wordBad   = "bad"
	wordNone  = "none"
	wordOther = "?"
)

// player has what the lines so far have left: the file and the input.
// Every file that may be has methods: one without them is none.
type player struct {
	api.File
	input []int64
}

func (p *player) answer(line string) string {
	if digits, ok := strings.CutPrefix(line, "file "); ok {
		return p.load(digits)
	}
	name, rest, more := strings.Cut(line, " ")
	numbers, ok := readNumbers(rest, more)
	switch {
	case !ok || !may(name, numbers):
		return wordOther
	case name == "in":
		return p.feed(numbers)
	case len(p.Methods) == 0:
		return wordNone
	case name == "check":
		return p.check()
	case name == "over":
		return p.become(p.form().over(p.File))
	case name == "tidy":
		return p.tidy()
	}
	return p.run(int(numbers[0]), int(numbers[1]), numbers[2:])
}

// may answers whether a line that begins with that name may have these numbers behind it.
func may(name string, numbers []int64) bool {
	switch name {
	case "in":
		return true
	case "check", "over", "tidy":
		return len(numbers) == 0
	case "run":
		return len(numbers) >= 2 && numbers[0] >= 0 && numbers[1] >= 0
	}
	return false
}

func (p *player) load(digits string) string {
	b, ok := readBytes(digits)
	if !ok {
		return wordOther
	}
	f, e := wire.Get(b)
	if e != api.OK {
		return tell(wordBad, e)
	}
	return p.hold(f)
}

// hold makes f the file, and answers what is told of it.
func (p *player) hold(f api.File) string {
	p.File = f
	return tell(p.form().name, len(p.Methods))
}

func (p *player) feed(numbers []int64) string {
	p.input = numbers
	return tell(wordOK, len(numbers))
}

func (p *player) check() string {
	if x := p.form().check(p.File); x.Code != api.OK {
		return tellFault(x)
	}
	return wordOK
}

// become makes what was made of the file the file itself, if there is no fault.
func (p *player) become(made api.File, x api.Fault) string {
	if x.Code != api.OK {
		return tellFault(x)
	}
	return p.hold(made)
}

func (p *player) tidy() string {
	if !p.onRegisters() {
		return wordOther
	}
	return p.become(tidy.Make(p.File))
}

func (p *player) run(entry, fuel int, args []int64) string {
	s, e := p.form().run(p.File, entry, args, p.input, fuel)
	if e != api.OK {
		return tell(wordBad, e)
	}
	return tellShown(s)
}
