package drive_test

import (
	"encoding/hex"
	"fmt"
	"regexp"
	"slices"
	"strconv"
	"strings"
	"testing"

	"crosswalk/api"
	"crosswalk/drive"
	"crosswalk/rcheck"
	"crosswalk/rform"
	"crosswalk/rrun"
	"crosswalk/scheck"
	"crosswalk/srun"
	"crosswalk/tidy"
	"crosswalk/toreg"
	"crosswalk/tostack"
	"crosswalk/wire"
)

// model answers scripts in another way: lines are told by their patterns, and a file is kept as its bytes.
type model struct {
	file, in, run, alone *regexp.Regexp
}

const (
	plainNumber = `(0|[1-9][0-9]{0,5})`
	anyNumbers  = `((?: (?:0|-?[1-9][0-9]{0,5}))*)`
)

func newModel() *model {
	return &model{
		file:  regexp.MustCompile(`\Afile ((?:[0-9a-f][0-9a-f])*)\z`),
		in:    regexp.MustCompile(`\Ain` + anyNumbers + `\z`),
		run:   regexp.MustCompile(`\Arun ` + plainNumber + ` ` + plainNumber + anyNumbers + `\z`),
		alone: regexp.MustCompile(`\A(?:check|over|tidy)\z`),
	}
}

// left is what lines have left.
type left struct {
	bytes []byte
	input []int64
}

func (m *model) check(t *testing.T, said string) {
	t.Helper()
	checkPlay(t, m.play(said), said)
}

func (m *model) play(said string) string {
	all := strings.Split(said, "\n")
	if all[len(all)-1] == "" {
		all = all[:len(all)-1]
	}
	told := ""
	l := &left{}
	for _, line := range all[:min(len(all), 40)] {
		told += m.answer(l, line) + "\n"
	}
	return told
}

func (m *model) answer(l *left, line string) string {
	if x := m.file.FindStringSubmatch(line); x != nil {
		b, _ := hex.DecodeString(x[1])
		if _, e := wire.Get(b); e != api.OK {
			return fmt.Sprintf("bad %d", e)
		}
		l.bytes = b
		return l.held()
	}
	if x := m.in.FindStringSubmatch(line); x != nil {
		l.input = numbersOf(x[1])
		return fmt.Sprintf("ok %d", len(l.input))
	}
	if x := m.run.FindStringSubmatch(line); x != nil {
		return l.run(numbersOf(x[1])[0], numbersOf(x[2])[0], numbersOf(x[3]))
	}
	if m.alone.MatchString(line) {
		return l.work(line)
	}
	return "?"
}

func numbersOf(s string) []int64 {
	var l []int64
	for _, word := range strings.Fields(s) {
		n, _ := strconv.ParseInt(word, 10, 64)
		l = append(l, n)
	}
	return l
}

func (l *left) held() string {
	f, _ := wire.Get(l.bytes)
	return fmt.Sprintf("%s %d", formNames()[l.bytes[0]-1], len(f.Methods))
}

func (l *left) work(name string) string {
	if l.bytes == nil {
		return "none"
	}
	f, _ := wire.Get(l.bytes)
	var made api.File
	var x api.Fault
	switch registers := rform.May(f); {
	case name == "check" && registers:
		x = rcheck.Check(f)
	case name == "check":
		x = scheck.Check(f)
	case name == "over" && registers:
		made, x = tostack.Make(f)
	case name == "over":
		made, x = toreg.Make(f)
	case registers:
		made, x = tidy.Make(f)
	default:
		return "?"
	}
	if x.Code != api.OK {
		return fmt.Sprintf("bad %d %d", x.Code, x.Method)
	}
	if name == "check" {
		return "ok"
	}
	l.bytes, _ = wire.Put(made)
	return l.held()
}

func (l *left) run(entry, fuel int64, args []int64) string {
	if l.bytes == nil {
		return "none"
	}
	f, _ := wire.Get(l.bytes)
	run := srun.Run
	if rform.May(f) {
		run = rrun.Run
	}
	s, e := run(f, int(entry), args, l.input, int(fuel))
	if e != api.OK {
		return fmt.Sprintf("bad %d", e)
	}
	ends := strings.Fields("fuel done thrown input full deep stuck")
	words := lines(ends[s.End], fmt.Sprint(s.Value), fmt.Sprint(s.Class), fmt.Sprint(s.Used))
	for _, n := range s.Out {
		words = append(words, fmt.Sprint(n))
	}
	return strings.Join(words, " ")
}

// FuzzPlay: whatever is said, the answer is the model's, and its beginnings are those of its beginnings.
func FuzzPlay(f *testing.F) {
	m := newModel()
	for _, p := range []pair[api.File]{giving(2), stuckIn(1), summing(), echoing()} {
		for _, x := range p.both() {
			f.Add(fileLine(f, x) + "\nin 5 -6\nrun 0 99 1 2 3\nover\ncheck\ntidy\nrun 1 60000 -7")
		}
	}
	f.Add(strings.Join(slices.DeleteFunc(wrongLines(), func(s string) bool { return len(s) > 40 }), "\n"))
	f.Fuzz(func(t *testing.T, said string) {
		m.check(t, said)
		at := strings.LastIndex(said, "\n") + 1
		if !strings.HasPrefix(drive.Play(said), drive.Play(said[:at])) {
			t.Fatalf("no beginning: %q", said)
		}
	})
}
