package drive_test

import (
	"strings"
	"sync"
	"testing"

	"crosswalk/drive"
)

// Vast scripts, lines and words: each call ends, and soon.
func TestP1VastScripts(t *testing.T) {
	const vast = 1 << 22
	for _, x := range []struct{ said, want string }{
		{strings.Repeat("\n", vast), strings.Repeat("?\n", 40)},
		{strings.Repeat(" ", vast), "?\n"},
		{strings.Repeat("in ", vast), "?\n"},
		{strings.Repeat("in\n", vast), strings.Repeat("ok 0\n", 40)},
		{"in" + strings.Repeat(" ", vast), "?\n"},
		{"in " + strings.Repeat("1", vast), "?\n"},
		{"in -" + strings.Repeat("0", vast), "?\n"},
		{"in" + strings.Repeat(" 7", vast), "ok 4194304\n"},
		{"in" + strings.Repeat(" 7", vast) + "\nin\n", "ok 4194304\nok 0\n"},
		{"run" + strings.Repeat(" 7", vast), "none\n"},
		{"run" + strings.Repeat(" -7", vast), "?\n"},
		{"check" + strings.Repeat(" 7", vast), "?\n"},
		{"file " + strings.Repeat("0", vast), "bad 2\n"},
		{"file " + strings.Repeat("01", vast), "bad 2\n"},
		{"file " + strings.Repeat("0", vast) + "1", "?\n"},
		{"file " + strings.Repeat("f", vast) + "\n", "bad 2\n"},
		{"file " + strings.Repeat("F", vast), "?\n"},
		{strings.Repeat("\xff", vast), "?\n"},
		{strings.Repeat("\x00\n", vast), strings.Repeat("?\n", 40)},
	} {
		checkPlay(t, x.want, x.said)
	}
}

// Forty runs with the most fuel.
func TestP1TheLongestRuns(t *testing.T) {
	for k, m := range endings()[0].files.both() {
		said := fileLine(t, file(m)) + "\n" + strings.Repeat("run 0 60000\n", 39)
		checkPlay(t, formNames()[k]+" 1\n"+strings.Repeat("fuel 0 0 0\n", 39), said)
	}
}

// The greatest file is made over and tidied, again and again.
func TestP1TheGreatestFile(t *testing.T) {
	f := tooGreat()
	for len(f.Methods) < 8 {
		f.Methods = append(f.Methods, f.Methods[1])
	}
	said := fileLine(t, f) + "\n" + strings.Repeat("check\nover\ntidy\n", 13)
	checkPlay(t, "registers 8\n"+strings.Repeat("ok\nbad 1 1\nregisters 8\n", 13), said)
}

// What is answered hangs on the script alone: not on what was asked ahead of it, or at the same time.
func TestP3TheSameAgain(t *testing.T) {
	r := newTalker(t, 4)
	var said, want []string
	for range 100 {
		s := r.script()
		said, want = append(said, s), append(want, drive.Play(s))
	}
	var all sync.WaitGroup
	for n := range 8 {
		all.Go(func() {
			for k := range said {
				k = (k*7 + n*13) % len(said)
				if got := drive.Play(said[k]); got != want[k] {
					t.Errorf("of %s\ngot %s, want %s", short(said[k]), short(got), short(want[k]))
				}
			}
		})
	}
	all.Wait()
}
