package drive_test

import (
	"strings"
	"testing"

	"crosswalk/drive"
)

// checkBeginnings cuts a script off behind each of its bytes 10, and looks whether the answers are beginnings of the whole one's.
func checkBeginnings(t *testing.T, said string) {
	t.Helper()
	whole := drive.Play(said)
	counted := 0
	for at := range len(said) {
		if said[at] != '\n' {
			continue
		}
		counted++
		got := drive.Play(said[:at+1])
		if !strings.HasPrefix(whole, got) {
			t.Fatalf("of %s\ngot %s, want a beginning of %s", short(said[:at+1]), short(got), short(whole))
		}
		if n := strings.Count(got, "\n"); n != min(counted, 40) || !strings.HasSuffix(got, "\n") {
			t.Fatalf("of %s\ngot %s", short(said[:at+1]), short(got))
		}
		// What stands behind that byte 10 is nobody's business.
		for _, more := range []string{"x", "\n", "in 1", "check\n\n", "file 0"} {
			if longer := drive.Play(said[:at+1] + more); !strings.HasPrefix(longer, got) {
				t.Fatalf("of %s and %q\ngot %s, want it to begin with %s", short(said[:at+1]), more, short(longer), short(got))
			}
		}
	}
}

func TestM3Beginnings(t *testing.T) {
	for _, said := range []string{"", "\n", "\n\n", "in", "in\n", "x\n\nin 1\n", strings.Repeat("\n", 45), strings.Repeat("in 1\n", 39) + "x", strings.Repeat("check\n", 40) + "x", strings.Repeat("in\n", 60)} {
		checkBeginnings(t, said)
	}
	for _, p := range [][]string{
		{"check", "in 4 -5", fileLine(t, echoing().stack), "check", "run 0 99", "over", "run 0 99", "in", "tidy", "run 0 99", "over", "tidy", "run 0 0"},
		{fileLine(t, summing().registers), "in 1", "run 0 99 1 2 3", "tidy", "over", "run 0 99 1 2 3", "over", "file 00", "run 0 99 -1 -2 -3", "x", "run 1 9"},
		{fileLine(t, stuckIn(1).stack), "check", "over", "tidy", "run 1 9", fileLine(t, stuckIn(2).registers), "check", "over", "tidy", "run 2 9"},
		{"over", fileLine(t, idle()), "run 0 2", "tidy", "run 0 2"},
	} {
		checkBeginnings(t, script(p))
		checkBeginnings(t, strings.Join(p, "\n"))
		checkBeginnings(t, strings.Repeat(script(p), 5))
	}
}
