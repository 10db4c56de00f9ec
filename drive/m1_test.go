package drive_test

import (
	"math"
	"regexp"
	"strconv"
	"strings"
	"testing"

	"crosswalk/api"
	"crosswalk/drive"
)

func TestM1Lines(t *testing.T) {
	for _, x := range []struct{ said, want string }{
		{"", ""},
		{"\n", "?\n"},
		{"\n\n", "?\n?\n"},
		{"\n\n\n\n\n", "?\n?\n?\n?\n?\n"},
		{"in", "ok 0\n"},
		{"in\n", "ok 0\n"},
		{"in\n\n", "ok 0\n?\n"},
		{"\nin", "?\nok 0\n"},
		{"\nin\n", "?\nok 0\n"},
		{"in\nin", "ok 0\nok 0\n"},
		{"in\n\nin", "ok 0\n?\nok 0\n"},
		{"in\n\n\nin 1\n", "ok 0\n?\n?\nok 1\n"},
		{"x", "?\n"},
		{" ", "?\n"},
		{" \n ", "?\n?\n"},
		// No other byte ends a line.
		{"in\rin", "?\n"},
		{"in\r\nin", "?\nok 0\n"},
		{"in\n\rin", "ok 0\n?\n"},
		{"in\vin\fin\x00in\x85in", "?\n"},
		{"in\u2028in\u2029in", "?\n"},
		{"in\\nin", "?\n"},
		{"in\x8ain\xe2\x80\x8a", "?\n"},
	} {
		checkPlay(t, x.want, x.said)
	}
}

func TestM1AtMostFortyLinesCount(t *testing.T) {
	for _, n := range []int{1, 2, 38, 39, 40, 41, 42, 79, 80, 81, 100, 1000, 100000} {
		count := min(n, 40)
		checkPlay(t, strings.Repeat("?\n", count), strings.Repeat("\n", n))
		checkPlay(t, strings.Repeat("ok 0\n", count), strings.Repeat("in\n", n))
		checkPlay(t, strings.Repeat("ok 0\n", count), strings.Repeat("in\n", n-1)+"in")
		checkPlay(t, strings.Repeat("none\n", count), strings.Repeat("check\n", n))
	}
}

// Wrong lines and empty ones count as well, and it is the first forty that are answered.
func TestM1TheFirstFortyLines(t *testing.T) {
	var said, want []string
	for n := range 60 {
		said = append(said, "in"+strings.Repeat(" 7", n), "")
		want = append(want, "ok "+strconv.Itoa(n), "?")
	}
	checkPlay(t, script(want[:40]), script(said))
	checkPlay(t, script(want[:40]), script(said[:41]))
	checkPlay(t, script(want[:40]), script(said[:40]))
	checkPlay(t, script(want[:39]), script(said[:39]))
	checkPlay(t, script(want[:39]), strings.TrimSuffix(script(said[:39]), "\n"))
	checkPlay(t, script(want[:39]), strings.TrimSuffix(script(said[:40]), "\n"))
	checkPlay(t, script(want[:40]), strings.TrimSuffix(script(said[:41]), "\n"))
	checkPlay(t, script(want[:40]), script(said[:40])+"x")
}

func TestM1AtFirstThereIsNoFileAndNoInput(t *testing.T) {
	checkAnswers(t, lines("none"), "check")
	for k, f := range echoing().both() {
		checkAnswers(t, lines(formNames()[k]+" 1", "input 0 0 0"), fileLine(t, f), "run 0 99")
	}
}

// What one script has left is not there for the next one.
func TestM1EachScriptBeginsAnew(t *testing.T) {
	for k, f := range echoing().both() {
		checkAnswers(t, lines(formNames()[k]+" 1", "ok 1", "input 0 0 1 5"), fileLine(t, f), "in 5", "run 0 99")
		checkAnswers(t, lines("none"), "run 0 99")
		checkAnswers(t, lines(formNames()[k]+" 1", "input 0 0 0"), fileLine(t, f), "run 0 99")
	}
}

func TestM1NumbersOfAnswers(t *testing.T) {
	numbers := []int64{0, 1, -1, 9, 10, -10, 99, 100, 999999, 1000000, -1000000, math.MaxInt32, math.MinInt32, math.MaxInt64, math.MinInt64, math.MinInt64 + 1}
	for shift := range 63 {
		numbers = append(numbers, 1<<shift, -1<<shift, 1<<shift-1)
	}
	for _, n := range numbers {
		told := strconv.FormatInt(n, 10)
		stack := with(onStack(api.Ins{Op: api.SLong, N: n}, api.Ins{Op: api.SDup}, api.Ins{Op: api.SEmit, A: api.KLong}, api.Ins{Op: api.SReturn}), longType)
		registers := with(onRegisters(api.Ins{Op: api.RLong, N: n}, api.Ins{Op: api.REmit, B: api.KLong}, api.Ins{Op: api.RReturn}), longType)
		for k, m := range []api.Method{stack, registers} {
			checkAnswers(t, lines(formNames()[k]+" 1", "done "+told+" 0 0 "+told, "fuel 0 0 0"), fileLine(t, file(m)), "run 0 99", "run 0 0")
		}
	}
}

// Each answer is a word, and numbers, each behind one blank; a byte 10 ends it.
func TestM1WordsOfAnswers(t *testing.T) {
	whole := regexp.MustCompile(`\A(?:(?:\?|[a-z]+)(?: (?:0|-?[1-9][0-9]*))*\n)*\z`)
	r := newTalker(t, 5)
	for range 300 {
		said := r.script()
		if told := drive.Play(said); !whole.MatchString(told) {
			t.Fatalf("of %s\ngot %s", short(said), short(told))
		}
	}
}
