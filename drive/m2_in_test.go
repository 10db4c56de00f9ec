package drive_test

import (
	"slices"
	"strconv"
	"strings"
	"testing"

	"crosswalk/api"
)

func TestM2InTellsHowMany(t *testing.T) {
	for _, x := range []struct{ said, want string }{
		{"in", "ok 0"},
		{"in 0", "ok 1"},
		{"in 1", "ok 1"},
		{"in -1", "ok 1"},
		{"in 999999", "ok 1"},
		{"in -999999", "ok 1"},
		{"in 0 0", "ok 2"},
		{"in 10 -10 100 -100 1000 -1000 10000 -10000 100000 -100000", "ok 10"},
		{"in" + strings.Repeat(" -7", 999), "ok 999"},
		{"in" + strings.Repeat(" -7", 1000), "ok 1000"},
		{"in" + strings.Repeat(" -7", 1001), "ok 1001"},
		{"in" + strings.Repeat(" 0", 300000), "ok 300000"},
	} {
		checkAnswers(t, lines(x.want), x.said)
	}
}

// What was said comes in, as it was said, and in its order.
func TestM2InIsTheInput(t *testing.T) {
	numbers := []string{"0", "1", "-1", "9", "10", "-10", "99", "-100", "12345", "99999", "100000", "999998", "999999", "-999999", "-5", "0", "0"}
	for k, f := range echoing().both() {
		for n := range numbers {
			told := slices.Concat(lines("input 0 0", strconv.Itoa(n)), numbers[:n])
			said := append(lines("in"), numbers[:n]...)
			checkAnswers(t, lines(formNames()[k]+" 1", "ok "+strconv.Itoa(n), strings.Join(told, " ")),
				fileLine(t, f), strings.Join(said, " "), "run 0 60000")
		}
	}
}

// The input stays until the next one, whatever else is said, and each run begins with its first number.
func TestM2InStaysUntilTheNextOne(t *testing.T) {
	p := echoing()
	stack, registers := fileLine(t, p.stack), fileLine(t, p.registers)
	checkAnswers(t, lines("ok 2", "stack 1", "input 0 0 2 4 -5", "input 0 0 2 4 -5", "fuel 0 0 1 4", "input 0 0 2 4 -5"),
		"in 4 -5", stack, "run 0 99", "run 0 99", "run 0 3", "run 0 99")
	checkAnswers(t, lines("stack 1", "ok 1", "registers 1", "input 0 0 1 8", "stack 1", "input 0 0 1 8", "registers 1", "ok", "input 0 0 1 8", "registers 1", "input 0 0 1 8"),
		stack, "in 8", registers, "run 0 99", "over", "run 0 99", "over", "check", "run 0 99", "tidy", "run 0 99")
	for _, wrong := range []string{"in x", "in ", "in 1 x", "in 1 ", "in 007", "in -0", "in 1000000", "in 1  2", "IN 1", "file 00", "file 0", "run 9 9", "run 0 9 9", "none"} {
		got := "?"
		switch wrong {
		case "file 00":
			got = "bad 2"
		case "run 9 9":
			got = "bad 4"
		case "run 0 9 9":
			got = "bad 3"
		}
		checkAnswers(t, lines("registers 1", "ok 3", got, "input 0 0 3 1 2 3"), registers, "in 1 2 3", wrong, "run 0 99")
	}
	checkAnswers(t, lines("stack 1", "ok 3", "ok 1", "input 0 0 1 9", "ok 0", "input 0 0 0", "ok 2", "input 0 0 2 6 7"),
		stack, "in 1 2 3", "in 9", "run 0 99", "in", "run 0 99", "in 6 7", "run 0 99")
}

// A line may have more numbers than a run takes.
func TestM2InOfMoreThanARunTakes(t *testing.T) {
	for k, f := range giving(1).both() {
		line := fileLine(t, f)
		most, more := "in"+strings.Repeat(" 1", api.MaxInput), "in"+strings.Repeat(" 1", api.MaxInput+1)
		checkAnswers(t, lines(formNames()[k]+" 1", "ok 1000", "done 100 0 0", "ok 1001", "bad 1", "ok 0", "done 100 0 0"),
			line, most, "run 0 9", more, "run 0 9", "in", "run 0 9")
		// The first thing that is wrong is told.
		checkAnswers(t, lines("ok 1001", formNames()[k]+" 1", "bad 4", "bad 4", "bad 1", "ok 1000", "bad 3"),
			more, line, "run 1 9 7", "run 0 60001 7", "run 0 9 7", most, "run 0 9 7")
	}
}
