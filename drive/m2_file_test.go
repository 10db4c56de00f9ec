package drive_test

import (
	"slices"
	"strconv"
	"strings"
	"testing"

	"crosswalk/api"
)

func TestM2FileTellsItsFormAndHowManyMethods(t *testing.T) {
	for n := 1; n <= api.MaxMethods; n++ {
		for k, f := range giving(n).both() {
			checkAnswers(t, lines(formNames()[k]+" "+strconv.Itoa(n), "ok"), fileLine(t, f), "check")
		}
	}
}

// The most of all: every method has as many instructions as there may be.
func TestM2FileOfTheMost(t *testing.T) {
	p := giving(api.MaxMethods)
	for k, size := range []int{api.MaxCode, api.MaxRegCode} {
		f := p.both()[k]
		for n, m := range f.Methods {
			f.Methods[n].Code = append(m.Code, slices.Repeat(m.Code[1:], size-2)...)
		}
		checkAnswers(t, lines(formNames()[k]+" 8", "ok", "done 107 0 0"), fileLine(t, f), "check", "run 7 2")
	}
}

// Files that can get stuck are files as well.
func TestM2FileThatIsNotChecked(t *testing.T) {
	for k, f := range stuckIn(1).both() {
		checkAnswers(t, lines(formNames()[k]+" 3"), fileLine(t, f))
	}
}

// Wrong bytes, and what is no bytes: the file stays as it was, be it none or one of either form.
func TestM2FileStaysWhereTheNewOneIsWrong(t *testing.T) {
	const ahead = len("file ")
	for k, f := range giving(2).both() {
		line := fileLine(t, f)
		size := len(line)
		for _, x := range []struct{ said, want string }{
			{"file ", "bad 2"},
			{"file 00", "bad 2"},
			{"file 01", "bad 2"},
			{"file 02", "bad 2"},
			{"file 03", "bad 2"},
			{"file ff", "bad 2"},
			{"file 0123456789abcdef", "bad 2"},
			{line[:size-2], "bad 2"},
			{line + "00", "bad 2"},
			{"file 00" + line[ahead:], "bad 2"},
			{"file 03" + line[ahead+2:], "bad 2"},
			{"file 0" + strconv.Itoa(2-k) + line[ahead+2:], "bad 2"},
			{line[:size-1], "?"},
			{line + "0", "?"},
			{line + " ", "?"},
			{line + "\r", "?"},
			{strings.ToUpper(line), "?"},
			{"file " + strings.ToUpper(line[ahead:]), "?"},
			{line[:size/2] + " " + line[size/2:], "?"},
			{"file  " + line[ahead:], "?"},
			{" " + line, "?"},
			{"file" + line[ahead:], "?"},
			{"file 0x" + line[ahead:], "?"},
			{line + line, "?"},
			{"file", "?"},
		} {
			checkAnswers(t, lines(x.want, "none"), x.said, "check")
			for n, old := range giving(3).both() {
				checkAnswers(t, lines(formNames()[n]+" 3", x.want, "done 102 0 0", "ok"), fileLine(t, old), x.said, "run 2 2", "check")
			}
		}
	}
}

// One digit alone is in capitals, or none at all: that is asked ahead of what the bytes are.
func TestM2FileDigits(t *testing.T) {
	line := fileLine(t, giving(1).registers)
	for at := len("file "); at < len(line); at++ {
		for _, c := range []byte("ABCDEFGgzZ xX/:`@.-+\t\r\x00\x80\xff") {
			checkPlay(t, "?\n", line[:at]+string([]byte{c})+line[at+1:])
		}
	}
	for high := range 256 {
		for low := range 256 {
			want := "?\n"
			if isDigit(byte(high)) && isDigit(byte(low)) {
				want = "bad 2\n"
			}
			if high != '\n' && low != '\n' {
				checkPlay(t, want, "file "+string([]byte{byte(high), byte(low)}))
			}
		}
	}
}

func isDigit(c byte) bool {
	return c >= '0' && c <= '9' || c >= 'a' && c <= 'f'
}

// Each digit is read as what it is: a long of all sixteen of them comes out again.
func TestM2FileDigitsHaveTheirValues(t *testing.T) {
	for _, n := range []int64{0x0123456789abcdef, 0x7edcba9876543210, -0x0123456789abcdef, 0x0f1e2d3c4b5a6978} {
		told := strconv.FormatInt(n, 10)
		checkAnswers(t, lines("stack 1", "done "+told+" 0 0"), fileLine(t, file(giveOnStack(n))), "run 0 9")
		checkAnswers(t, lines("registers 1", "done "+told+" 0 0"), fileLine(t, file(giveOnRegisters(n))), "run 0 9")
	}
}

func TestM2FileStaysUntilTheNextOne(t *testing.T) {
	one, two := giving(1), giving(2)
	checkAnswers(t,
		lines("stack 1", "ok 3", "done 100 0 0", "ok", "done 100 0 0", "registers 2", "done 101 0 0", "stack 2", "done 101 0 0", "registers 1", "bad 4", "done 100 0 0"),
		fileLine(t, one.stack), "in 1 2 3", "run 0 9", "check", "run 0 9", fileLine(t, two.registers), "run 1 9", fileLine(t, two.stack), "run 1 9", fileLine(t, one.registers), "run 1 9", "run 0 9")
}
