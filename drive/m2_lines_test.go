package drive_test

import (
	"strings"
	"testing"
)

// wrongLines are none of those that there are, whatever the file is.
func wrongLines() []string {
	l := []string{
		"", " ", "  ", "\t", "?", "0", "1 2", "none", "ok", "stack", "registers", "stack 1", "quit", "help", "-", "+",
		"file", "File 00", "files 00", "fil 00", "file\t00", "file0", "file00", " file 00", "file  00", "file 00 ", "file 0", "file 000", "file 0g", "file g0", "file 0x00", "file 00 00", "file 0A", "file A0", "file FF", "file fF", "file Ff",
		"file :0", "file /0", "file 0:", "file 0/", "file 0`", "file `0", "file @0", "file 0G", "file \x0000", "file 0\x00", "file \xff\xff", "file \u0660\u0661", "file -1", "file +1", "file 1.", "file ..", "file 00\r", "file 00\t",
		"IN", "In", "iN", "inn", "i", "n", "in ", "in  ", " in", "in\t", "in\t1", "in1", "in 1 ", "in  1", "in 1  2", " in 1", "in 1\t2", "in 1\r", "in\r", "in,1", "in 1,2", "in x", "in 1 x", "in x 1",
		"CHECK", "Check", "checks", "chec", "check ", " check", "check\t", "check 0", "check 1 2", "check x", "check\r", "check check", "chéck",
		"OVER", "Over", "overs", "ove", "over ", " over", "over\t", "over 0", "over 1 2", "over x", "over\r", "over over",
		"TIDY", "Tidy", "tidys", "tid", "tidy ", " tidy", "tidy\t", "tidy 0", "tidy 1 2", "tidy x", "tidy\r", "tidy tidy",
		"RUN", "Run", "runs", "ru", "run", "run ", " run", "run 0", "run 0 ", "run  0", "run 0  9", "run  0 9", " run 0 9", "run 0 9 ", "run 0 9  1", "run 0 9 1 ", "run\t0 9", "run 0\t9", "run 0 9\t1", "run0 9", "run 0 9\r", "run 0 x", "run x 9", "run 0 9 x", "run 0 9 1 x",
		"check over", "in check", "run check over", "check\x00", "\x00check", "\xffcheck", "check\xff", "\ufeffcheck", "in\u00a01", "in\u20031",
	}
	for _, word := range wrongNumbers() {
		l = append(l, "in "+word, "in 1 "+word, "in "+word+" 1", "in 1 "+word+" 1", "run "+word+" 9", "run 0 "+word, "run 0 9 "+word, "run 0 9 1 "+word, "run 0 9 "+word+" 1")
	}
	for _, word := range []string{"-1", "-9", "-10", "-999999"} {
		l = append(l, "run "+word+" 9", "run 0 "+word, "run "+word+" "+word, "run "+word+" 9 1", "run 0 "+word+" 1")
	}
	return l
}

// wrongNumbers are no NUMBERs, with a - or without one.
func wrongNumbers() []string {
	l := []string{
		"", "-0", "-00", "00", "01", "007", "000000", "0000001", "-01", "-007", "-", "--", "--1", "1-", "1-1", "+", "+0", "+1", "-+1", "+-1",
		"1000000", "-1000000", "1000001", "9999999", "-9999999", "0999999", "4294967296", "9223372036854775807", "9223372036854775808", "-9223372036854775808", "-9223372036854775809",
		"18446744073709551616", "18446744073709551617", "99999999999999999999999999", strings.Repeat("9", 5000), strings.Repeat("0", 5000) + "1", "1" + strings.Repeat("0", 5000),
		"0x1", "0b1", "0o7", "1_0", "1e1", "1.", "1.0", ".1", "1,0", "a", "f", "x", "1x", "x1", "/", ":", "1/", "1:", "\x00", "1\x00", "\x001", "\xff", "1\xff", "\u0661", "１", "−1", "–1", "NaN", "Inf",
		"\t1", "1\t", "\r1", "1\r", "\v1", "1\u00a0", "\u00a01",
	}
	return l
}

func TestM2AnyOtherLine(t *testing.T) {
	for _, line := range wrongLines() {
		checkPlay(t, "?\n", line+"\n")
		if line != "" {
			checkPlay(t, "?\n", line)
		}
		// The same with a file of either form, which stays, as the input does.
		for k, f := range echoing().both() {
			checkAnswers(t, lines(formNames()[k]+" 1", "ok 2", "?", "input 0 0 2 5 -6", "ok"), fileLine(t, f), "in 5 -6", line, "run 0 99", "check")
		}
	}
}

// Of a line that may be, each byte alone is any other one, is left out, or has another one ahead of it or behind it.
func TestM2EachByteOfALine(t *testing.T) {
	m := newModel()
	for _, line := range []string{"in", "in 7", "in -10 0 999999", "check", "over", "tidy", "run 0 9", "run 10 60000 -7 0", "file ", "file 0f"} {
		for at := 0; at <= len(line); at++ {
			for c := range 256 {
				put := string([]byte{byte(c)})
				m.check(t, line[:at]+put+line[at:])
				if at < len(line) {
					m.check(t, line[:at]+put+line[at+1:])
				}
			}
			if at < len(line) {
				m.check(t, line[:at]+line[at+1:])
				m.check(t, line[:at+1]+line[at:])
				m.check(t, line[:at]+strings.ToUpper(line[at:]))
			}
		}
	}
}

func TestM2NoneWhereThereIsNoFile(t *testing.T) {
	for _, line := range []string{"check", "over", "tidy", "run 0 0", "run 0 99", "run 7 60000 1 2 3", "run 999999 999999 -999999", "run 8 1 0"} {
		checkAnswers(t, lines("none"), line)
		checkAnswers(t, lines("none", "none", "none"), line, line, line)
		// Neither an input nor what is no file makes one.
		checkAnswers(t, lines("ok 2", "bad 2", "bad 2", "?", "none"), "in 1 2", "file ", "file 01", "file", line)
		for k, f := range giving(1).both() {
			checkAnswers(t, lines("none", formNames()[k]+" 1", "done 100 0 0"), line, fileLine(t, f), "run 0 2")
		}
	}
	// A line that is none of them is one more line that is none of them.
	for _, line := range wrongLines() {
		checkPlay(t, "none\n?\nnone\n", "check\n"+line+"\ncheck\n")
	}
}
