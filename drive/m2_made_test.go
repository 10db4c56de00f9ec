package drive_test

import (
	"slices"
	"strconv"
	"testing"

	"crosswalk/api"
)

func TestM2CheckOfAFileThatIsChecked(t *testing.T) {
	for _, p := range []pair[api.File]{giving(1), giving(8), summing(), echoing()} {
		for k, f := range p.both() {
			checkAnswers(t, lines(formNames()[k]+" "+strconv.Itoa(len(f.Methods)), "ok", "ok"), fileLine(t, f), "check", "check")
		}
	}
}

// The fault is in a method alone, or in it and later ones: the first one is told, and the file stays.
func TestM2CheckTellsTheMethod(t *testing.T) {
	for n := range 3 {
		told := "bad 3 " + strconv.Itoa(n)
		for k, f := range stuckIn(n).both() {
			checkAnswers(t, lines(formNames()[k]+" 3", told, told), fileLine(t, f), "check", "check")
			for later := n; later < 3; later++ {
				f.Methods[later] = f.Methods[n]
				checkAnswers(t, lines(formNames()[k]+" 3", told), fileLine(t, f), "check")
			}
		}
	}
}

func TestM2CheckOfTheLastMethod(t *testing.T) {
	p := giving(api.MaxMethods)
	p.stack.Methods[7], p.registers.Methods[7] = stuckOnStack(), stuckOnRegisters()
	for k, f := range p.both() {
		checkAnswers(t, lines(formNames()[k]+" 8", "bad 3 7"), fileLine(t, f), "check")
	}
}

// Of each form by its own rules: an instruction of the one means another thing in the other one.
func TestM2CheckByTheForm(t *testing.T) {
	stack := with(onStack(api.Ins{Op: api.RNull}, api.Ins{Op: api.SReturn}), refType)
	registers := with(onRegisters(api.Ins{Op: api.SNull}, api.Ins{Op: api.RReturn}), refType)
	checkAnswers(t, lines("stack 1", "ok"), fileLine(t, file(stack)), "check")
	checkAnswers(t, lines("registers 1", "ok"), fileLine(t, file(registers)), "check")
	stack.Ret, registers.Ret = intType, intType
	checkAnswers(t, lines("stack 1", "bad 3 0"), fileLine(t, file(stack)), "check")
	checkAnswers(t, lines("registers 1", "bad 3 0"), fileLine(t, file(registers)), "check")
}

// otherForm is the number of the form that a file is made over to.
func otherForm(k int) int {
	return 1 - k
}

func TestM2OverAndOverAgain(t *testing.T) {
	for k, f := range summing().both() {
		this, that := formNames()[k]+" 1", formNames()[otherForm(k)]+" 1"
		ran := "done -4 0 1 7 -8"
		checkAnswers(t, lines(this, "ok 1", ran, that, "ok", ran, this, "ok", ran, that, ran, this, ran),
			fileLine(t, f), "in 13", "run 0 999 7 -8 9", "over", "check", "run 0 999 7 -8 9", "over", "check", "run 0 999 7 -8 9", "over", "run 0 999 7 -8 9", "over", "run 0 999 7 -8 9")
	}
}

func TestM2OverOfManyMethods(t *testing.T) {
	for n := 1; n <= api.MaxMethods; n++ {
		for k, f := range giving(n).both() {
			count, last := " "+strconv.Itoa(n), strconv.Itoa(n-1)
			checkAnswers(t, lines(formNames()[k]+count, formNames()[otherForm(k)]+count, "done "+strconv.Itoa(99+n)+" 0 0", "bad 4"),
				fileLine(t, f), "over", "run "+last+" 99", "run "+strconv.Itoa(n)+" 99")
		}
	}
}

// Of a file that is not checked nothing is made, and it stays.
func TestM2OverOfAFileThatIsNotChecked(t *testing.T) {
	for n := range 3 {
		told := "bad 3 " + strconv.Itoa(n)
		good := strconv.Itoa((n + 1) % 3)
		for k, f := range stuckIn(n).both() {
			checkAnswers(t, lines(formNames()[k]+" 3", told, told, "stuck 0 0 0", "done 10"+good+" 0 0", told),
				fileLine(t, f), "over", "over", "run "+strconv.Itoa(n)+" 9", "run "+good+" 9", "check")
		}
	}
}

// A file on registers that has no room on a stack stays, and can be tidied.
func TestM2OverOfAFileThatIsTooGreat(t *testing.T) {
	checkAnswers(t, lines("registers 2", "ok", "bad 1 1", "bad 1 1", "done 4 0 0", "registers 2", "bad 1 1", "done 3 0 0"),
		fileLine(t, tooGreat()), "check", "over", "over", "run 1 2400", "tidy", "over", "run 0 2")
	f := tooGreat()
	slices.Reverse(f.Methods)
	checkAnswers(t, lines("registers 2", "bad 1 0", "ok"), fileLine(t, f), "over", "check")
	// What is stuck is told ahead of what is too great.
	f.Methods[1] = stuckOnRegisters()
	checkAnswers(t, lines("registers 2", "bad 3 1", "bad 3 1"), fileLine(t, f), "over", "tidy")
}

func TestM2TidyOfAFileOnRegisters(t *testing.T) {
	for n := 1; n <= api.MaxMethods; n++ {
		count := strconv.Itoa(n)
		checkAnswers(t, lines("registers "+count, "registers "+count, "registers "+count, "ok", "done "+strconv.Itoa(99+n)+" 0 0"),
			fileLine(t, giving(n).registers), "tidy", "tidy", "check", "run "+strconv.Itoa(n-1)+" 2")
	}
}

// The fuel tells that it was tidied, and that what was made is the file.
func TestM2TidyMakesTheFile(t *testing.T) {
	checkAnswers(t, lines("registers 1", "fuel 0 0 0", "done 6 0 0", "registers 1", "done 6 0 0", "stack 1", "done 6 0 0", "registers 1", "registers 1", "done 6 0 0"),
		fileLine(t, idle()), "run 0 2", "run 0 3", "tidy", "run 0 2", "over", "run 0 99", "over", "tidy", "run 0 99")
}

// Nothing is done to a file on a stack, whether it is checked or not.
func TestM2TidyOfAFileOnAStack(t *testing.T) {
	checkAnswers(t, lines("stack 1", "?", "?", "done 100 0 0", "ok"), fileLine(t, giving(1).stack), "tidy", "tidy", "run 0 2", "check")
	checkAnswers(t, lines("stack 3", "?", "bad 3 0", "stuck 0 0 0"), fileLine(t, stuckIn(0).stack), "tidy", "check", "run 0 2")
	checkAnswers(t, lines("registers 1", "stack 1", "?", "done 100 0 0"), fileLine(t, giving(1).registers), "over", "tidy", "run 0 99")
}

func TestM2TidyOfAFileThatIsNotChecked(t *testing.T) {
	for n := range 3 {
		told := "bad 3 " + strconv.Itoa(n)
		checkAnswers(t, lines("registers 3", told, told, "stuck 0 0 0", told),
			fileLine(t, stuckIn(n).registers), "tidy", "tidy", "run "+strconv.Itoa(n)+" 9", "check")
	}
}

// A checked file stays in place of one that is at fault, and the other way round.
func TestM2MadeFilesAndLoadedOnes(t *testing.T) {
	checkAnswers(t, lines("stack 1", "registers 1", "registers 3", "bad 3 2", "bad 3 2", "stack 3", "bad 3 1", "?", "registers 1", "registers 1", "stack 1"),
		fileLine(t, giving(1).stack), "over", fileLine(t, stuckIn(2).registers), "over", "tidy", fileLine(t, stuckIn(1).stack), "over", "tidy", fileLine(t, idle()), "tidy", "over")
}
