package drive

import (
	"strconv"

	"crosswalk/api"
)

// number is what is told: what files and runs have, and errors.
type number interface{ ~int | ~int64 }

// tell answers a text with numbers behind it, each behind a blank. What was told may be a text again, for numbers of another kind.
func tell[N number](text string, numbers ...N) string {
	b := []byte(text)
	for _, n := range numbers {
		b = append(b, ' ')
		b = strconv.AppendInt(b, int64(n), 10)
	}
	return string(b)
}

func tellFault(x api.Fault) string {
	return tell(tell(wordBad, x.Code), x.Method)
}

func tellShown(s api.Shown) string {
	head := tell(tell(wordOf(s.End), s.Value), s.Class, s.Used)
	return tell(head, s.Out...)
}

// wordOf answers the word of a run's end.
func wordOf(end int) string {
	switch end {
	case api.EndFuel:
		return "fuel"
	case api.EndDone:
		return "done"
	case api.EndThrown:
		return "thrown"
	case api.EndInput:
		return "input"
	case api.EndFull:
		return "full"
	case api.EndDeep:
		return "deep"
	}
	return "stuck"
}
