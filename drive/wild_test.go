package drive_test

import (
	"math/rand"
	"strconv"
	"strings"
	"testing"

	"crosswalk/api"
)

// talker says lines of all kinds, most of them such as may be.
type talker struct {
	*rand.Rand
	files []string
}

func newTalker(t *testing.T, seed int64) *talker {
	r := &talker{Rand: rand.New(rand.NewSource(seed))}
	add := func(files ...api.File) {
		for _, f := range files {
			r.files = append(r.files, fileLine(t, f))
		}
	}
	for _, p := range []pair[api.File]{giving(1), giving(3), stuckIn(0), stuckIn(2), summing(), echoing()} {
		add(p.both()...)
	}
	for _, x := range endings() {
		for _, m := range x.files.both() {
			add(file(m))
		}
	}
	add(idle())
	return r
}

func (r *talker) number(least int) string {
	switch r.Intn(4) {
	case 0:
		return strconv.Itoa(max(least, r.Intn(2000000)-1000000))
	case 1:
		return wrongNumbers()[r.Intn(30)]
	}
	return strconv.Itoa(max(least, r.Intn(30)-10))
}

func (r *talker) numbers(most int) string {
	s := ""
	for range r.Intn(most + 1) {
		s += " " + strconv.Itoa(r.Intn(2000)-1000)
		if r.Intn(30) == 0 {
			s += " " + r.number(-999999)
		}
	}
	return s
}

func (r *talker) line() string {
	switch r.Intn(12) {
	case 0, 1:
		return r.files[r.Intn(len(r.files))]
	case 2:
		return r.damaged(r.files[r.Intn(len(r.files))])
	case 3, 4:
		return "in" + r.numbers(6)
	case 5:
		return "check"
	case 6:
		return "over"
	case 7:
		return "tidy"
	case 8:
		return r.damaged(lines("in 12 -7", "check", "over", "tidy", "run 0 99 1")[r.Intn(5)])
	case 9:
		return "run " + r.number(0) + " " + r.number(0) + r.numbers(3)
	}
	return "run " + strconv.Itoa(r.Intn(3)) + " " + strconv.Itoa(r.Intn(900)) + strings.Repeat(" -3", 3*r.Intn(2))
}

// damaged has another byte, one more, or one less.
func (r *talker) damaged(line string) string {
	at := r.Intn(len(line))
	c := string("0123456789abcdef -+AF\t"[r.Intn(22)])
	switch r.Intn(4) {
	case 0:
		return line[:at] + c + line[at:]
	case 1:
		return line[:at] + line[at+1:]
	}
	return line[:at] + c + line[at+1:]
}

func (r *talker) script() string {
	var l []string
	for range r.Intn(50) {
		l = append(l, r.line())
	}
	s := script(l)
	if r.Intn(2) == 0 {
		s = strings.TrimSuffix(s, "\n")
	}
	return s
}

// Whole scripts are answered as the model says, and every word is answered somewhere.
func TestM2WildScripts(t *testing.T) {
	m := newModel()
	r := newTalker(t, 1)
	words := map[string]int{}
	for range 3000 {
		s := r.script()
		want := m.play(s)
		checkPlay(t, want, s)
		for _, line := range strings.Split(want, "\n") {
			word, _, _ := strings.Cut(line, " ")
			words[word]++
		}
	}
	for _, word := range strings.Fields("? ok bad none stack registers fuel done thrown input full deep stuck") {
		if words[word] < 10 {
			t.Errorf("%s: %d answers", word, words[word])
		}
	}
}

func TestM3WildScripts(t *testing.T) {
	r := newTalker(t, 2)
	for range 150 {
		checkBeginnings(t, r.script())
	}
}

// Bytes of all kinds, with many bytes 10 and blanks among them.
func TestP1WildBytes(t *testing.T) {
	m := newModel()
	r := rand.New(rand.NewSource(3))
	for range 30000 {
		b := make([]byte, r.Intn(120))
		r.Read(b)
		for at := range b {
			if r.Intn(3) > 0 {
				b[at] = "\n\n  01-infilerun"[r.Intn(15)]
			}
		}
		m.check(t, string(b))
	}
}
