package rcheck_test

import (
	"slices"
	"strconv"
	"strings"

	"crosswalk/api"
)

// The model follows the document word by word, and slowly: states with texts, all of them made anew until none changes.

type model struct {
	f      api.File
	m      api.Method
	cannot bool
}

// modelState: a nil one is of an instruction that nothing leads to. Where nothing is at hand, hand is empty.
type modelState struct {
	broken bool
	slots  []string
	hand   string
}

func (s *modelState) same(o *modelState) bool {
	if s == nil || o == nil {
		return s == o
	}
	return s.broken == o.broken && s.hand == o.hand && slices.Equal(s.slots, o.slots)
}

func (s *modelState) with(hand string) *modelState {
	return &modelState{slots: slices.Clone(s.slots), hand: hand}
}

func said(t api.Type) string {
	switch t.Kind {
	case api.KInt:
		return "int"
	case api.KLong:
		return "long"
	}
	return "ref " + strconv.Itoa(t.Class)
}

func isRef(s string) bool {
	return s == "nothing" || strings.HasPrefix(s, "ref ")
}

func classOf(s string) int {
	n, _ := strconv.Atoi(strings.TrimPrefix(s, "ref "))
	return n
}

func (m *model) chain(c int) []int {
	var l []int
	for ; c >= 0; c = m.f.Classes[c].Super {
		l = append(l, c)
	}
	return l
}

// fits has any reference fit one of the class -1.
func (m *model) fits(s string, t api.Type) bool {
	switch t.Kind {
	case api.KInt:
		return s == "int"
	case api.KLong:
		return s == "long"
	}
	return s == "nothing" || isRef(s) && (t.Class == -1 || slices.Contains(m.chain(classOf(s)), t.Class))
}

func (m *model) bothSaid(a, b string) string {
	switch {
	case a == b:
		return a
	case !isRef(a) || !isRef(b):
		return "anything"
	case a == "nothing":
		return b
	case b == "nothing":
		return a
	}
	best := 0
	for _, c := range m.chain(classOf(a)) {
		if slices.Contains(m.chain(classOf(b)), c) {
			best = max(best, c)
		}
	}
	return "ref " + strconv.Itoa(best)
}

func (m *model) both(a, b *modelState) *modelState {
	if a == nil {
		return b
	}
	if a.broken || b.broken || (a.hand == "") != (b.hand == "") {
		return &modelState{broken: true}
	}
	s := &modelState{hand: m.bothSaid(a.hand, b.hand)}
	for k := range a.slots {
		s.slots = append(s.slots, m.bothSaid(a.slots[k], b.slots[k]))
	}
	if s.hand == "anything" {
		return &modelState{broken: true}
	}
	return s
}

func (m *model) begin() *modelState {
	s := &modelState{}
	for _, t := range m.m.Params {
		if t.Kind == api.KLong {
			s.slots = append(s.slots, "first", "second")
		} else {
			s.slots = append(s.slots, said(t))
		}
	}
	for len(s.slots) < m.m.Regs {
		s.slots = append(s.slots, "anything")
	}
	return s
}

func (m *model) must(so bool) {
	if !so {
		m.cannot = true
	}
}

func (m *model) read(s *modelState, at int, t api.Type) string {
	v := s.slots[at]
	if v == "first" && at+1 < len(s.slots) && s.slots[at+1] == "second" {
		v = "long"
	}
	m.must(m.fits(v, t))
	return v
}

func (m *model) write(s *modelState, at int, v string) {
	l := []string{v}
	if v == "long" {
		l = []string{"first", "second"}
	}
	for k := range l {
		switch s.slots[at+k] {
		case "first":
			s.slots[at+k+1] = "anything"
		case "second":
			s.slots[at+k-1] = "anything"
		}
		s.slots[at+k] = "anything"
	}
	copy(s.slots[at:], l)
}

// readsOf has the registers that are read, with their types.
func (m *model) readsOf(i api.Ins) []operand {
	of := func(k known, registers ...int) []operand {
		var l []operand
		for _, r := range registers {
			l = append(l, operand{r, k})
		}
		return l
	}
	switch i.Op {
	case api.RMove:
		return of(api.Type{Kind: i.C, Class: -1}, i.B)
	case api.RIntOp:
		return of(intType, i.B, i.C)
	case api.RLongOp, api.RCmp:
		return of(longType, i.B, i.C)
	case api.RWiden:
		return of(intType, i.B)
	case api.RNarrow:
		return of(longType, i.B)
	case api.RIf:
		return of(intType, i.C)
	case api.RIfNull:
		return of(none, i.C)
	case api.RGet:
		return of(ref(i.C), i.B)
	case api.RPut:
		return append(of(ref(i.C), i.B), of(m.f.Classes[i.C].Fields[i.N], i.A)...)
	case api.RCast, api.RThrow:
		return of(none, i.A)
	case api.RIs:
		return of(none, i.B)
	case api.RCall:
		var l []operand
		for k, t := range m.f.Methods[i.A].Params {
			l = append(l, operand{i.Args[k], t})
		}
		return l
	case api.RReturn:
		if m.m.Ret.Kind != api.KVoid {
			return of(m.m.Ret, i.A)
		}
	case api.REmit:
		return of(api.Type{Kind: i.B}, i.A)
	}
	return nil
}

// written answers what A becomes; nothing is written where that is empty.
func (m *model) written(s *modelState, i api.Ins) string {
	switch i.Op {
	case api.RInt, api.RIntOp, api.RNarrow, api.RCmp, api.RIs:
		return "int"
	case api.RLong, api.RLongOp, api.RWiden, api.RIn:
		return "long"
	case api.RNull:
		return "nothing"
	case api.RMove:
		return m.read(s, i.B, api.Type{Kind: i.C, Class: -1})
	case api.RNew, api.RCast:
		return said(ref(i.B))
	case api.RGet:
		return said(m.f.Classes[i.C].Fields[i.N])
	case api.RResult:
		m.must(s.hand != "" && m.fits(s.hand, api.Type{Kind: i.B, Class: -1}))
		return s.hand
	case api.RCaught:
		m.must(s.hand != "" && m.fits(s.hand, none))
		return s.hand
	}
	return ""
}

func (m *model) change(s *modelState, i api.Ins) {
	for _, o := range m.readsOf(i) {
		m.read(s, o.at, o.is)
	}
	v := m.written(s, i)
	if v != "" && !m.cannot {
		m.write(s, i.A, v)
	}
}

func goesOnAt(i api.Ins, at int) []int {
	switch i.Op {
	case api.RGoto:
		return []int{i.A}
	case api.RIf, api.RIfNull:
		return []int{i.A, at + 1}
	case api.RReturn, api.RThrow:
		return nil
	}
	return []int{at + 1}
}

// handedOn answers what is at hand where the instruction at one place goes on at another one.
func (m *model) handedOn(at, to int) string {
	i := m.m.Code[at]
	if i.Op != api.RCall || to != at+1 || m.m.Code[to].Op != api.RResult {
		return ""
	}
	if ret := m.f.Methods[i.A].Ret; ret.Kind != api.KVoid {
		return said(ret)
	}
	return ""
}

func (m *model) thrownOn(h api.Handler) string {
	if m.m.Code[h.At].Op != api.RCaught {
		return ""
	}
	return said(ref(h.Class))
}

// leads answers where the instruction leads to, and in which states; whether it can be so stands in cannot.
func (m *model) leads(at int, come *modelState) map[int]*modelState {
	i := m.m.Code[at]
	m.cannot = come.broken
	s := come.with(come.hand)
	if !come.broken {
		m.change(s, i)
	}
	on := goesOnAt(i, at)
	m.must(!slices.Contains(on, len(m.m.Code)))
	out := map[int]*modelState{}
	lead := func(to int, s *modelState) {
		if m.cannot {
			s = &modelState{broken: true}
		}
		out[to] = m.both(out[to], s)
	}
	for _, to := range on {
		if to < len(m.m.Code) {
			lead(to, s.with(m.handedOn(at, to)))
		}
	}
	for _, h := range m.m.Handlers {
		if at >= h.From && at < h.To {
			lead(h.At, come.with(m.thrownOn(h)))
		}
	}
	return out
}

func (m *model) states() []*modelState {
	states := make([]*modelState, len(m.m.Code))
	for changed := true; changed; {
		next := make([]*modelState, len(states))
		next[0] = m.begin()
		for at, s := range states {
			if s == nil {
				continue
			}
			for to, lead := range m.leads(at, s) {
				next[to] = m.both(next[to], lead)
			}
		}
		changed = false
		for at := range next {
			changed = changed || !next[at].same(states[at])
		}
		states = next
	}
	return states
}

func modelSound(f api.File, method api.Method) bool {
	m := &model{f: f, m: method}
	for at, s := range m.states() {
		if s == nil {
			continue
		}
		m.leads(at, s)
		if s.broken || m.cannot {
			return false
		}
	}
	return true
}

// modelCheck is of files that may be.
func modelCheck(f api.File) api.Fault {
	for k, m := range f.Methods {
		if !modelSound(f, m) {
			return api.Fault{Code: api.ErrKind, Method: k}
		}
	}
	return api.Fault{}
}
