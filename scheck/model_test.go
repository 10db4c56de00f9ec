package scheck_test

import (
	"slices"
	"strconv"
	"strings"

	"crosswalk/api"
)

// The model follows the document word by word, and slowly: states with texts, all of them made anew until none changes.

type model struct {
	f      api.File
	m      api.Method
	cannot bool
}

// modelState: a nil one is of an instruction that nothing leads to.
type modelState struct {
	broken bool
	slots  []string
	stack  []string
}

func (s *modelState) same(o *modelState) bool {
	if s == nil || o == nil {
		return s == o
	}
	return s.broken == o.broken && slices.Equal(s.slots, o.slots) && slices.Equal(s.stack, o.stack)
}

func said(t api.Type) string {
	switch t.Kind {
	case api.KInt:
		return "int"
	case api.KLong:
		return "long"
	}
	return "ref " + strconv.Itoa(t.Class)
}

func isRef(s string) bool {
	return s == "nothing" || strings.HasPrefix(s, "ref ")
}

func classOf(s string) int {
	n, _ := strconv.Atoi(strings.TrimPrefix(s, "ref "))
	return n
}

func ofKind(s string, kind int) bool {
	switch kind {
	case api.KInt:
		return s == "int"
	case api.KLong:
		return s == "long"
	}
	return isRef(s)
}

func (m *model) chain(c int) []int {
	var l []int
	for ; c >= 0; c = m.f.Classes[c].Super {
		l = append(l, c)
	}
	return l
}

func (m *model) fits(s string, t api.Type) bool {
	if t.Kind != api.KRef || s == "nothing" || !isRef(s) {
		return ofKind(s, t.Kind)
	}
	return slices.Contains(m.chain(classOf(s)), t.Class)
}

func (m *model) bothSaid(a, b string) string {
	switch {
	case a == b:
		return a
	case !isRef(a) || !isRef(b):
		return "anything"
	case a == "nothing":
		return b
	case b == "nothing":
		return a
	}
	best := 0
	for _, c := range m.chain(classOf(a)) {
		if slices.Contains(m.chain(classOf(b)), c) {
			best = max(best, c)
		}
	}
	return "ref " + strconv.Itoa(best)
}

func (m *model) both(a, b *modelState) *modelState {
	if a == nil {
		return b
	}
	if a.broken || b.broken || len(a.stack) != len(b.stack) {
		return &modelState{broken: true}
	}
	s := &modelState{}
	for k := range a.slots {
		s.slots = append(s.slots, m.bothSaid(a.slots[k], b.slots[k]))
	}
	for k := range a.stack {
		s.stack = append(s.stack, m.bothSaid(a.stack[k], b.stack[k]))
	}
	if slices.Contains(s.stack, "anything") {
		return &modelState{broken: true}
	}
	return s
}

func (m *model) begin() *modelState {
	s := &modelState{}
	for _, t := range m.m.Params {
		if t.Kind == api.KLong {
			s.slots = append(s.slots, "first", "second")
		} else {
			s.slots = append(s.slots, said(t))
		}
	}
	for len(s.slots) < m.m.Locals {
		s.slots = append(s.slots, "anything")
	}
	return s
}

func (m *model) take(s *modelState) string {
	if len(s.stack) == 0 {
		m.cannot = true
		return "none"
	}
	v := s.stack[len(s.stack)-1]
	s.stack = s.stack[:len(s.stack)-1]
	return v
}

func (m *model) must(so bool) {
	if !so {
		m.cannot = true
	}
}

func (m *model) put(s *modelState, v string) {
	s.stack = append(s.stack, v)
	room := m.m.Stack
	for _, v := range s.stack {
		room--
		if v == "long" {
			room--
		}
	}
	m.must(room >= 0)
}

func (m *model) load(s *modelState, i api.Ins) {
	v := s.slots[i.A]
	if i.B == api.KLong {
		m.must(v == "first" && s.slots[i.A+1] == "second")
		m.put(s, "long")
		return
	}
	m.must(ofKind(v, i.B))
	m.put(s, v)
}

func (m *model) store(s *modelState, i api.Ins) {
	v := m.take(s)
	m.must(ofKind(v, i.B))
	last := i.A
	if i.B == api.KLong {
		last++
	}
	for k := i.A; k <= last; k++ {
		switch s.slots[k] {
		case "first":
			s.slots[k+1] = "anything"
		case "second":
			s.slots[k-1] = "anything"
		}
		s.slots[k] = "anything"
	}
	s.slots[i.A] = v
	if i.B == api.KLong {
		s.slots[i.A], s.slots[last] = "first", "second"
	}
}

// takesOf has the types that are taken, the last one last; a class -1 is any.
func (m *model) takesOf(i api.Ins) []api.Type {
	anyRef := ref(-1)
	switch i.Op {
	case api.SIntOp:
		return types(intType, intType)
	case api.SLongOp, api.SCmp:
		return types(longType, longType)
	case api.SWiden, api.SIf:
		return types(intType)
	case api.SNarrow:
		return types(longType)
	case api.SIfNull, api.SCast, api.SIs, api.SThrow:
		return types(anyRef)
	case api.SGet:
		return types(ref(i.A))
	case api.SPut:
		return types(ref(i.A), m.f.Classes[i.A].Fields[i.B])
	case api.SCall:
		return m.f.Methods[i.A].Params
	case api.SReturn:
		if m.m.Ret.Kind != api.KVoid {
			return types(m.m.Ret)
		}
	case api.SEmit:
		return types(api.Type{Kind: i.A})
	}
	return nil
}

func (m *model) putsOf(i api.Ins) []string {
	switch i.Op {
	case api.SInt, api.SIntOp, api.SNarrow, api.SCmp, api.SIs:
		return []string{"int"}
	case api.SLong, api.SLongOp, api.SWiden, api.SIn:
		return []string{"long"}
	case api.SNull:
		return []string{"nothing"}
	case api.SNew, api.SCast:
		return []string{said(ref(i.A))}
	case api.SGet:
		return []string{said(m.f.Classes[i.A].Fields[i.B])}
	case api.SCall:
		if r := m.f.Methods[i.A].Ret; r.Kind != api.KVoid {
			return []string{said(r)}
		}
	}
	return nil
}

func (m *model) change(s *modelState, i api.Ins) {
	switch i.Op {
	case api.SLoad:
		m.load(s, i)
	case api.SStore:
		m.store(s, i)
	case api.SPop:
		m.take(s)
	case api.SDup:
		v := m.take(s)
		m.put(s, v)
		m.put(s, v)
	}
	takes := m.takesOf(i)
	for k := len(takes) - 1; k >= 0; k-- {
		v := m.take(s)
		m.must(m.fits(v, takes[k]) || takes[k].Class == -1 && isRef(v))
	}
	for _, v := range m.putsOf(i) {
		m.put(s, v)
	}
}

func goesOnAt(i api.Ins, at int) []int {
	switch i.Op {
	case api.SGoto:
		return []int{i.A}
	case api.SIf, api.SIfNull:
		return []int{i.A, at + 1}
	case api.SReturn, api.SThrow:
		return nil
	}
	return []int{at + 1}
}

// leads answers where the instruction leads to, and in which states; whether it can be so stands in cannot.
func (m *model) leads(at int, come *modelState) map[int]*modelState {
	i := m.m.Code[at]
	m.cannot = come.broken
	s := &modelState{slots: slices.Clone(come.slots), stack: slices.Clone(come.stack)}
	if !come.broken {
		m.change(s, i)
	}
	on := goesOnAt(i, at)
	m.must(!slices.Contains(on, len(m.m.Code)))
	out := map[int]*modelState{}
	for _, to := range on {
		out[to] = s
		if m.cannot {
			out[to] = &modelState{broken: true}
		}
	}
	for _, h := range m.m.Handlers {
		if at < h.From || at >= h.To {
			continue
		}
		c := &modelState{slots: slices.Clone(come.slots), stack: []string{said(ref(h.Class))}}
		if m.cannot || m.m.Stack == 0 {
			c = &modelState{broken: true}
		}
		out[h.At] = m.both(out[h.At], c)
	}
	return out
}

func (m *model) states() []*modelState {
	states := make([]*modelState, len(m.m.Code))
	for changed := true; changed; {
		next := make([]*modelState, len(states))
		next[0] = m.begin()
		for at, s := range states {
			if s == nil {
				continue
			}
			for to, lead := range m.leads(at, s) {
				if to < len(next) {
					next[to] = m.both(next[to], lead)
				}
			}
		}
		changed = false
		for at := range next {
			changed = changed || !next[at].same(states[at])
		}
		states = next
	}
	return states
}

func modelSound(f api.File, method api.Method) bool {
	m := &model{f: f, m: method}
	for at, s := range m.states() {
		if s == nil {
			continue
		}
		m.leads(at, s)
		if s.broken || m.cannot {
			return false
		}
	}
	return true
}

// modelCheck is of files that may be.
func modelCheck(f api.File) api.Fault {
	for k, m := range f.Methods {
		if !modelSound(f, m) {
			return api.Fault{Code: api.ErrKind, Method: k}
		}
	}
	return api.Fault{}
}
