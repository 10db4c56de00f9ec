package flow_test

import (
	"slices"
	"testing"

	"crosswalk/api"
	"crosswalk/flow"
)

func classes() []api.Class {
	return []api.Class{{Super: -1}, {}, {}, {}, {Super: 0}, {Super: 4}, {Super: 4}}
}

func newFlow(code int, params ...api.Type) *flow.Flow {
	return flow.New(classes(), api.Method{Params: params, Code: make([]api.Ins, code)}, 6)
}

// through goes on with the next instruction, when each one is done.
func through(w *flow.Flow, do func()) bool {
	_, ok := w.Through(func(api.Ins) {
		do()
		if w.At+1 < len(w.Method.Code) {
			w.LeadNext()
		}
	})
	return ok
}

func TestParametersInTheirSlots(t *testing.T) {
	w := newFlow(1, api.Type{Kind: api.KInt}, api.Type{Kind: api.KLong}, api.Type{Kind: api.KRef, Class: 5})
	ok := through(w, func() {
		got := [3]flow.Value{w.Read(0, api.KInt), w.Read(1, api.KLong), w.Read(3, api.KRef)}
		if got != [3]flow.Value{flow.Int(), flow.Long(), flow.Ref(5)} {
			t.Errorf("got %v", got)
		}
		if len(w.Slots) != 6 || w.Slots[4] != (flow.Value{}) || w.Slots[5] != (flow.Value{}) || len(w.Stack) != 0 {
			t.Errorf("got %+v", w.State)
		}
	})
	if !ok {
		t.Error("given up")
	}
}

func TestALongLosesItsSlotsTogether(t *testing.T) {
	for at := range 6 {
		w := newFlow(1)
		if !through(w, func() {
			w.Write(2, flow.Long())
			w.Write(at, flow.Int())
		}) {
			t.Fatal("given up")
		}
		kept := at != 2 && at != 3
		if (w.Slots[2] == flow.Long()) != kept || (w.Slots[3] != flow.Value{} && w.Slots[3] != flow.Int()) != kept {
			t.Errorf("stored into %d: %v", at, w.Slots)
		}
		if w.Slots[at] != flow.Int() {
			t.Errorf("stored into %d: %v", at, w.Slots)
		}
	}
}

func TestALongTakesSlotsFromOthers(t *testing.T) {
	for at := range 5 {
		w := newFlow(1)
		if !through(w, func() {
			w.Write(2, flow.Long())
			w.Write(at, flow.Long())
		}) {
			t.Fatal("given up")
		}
		longs := 1
		if at == 0 || at == 4 {
			longs = 2
		}
		left := 0
		for _, v := range w.Slots {
			if v == (flow.Value{}) {
				left++
			}
		}
		if w.Slots[at] != flow.Long() || left != len(w.Slots)-2*longs {
			t.Errorf("stored at %d: %v", at, w.Slots)
		}
	}
}

func TestWhatLeadsNowhereGivesUp(t *testing.T) {
	for _, to := range []int{-1, 2, 3} {
		w := newFlow(2)
		if l, ok := w.Through(func(api.Ins) { w.Lead(to) }); ok || len(l) > 0 {
			t.Errorf("went to %d: %v", to, l)
		}
	}
}

func TestWhatNothingLeadsToIsNotDone(t *testing.T) {
	w := newFlow(3)
	var done []int
	w.Through(func(api.Ins) {
		done = append(done, w.At)
		w.Lead(2)
	})
	if !slices.Equal(done, []int{0, 2}) {
		t.Errorf("done: %v", done)
	}
}

func TestBranchLeadsBothWays(t *testing.T) {
	w := newFlow(4)
	var done []int
	_, ok := w.Through(func(api.Ins) {
		done = append(done, w.At)
		if w.At == 0 {
			w.Branch(3)
		}
	})
	if !ok || !slices.Equal(done, []int{0, 1, 3}) {
		t.Errorf("%v, done: %v", ok, done)
	}
	w = newFlow(2)
	if _, ok := w.Through(func(api.Ins) { w.Branch(w.At) }); ok {
		t.Error("the last one has no next one")
	}
}

// Two ways that come together are both gone ahead of what is behind them: so that is done once.
func TestDoneInTheOrderOfTheCode(t *testing.T) {
	w := newFlow(6)
	var done []int
	w.Through(func(api.Ins) {
		done = append(done, w.At)
		switch w.At {
		case 0:
			w.Branch(3)
		case 1:
			w.Write(0, flow.Ref(5))
			w.Lead(5)
		case 3:
			w.Write(0, flow.Ref(6))
			w.Branch(5)
		case 4:
			w.Write(0, flow.Ref(4))
			w.LeadNext()
		}
	})
	if !slices.Equal(done, []int{0, 1, 3, 4, 5}) {
		t.Errorf("done: %v", done)
	}
}

// An instruction is done once more where less is known, and only there.
func TestDoneAgainWhereLessIsKnown(t *testing.T) {
	w := newFlow(2)
	var seen []flow.Value
	// The last but one says less than all ahead of it; with the last one nothing changes any more.
	stored := []flow.Value{flow.Nothing(), flow.Ref(5), flow.Ref(6), flow.Ref(1), flow.Int(), flow.Ref(5)}
	_, ok := w.Through(func(api.Ins) {
		if w.At == 1 {
			seen = append(seen, w.Slots[0])
		}
		w.Write(0, stored[len(seen)])
		w.Lead(1)
	})
	want := []flow.Value{flow.Nothing(), flow.Ref(5), flow.Ref(4), flow.Ref(0), {}}
	if !ok || !slices.Equal(seen, want) {
		t.Errorf("%v, seen: %v", ok, seen)
	}
}

func TestMustFit(t *testing.T) {
	w := newFlow(1)
	for _, x := range []struct {
		v    flow.Value
		kind int
		cl   int
		want bool
	}{
		{flow.Int(), api.KInt, 0, true}, {flow.Int(), api.KLong, 0, false}, {flow.Long(), api.KLong, 0, true}, {flow.Long(), api.KRef, 0, false},
		{flow.Ref(5), api.KRef, 4, true}, {flow.Ref(4), api.KRef, 5, false}, {flow.Ref(6), api.KRef, 5, false}, {flow.Nothing(), api.KRef, 5, true},
		{flow.Nothing(), api.KInt, 0, false}, {flow.Value{}, api.KInt, 0, false}, {flow.Value{}, api.KRef, 0, false},
	} {
		got := through(newFlow(1), func() { w.MustFit(x.v, api.Type{Kind: x.kind, Class: x.cl}) })
		if got != x.want {
			t.Errorf("%+v: %v", x, got)
		}
	}
}

func TestOver(t *testing.T) {
	w := newFlow(4)
	w.Method.Handlers = []api.Handler{{From: 0, To: 2}, {From: 1, To: 4}, {From: 3, To: 4}}
	want := []int{1, 2, 1, 2}
	through(w, func() {
		if got := len(w.Over()); got != want[w.At] {
			t.Errorf("over %d: %d", w.At, got)
		}
	})
}

// What is no giving up is a fault of the program, and must not look like one of the file.
func TestOtherPanicsAreNotTaken(t *testing.T) {
	defer func() {
		if x := recover(); x != "other" {
			t.Errorf("got %v", x)
		}
	}()
	newFlow(1).Through(func(api.Ins) { panic("other") })
	t.Error("went on")
}

func TestCheck(t *testing.T) {
	f := api.File{Methods: make([]api.Method, 3)}
	f.Methods[1].Stack = 1
	f.Methods[2].Stack = 1
	through := func(_ api.File, m api.Method) ([]*flow.State, bool) {
		return make([]*flow.State, m.Locals), m.Stack == 0
	}
	f.Methods[0].Locals = 5
	for _, x := range []struct {
		may  bool
		n    int
		want api.Fault
	}{
		{true, 1, api.Fault{}}, {true, 3, api.Fault{Code: api.ErrKind, Method: 1}}, {false, 3, api.Fault{Code: api.ErrForm}},
	} {
		part := api.File{Methods: f.Methods[:x.n]}
		states, got := flow.Check(part, func(api.File) bool { return x.may }, through)
		if got != x.want {
			t.Errorf("got %+v, want %+v", got, x.want)
		}
		if got.Code == api.OK && (len(states) != 1 || len(states[0]) != 5) || got.Code != api.OK && len(states) > 0 {
			t.Errorf("%+v: states %v", got, states)
		}
	}
}

// The states are what is known when all is done, of both ways together; what nothing leads to has none.
func TestStates(t *testing.T) {
	w := newFlow(4, api.Type{Kind: api.KInt})
	l, ok := w.Through(func(api.Ins) {
		switch w.At {
		case 0:
			w.LeadWith(3, flow.Ref(5))
			w.LeadNext()
		case 1:
			w.Write(0, flow.Long())
			w.LeadWith(3, flow.Ref(6))
		}
	})
	if !ok || len(l) != 4 || l[0] == nil || l[1] == nil || l[2] != nil || l[3] == nil {
		t.Fatalf("got %v", l)
	}
	if l[1].Slots[0] != flow.Int() || l[3].Slots[0] != (flow.Value{}) || !slices.Equal(l[3].Stack, []flow.Value{flow.Ref(4)}) || len(l[0].Stack) != 0 {
		t.Errorf("got %+v %+v %+v", l[0], l[1], l[3])
	}
}
