package remake_test

import (
	"reflect"
	"slices"
	"testing"

	"crosswalk/api"
	"crosswalk/flow"
	"crosswalk/remake"
)

// Instructions of which something leads to all but the second, the fourth and the fifth.
func states() []*flow.State {
	s := &flow.State{}
	return []*flow.State{s, nil, s, nil, nil, s}
}

// worked makes two instructions of the first, none of the third and one of the last.
func worked() *remake.Work {
	w := &remake.Work{}
	w.Through(states(), func(at int) {
		switch at {
		case 0:
			w.Say(api.Ins{Op: 7, A: 5}, api.Ins{Op: 8, A: 5})
		case 5:
			w.Say(api.Ins{Op: 9, A: 2})
		}
	})
	return w
}

func TestThrough(t *testing.T) {
	var done []int
	w := &remake.Work{}
	w.Through(states(), func(at int) { done = append(done, at) })
	if !slices.Equal(done, []int{0, 2, 5}) {
		t.Errorf("done: %v", done)
	}
	for at, want := range []int{0, 2, 2, 2, 2, 2} {
		if got := worked().Start(at); got != want {
			t.Errorf("%d begins at %d, want %d", at, got, want)
		}
	}
}

func TestAim(t *testing.T) {
	w := worked()
	w.Aim(7, 9)
	if want := []api.Ins{{Op: 7, A: 2}, {Op: 8, A: 5}, {Op: 9, A: 2}}; !reflect.DeepEqual(w.Made, want) {
		t.Errorf("got %v", w.Made)
	}
	w = worked()
	w.Aim()
	if want := []api.Ins{{Op: 7, A: 5}, {Op: 8, A: 5}, {Op: 9, A: 2}}; !reflect.DeepEqual(w.Made, want) {
		t.Errorf("got %v", w.Made)
	}
}

// Handlers over nothing that was made are left out, and nobody asks where they go on.
func TestMakeHandlers(t *testing.T) {
	w := worked()
	var asked []int
	got := w.MakeHandlers([]api.Handler{
		{From: 0, To: 1, At: 10, Class: 3}, {From: 1, To: 5, At: 11}, {From: 0, To: 6, At: 12}, {From: 2, To: 3, At: 13}, {From: 4, To: 6, At: 14, Class: 1},
	}, func(h api.Handler) int {
		asked = append(asked, h.At)
		w.Say(api.Ins{Op: 1})
		return len(w.Made)
	})
	if want := []api.Handler{{From: 0, To: 2, At: 4, Class: 3}, {From: 0, To: 3, At: 5}, {From: 2, To: 3, At: 6, Class: 1}}; !slices.Equal(got, want) {
		t.Errorf("got %v, want %v", got, want)
	}
	if !slices.Equal(asked, []int{10, 12, 14}) {
		t.Errorf("asked for %v", asked)
	}
}

func TestFile(t *testing.T) {
	f := api.File{
		Classes: []api.Class{{Super: -1}, {Fields: []api.Type{{Kind: api.KInt}}}},
		Methods: []api.Method{{Params: []api.Type{{Kind: api.KLong}}, Ret: api.Type{Kind: api.KInt}, Stack: 3}, {Stack: 4}},
	}
	all := [][]*flow.State{states(), nil}
	got := remake.File(f, all, func(_ api.File, m api.Method, l []*flow.State) api.Method {
		return api.Method{Regs: m.Stack, Locals: len(l)}
	})
	want := api.File{
		Classes: []api.Class{{Super: -1}, {Fields: []api.Type{{Kind: api.KInt}}}},
		Methods: []api.Method{{Params: []api.Type{{Kind: api.KLong}}, Ret: api.Type{Kind: api.KInt}, Regs: 3, Locals: 6}, {Regs: 4}},
	}
	if !reflect.DeepEqual(got, want) {
		t.Fatalf("got %+v, want %+v", got, want)
	}
	got.Classes[1].Fields[0].Kind, got.Methods[0].Params[0].Kind, got.Classes[0].Super = 9, 9, 9
	if f.Classes[1].Fields[0].Kind != api.KInt || f.Methods[0].Params[0].Kind != api.KLong || f.Classes[0].Super != -1 {
		t.Errorf("what is made shares memory with what it was made of: %+v", f)
	}
}
