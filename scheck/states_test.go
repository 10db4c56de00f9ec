package scheck_test

import (
	"slices"
	"testing"

	"crosswalk/api"
	"crosswalk/flow"
	"crosswalk/scheck"
)

func TestStatesOfStacks(t *testing.T) {
	m := handled(method(
		putLong, putNew(lowest), putInt, ins(api.SIf, 6, api.CondZero), pop, putNew(beside),
		store(0, api.KRef), pop, comeBack,
		dup,
		pop, comeBack), over(0, 1, 10, upper))
	all, x := scheck.States(file(method(comeBack), m))
	if x != (api.Fault{}) || len(all) != 2 || len(all[0]) != 1 || len(all[1]) != len(m.Code) {
		t.Fatalf("got %v, %+v", all, x)
	}
	l := all[1]
	want := map[int][]flow.Value{
		0: {}, 1: {flow.Long()}, 2: {flow.Long(), flow.Ref(lowest)}, 3: {flow.Long(), flow.Ref(lowest), flow.Int()},
		4: {flow.Long(), flow.Ref(lowest)}, 5: {flow.Long()}, 6: {flow.Long(), flow.Ref(upper)}, 7: {flow.Long()}, 8: {},
		10: {flow.Ref(upper)}, 11: {},
	}
	for at, s := range l {
		stack, reached := want[at]
		if reached != (s != nil) || reached && !slices.Equal(s.Stack, stack) {
			t.Errorf("%d: got %+v, want %v", at, s, stack)
		}
	}
	if l[7].Slots[0] != flow.Ref(upper) || l[6].Slots[0] != (flow.Value{}) {
		t.Errorf("got %+v %+v", l[6].Slots, l[7].Slots)
	}
}

func TestStatesOfWhatIsNotChecked(t *testing.T) {
	if l, x := scheck.States(file(method(comeBack), bad())); x != (api.Fault{Code: api.ErrKind, Method: 1}) || len(l) > 0 {
		t.Errorf("got %v, %+v", l, x)
	}
	if l, x := scheck.States(api.File{}); x != (api.Fault{Code: api.ErrForm}) || len(l) > 0 {
		t.Errorf("got %v, %+v", l, x)
	}
}
