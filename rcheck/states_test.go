package rcheck_test

import (
	"slices"
	"testing"

	"crosswalk/api"
	"crosswalk/flow"
	"crosswalk/rcheck"
)

func TestStatesOfRegisters(t *testing.T) {
	m := handled(method(
		setInt(0), jumpIf(4, 0), setNew(1, lowest), jump(5),
		setNew(1, beside),
		call(1), result(2, api.KLong), comeBack,
		throwIt(0),
		caught(4), comeBack, comeBack), over(5, 6, 9, upper), over(6, 7, 11, lower))
	all, x := rcheck.States(file(m, gives(longType)))
	if x != (api.Fault{}) || len(all) != 2 || len(all[0]) != len(m.Code) || len(all[1]) != 2 {
		t.Fatalf("got %v, %+v", all, x)
	}
	// What is at hand stands on the stack, where it is fetched; nothing leads to the throw.
	want := map[int][]flow.Value{6: {flow.Long()}, 9: {flow.Ref(upper)}}
	for at, s := range all[0] {
		if (s == nil) != (at == 8) || s != nil && !slices.Equal(s.Stack, want[at]) {
			t.Errorf("%d: got %+v, want %v", at, s, want[at])
		}
	}
	if l := all[0]; l[5].Slots[1] != flow.Ref(upper) || l[5].Slots[2] != (flow.Value{}) || l[7].Slots[2] != flow.Long() || l[10].Slots[4] != flow.Ref(upper) {
		t.Errorf("got %+v %+v %+v", l[5].Slots, l[7].Slots, l[10].Slots)
	}
}

func TestStatesOfWhatIsNotChecked(t *testing.T) {
	if l, x := rcheck.States(file(method(comeBack), method(throwIt(0)))); x != (api.Fault{Code: api.ErrKind, Method: 1}) || len(l) > 0 {
		t.Errorf("got %v, %+v", l, x)
	}
	if l, x := rcheck.States(api.File{}); x != (api.Fault{Code: api.ErrForm}) || len(l) > 0 {
		t.Errorf("got %v, %+v", l, x)
	}
}
