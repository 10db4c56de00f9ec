package machine

import (
	"testing"

	"crosswalk/api"
)

func checkStop(t *testing.T, want int, do func()) {
	t.Helper()
	if s, stopped := attempt(do); !stopped || s.end != want {
		t.Errorf("got %+v, %v, want end %d", s, stopped, want)
	}
}

func TestAttemptAnswersWhatStopped(t *testing.T) {
	for end := api.EndFuel; end <= api.EndStuck; end++ {
		checkStop(t, end, func() { End(end) })
	}
	if s, stopped := attempt(func() {}); stopped || s != (stop{}) {
		t.Errorf("got %+v, %v", s, stopped)
	}
}

func TestAttemptHidesNoFaultOfTheProgram(t *testing.T) {
	defer func() {
		if x := recover(); x != "a fault" {
			t.Errorf("got %v", x)
		}
	}()
	attempt(func() { panic("a fault") })
}

func TestD2Slots(t *testing.T) {
	s := NewSlots(5, Int(1), Long(2), Nothing())
	for _, v := range []struct {
		at   int
		want Value
	}{{0, Int(1)}, {1, Long(2)}, {3, Nothing()}} {
		if got := s.Read(v.at, v.want.Kind); got != v.want {
			t.Errorf("got %+v, want %+v", got, v.want)
		}
	}
	for _, kind := range []int{api.KInt, api.KLong, api.KRef} {
		checkStop(t, api.EndStuck, func() { s.Read(2, kind) })
	}
	checkStop(t, api.EndStuck, func() { s.Read(4, api.KInt) })
}

func heapOf(fields ...api.Type) *Heap {
	return newHeap([]api.Class{{Super: -1}, {}, {}, {Fields: fields}})
}

func TestD2ValuesOfTypes(t *testing.T) {
	h := heapOf()
	object := h.New(3)
	for _, v := range []Value{Nothing(), object} {
		for _, class := range []int{0, 3} {
			h.MustFit(v, api.Type{Kind: api.KRef, Class: class})
		}
	}
	h.MustFit(Nothing(), api.Type{Kind: api.KRef, Class: 2})
	checkStop(t, api.EndStuck, func() { h.MustFit(object, api.Type{Kind: api.KRef, Class: 2}) })
	checkStop(t, api.EndStuck, func() { h.MustFit(Int(0), api.Type{Kind: api.KRef}) })
	checkStop(t, api.EndStuck, func() { h.MustFit(Long(0), api.Type{Kind: api.KInt}) })
	if h.Below(Nothing(), 0) || !h.Below(object, 0) || h.Below(object, 1) {
		t.Error("below")
	}
}

func TestD2FieldsOfTwoObjects(t *testing.T) {
	h := heapOf(api.Type{Kind: api.KInt}, api.Type{Kind: api.KRef})
	a, b := h.New(3), h.New(3)
	h.Put(a, 3, 0, Int(4))
	h.Put(b, 3, 1, a)
	for _, x := range []struct {
		ref   Value
		field int
		want  Value
	}{{a, 0, Int(4)}, {a, 1, Nothing()}, {b, 0, Int(0)}, {b, 1, a}} {
		if got := h.Get(x.ref, 3, x.field); got != x.want {
			t.Errorf("got %+v, want %+v", got, x.want)
		}
	}
}

func TestD4Thrown(t *testing.T) {
	h := heapOf(api.Type{Kind: api.KInt})
	for _, do := range []func(){
		func() { h.Throw(Nothing()) },
		func() { h.ThrowNew(api.ClassNull) },
		func() { h.Get(Nothing(), 3, 0) },
		func() { h.Put(Nothing(), 3, 0, Int(1)) },
	} {
		s, stopped := attempt(do)
		if !stopped || s.end != api.EndThrown || h.classOf(s.value) != api.ClassNull {
			t.Errorf("got %+v, %v", s, stopped)
		}
	}
}
