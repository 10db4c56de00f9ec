package machine

import (
	"crosswalk/api"
	"crosswalk/hier"
	"crosswalk/num"
	"crosswalk/span"
)

// Heap has the objects of a run.
type Heap struct {
	Classes []api.Class
	objects []int
	fields  map[place]Value
}

// place is a field's: classes number the fields of their own alone, so the class belongs to it.
type place struct{ object, class, field int }

func newHeap(classes []api.Class) *Heap {
	return &Heap{Classes: classes, fields: map[place]Value{}}
}

// New answers a reference to a new object of the class.
func (h *Heap) New(class int) Value {
	if len(h.objects) >= api.MaxObjects {
		End(api.EndFull)
	}
	h.objects = append(h.objects, class)
	return Value{Kind: api.KRef, N: int64(len(h.objects))}
}

// Below answers whether ref is to an object, and that object's class is below the class.
func (h *Heap) Below(ref Value, class int) bool {
	return !ref.IsNothing() && hier.Below(h.Classes, h.classOf(ref), class)
}

func (h *Heap) classOf(ref Value) int {
	return h.objects[ref.N-1]
}

// MustFit answers v; the run is stuck, if it is not of the type.
func (h *Heap) MustFit(v Value, t api.Type) Value {
	v.MustBe(t.Kind)
	if t.Kind == api.KRef && !v.IsNothing() && !h.Below(v, t.Class) {
		Stuck()
	}
	return v
}

// Get answers the value of an object's field.
func (h *Heap) Get(ref Value, class, field int) Value {
	v, stored := h.fields[h.placeOf(ref, class, field)]
	if !stored {
		return Value{Kind: h.Classes[class].Fields[field].Kind}
	}
	return v
}

// Put stores v in an object's field.
func (h *Heap) Put(ref Value, class, field int, v Value) {
	h.fields[h.placeOf(ref, class, field)] = v
}

func (h *Heap) placeOf(ref Value, class, field int) place {
	if ref.IsNothing() {
		h.ThrowNew(api.ClassNull)
	}
	return place{object: int(ref.N), class: class, field: field}
}

// Cast answers ref; ClassCast is thrown, if it is to an object of a class that is not below the class.
func (h *Heap) Cast(ref Value, class int) Value {
	if !ref.IsNothing() && !h.Below(ref, class) {
		h.ThrowNew(api.ClassCast)
	}
	return ref
}

// Reckon answers num's answer of an operation of two values of the kind; where there is none ClassDivide is thrown.
func (h *Heap) Reckon(kind, op int, a, b Value) Value {
	work := num.Long
	if kind == api.KInt {
		work = num.Int
	}
	n, ok := work(op, a.N, b.N)
	if !ok {
		h.ThrowNew(api.ClassDivide)
	}
	return Value{Kind: kind, N: n}
}

// Throw throws the object that ref is to; of nothing ClassNull is thrown.
func (h *Heap) Throw(ref Value) {
	if ref.IsNothing() {
		h.ThrowNew(api.ClassNull)
	}
	panic(stop{end: api.EndThrown, value: ref})
}

// ThrowNew throws a new object of the class.
func (h *Heap) ThrowNew(class int) {
	h.Throw(h.New(class))
}

// Handler answers the first one that catches what is thrown at an instruction; false where none does.
func (h *Heap) Handler(handlers []api.Handler, at int, thrown Value) (api.Handler, bool) {
	for _, x := range handlers {
		if span.Within(at, x.From, x.To-1) && h.Below(thrown, x.Class) {
			return x, true
		}
	}
	return api.Handler{}, false
}
