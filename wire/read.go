package wire

import (
	"crosswalk/api"
	"crosswalk/span"
)

// reader reads bytes from the first one on; where too few are left, it gives up.
type reader struct{ left []byte }

func (r *reader) take(n int) []byte {
	if len(r.left) < n {
		giveUp()
	}
	taken := r.left[:n]
	r.left = r.left[n:]
	return taken
}

func (r *reader) takeRow(row []int) {
	for k := range row {
		row[k] = takeNumber[int](r)
	}
}

func takeNumber[N number](r *reader) N {
	var n uint64
	for _, b := range r.take(8) {
		n = n<<8 | uint64(b)
	}
	return N(n)
}

// takeList takes a list, each item by take.
// The most items that may be are asked for here, not only of the whole file: bytes can name more of them than there is memory for.
func takeList[T any](r *reader, most int64, take func(*reader) T) []T {
	n := takeNumber[int64](r)
	if !span.Within(n, 0, most) {
		giveUp()
	}
	var l []T
	for range n {
		l = append(l, take(r))
	}
	return l
}

// takeFile passes over the first byte: which one it must be hangs on the file behind it.
func takeFile(r *reader) api.File {
	r.take(1)
	var f api.File
	f.Classes = takeList(r, api.MaxClasses, takeClass)
	f.Methods = takeList(r, api.MaxMethods, takeMethod)
	return f
}

func takeClass(r *reader) api.Class {
	var c api.Class
	c.Super = takeNumber[int](r)
	c.Fields = takeList(r, api.MaxFields, takeType)
	return c
}

func takeType(r *reader) api.Type {
	var row [2]int
	r.takeRow(row[:])
	return api.Type{Kind: row[0], Class: row[1]}
}

func takeMethod(r *reader) api.Method {
	var m api.Method
	m.Params = takeList(r, api.MaxParams, takeType)
	m.Ret = takeType(r)
	var row [3]int
	r.takeRow(row[:])
	m.Stack, m.Locals, m.Regs = row[0], row[1], row[2]
	m.Code = takeList(r, max(api.MaxCode, api.MaxRegCode), takeIns)
	m.Handlers = takeList(r, api.MaxHandlers, takeHandler)
	return m
}

func takeIns(r *reader) api.Ins {
	var row [4]int
	r.takeRow(row[:])
	i := api.Ins{Op: row[0], A: row[1], B: row[2], C: row[3]}
	i.N = takeNumber[int64](r)
	i.Args = takeList(r, api.MaxParams, takeNumber[int])
	return i
}

func takeHandler(r *reader) api.Handler {
	var row [4]int
	r.takeRow(row[:])
	return api.Handler{From: row[0], To: row[1], At: row[2], Class: row[3]}
}
