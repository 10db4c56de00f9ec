package wire

import "crosswalk/api"

// number is what fields of files are.
type number interface{ int | int64 }

func putNumber[N number](b []byte, n N) []byte {
	for shift := 56; shift >= 0; shift -= 8 {
		b = append(b, byte(uint64(n)>>shift))
	}
	return b
}

func putRow(b []byte, row []int) []byte {
	for _, n := range row {
		b = putNumber(b, n)
	}
	return b
}

// putList lays a list behind b, each item by put.
func putList[T any](b []byte, l []T, put func([]byte, T) []byte) []byte {
	b = putNumber(b, len(l))
	for _, item := range l {
		b = put(b, item)
	}
	return b
}

func putFile(b []byte, f api.File) []byte {
	b = putList(b, f.Classes, putClass)
	return putList(b, f.Methods, putMethod)
}

func putClass(b []byte, c api.Class) []byte {
	b = putNumber(b, c.Super)
	return putList(b, c.Fields, putType)
}

func putType(b []byte, t api.Type) []byte {
	row := [...]int{t.Kind, t.Class}
	return putRow(b, row[:])
}

func putMethod(b []byte, m api.Method) []byte {
	b = putList(b, m.Params, putType)
	b = putType(b, m.Ret)
	row := [...]int{m.Stack, m.Locals, m.Regs}
	b = putRow(b, row[:])
	b = putList(b, m.Code, putIns)
	return putList(b, m.Handlers, putHandler)
}

func putIns(b []byte, i api.Ins) []byte {
	row := [...]int{i.Op, i.A, i.B, i.C}
	b = putRow(b, row[:])
	b = putNumber(b, i.N)
	return putList(b, i.Args, putNumber[int])
}

func putHandler(b []byte, h api.Handler) []byte {
	row := [...]int{h.From, h.To, h.At, h.Class}
	return putRow(b, row[:])
}
