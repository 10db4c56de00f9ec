package rform_test

import (
	"reflect"
	"testing"

	"crosswalk/api"
	"crosswalk/sform"
)

func TestF2WrongFiles(t *testing.T) {
	checkMay(t, false, api.File{})
	checkMay(t, false, api.File{Classes: classes()})
	checkMay(t, false, api.File{Methods: file().Methods})
	checkMay(t, false, api.File{Classes: classes(), Methods: []api.Method{{}}})
	checkMay(t, false, api.File{Classes: []api.Class{}, Methods: []api.Method{}})
	for at := range 3 {
		f := file()
		f.Methods[at] = api.Method{}
		checkMay(t, false, f)
	}
}

// A file on a stack may not be one on registers, and the other way round.
func TestF2FileOnAStack(t *testing.T) {
	stack := api.File{
		Classes: classes(),
		Methods: []api.Method{{Stack: 2, Code: []api.Ins{{Op: api.SLong, N: 5}, {Op: api.SEmit, A: api.KLong}, {Op: api.SReturn}}}},
	}
	if !sform.May(stack) {
		t.Error("this file is none on a stack")
	}
	checkMay(t, false, stack)
	bare := api.File{Classes: classes(), Methods: []api.Method{{Code: []api.Ins{{Op: api.SReturn}}}}}
	checkMay(t, false, bare)
	checkMay(t, true, file())
	if sform.May(file()) {
		t.Error("a file on registers is one on a stack")
	}
}

// One method on a stack among those on registers is one too many.
func TestF2FormsAreNotMixed(t *testing.T) {
	checkMethods(t, false, func(m *api.Method) { *m = api.Method{Stack: 1, Locals: 1, Code: []api.Ins{{Op: api.SReturn}}} })
}

func TestF2Example(t *testing.T) {
	f := api.File{
		Classes: []api.Class{{Super: -1}, {}, {}, {}},
		Methods: []api.Method{{Regs: 3, Code: []api.Ins{{Op: api.RLong, A: 1, N: 1 << 40}, {Op: api.REmit, A: 1, B: api.KLong}, {Op: api.RReturn}}}},
	}
	checkMay(t, true, f)
	f.Methods[0].Regs = 2
	checkMay(t, false, f)
}

// stuffed has behind the length of each list what may not be.
func stuffed() api.File {
	f := file()
	f.Classes = append(f.Classes, api.Class{Super: 99})
	f.Classes[3].Fields = append(f.Classes[3].Fields, api.Type{Kind: 9})
	m := &f.Methods[0]
	m.Params = []api.Type{intType, {Kind: 9}}
	m.Code = append(m.Code, api.Ins{Op: 99})
	m.Code[0].Args = []int{7}
	m.Code[1] = call(1, 0, 0, 0, 99)
	m.Handlers = []api.Handler{{To: 5}, {From: 9}}
	f.Methods = append(f.Methods, api.Method{Stack: 9})
	return f
}

func cut(f api.File) api.File {
	f.Classes = f.Classes[:5]
	f.Classes[3].Fields = f.Classes[3].Fields[:2]
	f.Methods = f.Methods[:3]
	m := &f.Methods[0]
	m.Params = m.Params[:1]
	m.Code = m.Code[:5]
	m.Code[0].Args = m.Code[0].Args[:0]
	m.Code[1].Args = m.Code[1].Args[:3]
	m.Handlers = m.Handlers[:1]
	return f
}

// whole shows what lies behind the lengths, too.
func whole(f api.File) api.File {
	f.Classes = f.Classes[:6]
	f.Classes[3].Fields = f.Classes[3].Fields[:3]
	f.Methods = f.Methods[:4]
	m := &f.Methods[0]
	m.Params = m.Params[:2]
	m.Code = m.Code[:6]
	m.Code[0].Args = m.Code[0].Args[:1]
	m.Code[1].Args = m.Code[1].Args[:4]
	m.Handlers = m.Handlers[:2]
	return f
}

func TestP3NothingIsChangedNorReadBeyondTheLength(t *testing.T) {
	f := cut(stuffed())
	checkMay(t, true, f)
	if got := whole(f); !reflect.DeepEqual(got, stuffed()) {
		t.Errorf("changed: %+v", got)
	}
}

// What lies behind a length is no field, no Param and no instruction that could be named.
func TestP3WhatLiesBehindIsNotNamed(t *testing.T) {
	f := cut(stuffed())
	for _, ins := range []api.Ins{
		{Op: api.RGet, C: 3, N: 2},
		{Op: api.RGoto, A: 5},
		{Op: api.RNew, B: 5},
		{Op: api.RCall, A: 3},
		{Op: api.RCall, A: 0, Args: []int{0, 0}},
	} {
		f.Methods[2].Code[0] = ins
		checkMay(t, false, f)
	}
}
