package drive

import (
	"crosswalk/api"
	"crosswalk/rcheck"
	"crosswalk/rrun"
	"crosswalk/scheck"
	"crosswalk/srun"
	"crosswalk/toreg"
	"crosswalk/tostack"
)

// form has what is asked of files of one form.
type form struct {
	name  string
	check func(api.File) api.Fault
	over  func(api.File) (api.File, api.Fault)
	run   func(f api.File, entry int, args, input []int64, fuel int) (api.Shown, api.Errno)
}

// form answers that of the file, which must be there.
func (p *player) form() form {
	if p.onRegisters() {
		return form{name: "registers", check: rcheck.Check, over: tostack.Make, run: rrun.Run}
	}
	return form{name: "stack", check: scheck.Check, over: toreg.Make, run: srun.Run}
}

// onRegisters asks the first method alone: a file that may be has one, and all of them are of one form.
func (p *player) onRegisters() bool {
	return p.Methods[0].Regs > 0
}
