package tidy_test

import (
	"math/rand"

	"crosswalk/api"
)

// prefixed answers a file with one more register in each method, an int, which is set first of all.
func prefixed(f api.File) api.File {
	r := api.File{Classes: f.Classes}
	for _, m := range f.Methods {
		m.Code = join(code(setInt(m.Regs, 1)), shifted(1, m.Code))
		m.Regs++
		var handlers []api.Handler
		for _, h := range m.Handlers {
			handlers = append(handlers, over(h.From+1, h.To+1, h.At+1, h.Class))
		}
		m.Handlers = handlers
		r.Methods = append(r.Methods, m)
	}
	return r
}

// A padder lays what can be left out between the instructions of a method that is prefixed.
type padder struct {
	r *rand.Rand
	m api.Method
	// Of each instruction: where what was laid behind the one ahead ends, and where it stands now.
	starts, mains []int
}

// between answers a number from least to most.
func (p *padder) between(least, most int) int {
	return least + p.r.Intn(most-least+1)
}

// padded answers a method of which the same must be left.
func padded(r *rand.Rand, m api.Method, heads []api.Method) api.Method {
	p := &padder{r: r, m: m}
	p.m.Code = nil
	for k, i := range m.Code {
		p.starts = append(p.starts, len(p.m.Code))
		// What is at hand is fetched at once; and the first instruction is the one that sets what is idle.
		if k > 0 && i.Op != api.RResult && i.Op != api.RCaught {
			p.m.Code = append(p.m.Code, times(r.Intn(3), stayInt(m.Regs-1))...)
		}
		p.mains = append(p.mains, len(p.m.Code))
		p.m.Code = append(p.m.Code, i)
		if i.Op == api.RGoto || i.Op == api.RReturn || i.Op == api.RThrow {
			for range r.Intn(3) {
				p.m.Code = append(p.m.Code, randomIns(r, m, 1, heads))
			}
		}
	}
	p.starts = append(p.starts, len(p.m.Code))
	p.mains = append(p.mains, len(p.m.Code))
	p.aim()
	p.layHandlers(m.Handlers)
	return p.m
}

// aim lets jumps go on at what they went on at, or at something idle ahead of it.
func (p *padder) aim() {
	for _, at := range p.mains[:len(p.mains)-1] {
		i := &p.m.Code[at]
		if i.Op == api.RGoto || i.Op == api.RIf || i.Op == api.RIfNull {
			i.A = p.between(p.starts[i.A], p.mains[i.A])
		}
	}
}

// behindOf answers where that begins which was laid behind the instruction ahead of that of the number.
func (p *padder) behindOf(k int) int {
	if k == 0 {
		return 0
	}
	return p.mains[k-1] + 1
}

// layHandlers lays handlers over what they stood over, and some more over what is idle alone, or can't be come to.
func (p *padder) layHandlers(l []api.Handler) {
	var handlers []api.Handler
	size := len(p.m.Code)
	p.m.Code = append(p.m.Code, jump(size))
	for k := 0; len(handlers) < api.MaxHandlers; k++ {
		n := p.r.Intn(len(p.mains))
		if from, to := p.behindOf(n), p.mains[n]; from < to && n < len(p.mains)-1 && p.r.Intn(3) > 0 && len(handlers)+len(l)-k < api.MaxHandlers {
			from = p.between(from, to-1)
			handlers = append(handlers, over(from, p.between(from+1, to), size, p.r.Intn(len(classes()))))
		}
		if k >= len(l) {
			break
		}
		h := l[k]
		handlers = append(handlers, over(p.between(p.behindOf(h.From), p.mains[h.From]), p.between(p.behindOf(h.To), p.starts[h.To]), p.between(p.starts[h.At], p.mains[h.At]), h.Class))
	}
	p.m.Handlers = handlers
}

func paddedFile(r *rand.Rand, f api.File) api.File {
	p := api.File{Classes: f.Classes}
	for _, m := range f.Methods {
		p.Methods = append(p.Methods, padded(r, m, f.Methods))
	}
	return p
}
