package toreg_test

import (
	"math/rand"
	"slices"

	"crosswalk/api"
)

// A maker makes methods that are checked, block by block. It is said of each block what is on the stack, and in the locals,
// where it begins; whoever leads there brings that about first. Within a block anything is done that can be.

// secondSlot is the kind of what is in the second slot of a long.
const secondSlot = 9

type block struct {
	stack []api.Type
	// Of each slot of the locals; without a kind it is anything.
	locals []api.Type
	start  int
}

type jumpTo struct{ at, block int }

type maker struct {
	r      *rand.Rand
	heads  []api.Method
	m      api.Method
	stack  []api.Type
	locals []api.Type
	blocks []block
	jumps  []jumpTo
	// Nothing is stored in the first so many slots: of these handlers can be sure.
	kept int
}

const (
	// Beside four longs there is room for one more.
	localsOfMaker = 10
	roomOfMaker   = 16
)

func (k *maker) chance(percent int) bool {
	return k.r.Intn(100) < percent
}

func (k *maker) say(l ...api.Ins) {
	k.m.Code = append(k.m.Code, l...)
}

func (k *maker) anyType() api.Type {
	l := types(intType, intType, longType, longType, ref(0), ref(upper), ref(lower), ref(lowest), ref(other), ref(beside))
	return l[k.r.Intn(len(l))]
}

func width(t api.Type) int {
	if t.Kind == api.KLong {
		return 2
	}
	return 1
}

func widths(l []api.Type) int {
	all := 0
	for _, t := range l {
		all += width(t)
	}
	return all
}

// none is what is known of a reference to nothing.
var none = ref(-1)

// isBelow tells by hand what package hier tells.
func isBelow(c, d int) bool {
	above := [][]int{{0}, {0, 1}, {0, 2}, {0, 3}, {0, upper}, {0, upper, lower}, {0, upper, lower, lowest}, {0, other}, {0, upper, beside}}
	return slices.Contains(above[c], d)
}

func fits(v, t api.Type) bool {
	if v.Kind != t.Kind || v.Kind == api.KVoid {
		return false
	}
	return v.Kind != api.KRef || v == none || isBelow(v.Class, t.Class)
}

// set tells what is in the locals when v was stored.
func set(locals []api.Type, slot int, v api.Type) {
	for n := slot; n < slot+width(v); n++ {
		switch locals[n].Kind {
		case api.KLong:
			locals[n+1] = api.Type{}
		case secondSlot:
			locals[n-1] = api.Type{}
		}
	}
	locals[slot] = v
	if v.Kind == api.KLong {
		locals[slot+1] = api.Type{Kind: secondSlot}
	}
}

func (k *maker) put(v api.Type, i api.Ins) {
	k.say(i)
	k.stack = append(k.stack, v)
	k.m.Stack = max(k.m.Stack, widths(k.stack))
}

func (k *maker) take(count int) {
	k.stack = k.stack[:len(k.stack)-count]
}

// top answers the last value but so many; one without a kind, where there is none.
func (k *maker) top(last int) api.Type {
	if last > len(k.stack) {
		return api.Type{}
	}
	return k.stack[len(k.stack)-last]
}

// value puts a value that fits the type: out of a local, if there is one.
func (k *maker) value(t api.Type) {
	for _, slot := range k.r.Perm(len(k.locals)) {
		if fits(k.locals[slot], t) && k.chance(60) {
			k.put(k.locals[slot], load(slot, t.Kind))
			return
		}
	}
	switch t.Kind {
	case api.KInt:
		k.put(intType, putInt(int64(k.r.Intn(4)-1)))
	case api.KLong:
		k.put(longType, putLong([]int64{0, 1, -1, 1 << 40}[k.r.Intn(4)]))
	default:
		k.reference(t.Class)
	}
}

func (k *maker) reference(class int) {
	if k.chance(30) {
		k.put(none, putNull)
		return
	}
	for {
		if c := k.r.Intn(len(classes())); isBelow(c, class) {
			k.put(ref(c), putNew(c))
			return
		}
	}
}

// slotFor answers a slot of the locals that such a value may be stored in.
func (k *maker) slotFor(t api.Type) int {
	return k.kept + k.r.Intn(localsOfMaker-k.kept-width(t)+1)
}

func (k *maker) store(slot int) {
	v := k.top(1)
	k.say(store(slot, v.Kind))
	set(k.locals, slot, v)
	k.take(1)
}

// bring makes the locals and the stack what the block asks for: first the locals, from below, as one that is stored takes from the next one.
func (k *maker) bring(b block) {
	for slot, t := range b.locals {
		if t.Kind != api.KVoid && t.Kind != secondSlot && !fits(k.locals[slot], t) {
			k.value(t)
			k.store(slot)
		}
	}
	same := 0
	for same < len(k.stack) && same < len(b.stack) && fits(k.stack[same], b.stack[same]) {
		same++
	}
	for len(k.stack) > same {
		k.say(pop)
		k.take(1)
	}
	for _, t := range b.stack[same:] {
		k.value(t)
	}
}

// act does something in the midst of a block.
func (k *maker) act() {
	for widths(k.stack) > roomOfMaker {
		k.say(pop)
		k.take(1)
	}
	top := k.top(1)
	switch what := k.r.Intn(17); {
	case what == 16:
		k.put(longType, comeIn)
	case what < 3 || top.Kind == api.KVoid:
		k.value(k.anyType())
	case what < 5:
		k.store(k.slotFor(top))
	case what < 6:
		k.put(top, dup)
	case what < 7:
		k.say(pop)
		k.take(1)
	case what < 8 && top.Kind != api.KRef:
		k.say(ins(api.SEmit, top.Kind))
		k.take(1)
	case what < 9:
		k.call(k.r.Intn(len(k.heads)))
	case what < 10:
		k.branch()
	case top.Kind == api.KRef:
		k.handle(top)
	default:
		k.reckon(top)
	}
}

func (k *maker) call(method int) {
	head := k.heads[method]
	for _, t := range head.Params {
		k.value(t)
	}
	k.take(len(head.Params))
	if head.Ret.Kind == api.KVoid {
		k.say(call(method))
		return
	}
	k.put(head.Ret, call(method))
}

// reckon does something with a number at the stack's end.
func (k *maker) reckon(top api.Type) {
	what := k.r.Intn(4)
	if what == 0 && top == intType {
		k.take(1)
		k.put(longType, widen)
		return
	}
	if what == 0 {
		k.take(1)
		k.put(intType, narrow)
		return
	}
	if k.top(2) != top {
		k.value(top)
	}
	k.take(2)
	switch {
	case top == intType:
		k.put(intType, ins(api.SIntOp, api.OpAdd+k.r.Intn(8)))
	case what == 1:
		k.put(intType, compare)
	default:
		k.put(longType, ins(api.SLongOp, api.OpAdd+k.r.Intn(8)))
	}
}

// handle does something with a reference at the stack's end.
func (k *maker) handle(top api.Type) {
	what := k.r.Intn(5)
	class := []int{upper, lower, other}[k.r.Intn(3)]
	switch {
	case what == 0:
		k.take(1)
		k.put(intType, isOf(k.r.Intn(len(classes()))))
		return
	case what == 1 || !fits(top, ref(class)):
		k.take(1)
		k.put(ref(class), ins(api.SCast, class))
		return
	}
	fields := classes()[class].Fields
	field := k.r.Intn(len(fields))
	if what < 4 {
		k.take(1)
		k.put(fields[field], ins(api.SGet, class, field))
		return
	}
	k.value(fields[field])
	k.take(2)
	k.say(ins(api.SPut, class, field))
}

// begin goes on as at the beginning of a block.
func (k *maker) begin(b block) {
	k.stack = slices.Clone(b.stack)
	k.locals = slices.Clone(b.locals)
}

func (k *maker) jump(i api.Ins, to int) {
	k.jumps = append(k.jumps, jumpTo{len(k.m.Code), to})
	k.say(i)
}

// branch leads to a block and goes on with the same.
func (k *maker) branch() {
	to := k.anyBlock()
	k.bring(k.blocks[to])
	if k.chance(70) {
		k.value(intType)
		k.take(1)
		k.jump(jumpIf(0, api.CondZero+k.r.Intn(4)), to)
	} else {
		k.value(ref(0))
		k.take(1)
		k.jump(jumpIfNull(0), to)
	}
	k.begin(k.blocks[to])
}

func (k *maker) anyBlock() int {
	return 1 + k.r.Intn(len(k.blocks)-1)
}

// end ends a block: it goes on with the next one, if there is one, or elsewhere.
func (k *maker) end(rest []int) {
	kind := k.r.Intn(10)
	switch {
	case len(rest) > 0 && kind < 5:
		k.bring(k.blocks[rest[0]])
		return
	case kind < 7:
		to := k.anyBlock()
		k.bring(k.blocks[to])
		k.jump(jump(0), to)
	case kind < 9 && k.m.Ret.Kind == api.KVoid:
		k.say(comeBack)
	case kind < 9:
		k.value(k.m.Ret)
		k.say(comeBack)
	default:
		k.value(ref(0))
		k.say(throwIt)
	}
	for k.chance(20) {
		// Nothing leads there.
		k.say(randomIns(k.r, 1, len(k.heads)))
	}
}

func randomHead(r *rand.Rand) api.Method {
	k := &maker{r: r}
	var m api.Method
	for range r.Intn(api.MaxParams + 1) {
		m.Params = append(m.Params, k.anyType())
	}
	if k.chance(70) {
		m.Ret = k.anyType()
	}
	return m
}

// layBlocks says of each block what it begins with: of those that handlers go on at one reference alone, of some class.
func (k *maker) layBlocks(count, caught int) {
	first := block{locals: make([]api.Type, localsOfMaker)}
	slot := 0
	for _, t := range k.m.Params {
		set(first.locals, slot, t)
		slot += width(t)
	}
	if k.chance(50) {
		k.kept = slot
	}
	k.blocks = append(k.blocks, first)
	for n := range count {
		b := block{locals: make([]api.Type, localsOfMaker)}
		copy(b.locals, first.locals[:k.kept])
		if n < caught {
			// What runs throw by themselves mostly finds one that catches it.
			b.stack = types(ref(max(0, k.r.Intn(2*len(classes()))-len(classes()))))
		} else {
			for range k.r.Intn(4) {
				b.stack = append(b.stack, k.anyType())
			}
			for range k.r.Intn(4) {
				t := k.anyType()
				set(b.locals, k.slotFor(t), t)
			}
		}
		k.blocks = append(k.blocks, b)
	}
}

// layHandlers lets handlers stand over anything: where they go on nothing is asked of the locals, but of those that are kept.
func (k *maker) layHandlers(caught int) {
	for range k.r.Intn(5) {
		if caught == 0 {
			return
		}
		b := k.blocks[1+k.r.Intn(caught)]
		from := k.r.Intn(len(k.m.Code))
		h := over(from, from+1+k.r.Intn(len(k.m.Code)-from), b.start, b.stack[0].Class)
		for c := range classes() {
			if isBelow(c, h.Class) && k.chance(20) {
				h.Class = c
			}
		}
		k.m.Handlers = append(k.m.Handlers, h)
		k.m.Stack = max(k.m.Stack, 1)
	}
}

// order has the first block first, and all others somehow.
func (k *maker) order() []int {
	order := []int{0}
	for _, b := range k.r.Perm(len(k.blocks) - 1) {
		order = append(order, b+1)
	}
	return order
}

func makeMethod(r *rand.Rand, heads []api.Method, n int) api.Method {
	k := &maker{r: r, heads: heads, m: heads[n]}
	k.m.Locals = localsOfMaker
	caught := r.Intn(3)
	k.layBlocks(caught+1+r.Intn(4), caught)
	order := k.order()
	for n, b := range order {
		k.blocks[b].start = len(k.m.Code)
		k.begin(k.blocks[b])
		for range r.Intn(9) {
			k.act()
		}
		k.end(order[n+1:])
	}
	for _, j := range k.jumps {
		k.m.Code[j.at].A = k.blocks[j.block].start
	}
	k.layHandlers(caught)
	return k.m
}

func makeFile(r *rand.Rand) api.File {
	var heads []api.Method
	for range 1 + r.Intn(4) {
		heads = append(heads, randomHead(r))
	}
	var methods []api.Method
	for n := range heads {
		methods = append(methods, makeMethod(r, heads, n))
	}
	return file(methods...)
}

// spoil changes one instruction, handler or size of a file, which may be then, or not.
func spoil(r *rand.Rand, f api.File) api.File {
	m := &f.Methods[r.Intn(len(f.Methods))]
	switch r.Intn(6) {
	case 0:
		m.Stack = r.Intn(m.Stack + 1)
	case 1:
		if len(m.Handlers) > 0 {
			h := &m.Handlers[r.Intn(len(m.Handlers))]
			h.From, h.At = r.Intn(h.From+1), r.Intn(len(m.Code))
		}
	case 2:
		m.Code[r.Intn(len(m.Code))] = m.Code[r.Intn(len(m.Code))]
	default:
		m.Code[r.Intn(len(m.Code))] = randomIns(r, len(m.Code), len(f.Methods))
	}
	return f
}

// randomIns may be in a method of so many instructions, in a file of so many methods.
func randomIns(r *rand.Rand, size, methods int) api.Ins {
	op := api.SInt + r.Intn(api.SIn)
	switch op {
	case api.SInt, api.SLong:
		return api.Ins{Op: op, N: int64(r.Intn(5) - 2)}
	case api.SLoad, api.SStore:
		return ins(op, r.Intn(5), api.KInt+r.Intn(3))
	case api.SIntOp, api.SLongOp:
		return ins(op, api.OpAdd+r.Intn(8))
	case api.SGoto, api.SIfNull:
		return ins(op, r.Intn(size))
	case api.SIf:
		return ins(op, r.Intn(size), api.CondZero+r.Intn(4))
	case api.SNew, api.SCast, api.SIs:
		return ins(op, r.Intn(len(classes())))
	case api.SGet, api.SPut:
		return ins(op, upper+r.Intn(2), r.Intn(3))
	case api.SCall:
		return ins(op, r.Intn(methods))
	case api.SEmit:
		return ins(op, api.KInt+r.Intn(2))
	}
	return ins(op)
}

// randomMethod is as small as to be checked now and then.
func randomMethod(r *rand.Rand, methods int) api.Method {
	size := 1 + r.Intn(7)
	m := api.Method{Stack: r.Intn(6), Locals: 6, Ret: api.Type{Kind: r.Intn(4)}}
	for range r.Intn(3) {
		m.Params = append(m.Params, api.Type{Kind: api.KInt + r.Intn(3)})
	}
	for range size {
		m.Code = append(m.Code, randomIns(r, size, methods))
	}
	for range r.Intn(3) {
		from := r.Intn(size)
		m.Handlers = append(m.Handlers, over(from, from+1+r.Intn(size-from), r.Intn(size), r.Intn(len(classes()))))
	}
	return m
}
