package item_test

import (
	"slices"
	"testing"

	"pascaline/api"
	"pascaline/cpu"
	"pascaline/emit"
	"pascaline/instr"
	"pascaline/item"
	"pascaline/memory"
)

// Where things are on the machine on which the tests run what was written.
const (
	codeEnd  = 0x10000
	tableEnd = 0x10010
	dataEnd  = 0x18000
	heapEnd  = 0x20000
	stackEnd = 0x50000

	vector = codeEnd - 4     // the HALT to which traps go
	data   = 0x11000         // the variables of the module itself
	heapAt = dataEnd - 8     // the heap's two words
	top    = 0x48000         // where the stack pointer is at first
	fp     = 0x4a000         // the frame register at first
	back   = 0x00abcdec      // the link register at first
	most   = 1 << 20         // steps, which no test needs
	full   = api.MaxCode     // words
	halt   = uint32(1) << 24 // HALT
)

// random returns a fixed row of words.
func random(seed uint32) func() uint32 {
	state := uint64(seed)*2862933555777941757 + 3037000493
	return func() uint32 {
		state = state*6364136223846793005 + 1442695040888963407
		return uint32(state >> 32)
	}
}

// base returns where the variables of a module are; module 0 is the module itself.
func base(module int) int { return data + 0x100*module }

// exception returns the number of an exception of a module.
func exception(module, n int) int { return 16 + 5000*module + n }

// entry returns the word of a procedure of an import.
func entry(module, n int) int { return 12000 + 16*module + n }

// linked returns the words that were written, with what the fixups say put into them.
func linked(r emit.Result) []uint32 {
	words := slices.Clone(r.Words)
	for _, f := range r.Fixups {
		n := 0
		switch f.Kind {
		case api.FixData:
			n = base(f.Module) + f.Value
		case api.FixExc:
			n = exception(f.Module, f.Value)
		case api.FixHeap:
			n = heapAt
		case api.FixCall:
			words[f.At] |= uint32(entry(f.Module, f.Value)-f.At-1) & 0xffffff
			continue
		}
		words[f.At] |= uint32(n) >> 16
		words[f.At+1] |= uint32(n) & 0xffff
	}
	return words
}

// setup is what differs from test to test: what stands in the registers and in the memory ahead of the run, beside arbitrary words.
type setup struct {
	seed  uint32
	regs  map[int]uint32
	words map[uint32]uint32
	limit uint32
	entry int // the word at which the run begins
	code  map[int][]uint32
}

// run is what became of the machine.
type run struct {
	*cpu.Cpu
	t      *testing.T
	before [16]uint32
	start  *memory.Mem
	now    *memory.Mem
	low    uint32 // the lowest that the stack pointer was
}

// played runs what a Gen wrote till it halts.
func played(t *testing.T, g *item.Gen, s setup) *run {
	t.Helper()
	result, e := g.Finish()
	if e != api.OK {
		t.Fatalf("Finish: %d", e)
	}
	m := s.memory(t, linked(result))
	c := cpu.New(cpu.Setup{Entry: uint32(4 * s.entry), Vector: vector, Limit: s.limit}, nil)
	next := random(s.seed + 1)
	for n := range c.R {
		c.R[n] = next()
	}
	c.R[item.FP], c.R[item.LR], c.R[item.SP] = fp, back, top
	for n, w := range s.regs {
		c.R[n] = w
	}
	r := &run{Cpu: c, t: t, before: c.R, start: m.Clone(), now: m, low: c.R[item.SP]}
	for r.Steps < most && r.Step(m) == api.Running {
		r.low = min(r.low, r.R[item.SP])
	}
	return r
}

// memory returns a memory with words of code, and arbitrary words wherever none are asked for.
func (s setup) memory(t *testing.T, words []uint32) *memory.Mem {
	t.Helper()
	m, e := memory.New(memory.Layout{Code: codeEnd, Tables: tableEnd, Data: dataEnd, Heap: heapEnd, Stack: stackEnd})
	if e != api.OK {
		t.Fatalf("memory.New: %d", e)
	}
	next := random(s.seed)
	arbitrary := make([]uint32, (stackEnd-tableEnd)/4)
	for n := range arbitrary {
		arbitrary[n] = next()
	}
	fill := func(at uint32, list ...uint32) {
		if e := m.Fill(at, list...); e != api.OK {
			t.Fatalf("Fill at %x: %d", at, e)
		}
	}
	fill(tableEnd, arbitrary...)
	fill(0, words...)
	for at, list := range s.code {
		fill(uint32(4*at), list...)
	}
	fill(vector, halt)
	for at, w := range s.words {
		fill(at, w)
	}
	return m
}

// word returns a word of the memory as it is now.
func (r *run) word(at uint32) uint32 {
	r.t.Helper()
	w, e := r.now.Load(at)
	if e != api.OK {
		r.t.Fatalf("Load(%x): %d", at, e)
	}
	return w
}

// halted fails unless the code ran to its end.
func (r *run) halted() {
	r.t.Helper()
	if r.State != api.Halted || r.PC == vector {
		r.t.Fatalf("State %d, Why %d, PC %x, Cause %d, EPC %x: not at its end", r.State, r.Why, r.PC, r.Cause, r.EPC)
	}
}

// trapped fails unless the code trapped, and unless this was the cause.
func (r *run) trapped(cause uint32) {
	r.t.Helper()
	if r.State != api.Halted || r.PC != vector || r.Cause != cause {
		r.t.Fatalf("State %d, Why %d, PC %x, Cause %d: no trap %d", r.State, r.Why, r.PC, r.Cause, cause)
	}
}

// value fails unless the value is this one.
func (r *run) value(want int32) {
	r.t.Helper()
	if got := int32(r.R[0]); got != want {
		r.t.Fatalf("the value %d, not %d", got, want)
	}
}

// stack fails unless the stack pointer is here.
func (r *run) stack(want uint32) {
	r.t.Helper()
	if got := r.R[item.SP]; got != want {
		r.t.Fatalf("the stack pointer %x, not %x", got, want)
	}
}

// kept fails unless these registers have what they had at first.
func (r *run) kept(registers ...int) {
	r.t.Helper()
	for _, n := range registers {
		if r.R[n] != r.before[n] {
			r.t.Fatalf("the register %d: %x, not %x", n, r.R[n], r.before[n])
		}
	}
}

// others are the registers of which the chapter says nothing for most calls: neither the value, nor a scratch register, nor the stack pointer.
var others = []int{6, 7, 8, 9, 10, 11, 12, item.FP, item.LR}

// stored fails unless the whole memory is as it was, beside these changes. What lies between the lowest that the stack pointer was and from may differ.
func (r *run) stored(from uint32, changes map[uint32]uint32) {
	r.t.Helper()
	want := r.start.Clone()
	for at := r.low; at < from; at += 4 {
		want.Fill(at, r.word(at))
	}
	for at, w := range changes {
		want.Fill(at, w)
	}
	if at, differ := memory.Differ(want, r.now); differ {
		w, _ := want.Load(at)
		r.t.Fatalf("the word at %x: %x, not %x", at, r.word(at), w)
	}
}

// events fails unless just these went out.
func (r *run) events(want ...api.Event) {
	r.t.Helper()
	if !slices.Equal(r.Out, want) {
		r.t.Fatalf("the events %v, not %v", r.Out, want)
	}
}

// ended writes the end of the code.
func ended(g *item.Gen) { g.Reg(instr.HALT, 0) }

// sentinel returns the n-th of the values that wait below all that a test does.
func sentinel(n int) uint32 { return 0x51000007 + 0x00010203*uint32(n) }

// sentinels lets so many values wait.
func sentinels(g *item.Gen, many int) {
	for n := range many {
		g.Number(0, int32(sentinel(n)))
		g.Wait()
	}
}

// waiting returns the words of the sentinels, and where the stack pointer is behind them.
func waiting(many int) (map[uint32]uint32, uint32) {
	words, at := map[uint32]uint32{}, uint32(top)
	for n := range many {
		at -= 4
		words[at] = sentinel(n)
	}
	return words, at
}

// trial is code, what it finds and what it does.
type trial struct {
	operands []int32 // the last one is the value; those ahead of it wait
	do       func(g *item.Gen)
	words    map[uint32]uint32 // the memory ahead of it
	regs     map[int]uint32

	cause   uint32            // of the trap, if there is one; 0 if not
	want    int32             // the value behind it
	changes map[uint32]uint32 // of the memory
	fixups  []api.Fixup       // without the words at which they are
}

// check runs the code of a trial with so many sentinels below it, and fails unless it does what it should, and nothing else.
func (x trial) check(t *testing.T, many int, seed uint32) {
	t.Helper()
	g := item.New()
	sentinels(g, many)
	for n, operand := range x.operands {
		if n > 0 {
			g.Wait()
		}
		g.Number(0, operand)
	}
	x.do(g)
	ended(g)
	if g.Depth() != many {
		t.Fatalf("%d values wait, not %d", g.Depth(), many)
	}
	r := played(t, g, setup{seed: seed, words: x.words, regs: x.regs})
	changes, at := waiting(many)
	for a, w := range x.changes {
		changes[a] = w
	}
	r.stored(at, changes)
	r.kept(others...)
	r.events()
	x.checkFixups(t, g)
	if x.cause != 0 {
		r.trapped(x.cause)
		return
	}
	r.halted()
	r.value(x.want)
	r.stack(at)
}

// checkFixups fails unless the fixups are those that are wanted, and stand at words that can be changed.
func (x trial) checkFixups(t *testing.T, g *item.Gen) {
	t.Helper()
	result, _ := g.Finish()
	got := slices.Clone(result.Fixups)
	for n := range got {
		got[n].At = 0
	}
	if !slices.Equal(got, x.fixups) {
		t.Fatalf("the fixups %v, not %v", got, x.fixups)
	}
}

// checkAll runs a trial with several numbers of sentinels, and several arbitrary words.
func (x trial) checkAll(t *testing.T) {
	t.Helper()
	for n, many := range []int{0, 1, 7, 30} {
		x.check(t, many, uint32(n))
	}
}

// state is what a call may change without writing anything.
type state struct {
	here, depth int
	err         api.Errno
}

func stateOf(g *item.Gen) state { return state{g.Here(), g.Depth(), g.Err()} }

// writesNothing fails if a call writes a word or changes what waits.
func writesNothing(t *testing.T, do func(g *item.Gen)) {
	t.Helper()
	g := item.New()
	g.Number(0, 5)
	g.Wait()
	g.Number(0, 7)
	before, was := stateOf(g), finished(t, g)
	do(g)
	if behind := stateOf(g); behind != before {
		t.Fatalf("%v became %v", before, behind)
	}
	if now := finished(t, g); !slices.Equal(now.Words, was.Words) || len(now.Fixups) != 0 {
		t.Fatalf("%v became %v", was, now)
	}
}

// finished returns all that was written.
func finished(t *testing.T, g *item.Gen) emit.Result {
	t.Helper()
	r, e := g.Finish()
	if e != api.OK {
		t.Fatalf("Finish: %d", e)
	}
	return r
}

// failed fails unless Finish returns this error.
func failed(t *testing.T, g *item.Gen, want api.Errno) {
	t.Helper()
	if _, e := g.Finish(); e != want {
		t.Fatalf("Finish: %d, not %d", e, want)
	}
}
