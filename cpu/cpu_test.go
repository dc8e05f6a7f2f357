package cpu_test

import (
	"math"
	"math/big"
	"reflect"
	"slices"
	"testing"
	"time"

	"pascaline/api"
	"pascaline/cpu"
	"pascaline/instr"
	"pascaline/memory"
)

// The memory and the setup of most tests. The instructions stand at base, behind the guard; the vector is none of their places.
const base = 32

var (
	layout = memory.Layout{Code: 256, Tables: 272, Data: 320, Heap: 384, Stack: 512}
	setup  = cpu.Setup{Entry: base, Vector: 12, Guard: 28, Limit: 400}
)

// made returns a memory with these words from an address on.
func made(t *testing.T, l memory.Layout, at uint32, words ...uint32) *memory.Mem {
	t.Helper()
	m, e := memory.New(l)
	if e != api.OK {
		t.Fatalf("New(%v): %d", l, e)
	}
	if e = m.Fill(at, words...); e != api.OK {
		t.Fatalf("Fill(%d) of %d words: %d", at, len(words), e)
	}
	return m
}

// encoded returns the words of instructions.
func encoded(t *testing.T, list ...instr.Instr) []uint32 {
	t.Helper()
	var words []uint32
	for _, i := range list {
		w, e := instr.Encode(i)
		if e != api.OK {
			t.Fatalf("Encode(%+v): %d", i, e)
		}
		words = append(words, w)
	}
	return words
}

// with returns a memory in which the instructions stand from base on, and numbers in every part.
func with(t *testing.T, list ...instr.Instr) *memory.Mem {
	t.Helper()
	m := made(t, layout, base, encoded(t, list...)...)
	for _, at := range []uint32{252, 256, 268, 272, 316, 320, 380, 384, 508} {
		if e := m.Fill(at, 0x81000000+at); e != api.OK {
			t.Fatalf("Fill(%d): %d", at, e)
		}
	}
	return m
}

// state is all that can be seen of a processor.
type state struct {
	R          [16]uint32
	PC         uint32
	EPC, Cause uint32
	State      int
	Why        api.Errno
	Steps      int
	Taken      int
	Out        []api.Event
	Setup      cpu.Setup
}

func seen(c *cpu.Cpu) state {
	return state{c.R, c.PC, c.EPC, c.Cause, c.State, c.Why, c.Steps, c.Taken, append([]api.Event{}, c.Out...), c.Setup()}
}

func same(t *testing.T, what string, got, want state) {
	t.Helper()
	if !reflect.DeepEqual(got, want) {
		t.Errorf("%s:\n%+v, not\n%+v", what, got, want)
	}
}

// busy returns a processor that has been in use: no two of its registers, and none of its other numbers, are equal or 0.
func busy(s cpu.Setup, input ...int32) *cpu.Cpu {
	c := cpu.New(s, append([]int32{-901, -902}, input...))
	for r := range c.R {
		c.R[r] = 0xa0000001 + uint32(r)*0x10
	}
	c.EPC, c.Cause, c.Steps, c.Taken = 0xe0c, 0xca5e, 77, 2
	c.Out = []api.Event{{Port: 3, Value: -3}, {Port: 65535, Value: 4}}
	return c
}

// effect is what one step with an instruction does to a busy processor in the memory of with.
type effect struct {
	i    instr.Instr
	set  map[int]uint32 // registers before
	want func(s *state) // what changes, but for Steps
}

// goes is a change of PC by so many words behind the next instruction, and of registers.
func goes(words int, registers map[int]uint32) func(*state) {
	return func(s *state) {
		s.PC = uint32(int(s.PC) + 4 + 4*words)
		for r, w := range registers {
			s.R[r] = w
		}
	}
}

// sets is a change of registers in an instruction that goes on to the next.
func sets(registers map[int]uint32) func(*state) { return goes(0, registers) }

func faults(why api.Errno) func(*state) {
	return func(s *state) { s.State, s.Why = api.Fault, why }
}

func traps(cause uint32) func(*state) {
	return func(s *state) { s.EPC, s.Cause, s.PC = s.PC, cause, s.Setup.Vector }
}

// run makes one step of each effect and compares everything: the processor, and the memory, which none of them but STW changes.
func run(t *testing.T, list []effect) {
	t.Helper()
	for _, x := range list {
		m := with(t, x.i)
		before := m.Clone()
		c := busy(setup)
		for r, w := range x.set {
			c.R[r] = w
		}
		want := seen(c)
		want.Steps++
		x.want(&want)
		got := c.Step(m)
		text, _ := instr.Text(x.i)
		same(t, text, seen(c), want)
		if got != want.State {
			t.Errorf("%s: Step: %d, not %d", text, got, want.State)
		}
		if at, ok := memory.Differ(before, m); ok {
			t.Errorf("%s: the word at %d is another one", text, at)
		}
	}
}

func TestNumbers(t *testing.T) {
	if cpu.Link != 14 {
		t.Errorf("Link %d", cpu.Link)
	}
}

var setups = []cpu.Setup{
	setup,
	{},
	{Entry: 4, Vector: 8, Guard: 12, Limit: 16},
	{Entry: 3, Vector: 1, Guard: 2, Limit: 5},
	{Entry: math.MaxUint32, Vector: 1 << 31, Guard: math.MaxUint32 - 3, Limit: 1<<31 - 1},
	{Entry: 1 << 20, Vector: math.MaxUint32, Guard: math.MaxUint32, Limit: math.MaxUint32},
}

// P4.1
func TestNew(t *testing.T) {
	for _, s := range setups {
		for _, input := range [][]int32{nil, {}, {5}, {1, -2, math.MaxInt32, math.MinInt32}} {
			c := cpu.New(s, input)
			want := state{PC: s.Entry, Out: []api.Event{}, Setup: s}
			same(t, "New", seen(c), want)
			if c.State != api.Running || c.Why != api.OK {
				t.Errorf("New(%v): %d %d", s, c.State, c.Why)
			}
		}
	}
}

// P4.1
func TestSetup(t *testing.T) {
	for _, s := range setups {
		c := cpu.New(s, nil)
		kept := c.Setup()
		kept.Entry, kept.Vector, kept.Guard, kept.Limit = 1, 2, 3, 4
		c.Run(with(t, instr.Instr{Op: instr.LDI, A: 1, Imm: 5}), 3)
		c.PC, c.EPC, c.R[2] = 9, 9, 9
		if got := c.Setup(); got != s {
			t.Errorf("Setup: %v, not %v", got, s)
		}
	}
}

// P4.1: two processors of one setup are two.
func TestNewIsNew(t *testing.T) {
	m := with(t, instr.Instr{Op: instr.IN, A: 1}, instr.Instr{Op: instr.OUT, A: 1}, instr.Instr{Op: instr.HALT})
	a, b := cpu.New(setup, []int32{5}), cpu.New(setup, []int32{6})
	fresh := seen(b)
	a.Run(m, 10)
	same(t, "another processor", seen(b), fresh)
	b.Run(m, 10)
	if a.R[1] != 5 || b.R[1] != 6 {
		t.Errorf("r1: %d and %d", a.R[1], b.R[1])
	}
}

// P4.2: HALT and what sets a register to a number of the instruction.
func TestLoadNumbers(t *testing.T) {
	run(t, []effect{
		{instr.Instr{Op: instr.HALT}, nil, func(s *state) { s.State = api.Halted }},
		{instr.Instr{Op: instr.LDI, A: 1, Imm: 5}, nil, sets(map[int]uint32{1: 5})},
		{instr.Instr{Op: instr.LDI, A: 0, Imm: 0}, nil, sets(map[int]uint32{0: 0})},
		{instr.Instr{Op: instr.LDI, A: 15, Imm: -1}, nil, sets(map[int]uint32{15: 0xffffffff})},
		{instr.Instr{Op: instr.LDI, A: 14, Imm: -32768}, nil, sets(map[int]uint32{14: 0xffff8000})},
		{instr.Instr{Op: instr.LDI, A: 7, Imm: 32767}, nil, sets(map[int]uint32{7: 0x7fff})},
		{instr.Instr{Op: instr.LUI, A: 2, Imm: 0}, nil, sets(map[int]uint32{2: 0})},
		{instr.Instr{Op: instr.LUI, A: 2, Imm: 1}, nil, sets(map[int]uint32{2: 0x10000})},
		{instr.Instr{Op: instr.LUI, A: 2, Imm: 32768}, nil, sets(map[int]uint32{2: 0x80000000})},
		{instr.Instr{Op: instr.LUI, A: 2, Imm: 65535}, nil, sets(map[int]uint32{2: 0xffff0000})},
	})
}

// P4.2: the operations with a number and another register, which may be the same.
func TestNumbersAndRegisters(t *testing.T) {
	run(t, []effect{
		{instr.Instr{Op: instr.ORI, A: 1, B: 2, Imm: 0x00f0}, map[int]uint32{2: 0x12345678}, sets(map[int]uint32{1: 0x123456f8})},
		{instr.Instr{Op: instr.ORI, A: 2, B: 2, Imm: 0x8000}, map[int]uint32{2: 0x7fff0001}, sets(map[int]uint32{2: 0x7fff8001})},
		{instr.Instr{Op: instr.ORI, A: 0, B: 15, Imm: 0xffff}, map[int]uint32{15: 0}, sets(map[int]uint32{0: 0xffff})},
		{instr.Instr{Op: instr.ORI, A: 3, B: 4, Imm: 0}, map[int]uint32{4: 0xfffffff0}, sets(map[int]uint32{3: 0xfffffff0})},
		{instr.Instr{Op: instr.XORI, A: 1, B: 2, Imm: 0x00f0}, map[int]uint32{2: 0x12345678}, sets(map[int]uint32{1: 0x12345688})},
		{instr.Instr{Op: instr.XORI, A: 2, B: 2, Imm: 0x8001}, map[int]uint32{2: 0xffff8001}, sets(map[int]uint32{2: 0xffff0000})},
		{instr.Instr{Op: instr.XORI, A: 5, B: 6, Imm: 0xffff}, map[int]uint32{6: 0xffffffff}, sets(map[int]uint32{5: 0xffff0000})},
		{instr.Instr{Op: instr.XORI, A: 5, B: 6, Imm: 1}, map[int]uint32{6: 0}, sets(map[int]uint32{5: 1})},
		{instr.Instr{Op: instr.ADDI, A: 1, B: 2, Imm: 7}, map[int]uint32{2: 5}, sets(map[int]uint32{1: 12})},
		{instr.Instr{Op: instr.ADDI, A: 2, B: 2, Imm: -1}, map[int]uint32{2: 0}, sets(map[int]uint32{2: 0xffffffff})},
		{instr.Instr{Op: instr.ADDI, A: 1, B: 2, Imm: 1}, map[int]uint32{2: 0xffffffff}, sets(map[int]uint32{1: 0})},
		{instr.Instr{Op: instr.ADDI, A: 1, B: 2, Imm: 32767}, map[int]uint32{2: 0x7fffffff}, sets(map[int]uint32{1: 0x80007ffe})},
		{instr.Instr{Op: instr.ADDI, A: 1, B: 2, Imm: -32768}, map[int]uint32{2: 0x80000000}, sets(map[int]uint32{1: 0x7fff8000})},
		{instr.Instr{Op: instr.ADDI, A: 1, B: 2, Imm: 0}, map[int]uint32{2: 9}, sets(map[int]uint32{1: 9})},
	})
}

// numbers are edges of 32 bits, with and without a sign, and some between.
var numbers = []uint32{0, 1, 2, 3, 7, 10, 0xffff, 0x10000, 0x10001, 0x12345678, 0x7ffffffe, 0x7fffffff, 0x80000000, 0x80000001, 0xdeadbeef, 0xffff0000, 0xfffffff6, 0xfffffff9, 0xfffffffe, 0xffffffff}

func signed(w uint32) *big.Int { return big.NewInt(int64(int32(w))) }

func wrapped(n *big.Int) uint32 {
	return uint32(new(big.Int).Mod(n, big.NewInt(1<<32)).Uint64())
}

// divided returns the quotient, rounded down, and the remainder. b is not 0.
func divided(b, c uint32) (uint32, uint32) {
	x, y := signed(b), signed(c)
	if y.Sign() < 0 {
		x.Neg(x)
		y.Neg(y)
	}
	q := x.Div(x, y) // rounds down where y is above 0
	rest := new(big.Int).Sub(signed(b), new(big.Int).Mul(q, signed(c)))
	return wrapped(q), wrapped(rest)
}

func one(holds bool) uint32 {
	if holds {
		return 1
	}
	return 0
}

// results says what the chapter says of the operations with three registers, in numbers of any size or bit by bit.
func results(op int, b, c uint32) uint32 {
	bits := func(keep func(x, y uint32) bool) uint32 {
		w := uint32(0)
		for n := range 32 {
			w |= one(keep(b>>n&1, c>>n&1)) << n
		}
		return w
	}
	order := signed(b).Cmp(signed(c))
	switch op {
	case instr.ADD:
		return wrapped(new(big.Int).Add(signed(b), signed(c)))
	case instr.SUB:
		return wrapped(new(big.Int).Sub(signed(b), signed(c)))
	case instr.MUL:
		return wrapped(new(big.Int).Mul(signed(b), signed(c)))
	case instr.DIV:
		q, _ := divided(b, c)
		return q
	case instr.MOD:
		_, rest := divided(b, c)
		return rest
	case instr.AND:
		return bits(func(x, y uint32) bool { return x+y == 2 })
	case instr.OR:
		return bits(func(x, y uint32) bool { return x+y > 0 })
	case instr.XOR:
		return bits(func(x, y uint32) bool { return x+y == 1 })
	case instr.SLT:
		return one(order < 0)
	case instr.SLE:
		return one(order <= 0)
	case instr.SEQ:
		return one(order == 0)
	default:
		return one(order != 0)
	}
}

// P4.2: each operation with three registers, for all pairs of numbers, with registers that differ or are the same.
func TestThreeRegisters(t *testing.T) {
	for op := instr.ADD; op <= instr.SNE; op++ {
		for _, b := range numbers {
			for _, c := range numbers {
				var list []effect
				add := func(ra, rb, rc int) {
					values := map[int]uint32{rb: b}
					values[rc] = c // where both are one register, it has this value
					want := traps(api.DivZero)
					if c != 0 || op != instr.DIV && op != instr.MOD {
						want = sets(map[int]uint32{ra: results(op, values[rb], c)})
					}
					list = append(list, effect{instr.Instr{Op: op, A: ra, B: rb, C: rc}, values, want})
				}
				add(1, 2, 3)
				add(15, 0, 14)
				add(4, 4, 5)
				add(4, 5, 4)
				add(4, 5, 5)
				add(6, 6, 6)
				run(t, list)
			}
		}
	}
}

// P4.2: by hand, what goes round at 2^32, and what has a sign.
func TestByHand(t *testing.T) {
	tests := []struct {
		op      int
		b, c, a uint32
	}{
		{instr.ADD, 0xffffffff, 1, 0},
		{instr.ADD, 0x7fffffff, 1, 0x80000000},
		{instr.SUB, 0, 1, 0xffffffff},
		{instr.SUB, 0x80000000, 1, 0x7fffffff},
		{instr.MUL, 65536, 65536, 0},
		{instr.MUL, 0xffffffff, 0xffffffff, 1},
		{instr.MUL, 0xfffffffd, 7, 0xffffffeb},
		{instr.DIV, 7, 2, 3},
		{instr.DIV, 0xfffffff9, 2, 0xfffffffc},
		{instr.DIV, 7, 0xfffffffe, 0xfffffffc},
		{instr.DIV, 0x80000000, 0xffffffff, 0x80000000},
		{instr.DIV, 5, 0xffffffff, 0xfffffffb},
		{instr.MOD, 7, 2, 1},
		{instr.MOD, 0xfffffff9, 2, 1},
		{instr.MOD, 7, 0xfffffffe, 0xffffffff},
		{instr.MOD, 0x80000000, 0xffffffff, 0},
		{instr.MOD, 5, 0xffffffff, 0},
		{instr.AND, 0xf0f0f0f0, 0xff00ff00, 0xf000f000},
		{instr.OR, 0xf0f0f0f0, 0xff00ff00, 0xfff0fff0},
		{instr.XOR, 0xf0f0f0f0, 0xff00ff00, 0x0ff00ff0},
		{instr.SLT, 0xffffffff, 0, 1},
		{instr.SLT, 0, 0xffffffff, 0},
		{instr.SLT, 0x80000000, 0x7fffffff, 1},
		{instr.SLT, 4, 4, 0},
		{instr.SLE, 4, 4, 1},
		{instr.SLE, 0x7fffffff, 0x80000000, 0},
		{instr.SLE, 0xfffffffe, 0xffffffff, 1},
		{instr.SEQ, 4, 4, 1},
		{instr.SEQ, 4, 0x80000004, 0},
		{instr.SNE, 4, 4, 0},
		{instr.SNE, 4, 0x80000004, 1},
	}
	var list []effect
	for _, x := range tests {
		i := instr.Instr{Op: x.op, A: 1, B: 2, C: 3}
		list = append(list, effect{i, map[int]uint32{2: x.b, 3: x.c}, sets(map[int]uint32{1: x.a})})
	}
	for _, op := range []int{instr.DIV, instr.MOD} {
		for _, b := range []uint32{0, 1, 0xffffffff, 0x80000000} {
			list = append(list, effect{instr.Instr{Op: op, A: 1, B: 2, C: 3}, map[int]uint32{2: b, 3: 0}, traps(3)})
		}
	}
	run(t, list)
}

// P4.2
func TestLoad(t *testing.T) {
	word := func(at uint32) uint32 { return 0x81000000 + at }
	run(t, []effect{
		{instr.Instr{Op: instr.LDW, A: 1, B: 2}, map[int]uint32{2: 272}, sets(map[int]uint32{1: word(272)})},
		{instr.Instr{Op: instr.LDW, A: 1, B: 2, Imm: 4}, map[int]uint32{2: 312}, sets(map[int]uint32{1: word(316)})},
		{instr.Instr{Op: instr.LDW, A: 1, B: 15, Imm: -4}, map[int]uint32{15: 512}, sets(map[int]uint32{1: word(508)})},
		{instr.Instr{Op: instr.LDW, A: 2, B: 2, Imm: -3}, map[int]uint32{2: 323}, sets(map[int]uint32{2: word(320)})},
		{instr.Instr{Op: instr.LDW, A: 1, B: 2}, map[int]uint32{2: 252}, sets(map[int]uint32{1: word(252)})},
		{instr.Instr{Op: instr.LDW, A: 1, B: 2}, map[int]uint32{2: 256}, sets(map[int]uint32{1: word(256)})},
		{instr.Instr{Op: instr.LDW, A: 1, B: 2}, map[int]uint32{2: 380}, sets(map[int]uint32{1: word(380)})},
		{instr.Instr{Op: instr.LDW, A: 1, B: 2}, map[int]uint32{2: 0}, sets(map[int]uint32{1: 0})},
		{instr.Instr{Op: instr.LDW, A: 1, B: 2, Imm: 260}, map[int]uint32{2: 0xfffffffc}, sets(map[int]uint32{1: word(256)})},
		{instr.Instr{Op: instr.LDW, A: 1, B: 2, Imm: -8}, map[int]uint32{2: 4}, faults(api.ErrPlace)},
		{instr.Instr{Op: instr.LDW, A: 1, B: 2}, map[int]uint32{2: 512}, faults(api.ErrPlace)},
		{instr.Instr{Op: instr.LDW, A: 1, B: 2}, map[int]uint32{2: 0x80000000}, faults(api.ErrPlace)},
		{instr.Instr{Op: instr.LDW, A: 1, B: 2, Imm: 1}, map[int]uint32{2: 272}, faults(api.ErrAlign)},
		{instr.Instr{Op: instr.LDW, A: 1, B: 2}, map[int]uint32{2: 274}, faults(api.ErrAlign)},
		{instr.Instr{Op: instr.LDW, A: 1, B: 2, Imm: -1}, map[int]uint32{2: 0}, faults(api.ErrAlign)},
		{instr.Instr{Op: instr.LDW, A: 2, B: 2}, map[int]uint32{2: 515}, faults(api.ErrAlign)},
	})
}

// P4.2: what STW stores, and that it changes nothing else.
func TestStore(t *testing.T) {
	tests := []struct {
		i    instr.Instr
		set  map[int]uint32
		at   uint32
		want uint32
	}{
		{instr.Instr{Op: instr.STW, A: 1, B: 2}, map[int]uint32{1: 7, 2: 272}, 272, 7},
		{instr.Instr{Op: instr.STW, A: 1, B: 2, Imm: 4}, map[int]uint32{1: 0xffffffff, 2: 316}, 320, 0xffffffff},
		{instr.Instr{Op: instr.STW, A: 1, B: 15, Imm: -4}, map[int]uint32{1: 0, 15: 512}, 508, 0},
		{instr.Instr{Op: instr.STW, A: 2, B: 2, Imm: 3}, map[int]uint32{2: 381}, 384, 381},
		{instr.Instr{Op: instr.STW, A: 1, B: 2, Imm: 276}, map[int]uint32{1: 8, 2: 0xfffffffc}, 272, 8},
	}
	for _, x := range tests {
		m := with(t, x.i)
		c := busy(setup)
		for r, w := range x.set {
			c.R[r] = w
		}
		want, wanted := seen(c), m.Clone()
		want.Steps++
		want.PC += 4
		wanted.Store(x.at, x.want)
		c.Step(m)
		text, _ := instr.Text(x.i)
		same(t, text, seen(c), want)
		if at, ok := memory.Differ(wanted, m); ok {
			w, _ := m.Load(at)
			t.Errorf("%s: the word at %d is %#x", text, at, w)
		}
	}
}

// P4.2: where nothing can be stored.
func TestStoreFaults(t *testing.T) {
	run(t, []effect{
		{instr.Instr{Op: instr.STW, A: 1, B: 2}, map[int]uint32{2: 0}, faults(api.ErrWrite)},
		{instr.Instr{Op: instr.STW, A: 1, B: 2}, map[int]uint32{2: base}, faults(api.ErrWrite)},
		{instr.Instr{Op: instr.STW, A: 1, B: 2}, map[int]uint32{2: 256}, faults(api.ErrWrite)},
		{instr.Instr{Op: instr.STW, A: 1, B: 2, Imm: -4}, map[int]uint32{2: 272}, faults(api.ErrWrite)},
		{instr.Instr{Op: instr.STW, A: 1, B: 2, Imm: 4}, map[int]uint32{2: 0xfffffffc}, faults(api.ErrWrite)},
		{instr.Instr{Op: instr.STW, A: 1, B: 2}, map[int]uint32{2: 512}, faults(api.ErrPlace)},
		{instr.Instr{Op: instr.STW, A: 1, B: 2, Imm: -4}, map[int]uint32{2: 0}, faults(api.ErrPlace)},
		{instr.Instr{Op: instr.STW, A: 1, B: 2, Imm: 2}, map[int]uint32{2: 272}, faults(api.ErrAlign)},
		{instr.Instr{Op: instr.STW, A: 1, B: 2, Imm: 1}, map[int]uint32{2: 0}, faults(api.ErrAlign)},
		{instr.Instr{Op: instr.STW, A: 2, B: 2}, map[int]uint32{2: 0xffffffff}, faults(api.ErrAlign)},
	})
}

// P4.2
func TestBranches(t *testing.T) {
	run(t, []effect{
		{instr.Instr{Op: instr.BZ, A: 1, Imm: 5}, map[int]uint32{1: 0}, goes(5, nil)},
		{instr.Instr{Op: instr.BZ, A: 1, Imm: -3}, map[int]uint32{1: 0}, goes(-3, nil)},
		{instr.Instr{Op: instr.BZ, A: 1, Imm: 5}, map[int]uint32{1: 1}, goes(0, nil)},
		{instr.Instr{Op: instr.BZ, A: 1, Imm: 5}, map[int]uint32{1: 0x80000000}, goes(0, nil)},
		{instr.Instr{Op: instr.BZ, A: 15, Imm: 32767}, map[int]uint32{15: 0}, goes(32767, nil)},
		{instr.Instr{Op: instr.BZ, A: 15, Imm: -32768}, map[int]uint32{15: 0}, goes(-32768, nil)},
		{instr.Instr{Op: instr.BNZ, A: 1, Imm: 5}, map[int]uint32{1: 1}, goes(5, nil)},
		{instr.Instr{Op: instr.BNZ, A: 1, Imm: -1}, map[int]uint32{1: 0xffffffff}, goes(-1, nil)},
		{instr.Instr{Op: instr.BNZ, A: 1, Imm: 0}, map[int]uint32{1: 0x80000000}, goes(0, nil)},
		{instr.Instr{Op: instr.BNZ, A: 1, Imm: 5}, map[int]uint32{1: 0}, goes(0, nil)},
		{instr.Instr{Op: instr.BR, Imm: 0}, nil, goes(0, nil)},
		{instr.Instr{Op: instr.BR, Imm: -1}, nil, goes(-1, nil)},
		{instr.Instr{Op: instr.BR, Imm: 9}, nil, goes(9, nil)},
		{instr.Instr{Op: instr.BR, Imm: -9}, nil, goes(-9, nil)},
		{instr.Instr{Op: instr.BR, Imm: -10}, nil, goes(-10, nil)},
		{instr.Instr{Op: instr.BR, Imm: 8388607}, nil, goes(8388607, nil)},
		{instr.Instr{Op: instr.BR, Imm: -8388608}, nil, goes(-8388608, nil)},
	})
}

// P4.2
func TestCalls(t *testing.T) {
	const after = base + 4
	jumps := func(pc uint32, registers map[int]uint32) func(*state) {
		return func(s *state) {
			sets(registers)(s)
			s.PC = pc
		}
	}
	run(t, []effect{
		{instr.Instr{Op: instr.CALL, Imm: 3}, nil, goes(3, map[int]uint32{14: after})},
		{instr.Instr{Op: instr.CALL, Imm: 0}, nil, goes(0, map[int]uint32{14: after})},
		{instr.Instr{Op: instr.CALL, Imm: -1}, nil, goes(-1, map[int]uint32{14: after})},
		{instr.Instr{Op: instr.CALL, Imm: -10}, nil, goes(-10, map[int]uint32{14: after})},
		{instr.Instr{Op: instr.CALL, Imm: 8388607}, nil, goes(8388607, map[int]uint32{14: after})},
		{instr.Instr{Op: instr.JR, A: 1}, map[int]uint32{1: 128}, jumps(128, nil)},
		{instr.Instr{Op: instr.JR, A: 14}, map[int]uint32{14: 0}, jumps(0, nil)},
		{instr.Instr{Op: instr.JR, A: 1}, map[int]uint32{1: 0xffffffff}, jumps(0xffffffff, nil)},
		{instr.Instr{Op: instr.JR, A: 1}, map[int]uint32{1: 130}, jumps(130, nil)},
		{instr.Instr{Op: instr.CALLR, A: 1}, map[int]uint32{1: 128}, jumps(128, map[int]uint32{14: after})},
		{instr.Instr{Op: instr.CALLR, A: 14}, map[int]uint32{14: 128}, jumps(128, map[int]uint32{14: after})},
		{instr.Instr{Op: instr.CALLR, A: 1}, map[int]uint32{1: 0x80000001}, jumps(0x80000001, map[int]uint32{14: after})},
	})
}

// P4.2
func TestChk(t *testing.T) {
	var list []effect
	for cause := range 16 {
		i := instr.Instr{Op: instr.CHK, A: 3, B: cause, Imm: 10}
		list = append(list,
			effect{i, map[int]uint32{3: 9}, goes(0, nil)},
			effect{i, map[int]uint32{3: 10}, traps(uint32(cause))})
	}
	run(t, append(list,
		effect{instr.Instr{Op: instr.CHK, A: 3, B: 1, Imm: 10}, map[int]uint32{3: 0}, goes(0, nil)},
		effect{instr.Instr{Op: instr.CHK, A: 3, B: 1, Imm: 10}, map[int]uint32{3: 11}, traps(1)},
		effect{instr.Instr{Op: instr.CHK, A: 3, B: 1, Imm: 10}, map[int]uint32{3: 0xffffffff}, traps(1)},
		effect{instr.Instr{Op: instr.CHK, A: 3, B: 1, Imm: 10}, map[int]uint32{3: 0x80000000}, traps(1)},
		effect{instr.Instr{Op: instr.CHK, A: 3, B: 3, Imm: 0}, map[int]uint32{3: 0}, traps(3)},
		effect{instr.Instr{Op: instr.CHK, A: 15, B: 4, Imm: 65535}, map[int]uint32{15: 65534}, goes(0, nil)},
		effect{instr.Instr{Op: instr.CHK, A: 15, B: 4, Imm: 65535}, map[int]uint32{15: 65535}, traps(4)},
		effect{instr.Instr{Op: instr.CHK, A: 15, B: 4, Imm: 65535}, map[int]uint32{15: 65536}, traps(4)}))
}

// P4.2
func TestOtherTraps(t *testing.T) {
	run(t, []effect{
		{instr.Instr{Op: instr.NIL, A: 1}, map[int]uint32{1: 0}, traps(2)},
		{instr.Instr{Op: instr.NIL, A: 1}, map[int]uint32{1: 1}, goes(0, nil)},
		{instr.Instr{Op: instr.NIL, A: 15}, map[int]uint32{15: 0x80000000}, goes(0, nil)},
		{instr.Instr{Op: instr.TRAP, Imm: 8}, nil, traps(8)},
		{instr.Instr{Op: instr.TRAP, Imm: 0}, nil, traps(0)},
		{instr.Instr{Op: instr.TRAP, Imm: 65535}, nil, traps(65535)},
		{instr.Instr{Op: instr.RAISE, A: 1}, map[int]uint32{1: 17}, traps(17)},
		{instr.Instr{Op: instr.RAISE, A: 0}, map[int]uint32{0: 0}, traps(0)},
		{instr.Instr{Op: instr.RAISE, A: 15}, map[int]uint32{15: 0xffffffff}, traps(0xffffffff)},
		{instr.Instr{Op: instr.CHKS, A: 15}, map[int]uint32{15: 399}, traps(5)},
		{instr.Instr{Op: instr.CHKS, A: 15}, map[int]uint32{15: 400}, goes(0, nil)},
		{instr.Instr{Op: instr.CHKS, A: 1}, map[int]uint32{1: 401}, goes(0, nil)},
		{instr.Instr{Op: instr.CHKS, A: 1}, map[int]uint32{1: 0x7fffffff}, goes(0, nil)},
		{instr.Instr{Op: instr.CHKS, A: 1}, map[int]uint32{1: 0}, traps(5)},
		{instr.Instr{Op: instr.CHKS, A: 1}, map[int]uint32{1: 0xffffffff}, traps(5)},
		{instr.Instr{Op: instr.CHKS, A: 1}, map[int]uint32{1: 0x80000000}, traps(5)},
	})
}

// P4.2: the Limit has a sign, too.
func TestChksOfLimits(t *testing.T) {
	for _, limit := range numbers {
		for _, a := range []uint32{limit - 1, limit, limit + 1, 0, 0x7fffffff, 0x80000000} {
			s := setup
			s.Limit = limit
			c := busy(s)
			c.R[1] = a
			want := seen(c)
			want.Steps++
			if signed(a).Cmp(signed(limit)) < 0 {
				traps(5)(&want)
			} else {
				goes(0, nil)(&want)
			}
			c.Step(with(t, instr.Instr{Op: instr.CHKS, A: 1}))
			same(t, "CHKS", seen(c), want)
		}
	}
}

// P4.2
func TestOut(t *testing.T) {
	writes := func(port int, value int32) func(*state) {
		return func(s *state) {
			s.PC += 4
			s.Out = append(s.Out, api.Event{Port: port, Value: value})
		}
	}
	run(t, []effect{
		{instr.Instr{Op: instr.OUT, A: 1, Imm: 0}, map[int]uint32{1: 7}, writes(0, 7)},
		{instr.Instr{Op: instr.OUT, A: 15, Imm: 5}, map[int]uint32{15: 0xffffffff}, writes(5, -1)},
		{instr.Instr{Op: instr.OUT, A: 0, Imm: 65535}, map[int]uint32{0: 0x80000000}, writes(65535, math.MinInt32)},
		{instr.Instr{Op: instr.OUT, A: 2, Imm: 1}, map[int]uint32{2: 0x7fffffff}, writes(1, math.MaxInt32)},
	})
}

// P4.2: all input in its order, and then the trap; a trap takes nothing.
func TestIn(t *testing.T) {
	input := []int32{5, -1, math.MinInt32, math.MaxInt32, 0}
	var list []instr.Instr
	for range input {
		list = append(list, instr.Instr{Op: instr.IN, A: 3})
	}
	m := with(t, append(list, instr.Instr{Op: instr.IN, A: 3})...)
	c := cpu.New(setup, input)
	for n, value := range input {
		want := seen(c)
		want.Steps++
		want.Taken = n + 1
		sets(map[int]uint32{3: uint32(value)})(&want)
		c.Step(m)
		same(t, "IN", seen(c), want)
	}
	for range 2 {
		c.PC = base + 20
		c.R[3] = 99
		want := seen(c)
		want.Steps++
		traps(7)(&want)
		c.Step(m)
		same(t, "IN with no value left", seen(c), want)
	}
	for _, nothing := range [][]int32{nil, {}} {
		c = cpu.New(setup, nothing)
		want := seen(c)
		want.Steps++
		traps(7)(&want)
		c.Step(m)
		same(t, "IN without input", seen(c), want)
	}
}

// P4.2
func TestRtc(t *testing.T) {
	run(t, []effect{
		{instr.Instr{Op: instr.RTC, A: 1, Imm: 0}, nil, sets(map[int]uint32{1: 0xe0c})},
		{instr.Instr{Op: instr.RTC, A: 15, Imm: 1}, nil, sets(map[int]uint32{15: 0xca5e})},
		{instr.Instr{Op: instr.RTC, A: 1, Imm: 2}, nil, faults(api.ErrField)},
		{instr.Instr{Op: instr.RTC, A: 1, Imm: 3}, nil, faults(api.ErrField)},
		{instr.Instr{Op: instr.RTC, A: 1, Imm: 32768}, nil, faults(api.ErrField)},
		{instr.Instr{Op: instr.RTC, A: 1, Imm: 65535}, nil, faults(api.ErrField)},
	})
}

// trapping are instructions that trap with these causes if all registers and the input are empty.
var trapping = []struct {
	i     instr.Instr
	cause uint32
}{
	{instr.Instr{Op: instr.DIV, A: 1, B: 2, C: 3}, 3},
	{instr.Instr{Op: instr.MOD, A: 1, B: 2, C: 3}, 3},
	{instr.Instr{Op: instr.CHK, A: 1, B: 6, Imm: 0}, 6},
	{instr.Instr{Op: instr.NIL, A: 1}, 2},
	{instr.Instr{Op: instr.TRAP, Imm: 1000}, 1000},
	{instr.Instr{Op: instr.RAISE, A: 1}, 0},
	{instr.Instr{Op: instr.IN, A: 1}, 7},
	{instr.Instr{Op: instr.CHKS, A: 1}, 5},
}

// P4.2: below the guard a trap is a fault; just at it, and above, it is not.
func TestGuard(t *testing.T) {
	for _, x := range trapping {
		for _, at := range []uint32{0, 4, 24, 28, 32, 252} {
			for _, guard := range []uint32{0, 1, 4, 24, 25, 28, 29, 32, 252, 253, 256, 1 << 31, math.MaxUint32} {
				m := made(t, layout, at, encoded(t, x.i)...)
				c := cpu.New(cpu.Setup{Entry: at, Vector: 100, Guard: guard, Limit: 1}, nil)
				c.EPC, c.Cause = 5, 6
				want := seen(c)
				want.Steps++
				if at < guard {
					faults(api.ErrKind)(&want)
				} else {
					traps(x.cause)(&want)
				}
				c.Step(m)
				same(t, instr.Name(x.i.Op), seen(c), want)
			}
		}
	}
}

// P4.2: where the vector is no place of an instruction, the trap goes there, and the step behind it is a fault.
func TestVectors(t *testing.T) {
	tests := []struct {
		vector uint32
		why    api.Errno
	}{
		{3, api.ErrAlign},
		{math.MaxUint32, api.ErrAlign},
		{256, api.ErrPlace},
		{0x80000000, api.ErrPlace},
		{100, api.ErrWord},
	}
	for _, x := range tests {
		m := with(t, instr.Instr{Op: instr.TRAP, Imm: 9})
		c := cpu.New(cpu.Setup{Entry: base, Vector: x.vector}, nil)
		if got := c.Step(m); got != api.Running || c.PC != x.vector || c.EPC != base || c.Cause != 9 {
			t.Errorf("vector %#x: %d, PC %#x, EPC %d, Cause %d", x.vector, got, c.PC, c.EPC, c.Cause)
		}
		want := seen(c)
		want.Steps++
		faults(x.why)(&want)
		c.Step(m)
		same(t, "the step behind a trap", seen(c), want)
	}
}

// P4.2: where no instruction is.
func TestFetchFaults(t *testing.T) {
	tests := []struct {
		pc  uint32
		why api.Errno
	}{
		{base + 1, api.ErrAlign},
		{base + 2, api.ErrAlign},
		{base + 3, api.ErrAlign},
		{255, api.ErrAlign},
		{257, api.ErrAlign},
		{math.MaxUint32, api.ErrAlign},
		{256, api.ErrPlace},
		{260, api.ErrPlace},
		{272, api.ErrPlace},
		{508, api.ErrPlace},
		{512, api.ErrPlace},
		{1 << 20, api.ErrPlace},
		{0x80000000, api.ErrPlace},
		{math.MaxUint32 - 3, api.ErrPlace},
		{252, api.ErrWord},
		{0, api.ErrWord},
		{base + 4, api.ErrWord},
		{base + 8, api.ErrWord},
		{base + 12, api.ErrWord},
		{base + 16, api.ErrWord},
	}
	m := with(t, instr.Instr{Op: instr.HALT})
	m.Fill(base+4, 0x23000000, 0x01000001, 0xffffffff, 0x00000000)
	// An instruction in the tables is none of the code.
	m.Fill(256, encoded(t, instr.Instr{Op: instr.HALT})...)
	for _, x := range tests {
		c := busy(setup)
		c.PC = x.pc
		want := seen(c)
		want.Steps++
		faults(x.why)(&want)
		if got := c.Step(m); got != api.Fault {
			t.Errorf("PC %#x: Step: %d", x.pc, got)
		}
		same(t, "a step where no instruction is", seen(c), want)
	}
}

// P4.2: PC goes round at 2^32.
func TestAddressesGoRound(t *testing.T) {
	tests := []struct {
		at   uint32
		i    instr.Instr
		want uint32
	}{
		{0, instr.Instr{Op: instr.BR, Imm: -1}, 0},
		{0, instr.Instr{Op: instr.BR, Imm: -2}, 0xfffffffc},
		{8, instr.Instr{Op: instr.BZ, A: 1, Imm: -4}, 0xfffffffc},
		{4, instr.Instr{Op: instr.CALL, Imm: -8388608}, 0xfe000008},
		{252, instr.Instr{Op: instr.CALL, Imm: 8388607}, 0x20000fc},
	}
	for _, x := range tests {
		m := made(t, layout, x.at, encoded(t, x.i)...)
		c := cpu.New(cpu.Setup{Entry: x.at}, nil)
		if got := c.Step(m); got != api.Running || c.PC != x.want {
			t.Errorf("%+v at %d: %d, PC %#x, not %#x", x.i, x.at, got, c.PC, x.want)
		}
	}
}

// P4.2, P4.4: a processor that does not run remains as it is.
func TestNotRunning(t *testing.T) {
	m := with(t, instr.Instr{Op: instr.LDI, A: 1, Imm: 5}, instr.Instr{Op: instr.HALT})
	before := m.Clone()
	for _, stopped := range []int{api.Halted, api.Fault, -1, 3, math.MaxInt, math.MinInt} {
		c := busy(setup, 4)
		c.PC, c.State, c.Why = base, stopped, api.ErrWord
		want := seen(c)
		if got := c.Step(m); got != stopped {
			t.Errorf("Step in the state %d: %d", stopped, got)
		}
		same(t, "Step", seen(c), want)
		for _, steps := range []int{-1, 0, 1, 2, 1000} {
			if got := c.Run(m, steps); got != stopped {
				t.Errorf("Run(%d) in the state %d: %d", steps, stopped, got)
			}
			same(t, "Run", seen(c), want)
		}
	}
	if at, ok := memory.Differ(before, m); ok {
		t.Errorf("the word at %d is another one", at)
	}
}

// P4.2, P4.4: the same, when it was an instruction that stopped it.
func TestStops(t *testing.T) {
	for _, x := range []struct {
		i    instr.Instr
		want int
	}{{instr.Instr{Op: instr.HALT}, api.Halted}, {instr.Instr{Op: instr.RTC, Imm: 2}, api.Fault}} {
		m := with(t, x.i)
		c := cpu.New(setup, nil)
		if got := c.Run(m, 10); got != x.want || c.Steps != 1 || c.PC != base {
			t.Errorf("%+v: %d after %d steps, PC %d", x.i, got, c.Steps, c.PC)
		}
		want := seen(c)
		m.Fill(base, encoded(t, instr.Instr{Op: instr.LDI, Imm: 1})...)
		for range 3 {
			c.Step(m)
			c.Run(m, 5)
			same(t, "a processor that has stopped", seen(c), want)
		}
	}
}

// P4.2: the chapter's examples.
func TestExamples(t *testing.T) {
	m := with(t, instr.Instr{Op: instr.LDI, A: 1, Imm: 5}, instr.Instr{Op: instr.HALT})
	c := cpu.New(setup, nil)
	if got := c.Run(m, 100); got != api.Halted || c.Steps != 2 || c.R[1] != 5 {
		t.Errorf("LDI and HALT: %d after %d steps, r1 %d", got, c.Steps, c.R[1])
	}

	m = with(t, instr.Instr{Op: instr.LDI, A: 3, Imm: 7}, instr.Instr{Op: instr.DIV, A: 1, B: 3, C: 4})
	m.Fill(setup.Vector, encoded(t, instr.Instr{Op: instr.RTC, A: 2, Imm: 1}, instr.Instr{Op: instr.HALT})...)
	c = cpu.New(setup, nil)
	if got := c.Run(m, 100); got != api.Halted || c.Steps != 4 || c.R[2] != 3 || c.EPC != base+4 || c.R[1] != 0 {
		t.Errorf("DIV by 0: %d after %d steps, r2 %d, EPC %d, r1 %d", got, c.Steps, c.R[2], c.EPC, c.R[1])
	}
}

// sum is a program that reads numbers until one is 0, stores each, and writes the sum; it takes 7 steps a number, 2 for the last, and 4.
func sum() []instr.Instr {
	return []instr.Instr{
		{Op: instr.LDI, A: 2, Imm: 272},
		{Op: instr.IN, A: 1},
		{Op: instr.BZ, A: 1, Imm: 5},
		{Op: instr.STW, A: 1, B: 2},
		{Op: instr.LDW, A: 4, B: 2},
		{Op: instr.ADD, A: 3, B: 3, C: 4},
		{Op: instr.ADDI, A: 2, B: 2, Imm: 4},
		{Op: instr.BR, Imm: -7},
		{Op: instr.OUT, A: 3, Imm: 0},
		{Op: instr.CALL, Imm: 0},
		{Op: instr.HALT},
	}
}

const sumSteps = 1 + 3*7 + 2 + 3

var sumInput = []int32{1000, -7, 30, 0, 5}

// P4.3
func TestRun(t *testing.T) {
	for _, steps := range []int{math.MinInt, -1 << 30, -1, 0} {
		c := busy(setup)
		want := seen(c)
		if got := c.Run(with(t, sum()...), steps); got != api.Running {
			t.Errorf("Run(%d): %d", steps, got)
		}
		same(t, "Run of no step", seen(c), want)
	}
	for _, steps := range []int{1, 2, sumSteps - 1, sumSteps, sumSteps + 1, 1000, 1 << 30, 1<<30 + 1, math.MaxInt} {
		m := with(t, sum()...)
		c := cpu.New(setup, sumInput)
		got := c.Run(m, steps)
		want, state := steps, api.Running
		if steps >= sumSteps {
			want, state = sumSteps, api.Halted
		}
		if got != state || c.State != state || c.Steps != want {
			t.Errorf("Run(%d): %d after %d steps, not %d", steps, got, c.Steps, want)
		}
	}
	m := with(t, sum()...)
	c := cpu.New(setup, sumInput)
	c.Run(m, 1000)
	if !slices.Equal(c.Out, []api.Event{{Port: 0, Value: 1023}}) || c.Taken != 4 {
		t.Errorf("Out %v, Taken %d", c.Out, c.Taken)
	}
	for n, want := range []uint32{1000, 0xfffffff9, 30, 0} {
		if got, _ := m.Load(uint32(272 + 4*n)); got != want {
			t.Errorf("the word %d: %#x, not %#x", n, got, want)
		}
	}
}

// P4.3: a run in two parts, and one step by step, are as one in one.
func TestRunInParts(t *testing.T) {
	whole := with(t, sum()...)
	one := cpu.New(setup, sumInput)
	one.Run(whole, 1000)
	for first := range sumSteps + 3 {
		m := with(t, sum()...)
		c := cpu.New(setup, sumInput)
		c.Run(m, first)
		if want := min(first, sumSteps); c.Steps != want {
			t.Errorf("Run(%d): %d steps", first, c.Steps)
		}
		c.Run(m, 1000)
		same(t, "a run in two parts", seen(c), seen(one))
		if at, ok := memory.Differ(m, whole); ok {
			t.Errorf("after a run in two parts, the word at %d is another one", at)
		}
	}
	m := with(t, sum()...)
	c := cpu.New(setup, sumInput)
	for n := 1; c.Step(m) == api.Running; n++ {
		if c.Steps != n {
			t.Fatalf("%d steps, not %d", c.Steps, n)
		}
	}
	same(t, "a run step by step", seen(c), seen(one))
}

// P4.3: a run ends after 2^30 steps, however many are asked for. On a machine that would need minutes for them, nothing is tested.
func TestMostSteps(t *testing.T) {
	m := with(t, instr.Instr{Op: instr.BR, Imm: -1})
	start := time.Now()
	cpu.New(setup, nil).Run(m, 1<<20)
	if testing.Short() || time.Since(start) > 50*time.Millisecond {
		t.Skip("2^30 steps take too long")
	}
	t.Parallel()
	// One more than the most, so that a run that goes on too far ends, too.
	c := cpu.New(setup, nil)
	if got := c.Run(m, 1<<30+1); got != api.Running || c.Steps != 1<<30 || c.PC != base {
		t.Errorf("Run: %d after %d steps, PC %d", got, c.Steps, c.PC)
	}
}

// random returns a fixed row of words.
func random() func() uint32 {
	state := uint32(1)
	return func() uint32 {
		low := state*1664525 + 1013904223
		state = low*1664525 + 1013904223
		return low>>16 | state&0xffff0000
	}
}

// randomInstr returns an instruction, mostly one whose numbers are near.
func randomInstr(next func() uint32) uint32 {
	for {
		w := next()%instr.Last<<24 + 1<<24 | next()&0xffffff
		if next()%4 > 0 {
			w &= 0xffff003c
		}
		if _, e := instr.Decode(w); e == api.OK {
			return w
		}
	}
}

// P4.4, P1: whatever is executed, no step changes code or tables, only STW changes the memory at all, and each step is one.
func TestRandomPrograms(t *testing.T) {
	next := random()
	stopped := 0
	for range 400 {
		words := make([]uint32, layout.Tables/4)
		for i := range words {
			words[i] = randomInstr(next)
		}
		m := made(t, layout, 0, words...)
		c := cpu.New(cpu.Setup{Entry: next() % 64 * 4, Vector: next() % 64 * 4, Guard: next() % 64, Limit: next() % 512}, []int32{1, 272, -3, 400})
		for r := range c.R {
			c.R[r] = next() % 520
		}
		for range 200 {
			before, was, pc := m.Clone(), seen(c), c.PC
			if got := c.Step(m); got != c.State {
				t.Fatalf("Step: %d, but State %d", got, c.State)
			}
			steady(t, before, m, pc)
			if was.State != api.Running {
				same(t, "a processor that has stopped", seen(c), was)
			} else if c.Steps != was.Steps+1 {
				t.Fatalf("%d steps after %d", c.Steps, was.Steps)
			}
		}
		if c.State != api.Running {
			stopped++
		}
	}
	if stopped == 0 || stopped == 400 {
		t.Errorf("%d of 400 programs stopped", stopped)
	}
}

// steady fails if a step at pc has changed what it may not.
func steady(t *testing.T, before, after *memory.Mem, pc uint32) {
	t.Helper()
	at, ok := memory.Differ(before, after)
	if !ok {
		return
	}
	w, _ := before.Fetch(pc)
	i, e := instr.Decode(w)
	if e != api.OK || i.Op != instr.STW || at < layout.Tables {
		t.Fatalf("%08x at %d has changed the word at %d", w, pc, at)
	}
}

// P4.2, P2: the same calls have the same results.
func TestSameAgain(t *testing.T) {
	next := random()
	for range 50 {
		words := make([]uint32, layout.Code/4)
		for i := range words {
			words[i] = randomInstr(next)
		}
		s := cpu.Setup{Entry: next() % 64 * 4, Vector: next() % 64 * 4, Limit: 100}
		a, b := cpu.New(s, sumInput), cpu.New(s, sumInput)
		ma, mb := made(t, layout, 0, words...), made(t, layout, 0, words...)
		a.Run(ma, 500)
		for range 500 {
			b.Step(mb)
		}
		same(t, "the same program", seen(b), seen(a))
		if at, ok := memory.Differ(ma, mb); ok {
			t.Errorf("the same program: the word at %d is another one", at)
		}
	}
}

// P2: the input is neither changed nor kept, and its spare capacity remains.
func TestInputRemains(t *testing.T) {
	room := []int32{1, 2, 3, 4, 5}
	m := with(t, instr.Instr{Op: instr.IN, A: 1}, instr.Instr{Op: instr.IN, A: 2}, instr.Instr{Op: instr.IN, A: 3})
	c := cpu.New(setup, room[1:3])
	c.Step(m)
	room[2], room[3] = 33, 44
	c.Step(m)
	c.Step(m)
	if c.R[1] != 2 || c.R[2] != 3 || c.R[3] != 0 || c.Cause != api.Input || c.Taken != 2 {
		t.Errorf("r1 %d, r2 %d, r3 %d, Cause %d, Taken %d", c.R[1], c.R[2], c.R[3], c.Cause, c.Taken)
	}
	if want := []int32{1, 2, 33, 44, 5}; !slices.Equal(room, want) {
		t.Errorf("the list and its spare capacity became %v", room)
	}
}

// P1: fields that anybody can set to anything.
func TestAnyFields(t *testing.T) {
	m := with(t, instr.Instr{Op: instr.IN, A: 1}, instr.Instr{Op: instr.HALT})
	for _, n := range []int{math.MinInt, -1, 0, 1, 2, math.MaxInt} {
		for _, pc := range numbers {
			c := cpu.New(setup, []int32{5})
			c.Taken, c.Steps, c.PC, c.Why = n, n, pc, api.Errno(n)
			c.Step(m)
			c.PC, c.State = base, api.Running
			c.Run(m, 5)
			c.PC, c.State = base, n
			c.Step(m)
			c.Run(m, n%1000)
		}
	}
}

// P1: any words and any setup, in memories of any shape.
func TestAnyWords(t *testing.T) {
	next := random()
	layouts := []memory.Layout{
		{},
		{Stack: 64},
		{Code: 64, Tables: 64, Data: 64, Heap: 64, Stack: 64},
		layout,
		{Code: api.MaxImage, Tables: api.MaxImage, Data: api.MaxImage, Heap: api.MaxImage, Stack: api.MaxImage},
	}
	for _, l := range layouts {
		words := make([]uint32, l.Code/4)
		for i := range words {
			words[i] = next()
			if i%4 > 0 {
				words[i] = randomInstr(next)
			}
		}
		m := made(t, l, 0, words...)
		for _, s := range setups {
			for _, entry := range []uint32{s.Entry, 0, 4, l.Code - 4, l.Code} {
				s.Entry = entry
				c := cpu.New(s, nil)
				state := c.Run(m, 1000)
				if state != c.State || c.Steps < 1 || c.Steps > 1000 || state == api.Running && c.Steps != 1000 || (state == api.Fault) != (c.Why != api.OK) {
					t.Errorf("%v, %v: %d %d, %d steps, Why %d", l, s, state, c.State, c.Steps, c.Why)
				}
			}
		}
	}
}
