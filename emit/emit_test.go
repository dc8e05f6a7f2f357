package emit_test

import (
	"math"
	"slices"
	"strings"
	"testing"

	"pascaline/api"
	"pascaline/cpu"
	"pascaline/emit"
	"pascaline/instr"
	"pascaline/memory"
	"pascaline/ranges"
	"pascaline/word"
)

// far are numbers far from all that can be.
var far = []int{math.MinInt, math.MinInt + 1, math.MinInt32, -1 << 24, -1 << 15, -2, -1, 0, 1, 16, 1 << 14, 1 << 24, math.MaxInt32, math.MaxUint32, 1<<32 + 1, math.MaxInt - 1, math.MaxInt}

// full is how many words there can be.
const full = 16384

// random returns a fixed row of numbers below 2^16.
func random(seed uint32) func() int {
	state := seed
	return func() int {
		state = state*1664525 + 1013904223
		return int(state >> 16)
	}
}

// finished fails if there is an error, and returns all that was written.
func finished(t *testing.T, c *emit.Code) emit.Result {
	t.Helper()
	r, e := c.Finish()
	if e != api.OK || c.Err() != api.OK {
		t.Fatalf("Finish: %d; Err: %d", e, c.Err())
	}
	return r
}

// wrote fails unless the words are those that are wanted, in hexadecimal digits with spaces between.
func wrote(t *testing.T, c *emit.Code, want string) {
	t.Helper()
	var list []string
	for _, w := range finished(t, c).Words {
		list = append(list, word.Hex(w))
	}
	if got := strings.Join(list, " "); got != want {
		t.Fatalf("the words %s, not %s", got, want)
	}
	if c.Here() != len(list) {
		t.Fatalf("Here: %d, but there are %d words", c.Here(), len(list))
	}
}

// failed fails unless Err and Finish return an error, and Finish nothing else.
func failed(t *testing.T, c *emit.Code, want api.Errno) {
	t.Helper()
	r, e := c.Finish()
	if c.Err() != want || e != want {
		t.Fatalf("Err: %d, Finish: %d, not %d", c.Err(), e, want)
	}
	if want != api.OK && len(r.Words)+len(r.Fixups)+len(r.Segments) > 0 {
		t.Fatalf("Finish with an error: %v", r)
	}
}

// is fails unless a call returned the number that is wanted.
func is(t *testing.T, what string, got, want int) {
	t.Helper()
	if got != want {
		t.Fatalf("%s: %d, not %d", what, got, want)
	}
}

// halts writes so many words.
func halts(c *emit.Code, many int) {
	for range many {
		c.Put(instr.Instr{Op: instr.HALT})
	}
}

// filled returns a Code of so many words.
func filled(many int) *emit.Code {
	c := emit.New()
	halts(c, many)
	return c
}

// segs returns the segments of pairs of a Start and a Pad.
func segs(pairs ...int) []api.Segment {
	var list []api.Segment
	for n := 0; n < len(pairs); n += 2 {
		list = append(list, api.Segment{Start: pairs[n], Pad: pairs[n+1]})
	}
	return list
}

// segmented fails unless the segments are those that are wanted.
func segmented(t *testing.T, c *emit.Code, pairs ...int) {
	t.Helper()
	if got := finished(t, c).Segments; !slices.Equal(got, segs(pairs...)) {
		t.Fatalf("the segments %v, not %v", got, segs(pairs...))
	}
}

// P17.1
func TestNew(t *testing.T) {
	c := emit.New()
	is(t, "Here", c.Here(), 0)
	is(t, "Err", int(c.Err()), 0)
	is(t, "Depth", c.Depth(), 0)
	is(t, "Most", c.Most(), 0)
	r := finished(t, c)
	if len(r.Words)+len(r.Fixups)+len(r.Segments) > 0 {
		t.Errorf("Finish of nothing: %v", r)
	}
	is(t, "Pad", c.Pad(), 0)
}

// P17.1: two Codes know nothing of each other.
func TestNewTwice(t *testing.T) {
	a, b := emit.New(), emit.New()
	a.Guard(a.Pad())
	a.Push(1)
	a.Fix(api.FixCall, 1, 2, 0)
	a.Fail(api.ErrTemps)
	is(t, "Here of the other", b.Here(), 0)
	is(t, "Depth of the other", b.Depth(), 0)
	is(t, "Most of the other", b.Most(), 0)
	is(t, "Pad of the other", b.Pad(), 0)
	b.Put(instr.Instr{Op: instr.HALT})
	wrote(t, b, "01000000")
	segmented(t, b, 0, -1)
	failed(t, a, api.ErrTemps)
}

// P17.1
func TestHere(t *testing.T) {
	c := emit.New()
	for n := range 100 {
		is(t, "Here", c.Here(), n)
		is(t, "Here again", c.Here(), n)
		is(t, "Put", c.Put(instr.Instr{Op: instr.LDI, A: n % 16, Imm: n}), n)
	}
	is(t, "Here", c.Here(), 100)
}

// P17.1
func TestFail(t *testing.T) {
	c := emit.New()
	c.Fail(api.OK)
	failed(t, c, api.OK)
	c.Fail(api.ErrTemps)
	failed(t, c, api.ErrTemps)
	c.Fail(api.ErrNested)
	failed(t, c, api.ErrTemps)
	c.Fail(api.OK)
	failed(t, c, api.ErrTemps)
	c.Put(instr.Instr{Op: 99})
	c.Patch(-1, 0)
	failed(t, c, api.ErrTemps)
	for _, n := range far {
		c, want := emit.New(), api.Errno(n)
		if n == 0 {
			want = api.ErrFar
		}
		c.Fail(api.Errno(n))
		c.Fail(api.ErrFar)
		failed(t, c, want)
	}
}

// P17.1: the first error may be one of any call.
func TestFailBehindOthers(t *testing.T) {
	for _, x := range []struct {
		call func(c *emit.Code)
		want api.Errno
	}{
		{func(c *emit.Code) { c.Put(instr.Instr{Op: 99}) }, api.ErrWord},
		{func(c *emit.Code) { c.Reg(instr.JR, 16) }, api.ErrField},
		{func(c *emit.Code) { c.Patch(9, 0) }, api.ErrFar},
		{func(c *emit.Code) { halts(c, full+1) }, api.ErrCode},
	} {
		c := emit.New()
		x.call(c)
		failed(t, c, x.want)
		c.Fail(api.ErrNested)
		failed(t, c, x.want)
	}
}

// right returns instructions of all operations, with the least and the greatest of what their fields can be.
func right() []instr.Instr {
	numbers := []int{-1 << 23, 1<<23 - 1, -1 << 15, 1<<15 - 1, 1 << 15, 1<<16 - 1, -1, 0, 1}
	registers := []int{0, 1, 15}
	var list []instr.Instr
	for op := 1; op <= instr.Last; op++ {
		for _, a := range registers {
			for _, b := range registers {
				for _, d := range registers {
					for _, n := range numbers {
						i := instr.Instr{Op: op, A: a, B: b, C: d, Imm: n}
						if instr.Check(i) == api.OK {
							list = append(list, i)
						}
					}
				}
			}
		}
	}
	return list
}

// P17.1
func TestPut(t *testing.T) {
	c := emit.New()
	list := right()
	var want []uint32
	for n, i := range list {
		is(t, "Put", c.Put(i), n)
		w, _ := instr.Encode(i)
		want = append(want, w)
	}
	if r := finished(t, c); !slices.Equal(r.Words, want) {
		t.Errorf("other words than Encode returns")
	}
	is(t, "Here", c.Here(), len(list))
	if len(list) < 300 {
		t.Errorf("%d instructions", len(list))
	}
}

// wrong are instructions that Encode refuses, with its errors.
var wrong = []struct {
	i instr.Instr
	e api.Errno
}{
	{instr.Instr{}, api.ErrWord},
	{instr.Instr{Op: -1}, api.ErrWord},
	{instr.Instr{Op: instr.Last + 1}, api.ErrWord},
	{instr.Instr{Op: math.MaxInt, A: 99}, api.ErrWord},
	{instr.Instr{Op: instr.HALT, A: 1}, api.ErrField},
	{instr.Instr{Op: instr.HALT, Imm: 1}, api.ErrField},
	{instr.Instr{Op: instr.ADD, A: 16}, api.ErrField},
	{instr.Instr{Op: instr.ADD, B: -1}, api.ErrField},
	{instr.Instr{Op: instr.ADD, C: 16}, api.ErrField},
	{instr.Instr{Op: instr.LDI, A: 1, Imm: 32768}, api.ErrField},
	{instr.Instr{Op: instr.BR, Imm: 1 << 23}, api.ErrField},
	{instr.Instr{Op: instr.BR, A: 1}, api.ErrField},
}

// P17.1: a word is written all the same, of which nothing but its number can be seen.
func TestPutOfWrong(t *testing.T) {
	for _, x := range wrong {
		c := emit.New()
		is(t, "Put", c.Put(x.i), 0)
		is(t, "Here", c.Here(), 1)
		failed(t, c, x.e)
		is(t, "Put behind it", c.Put(instr.Instr{Op: instr.HALT}), 1)
		for n, other := range wrong {
			is(t, "Put of another one", c.Put(other.i), 2+n)
		}
		failed(t, c, x.e)
		is(t, "Here", c.Here(), 2+len(wrong))
	}
}

// P17.1: the last word for which there is room, and those for which there is none.
func TestPutIntoFull(t *testing.T) {
	c := filled(full - 1)
	is(t, "Here", c.Here(), full-1)
	failed(t, c, api.OK)
	is(t, "Put of the word 16383", c.Put(instr.Instr{Op: instr.LDI, A: 3, Imm: 4}), full-1)
	failed(t, c, api.OK)
	r := finished(t, c)
	is(t, "words", len(r.Words), full)
	if r.Words[full-1] != 0x02300004 || r.Words[full-2] != 0x01000000 {
		t.Errorf("the last words: %x", r.Words[full-2:])
	}
	is(t, "Put of the word 16384", c.Put(instr.Instr{Op: instr.HALT}), full-1)
	is(t, "Here", c.Here(), full)
	failed(t, c, api.ErrCode)
	is(t, "Put behind it", c.Put(instr.Instr{Op: instr.HALT}), full-1)
	is(t, "Put of a wrong one", c.Put(instr.Instr{Op: 99}), full-1)
	is(t, "Here", c.Here(), full)
	failed(t, c, api.ErrCode)
}

// P17.1: where there is no room for an instruction that Encode refuses, its error is the first one.
func TestPutOfWrongIntoFull(t *testing.T) {
	for _, x := range wrong {
		c := filled(full - 1)
		is(t, "Put of the word 16383", c.Put(x.i), full-1)
		failed(t, c, x.e)
		is(t, "Here", c.Here(), full)
		c = filled(full)
		failed(t, c, api.OK)
		is(t, "Put of the word 16384", c.Put(x.i), full-1)
		failed(t, c, x.e)
		is(t, "Here", c.Here(), full)
	}
}

// P17.1
func TestShapes(t *testing.T) {
	c := emit.New()
	is(t, "Three", c.Three(instr.SUB, 1, 2, 3), 0)
	is(t, "Three", c.Three(instr.SNE, 15, 0, 14), 1)
	is(t, "Sign", c.Sign(instr.ADDI, 1, 2, -1), 2)
	is(t, "Sign", c.Sign(instr.CHK, 3, 1, 10), 3)
	is(t, "Sign", c.Sign(instr.LDW, 4, 13, 12), 4)
	is(t, "Sign", c.Sign(instr.LUI, 5, 0, 65535), 5)
	is(t, "Reg", c.Reg(instr.JR, 14), 6)
	is(t, "Reg", c.Reg(instr.IN, 0), 7)
	is(t, "Jump", c.Jump(instr.BZ, 7), 8)
	is(t, "Jump", c.Jump(instr.BR, 0), 9)
	is(t, "Jump", c.Jump(instr.CALL, 0), 10)
	is(t, "Here", c.Here(), 11)
	wrote(t, c, "07120003 11f0000e 0512ffff 1a31000a 124d000c 0350ffff 18e00000 1f000000 14700000 16000000 17000000")
}

// P17.1: each of them returns what Put returns, and hands its fields on as they are, right or wrong.
func TestShapesAreOfPut(t *testing.T) {
	for op := -1; op <= instr.Last+1; op++ {
		for _, a := range []int{0, 9, 15, 16, -1} {
			putSame(t, instr.Instr{Op: op, A: a}, func(c *emit.Code) int { return c.Reg(op, a) })
			putSame(t, instr.Instr{Op: op, A: a}, func(c *emit.Code) int { return c.Jump(op, a) })
			for _, b := range []int{0, 7, 16, -1} {
				for _, n := range []int{0, 5, 15, 16, -1, -32768, -32769, 32767, 32768, 65535, 65536, math.MinInt, math.MaxInt} {
					putSame(t, instr.Instr{Op: op, A: a, B: b, C: n}, func(c *emit.Code) int { return c.Three(op, a, b, n) })
					putSame(t, instr.Instr{Op: op, A: a, B: b, Imm: n}, func(c *emit.Code) int { return c.Sign(op, a, b, n) })
				}
			}
		}
	}
}

// putSame fails unless a call does what Put of an instruction does.
func putSame(t *testing.T, i instr.Instr, call func(c *emit.Code) int) {
	t.Helper()
	c := filled(2)
	is(t, "what the call returns", call(c), 2)
	is(t, "Here", c.Here(), 3)
	w, e := instr.Encode(i)
	failed(t, c, e)
	if r, _ := c.Finish(); e == api.OK && r.Words[2] != w {
		t.Fatalf("%08x was written for %+v", r.Words[2], i)
	}
}

// P17.1
func TestNumber(t *testing.T) {
	for _, x := range []struct {
		n    int32
		want string
	}{
		{0, "02200000"},
		{7, "02200007"},
		{-1, "0220ffff"},
		{-32768, "02208000"},
		{32767, "02207fff"},
		{-32769, "0320ffff 04227fff"},
		{32768, "03200000 04228000"},
		{65535, "03200000 0422ffff"},
		{65536, "03200001 04220000"},
		{-65536, "0320ffff 04220000"},
		{-65537, "0320fffe 0422ffff"},
		{0x12345678, "03201234 04225678"},
		{0x1234a678, "03201234 0422a678"},
		{0x12340000, "03201234 04220000"},
		{math.MinInt32, "03208000 04220000"},
		{math.MaxInt32, "03207fff 0422ffff"},
		{math.MinInt32 + 1, "03208000 04220001"},
		{math.MinInt32 + 0xffff, "03208000 0422ffff"},
	} {
		c := emit.New()
		c.Number(2, x.n)
		wrote(t, c, x.want)
	}
}

// P17.1: the processor knows the number then, in each register.
func TestNumberIsLoaded(t *testing.T) {
	next := random(171)
	for n := range 3000 {
		number := int32(next()<<16|next()) >> (next() % 32)
		register := n % 16
		c := emit.New()
		c.Number(register, number)
		c.Put(instr.Instr{Op: instr.HALT})
		if p, _ := executed(t, finished(t, c).Words); int32(p.R[register]) != number {
			t.Fatalf("r%d is %d, not %d", register, int32(p.R[register]), number)
		}
	}
}

// P17.1
func TestNumberIntoNoRegister(t *testing.T) {
	for _, register := range []int{-1, 16, math.MinInt, math.MaxInt} {
		c := emit.New()
		c.Number(register, 5)
		failed(t, c, api.ErrField)
		is(t, "Here", c.Here(), 1)
		c = emit.New()
		c.Number(register, 1<<16)
		failed(t, c, api.ErrField)
		is(t, "Here", c.Here(), 2)
	}
	c := filled(full - 1)
	c.Number(0, 5)
	failed(t, c, api.OK)
	c = filled(full - 1)
	c.Number(0, 1<<16)
	failed(t, c, api.ErrCode)
}

// executed runs words from the word 0 on, with a stack behind them, till they halt.
func executed(t *testing.T, words []uint32) (*cpu.Cpu, *memory.Mem) {
	t.Helper()
	end := uint32(4 * len(words))
	top := end + 1024
	m, e := memory.New(memory.Layout{Code: end, Tables: end, Data: end, Heap: end, Stack: top})
	if e != api.OK || m.Fill(0, words...) != api.OK {
		t.Fatalf("no memory for %d words: %d", len(words), e)
	}
	p := cpu.New(cpu.Setup{}, nil)
	p.R[15] = top
	if state := p.Run(m, 1<<20); state != api.Halted {
		t.Fatalf("the state %d, %d at %d", state, p.Why, p.PC)
	}
	return p, m
}

// P17.2
func TestPatch(t *testing.T) {
	for _, x := range []struct {
		i           instr.Instr
		least, most int
		first, last string // with the least, and the greatest number
	}{
		{instr.Instr{Op: instr.LDI, A: 3}, -32768, 32767, "02308000", "02307fff"},
		{instr.Instr{Op: instr.BZ, A: 15}, -32768, 32767, "14f08000", "14f07fff"},
		{instr.Instr{Op: instr.BNZ, A: 1, Imm: 9}, -32768, 32767, "15108000", "15107fff"},
		{instr.Instr{Op: instr.LUI, A: 3, Imm: 65535}, 0, 65535, "03300000", "0330ffff"},
		{instr.Instr{Op: instr.ADDI, A: 15, B: 14, Imm: -1}, -32768, 32767, "05fe8000", "05fe7fff"},
		{instr.Instr{Op: instr.STW, A: 2, B: 3}, -32768, 32767, "13238000", "13237fff"},
		{instr.Instr{Op: instr.ORI, A: 2, B: 3}, 0, 65535, "04230000", "0423ffff"},
		{instr.Instr{Op: instr.CHK, A: 2, B: 1, Imm: 5}, 0, 65535, "1a210000", "1a21ffff"},
		{instr.Instr{Op: instr.BR}, -8388608, 8388607, "16800000", "167fffff"},
		{instr.Instr{Op: instr.CALL, Imm: -5}, -8388608, 8388607, "17800000", "177fffff"},
		{instr.Instr{Op: instr.TRAP, Imm: 3}, 0, 65535, "1c000000", "1c00ffff"},
	} {
		patched(t, x.i, x.least, x.first)
		patched(t, x.i, x.most, x.last)
		unpatched(t, x.i, x.least-1)
		unpatched(t, x.i, x.most+1)
		unpatched(t, x.i, math.MinInt)
		unpatched(t, x.i, math.MaxInt)
		unpatched(t, x.i, 1<<32)
		unpatched(t, x.i, -1<<32)
	}
}

// patched fails unless the number of an instruction between two others can be set to n.
func patched(t *testing.T, i instr.Instr, n int, want string) {
	t.Helper()
	c := filled(1)
	at := c.Put(i)
	halts(c, 1)
	c.Patch(at, n)
	wrote(t, c, "01000000 "+want+" 01000000")
}

// unpatched fails if the number of an instruction can be set to n.
func unpatched(t *testing.T, i instr.Instr, n int) {
	t.Helper()
	c := filled(1)
	at := c.Put(i)
	halts(c, 1)
	c.Patch(at, n)
	failed(t, c, api.ErrFar)
	is(t, "Here", c.Here(), 3)
}

// P17.2: what has no number can have none but 0.
func TestPatchOfNoNumber(t *testing.T) {
	for _, i := range []instr.Instr{{Op: instr.HALT}, {Op: instr.ADD, A: 1, B: 2, C: 3}, {Op: instr.SNE}, {Op: instr.JR, A: 14}, {Op: instr.CHKS, A: 2}} {
		for _, n := range []int{1, -1, 15, 1 << 16, math.MinInt, math.MaxInt} {
			unpatched(t, i, n)
		}
		w, _ := instr.Encode(i)
		patched(t, i, 0, word.Hex(w))
	}
}

// P17.2: the words that there are, and those next to them.
func TestPatchOfWords(t *testing.T) {
	for _, many := range []int{0, 1, 2, 5} {
		for _, at := range append([]int{2, 3, 4, 5, 6}, far...) {
			c := emit.New()
			want := []string{}
			for n := range many {
				c.Jump(instr.BR, 0)
				if n == at {
					want = append(want, "16000003")
				} else {
					want = append(want, "16000000")
				}
			}
			c.Patch(at, 3)
			if at < 0 || at >= many {
				failed(t, c, api.ErrFar)
			} else {
				wrote(t, c, strings.Join(want, " "))
			}
		}
	}
	c := filled(full - 1)
	c.Jump(instr.BR, 0)
	c.Patch(full-1, -full)
	is(t, "the word 16383", int(finished(t, c).Words[full-1]), 0x16ffc000)
	c.Patch(full, 0)
	failed(t, c, api.ErrFar)
}

// P17.2: the last number that was set counts, and nothing else changes.
func TestPatchAgain(t *testing.T) {
	c := emit.New()
	p := c.Pad()
	c.Guard(p)
	c.Jump(instr.BZ, 2)
	c.Fix(api.FixData, 0, 4, 1)
	c.Set(p)
	halts(c, 1)
	c.Unguard()
	for _, n := range []int{5, -1, 0, 7} {
		c.Patch(0, n)
	}
	wrote(t, c, "14200007 03100000 04110000 01000000")
	segmented(t, c, 0, 3)
	c.Patch(1, 2)
	c.Patch(2, 3)
	wrote(t, c, "14200007 03100002 04110003 01000000")
	if r := finished(t, c); !slices.Equal(r.Fixups, []api.Fixup{{At: 1, Kind: 1, Value: 4}}) {
		t.Errorf("the fixups %v", r.Fixups)
	}
	is(t, "Depth", c.Depth(), 0)
}

// P17.2: the chapter's example.
func TestLandOfExample(t *testing.T) {
	c := emit.New()
	is(t, "Jump", c.Jump(instr.BR, 0), 0)
	is(t, "Put", c.Put(instr.Instr{Op: instr.HALT}), 1)
	c.Land(0)
	is(t, "Put", c.Put(instr.Instr{Op: instr.HALT}), 2)
	wrote(t, c, "16000001 01000000 01000000")
}

// P17.2
func TestLand(t *testing.T) {
	c := filled(1)
	at := c.Jump(instr.BNZ, 4)
	c.Land(at)
	wrote(t, c, "01000000 15400000")
	halts(c, 2)
	c.Land(at)
	wrote(t, c, "01000000 15400002 01000000 01000000")
	c.Land(at)
	wrote(t, c, "01000000 15400002 01000000 01000000")
	call := c.Jump(instr.CALL, 0)
	c.Land(call)
	c.Land(at)
	wrote(t, c, "01000000 15400003 01000000 01000000 17000000")
	for _, at := range append([]int{2, 3}, far...) {
		for _, many := range []int{0, 1, 2, 3} {
			c := emit.New()
			for range many {
				c.Jump(instr.BR, 0)
			}
			c.Land(at)
			if at >= 0 && at < many {
				failed(t, c, api.OK)
			} else {
				failed(t, c, api.ErrFar)
			}
			is(t, "Here", c.Here(), many)
		}
	}
}

// P17.2: what has no number can land right behind itself alone.
func TestLandOfNoJump(t *testing.T) {
	c := filled(1)
	c.Land(0)
	wrote(t, c, "01000000")
	halts(c, 1)
	c.Land(0)
	failed(t, c, api.ErrFar)
}

// P17.2: from the first word to behind the last one.
func TestLandBehindAll(t *testing.T) {
	c := emit.New()
	at := c.Jump(instr.BZ, 1)
	halts(c, full-1)
	c.Land(at)
	is(t, "the word 0", int(finished(t, c).Words[0]), 0x14103fff)
}

// P17.2
func TestBack(t *testing.T) {
	c := emit.New()
	c.Back(instr.BR, 0, 0) // to itself
	c.Back(instr.BNZ, 3, 0)
	c.Back(instr.CALL, 0, 1)
	c.Back(instr.BZ, 15, 3) // to itself
	wrote(t, c, "16ffffff 1530fffe 17fffffe 14f0ffff")
	c.Back(instr.BR, 0, 6) // a word that is not there yet
	c.Back(instr.BR, 0, -1)
	wrote(t, c, "16ffffff 1530fffe 17fffffe 14f0ffff 16000001 16fffff9")
	is(t, "Here", c.Here(), 6)
}

// P17.2: the least and the greatest place, and those next to them, for the two widths of jumps.
func TestBackTooFar(t *testing.T) {
	for _, x := range []struct {
		op, least, most int // the least and the greatest number
	}{
		{instr.BR, -1 << 23, 1<<23 - 1},
		{instr.CALL, -1 << 23, 1<<23 - 1},
		{instr.BZ, -1 << 15, 1<<15 - 1},
		{instr.BNZ, -1 << 15, 1<<15 - 1},
	} {
		for _, at := range []int{0, 1, 7} {
			for _, to := range []int{at + 1 + x.least, at + 1 + x.most} {
				c := filled(at)
				c.Back(x.op, 0, to)
				failed(t, c, api.OK)
				i, _ := instr.Decode(finished(t, c).Words[at])
				is(t, "the number", i.Imm, to-at-1)
			}
			for _, to := range []int{at + x.least, at + 2 + x.most, math.MinInt, math.MinInt + at, math.MinInt + at + 1, math.MaxInt, 1<<32 + at, -1<<32 + at} {
				c := filled(at)
				c.Back(x.op, 0, to)
				failed(t, c, api.ErrFar)
				is(t, "Here", c.Here(), at+1)
			}
		}
	}
}

// P17.2: what Jump refuses.
func TestBackOfWrong(t *testing.T) {
	c := filled(3)
	c.Back(99, 0, 1)
	failed(t, c, api.ErrWord)
	is(t, "Here", c.Here(), 4)
	c = filled(3)
	c.Back(instr.BR, 1, 1)
	failed(t, c, api.ErrField)
	c = filled(3)
	c.Back(instr.BZ, 16, math.MinInt)
	failed(t, c, api.ErrField)
	c = filled(3)
	c.Back(instr.JR, 3, 1)
	failed(t, c, api.ErrFar)
	c = filled(full - 1)
	c.Back(instr.BR, 0, 0)
	is(t, "the word 16383", int(finished(t, c).Words[full-1]), 0x16ffc000)
	c.Back(instr.BR, 0, 0)
	failed(t, c, api.ErrCode)
	is(t, "Here", c.Here(), full)
}

// P17.2
func TestFix(t *testing.T) {
	c := emit.New()
	c.Fix(api.FixData, 0, 12, 3)
	c.Fix(api.FixExc, 2, 5, 0)
	halts(c, 1)
	c.Fix(api.FixCall, 1, 77, 9) // the register does not matter
	c.Fix(api.FixHeap, 0, 0, 15)
	c.Fix(0, -1, -2, 1)
	c.Fix(5, 65, 1<<20, 2)
	c.Fix(api.FixCall, 0, 0, 99)
	wrote(t, c, "03300000 04330000 03000000 04000000 01000000 17000000 03f00000 04ff0000 03100000 04110000 03200000 04220000 17000000")
	want := []api.Fixup{{At: 0, Kind: 1, Value: 12}, {At: 2, Kind: 2, Module: 2, Value: 5}, {At: 5, Kind: 3, Module: 1, Value: 77}, {At: 6, Kind: 4}, {At: 8, Module: -1, Value: -2}, {At: 10, Kind: 5, Module: 65, Value: 1 << 20}, {At: 12, Kind: 3}}
	if r := finished(t, c); !slices.Equal(r.Fixups, want) {
		t.Errorf("the fixups %v, not %v", r.Fixups, want)
	}
}

// P17.2: all kinds, modules and values, also far off, are recorded as they are.
func TestFixOfFarNumbers(t *testing.T) {
	c := emit.New()
	var want []api.Fixup
	for _, kind := range append([]int{2, 3, 4, 5}, far...) {
		for _, n := range far {
			for _, x := range []api.Fixup{{At: c.Here(), Kind: kind, Module: n, Value: 3}, {At: c.Here(), Kind: kind, Module: 3, Value: n}} {
				x.At = c.Here()
				c.Fix(x.Kind, x.Module, x.Value, 1)
				want = append(want, x)
				if kind == 3 {
					is(t, "Here", c.Here(), x.At+1)
				} else {
					is(t, "Here", c.Here(), x.At+2)
				}
			}
		}
	}
	if r := finished(t, c); !slices.Equal(r.Fixups, want) {
		t.Errorf("the fixups %v, not %v", r.Fixups, want)
	}
}

// P17.2: what Put refuses behind it.
func TestFixOfWrong(t *testing.T) {
	for _, register := range []int{-1, 16, math.MinInt, math.MaxInt} {
		c := emit.New()
		c.Fix(api.FixData, 0, 0, register)
		failed(t, c, api.ErrField)
		is(t, "Here", c.Here(), 2)
		c = emit.New()
		c.Fix(api.FixCall, 0, 0, register)
		failed(t, c, api.OK)
		is(t, "Here", c.Here(), 1)
	}
	for _, x := range []struct {
		words, kind int
		want        api.Errno
	}{
		{full - 2, api.FixHeap, api.OK},
		{full - 1, api.FixCall, api.OK},
		{full - 1, api.FixData, api.ErrCode},
		{full, api.FixCall, api.ErrCode},
		{full, api.FixExc, api.ErrCode},
	} {
		c := filled(x.words)
		c.Fix(x.kind, 1, 1, 1)
		failed(t, c, x.want)
		is(t, "Here", c.Here(), full)
		if r, e := c.Finish(); e == api.OK && !slices.Equal(r.Fixups, []api.Fixup{{At: x.words, Kind: x.kind, Module: 1, Value: 1}}) {
			t.Errorf("the fixups %v", r.Fixups)
		}
	}
}

// P17.3
func TestPushPop(t *testing.T) {
	c := emit.New()
	c.Push(3)
	is(t, "Depth", c.Depth(), 1)
	wrote(t, c, "05fffffc 133f0000")
	c.Push(0)
	is(t, "Depth", c.Depth(), 2)
	c.Pop(15)
	is(t, "Depth", c.Depth(), 1)
	c.Pop(4)
	is(t, "Depth", c.Depth(), 0)
	wrote(t, c, "05fffffc 133f0000 05fffffc 130f0000 12ff0000 05ff0004 124f0000 05ff0004")
	c.Pop(1)
	is(t, "Depth", c.Depth(), 0)
	is(t, "Here", c.Here(), 10)
	failed(t, c, api.OK)
}

// P17.3
func TestPushPopOfNoRegister(t *testing.T) {
	for _, register := range []int{-1, 16, math.MinInt, math.MaxInt} {
		c := emit.New()
		c.Push(register)
		failed(t, c, api.ErrField)
		is(t, "Here", c.Here(), 2)
		is(t, "Depth", c.Depth(), 1)
		c = emit.New()
		c.Push(1)
		c.Pop(register)
		failed(t, c, api.ErrField)
		is(t, "Here", c.Here(), 4)
		is(t, "Depth", c.Depth(), 0)
	}
	for many := full - 2; many <= full; many++ {
		for _, call := range []func(c *emit.Code){func(c *emit.Code) { c.Push(1) }, func(c *emit.Code) { c.Pop(1) }} {
			c := filled(many)
			call(c)
			is(t, "Here", c.Here(), full)
			if many == full-2 {
				failed(t, c, api.OK)
			} else {
				failed(t, c, api.ErrCode)
			}
		}
	}
}

// P17.3: the processor gets back what waits, the last one first.
func TestPushPopIsExecuted(t *testing.T) {
	c := emit.New()
	for n := range int32(8) {
		c.Number(int(n), 100+n)
		c.Push(int(n))
	}
	for n := range 8 {
		c.Pop(8 - n)
	}
	c.Put(instr.Instr{Op: instr.HALT})
	words := finished(t, c).Words
	p, m := executed(t, words)
	for n := range uint32(8) {
		is(t, "a register", int(p.R[8-n]), int(107-n))
		w, e := m.Load(m.Layout().Stack - 4*(n+1))
		if w != 100+n || e != api.OK {
			t.Errorf("the word %d of the stack: %d %d", n, w, e)
		}
	}
	is(t, "register 15", int(p.R[15]), 4*len(words)+1024)
}

// P17.3
func TestDrop(t *testing.T) {
	c := emit.New()
	for _, x := range []struct{ push, drop, want int }{
		{0, 0, 0},
		{0, 1, 0},
		{0, 5, 0},
		{5, 0, 5},
		{0, 2, 3},
		{0, 1, 2},
		{1, 1, 2},
		{0, 3, 0},
		{1, 1, 0},
		{4, 4, 0},
		{4, math.MaxInt, 0},
		{3, math.MaxInt32, 0},
		{2, 1<<32 + 1, 0},
		{0, math.MaxInt, 0},
	} {
		for range x.push {
			c.Push(1)
		}
		here := c.Here()
		c.Drop(x.drop)
		is(t, "Depth", c.Depth(), x.want)
		is(t, "Here", c.Here(), here)
	}
	failed(t, c, api.OK)
}

// P17.3: a number below 0 lets more wait; as far as an int counts, so that never fewer than none wait.
func TestDropBelowZero(t *testing.T) {
	c := emit.New()
	c.Drop(-3)
	is(t, "Depth", c.Depth(), 3)
	c.Pop(1)
	is(t, "Depth", c.Depth(), 2)
	c.Drop(-1)
	is(t, "Depth", c.Depth(), 3)
	is(t, "Most", c.Most(), 3)
	c.Drop(-4)
	c.Drop(2)
	is(t, "Depth", c.Depth(), 5)
	is(t, "Most", c.Most(), 7)
	c.Drop(math.MinInt)
	is(t, "Depth", c.Depth(), math.MaxInt)
	c.Push(1)
	is(t, "Depth", c.Depth(), math.MaxInt)
	c.Drop(math.MinInt + 1)
	is(t, "Depth", c.Depth(), math.MaxInt)
	is(t, "Most", c.Most(), math.MaxInt)
	c.Drop(math.MaxInt)
	is(t, "Depth", c.Depth(), 0)
	c.Drop(math.MinInt)
	is(t, "Depth", c.Depth(), math.MaxInt)
}

// P17.3
func TestMost(t *testing.T) {
	c := emit.New()
	is(t, "Most", c.Most(), 0)
	c.Push(1)
	c.Pop(1)
	is(t, "Most after a Push and a Pop", c.Most(), 1)
	is(t, "Most again", c.Most(), 0)
	for range 4 {
		c.Push(1)
	}
	is(t, "Most", c.Most(), 4)
	is(t, "Most again", c.Most(), 4)
	c.Pop(1)
	is(t, "Most after a Pop", c.Most(), 4)
	is(t, "Most again", c.Most(), 3)
	for range 5 {
		c.Push(1)
		c.Pop(1)
	}
	is(t, "Most after Push and Pop by turns", c.Most(), 4)
	is(t, "Most again", c.Most(), 3)
	c.Drop(2)
	c.Push(1)
	c.Push(1)
	c.Drop(0)
	is(t, "Most", c.Most(), 3)
	c.Push(1)
	c.Push(1)
	c.Drop(99)
	c.Push(1)
	is(t, "Most", c.Most(), 5)
	is(t, "Most again", c.Most(), 1)
	c.Pop(1)
	c.Pop(1)
	c.Push(1)
	is(t, "Most", c.Most(), 1)
	is(t, "Depth", c.Depth(), 1)
}

// P17.3: Depth and Most count behind an error, too, and count nothing that Hide, Show and the others do.
func TestMostOfOthers(t *testing.T) {
	c := emit.New()
	c.Push(1)
	c.Guard(c.Pad())
	was := c.Hide()
	c.Fix(api.FixCall, 0, 0, 0)
	c.Sign(instr.STW, 1, 15, 0)
	c.Show(was)
	c.Fail(api.ErrFar)
	c.Push(1)
	is(t, "Depth", c.Depth(), 2)
	is(t, "Most", c.Most(), 2)
	c.Drop(1)
	c.Finish()
	is(t, "Depth", c.Depth(), 1)
	is(t, "Most", c.Most(), 2)
	is(t, "Most", c.Most(), 1)
}

// P17.4
func TestPad(t *testing.T) {
	c := emit.New()
	for n := range 100 {
		is(t, "Pad", c.Pad(), n)
		if n%3 == 0 {
			c.Set(n)
			c.Guard(n)
			halts(c, 1)
		}
		if n%5 == 0 {
			c.Show(c.Hide())
			c.Unguard()
		}
	}
	failed(t, c, api.OK)
}

// P17.4: the pads that are not there.
func TestSetOfNoPad(t *testing.T) {
	c := emit.New()
	for _, pad := range far {
		c.Set(pad)
	}
	is(t, "Pad", c.Pad(), 0) // was not there yet when it was Set
	c.Guard(0)
	halts(c, 1)
	segmented(t, c, 0, -1)
	for _, pad := range far {
		if pad != 0 {
			c.Set(pad)
		}
	}
	is(t, "Pad", c.Pad(), 1)
	halts(c, 1)
	segmented(t, c, 0, -1)
	c.Set(0)
	halts(c, 1)
	segmented(t, c, 0, 2)
}

// P17.4: the last Set counts.
func TestSetTwice(t *testing.T) {
	c := emit.New()
	p := c.Pad()
	c.Set(p)
	c.Guard(p)
	halts(c, 2)
	c.Unguard()
	segmented(t, c, 0, 0)
	c.Set(p)
	halts(c, 1)
	segmented(t, c, 0, 2, 2, -1)
	c.Set(p)
	c.Set(p)
	halts(c, 1)
	segmented(t, c, 0, 3, 2, -1)
}

// guarded writes a word with a pad in effect.
func guarded(c *emit.Code, pad int) {
	c.Guard(pad)
	halts(c, 1)
	c.Unguard()
}

// P17.4: a pad that is Set later, never, ahead of what it guards; several of them.
func TestGuard(t *testing.T) {
	c := emit.New()
	ahead, later, never, zero := c.Pad(), c.Pad(), c.Pad(), c.Pad()
	c.Set(zero)
	halts(c, 1)
	c.Set(ahead)
	guarded(c, ahead)
	guarded(c, later)
	guarded(c, never)
	guarded(c, zero)
	guarded(c, ahead)
	halts(c, 1)
	segmented(t, c, 0, -1, 1, 1, 2, -1, 4, 0, 5, 1, 6, -1)
	c.Set(later)
	halts(c, 1)
	segmented(t, c, 0, -1, 1, 1, 2, 7, 3, -1, 4, 0, 5, 1, 6, -1)
}

// P17.4: guarded parts within each other, of which the innermost counts.
func TestGuardsWithinEachOther(t *testing.T) {
	c := emit.New()
	outer, inner := c.Pad(), c.Pad()
	halts(c, 1)
	c.Guard(outer)
	halts(c, 2)
	c.Guard(inner)
	halts(c, 1)
	c.Guard(outer)
	halts(c, 1)
	c.Guard(inner)
	c.Unguard()
	c.Unguard()
	halts(c, 1)
	c.Unguard()
	halts(c, 1)
	c.Unguard()
	halts(c, 1)
	c.Set(inner)
	halts(c, 1)
	c.Set(outer)
	halts(c, 1)
	segmented(t, c, 0, -1, 1, 9, 3, 8, 4, 9, 5, 8, 6, 9, 7, -1)
}

// P17.4: the same pad again is one more Guard.
func TestGuardTwice(t *testing.T) {
	c := emit.New()
	p := c.Pad()
	c.Set(p)
	c.Guard(p)
	halts(c, 1)
	c.Guard(p)
	halts(c, 1)
	c.Unguard()
	halts(c, 1)
	c.Unguard()
	halts(c, 1)
	guarded(c, p)
	segmented(t, c, 0, 0, 3, -1, 4, 0)
}

// P17.4
func TestUnguard(t *testing.T) {
	c := emit.New()
	p := c.Pad()
	c.Set(p)
	c.Unguard()
	halts(c, 1)
	c.Unguard()
	c.Guard(p)
	halts(c, 1)
	for range 5 {
		c.Unguard()
		halts(c, 1)
	}
	guarded(c, p)
	c.Unguard()
	halts(c, 1)
	segmented(t, c, 0, -1, 1, 0, 2, -1, 7, 0, 8, -1)
	failed(t, c, api.OK)
}

// P17.4: a Guard of a pad that is not there is none, and takes nothing from those that are.
func TestGuardOfNoPad(t *testing.T) {
	for _, pad := range far {
		if pad == 0 {
			continue
		}
		c := emit.New()
		p := c.Pad()
		c.Set(p)
		c.Guard(pad)
		halts(c, 1)
		c.Unguard()
		guarded(c, p)
		halts(c, 1)
		segmented(t, c, 0, -1, 1, 0, 2, -1)
	}
	c := emit.New()
	c.Guard(0)
	halts(c, 1)
	c.Set(c.Pad())
	halts(c, 1)
	segmented(t, c, 0, -1)
}

// P17.4: each of the words that a call writes is guarded, and none that was written before.
func TestGuardOfAllCalls(t *testing.T) {
	c := emit.New()
	p := c.Pad()
	c.Set(p)
	for _, call := range []func(){
		func() { c.Number(1, 1) },
		func() { c.Number(1, 1<<16) },
		func() { c.Three(instr.ADD, 1, 2, 3) },
		func() { c.Sign(instr.ADDI, 1, 2, 3) },
		func() { c.Reg(instr.JR, 1) },
		func() { c.Jump(instr.BR, 0) },
		func() { c.Back(instr.BR, 0, 0) },
		func() { c.Fix(api.FixCall, 0, 0, 0) },
		func() { c.Fix(api.FixData, 0, 0, 0) },
		func() { c.Push(1) },
		func() { c.Pop(1) },
	} {
		first := c.Here()
		c.Guard(p)
		call()
		c.Unguard()
		behind := c.Here()
		call()
		list := finished(t, c).Segments
		for at := range c.Here() {
			want := -1
			if at >= first && at < behind {
				want = 0
			}
			if at >= first {
				is(t, "the pad of a word", ranges.Find(list, at), want)
			}
		}
		is(t, "words that are guarded", behind-first, c.Here()-behind)
	}
	before := finished(t, c)
	c.Guard(p)
	c.Patch(0, 2)
	c.Drop(1)
	c.Set(c.Pad())
	if after := finished(t, c); !slices.Equal(before.Segments, after.Segments) {
		t.Errorf("the segments became %v", after.Segments)
	}
}

// P17.4: without a Guard, and within some.
func TestHide(t *testing.T) {
	c := emit.New()
	a, b := c.Pad(), c.Pad()
	c.Set(a)
	halts(c, 1)
	c.Set(b)
	was := c.Hide()
	is(t, "Hide without a Guard", len(was), 0)
	halts(c, 1)
	c.Show(was)
	halts(c, 1)
	c.Guard(a)
	c.Guard(b)
	halts(c, 1)
	was = c.Hide()
	halts(c, 1)
	c.Show(was)
	halts(c, 1)
	c.Unguard()
	halts(c, 1)
	c.Unguard()
	halts(c, 1)
	c.Unguard()
	halts(c, 1)
	segmented(t, c, 0, -1, 3, 1, 4, -1, 5, 1, 6, 0, 7, -1)
}

// P17.4: Guard and Unguard between Hide and Show change nothing of what was hidden.
func TestGuardWhileHidden(t *testing.T) {
	c := emit.New()
	a, b := c.Pad(), c.Pad()
	c.Set(a)
	halts(c, 1)
	c.Set(b)
	c.Guard(a)
	was := c.Hide()
	guarded(c, b)
	c.Unguard()
	c.Unguard()
	halts(c, 1)
	c.Guard(b)
	c.Guard(b)
	c.Guard(a)
	c.Unguard()
	halts(c, 1)
	c.Show(was)
	halts(c, 1)
	c.Unguard()
	halts(c, 1)
	c.Unguard()
	halts(c, 1)
	segmented(t, c, 0, -1, 1, 1, 2, -1, 3, 1, 4, 0, 5, -1)
}

// P17.4: one within the other.
func TestHideTwice(t *testing.T) {
	c := emit.New()
	a, b, d := c.Pad(), c.Pad(), c.Pad()
	c.Set(a)
	halts(c, 1)
	c.Set(b)
	halts(c, 1)
	c.Set(d)
	c.Guard(a)
	outer := c.Hide()
	c.Guard(b)
	c.Guard(d)
	inner := c.Hide()
	is(t, "Hide of nothing", len(c.Hide()), 0)
	halts(c, 1)
	c.Show(inner)
	halts(c, 1)
	c.Unguard()
	halts(c, 1)
	c.Unguard()
	c.Unguard()
	halts(c, 1)
	c.Show(outer)
	halts(c, 1)
	c.Unguard()
	halts(c, 1)
	segmented(t, c, 0, -1, 3, 2, 4, 1, 5, -1, 6, 0, 7, -1)
}

// P17.4: what an earlier Hide gave, also more than once, and where others are in effect.
func TestShowOfEarlier(t *testing.T) {
	c := emit.New()
	a, b, d := c.Pad(), c.Pad(), c.Pad()
	c.Set(a)
	halts(c, 1)
	c.Set(b)
	halts(c, 1)
	c.Set(d)
	none := c.Hide()
	c.Guard(a)
	c.Guard(b)
	first := c.Hide()
	c.Guard(d)
	second := c.Hide()
	for _, was := range [][]int{first, second, first, first, none, second} {
		c.Show(was)
		halts(c, 1)
	}
	segmented(t, c, 0, -1, 2, 1, 3, 2, 4, 1, 6, -1, 7, 2)
	c.Unguard()
	halts(c, 1)
	c.Show(first)
	c.Unguard()
	halts(c, 1)
	c.Show(second)
	c.Show(first)
	c.Unguard()
	c.Unguard()
	c.Unguard()
	halts(c, 1)
	segmented(t, c, 0, -1, 2, 1, 3, 2, 4, 1, 6, -1, 7, 2, 8, -1, 9, 0, 10, -1)
}

// P1, P17.4: Show of any list.
func TestShowOfAny(t *testing.T) {
	c := emit.New()
	c.Set(c.Pad())
	c.Guard(0)
	c.Show(far[:7]) // none of them is a pad
	halts(c, 1)
	segmented(t, c, 0, -1)
	c.Show(far)
	halts(c, 1)
	for range 2 * len(far) {
		c.Unguard()
	}
	halts(c, 1)
	list := finished(t, c).Segments
	is(t, "the pad of the word 2", ranges.Find(list, 2), -1)
	c.Show(nil)
	c.Show([]int{})
	is(t, "Hide of nothing", len(c.Hide()), 0)
}

// P17.5: the chapter's example.
func TestFinishOfExample(t *testing.T) {
	c := emit.New()
	pad := c.Pad()
	c.Guard(pad)
	c.Push(0)
	c.Pop(0)
	c.Unguard()
	is(t, "Most", c.Most(), 1)
	halts(c, 1)
	c.Set(pad)
	halts(c, 1)
	segmented(t, c, 0, 5, 4, -1)
	list := finished(t, c).Segments
	is(t, "the pad of the word 2", ranges.Find(list, 2), 5)
	is(t, "the pad of the word 5", ranges.Find(list, 5), -1)
}

// P17.5: no word at all, whatever else was done.
func TestFinishOfNothing(t *testing.T) {
	c := emit.New()
	p := c.Pad()
	c.Guard(p)
	c.Set(p)
	c.Show(c.Hide())
	c.Drop(3)
	r := finished(t, c)
	if len(r.Words)+len(r.Fixups)+len(r.Segments) > 0 {
		t.Errorf("Finish of nothing: %v", r)
	}
}

// P17.5
func TestFinishWithError(t *testing.T) {
	for _, e := range []api.Errno{api.ErrTemps, api.ErrFar, 1, -1} {
		c := emit.New()
		c.Guard(c.Pad())
		c.Set(0)
		c.Fix(api.FixCall, 1, 2, 0)
		c.Push(1)
		c.Fail(e)
		failed(t, c, e)
		failed(t, c, e)
		is(t, "Here", c.Here(), 3)
		is(t, "Depth", c.Depth(), 1)
		is(t, "Most", c.Most(), 1)
	}
}

// P17.5: Finish changes nothing: twice the same, and what is written afterwards comes behind it.
func TestFinishTwice(t *testing.T) {
	c := emit.New()
	a, b := c.Pad(), c.Pad()
	c.Guard(a)
	c.Fix(api.FixCall, 1, 2, 0)
	c.Guard(b)
	c.Push(1)
	c.Set(a)
	c.Unguard()
	c.Number(1, 1)
	one, two := finished(t, c), finished(t, c)
	if !slices.Equal(one.Words, two.Words) || !slices.Equal(one.Fixups, two.Fixups) || !slices.Equal(one.Segments, two.Segments) {
		t.Fatalf("%v, and then %v", one, two)
	}
	segmented(t, c, 0, 3, 1, -1, 3, 3)
	is(t, "Depth", c.Depth(), 1)
	is(t, "Most", c.Most(), 1)
	is(t, "Pad", c.Pad(), 2)
	c.Set(b)
	c.Fix(api.FixHeap, 0, 0, 2)
	c.Unguard()
	halts(c, 1)
	wrote(t, c, "17000000 05fffffc 131f0000 02100001 03200000 04220000 01000000")
	segmented(t, c, 0, 3, 1, 4, 3, 3, 6, -1)
	if r := finished(t, c); !slices.Equal(r.Fixups, []api.Fixup{{At: 0, Kind: 3, Module: 1, Value: 2}, {At: 4, Kind: 4}}) {
		t.Errorf("the fixups %v", r.Fixups)
	}
}

// P17.5: words next to each other with the same pad, or without one, are in one segment; for two pads at one place that is left open.
func TestFewestSegments(t *testing.T) {
	c := emit.New()
	p, never, other := c.Pad(), c.Pad(), c.Pad()
	c.Set(p)
	halts(c, 2)
	guarded(c, never)
	guarded(c, other)
	c.Show(c.Hide())
	halts(c, 1)
	segmented(t, c, 0, -1)
	for range 3 {
		guarded(c, p)
	}
	c.Guard(p)
	guarded(c, p)
	halts(c, 1)
	c.Show(c.Hide())
	halts(c, 1)
	was := c.Hide()
	c.Guard(other)
	c.Show(was)
	halts(c, 1)
	c.Guard(never)
	c.Unguard()
	halts(c, 1)
	segmented(t, c, 0, -1, 5, 0)
	c.Unguard()
	twin, twins := c.Pad(), c.Pad()
	c.Set(twin)
	c.Set(twins)
	guarded(c, twin)
	guarded(c, twins)
	halts(c, 1)
	list := finished(t, c).Segments
	for at, want := range map[int]int{12: 0, 13: 13, 14: 13, 15: -1} {
		is(t, "the pad of a word", ranges.Find(list, at), want)
	}
	if len(list) < 4 || len(list) > 5 {
		t.Errorf("the segments %v", list)
	}
}

// P17.5: a pad behind all words.
func TestPadAtTheEnd(t *testing.T) {
	c := emit.New()
	p := c.Pad()
	guarded(c, p)
	halts(c, 2)
	c.Set(p)
	segmented(t, c, 0, 3, 1, -1)
	c = filled(full - 1)
	p = c.Pad()
	guarded(c, p)
	c.Set(p)
	segmented(t, c, 0, -1, full-1, full)
}

// P17.5: as many segments as words, and no more than two.
func TestManySegments(t *testing.T) {
	c := emit.New()
	a, b := c.Pad(), c.Pad()
	c.Set(a)
	for n := range full {
		if n == 1 {
			c.Set(b)
		}
		guarded(c, n%2)
	}
	list := finished(t, c).Segments
	is(t, "segments", len(list), full)
	for n, s := range list {
		if s != (api.Segment{Start: n, Pad: n % 2}) {
			t.Fatalf("the segment %d: %v", n, s)
		}
	}
	c.Set(b)
	if list := finished(t, c).Segments; len(list) != full || list[1].Pad != full {
		t.Errorf("%d segments after Set", len(list))
	}
}

// P17.6: a loop that counts: jumps ahead and back, each to where it is told to.
func TestJumpsAreExecuted(t *testing.T) {
	c := emit.New()
	c.Number(1, 40000)
	c.Number(2, 0)
	over := c.Jump(instr.BR, 0)
	c.Number(2, 99)
	c.Land(over)
	again := c.Here()
	c.Sign(instr.ADDI, 2, 2, 2)
	c.Sign(instr.ADDI, 1, 1, -1)
	out := c.Jump(instr.BZ, 1)
	c.Back(instr.BR, 0, again)
	c.Land(out)
	call := c.Jump(instr.CALL, 0)
	c.Reg(instr.CHKS, 0)
	c.Put(instr.Instr{Op: instr.HALT})
	c.Land(call)
	c.Number(3, -5)
	c.Reg(instr.JR, cpu.Link)
	p, _ := executed(t, finished(t, c).Words)
	is(t, "register 2", int(p.R[2]), 80000)
	is(t, "register 1", int(p.R[1]), 0)
	is(t, "register 3", int(int32(p.R[3])), -5)
}

// P17.6: jumps of all operations over any words, landed in any order, and several at one place.
func TestLandLeadsHere(t *testing.T) {
	next := random(176)
	for range 300 {
		c := emit.New()
		var jumps []int
		want := map[int]int{}
		for range 60 {
			switch next() % 4 {
			case 0:
				op := []int{instr.BR, instr.CALL, instr.BZ, instr.BNZ}[next()%4]
				a := 0
				if op == instr.BZ || op == instr.BNZ {
					a = next() % 16
				}
				jumps = append(jumps, c.Jump(op, a))
			case 1:
				if len(jumps) > 0 {
					n := next() % len(jumps)
					c.Land(jumps[n])
					want[jumps[n]] = c.Here()
				}
			default:
				halts(c, next()%5)
			}
		}
		words := finished(t, c).Words
		for at, to := range want {
			i, e := instr.Decode(words[at])
			if e != api.OK || at+1+i.Imm != to {
				t.Fatalf("the jump at %d leads to %d, not to %d", at, at+1+i.Imm, to)
			}
		}
	}
}

// model tells what a Code must hold: it keeps what was said, and works all out at the end.
type model struct {
	words  []uint32
	under  []int // the pad of each word; -1
	fixups []api.Fixup
	err    api.Errno
	depths []int // since Most was called last
	places map[int]int
	pads   int
	guards []int
}

func newModel() *model { return &model{depths: []int{0}, places: map[int]int{}} }

func (m *model) fail(e api.Errno) {
	if m.err == 0 {
		m.err = e
	}
}

func (m *model) put(i instr.Instr) int {
	w, e := instr.Encode(i)
	if e != 0 {
		m.fail(e)
		w = 1 << 24
	}
	if len(m.words) == 16384 {
		m.fail(api.ErrCode)
		return 16383
	}
	pad := -1
	for _, g := range m.guards {
		pad = g
	}
	m.words, m.under = append(m.words, w), append(m.under, pad)
	return len(m.words) - 1
}

func (m *model) patch(at, n int) {
	if at < 0 || at >= len(m.words) {
		m.fail(api.ErrFar)
		return
	}
	i, _ := instr.Decode(m.words[at])
	i.Imm = n
	w, e := instr.Encode(i)
	if e != 0 {
		m.fail(api.ErrFar)
		return
	}
	m.words[at] = w
}

func (m *model) depth() int { return m.depths[len(m.depths)-1] }

func (m *model) wait(more int) { m.depths = append(m.depths, max(0, m.depth()+more)) }

func (m *model) most() int {
	n := slices.Max(m.depths)
	m.depths = []int{m.depth()}
	return n
}

// place returns where what is raised in a word goes on.
func (m *model) place(at int) int {
	if to, ok := m.places[m.under[at]]; ok {
		return to
	}
	return -1
}

// agrees fails unless Finish returns what it must. A segment begins where the place is another one; it may begin where it is the same one of two pads.
func (m *model) agrees(t *testing.T, c *emit.Code) {
	t.Helper()
	r, e := c.Finish()
	if e != m.err {
		t.Fatalf("Finish: %d, not %d", e, m.err)
	}
	if e != 0 {
		failed(t, c, e)
		return
	}
	if !slices.Equal(r.Words, m.words) || !slices.Equal(r.Fixups, m.fixups) {
		t.Fatalf("Finish: %x %v, not %x %v", r.Words, r.Fixups, m.words, m.fixups)
	}
	n := 0
	for at := range m.words {
		begins := n < len(r.Segments) && r.Segments[n].Start == at
		must := at == 0 || m.place(at) != m.place(at-1)
		may := must || m.place(at) != -1 && m.under[at] != m.under[at-1]
		if must && !begins || begins && (!may || r.Segments[n].Pad != m.place(at)) {
			t.Fatalf("the segments %v at the word %d, whose place is %d", r.Segments, at, m.place(at))
		}
		if begins {
			n++
		}
	}
	is(t, "segments", len(r.Segments), n)
}

// both are a Code, and what it must be.
type both struct {
	t    *testing.T
	c    *emit.Code
	m    *model
	next func() int
	hid  [][]int // what Hide returned
	was  [][]int // what it must be
}

// any returns a number; seldom one far off.
func (b *both) any(most int) int {
	if b.next()%400 == 0 {
		return far[b.next()%len(far)]
	}
	return b.next() % (most + 1)
}

func (b *both) is(what string, got, want int) {
	b.t.Helper()
	is(b.t, what, got, want)
}

// writes makes one call that writes words.
func (b *both) writes() {
	a, d, n := b.any(15), b.any(15), b.any(0x7fff)
	switch b.next() % 10 {
	case 0:
		b.is("Put", b.c.Put(instr.Instr{Op: instr.HALT}), b.m.put(instr.Instr{Op: instr.HALT}))
	case 1:
		b.is("Three", b.c.Three(instr.MUL, a, d, a), b.m.put(instr.Instr{Op: instr.MUL, A: a, B: d, C: a}))
	case 2:
		b.is("Sign", b.c.Sign(instr.LDW, a, d, n), b.m.put(instr.Instr{Op: instr.LDW, A: a, B: d, Imm: n}))
	case 3:
		b.is("Reg", b.c.Reg(instr.CHKS, a), b.m.put(instr.Instr{Op: instr.CHKS, A: a}))
	case 4:
		b.is("Jump", b.c.Jump(instr.BZ, a), b.m.put(instr.Instr{Op: instr.BZ, A: a}))
	case 5:
		b.number(a, int32(b.next()<<16|n)>>(d&31))
	case 6:
		b.c.Back(instr.BNZ, a, n)
		at := b.m.put(instr.Instr{Op: instr.BNZ, A: a})
		b.m.patch(at, n-at-1)
	case 7:
		b.fix(b.any(5), d, n, a)
	case 8:
		b.c.Push(a)
		b.m.put(instr.Instr{Op: instr.ADDI, A: 15, B: 15, Imm: -4})
		b.m.put(instr.Instr{Op: instr.STW, A: a, B: 15})
		b.m.wait(1)
	default:
		b.c.Pop(a)
		b.m.put(instr.Instr{Op: instr.LDW, A: a, B: 15})
		b.m.put(instr.Instr{Op: instr.ADDI, A: 15, B: 15, Imm: 4})
		b.m.wait(-1)
	}
}

func (b *both) number(a int, n int32) {
	b.c.Number(a, n)
	if n >= -32768 && n <= 32767 {
		b.m.put(instr.Instr{Op: instr.LDI, A: a, Imm: int(n)})
		return
	}
	all := int(n) + 1<<32
	b.m.put(instr.Instr{Op: instr.LUI, A: a, Imm: all / 65536 % 65536})
	b.m.put(instr.Instr{Op: instr.ORI, A: a, B: a, Imm: all % 65536})
}

func (b *both) fix(kind, module, value, a int) {
	b.c.Fix(kind, module, value, a)
	b.m.fixups = append(b.m.fixups, api.Fixup{At: len(b.m.words), Kind: kind, Module: module, Value: value})
	if kind == 3 {
		b.m.put(instr.Instr{Op: instr.CALL})
		return
	}
	b.m.put(instr.Instr{Op: instr.LUI, A: a})
	b.m.put(instr.Instr{Op: instr.ORI, A: a, B: a})
}

// guards makes one call that has to do with pads.
func (b *both) guards() {
	pad := b.any(max(0, b.m.pads-1))
	exists := pad >= 0 && pad < b.m.pads
	switch b.next() % 7 {
	case 0:
		b.is("Pad", b.c.Pad(), b.m.pads)
		b.m.pads++
	case 1:
		b.c.Set(pad)
		if exists {
			b.m.places[pad] = len(b.m.words)
		}
	case 2, 3:
		b.c.Guard(pad)
		if exists {
			b.m.guards = append(slices.Clone(b.m.guards), pad)
		}
	case 4:
		b.c.Unguard()
		b.m.guards = b.m.guards[:max(0, len(b.m.guards)-1)]
	case 5:
		b.hid, b.was = append(b.hid, b.c.Hide()), append(b.was, b.m.guards)
		b.m.guards = nil
	default:
		if len(b.hid) > 0 {
			n := b.next() % len(b.hid)
			b.c.Show(b.hid[n])
			b.m.guards = b.was[n]
		}
	}
}

// changes makes one call that changes words, or what waits.
func (b *both) changes() {
	at := b.any(max(0, len(b.m.words)-1))
	switch b.next() % 5 {
	case 0:
		b.is("Most", b.c.Most(), b.m.most())
	case 1:
		n := b.next() % 4
		b.c.Drop(n)
		b.m.wait(-n)
	case 2:
		if at < 0 || at >= len(b.m.words) || isJump(b.m.words[at]) {
			b.c.Land(at)
			b.m.patch(at, len(b.m.words)-at-1)
		}
	case 3:
		if at < 0 || at >= len(b.m.words) || isJump(b.m.words[at]) {
			n := b.any(0x7fff)
			b.c.Patch(at, n)
			b.m.patch(at, n)
		}
	default:
		if b.next()%100 == 0 {
			b.c.Fail(api.ErrTemps)
			b.m.fail(api.ErrTemps)
		}
	}
}

func isJump(w uint32) bool {
	op := int(w >> 24)
	return op == instr.BZ || op == instr.BNZ || op == instr.CALL
}

// P17.1 to P17.5, P1: long rows of calls, with numbers far off among them, each held against the model.
func TestRowsOfCalls(t *testing.T) {
	next := random(17)
	fine, wrong, many := 0, 0, 0
	for range 1500 {
		b := &both{t: t, c: emit.New(), m: newModel(), next: next}
		for range 10 + next()%120 {
			switch next() % 5 {
			case 0, 1:
				b.writes()
			case 2, 3:
				b.guards()
			default:
				b.changes()
			}
			b.is("Here", b.c.Here(), len(b.m.words))
			b.is("Err", int(b.c.Err()), int(b.m.err))
			b.is("Depth", b.c.Depth(), b.m.depth())
			if next()%10 == 0 {
				b.m.agrees(t, b.c)
			}
		}
		b.m.agrees(t, b.c)
		r, e := b.c.Finish()
		if e == 0 {
			fine++
		} else {
			wrong++
		}
		if len(r.Segments) > 8 {
			many++
		}
	}
	if fine < 300 || wrong < 100 || many < 50 {
		t.Errorf("%d rows without an error, %d with one, %d with many segments", fine, wrong, many)
	}
}

// P1: any numbers, for each call.
func TestAnyArguments(t *testing.T) {
	for _, x := range far {
		for _, y := range far {
			c := emit.New()
			c.Pad()
			c.Guard(x)
			c.Three(x, y, x, y)
			c.Three(instr.ADD, x, y, x)
			c.Sign(x, y, x, y)
			c.Sign(instr.ADDI, x, y, y)
			c.Reg(x, y)
			c.Jump(x, y)
			c.Number(x, int32(y))
			c.Land(x)
			c.Back(instr.BR, 0, x)
			c.Back(x, y, y)
			c.Patch(x, y)
			c.Patch(0, x)
			c.Fix(x, y, x, y)
			c.Push(x)
			c.Drop(y)
			c.Pop(x)
			c.Drop(x)
			c.Push(y)
			c.Set(x)
			c.Show([]int{x, y, 0})
			c.Put(instr.Instr{Op: x, A: y, B: x, C: y, Imm: x})
			c.Unguard()
			c.Show(c.Hide())
			c.Fail(api.Errno(x))
			if c.Depth() < 0 || c.Most() < 0 || c.Here() < 0 {
				t.Fatalf("Depth %d, Here %d", c.Depth(), c.Here())
			}
			failed(t, c, c.Err())
		}
	}
}

// spoil changes all that a list holds, also behind its end.
func spoil[T any](list []T, with T) {
	list = list[:cap(list)]
	for n := range list {
		list[n] = with
	}
}

// P2: what is done to the list that Show was given changes nothing, and Show changes nothing of it.
func TestShowKeepsNothing(t *testing.T) {
	c := emit.New()
	a, b := c.Pad(), c.Pad()
	c.Set(a)
	halts(c, 1)
	c.Set(b)
	room := []int{a, b, 7, 8, 9}
	list := room[:2]
	c.Show(list)
	c.Guard(a)
	c.Unguard()
	c.Unguard()
	c.Guard(b)
	c.Guard(a)
	c.Guard(a)
	if !slices.Equal(room, []int{a, b, 7, 8, 9}) {
		t.Fatalf("Show, Guard and Unguard changed the list to %v", room)
	}
	c.Unguard()
	c.Unguard()
	spoil(list, a)
	halts(c, 1)
	c.Unguard()
	spoil(list, b)
	halts(c, 1)
	c.Unguard()
	halts(c, 1)
	segmented(t, c, 0, -1, 1, 1, 2, 0, 3, -1)
}

// P2: what is done to the list that Hide returned changes nothing; nor does what is done afterwards change it.
func TestHideGivesNothingAway(t *testing.T) {
	c := emit.New()
	a, b := c.Pad(), c.Pad()
	c.Set(a)
	halts(c, 1)
	c.Set(b)
	for range 5 {
		c.Guard(a)
		c.Guard(b)
	}
	was := c.Hide()
	kept := slices.Clone(was)
	c.Guard(a)
	c.Guard(a)
	halts(c, 1)
	if !slices.Equal(was, kept) {
		t.Fatalf("Guard changed what Hide had returned to %v", was)
	}
	spoil(append(was, 1)[:len(was)], b)
	spoil(was, b)
	halts(c, 1)
	c.Unguard()
	halts(c, 1)
	segmented(t, c, 0, -1, 1, 0)
	spoil(was, b)
	c.Show(was)
	again := c.Hide()
	spoil(was, a)
	if slices.Contains(again, a) || len(again) != len(was) {
		t.Fatalf("Hide after Show: %v", again)
	}
	c.Show(again)
	spoil(again, a)
	halts(c, 1)
	segmented(t, c, 0, -1, 1, 0, 4, 1)
}

// P2: what is done to a Result changes nothing; nor does what is written afterwards change it.
func TestFinishGivesNothingAway(t *testing.T) {
	c := emit.New()
	p := c.Pad()
	for n := range 40 {
		if n == 20 {
			c.Set(p)
		}
		guarded(c, p)
		c.Fix(api.FixCall, 1, n, 0)
	}
	at := c.Jump(instr.BR, 0)
	first, second := finished(t, c), finished(t, c)
	want := emit.Result{Words: slices.Clone(first.Words), Fixups: slices.Clone(first.Fixups), Segments: slices.Clone(first.Segments)}
	same := func(what string, r emit.Result) {
		t.Helper()
		if !slices.Equal(r.Words, want.Words) || !slices.Equal(r.Fixups, want.Fixups) || !slices.Equal(r.Segments, want.Segments) {
			t.Fatalf("%s: %v, not %v", what, r, want)
		}
	}
	for _, r := range []emit.Result{first, finished(t, c)} {
		spoil(append(r.Words, 5), 5)
		spoil(r.Words, 5)
		spoil(append(r.Fixups, api.Fixup{}), api.Fixup{At: -9})
		spoil(r.Fixups, api.Fixup{At: -9})
		spoil(append(r.Segments, api.Segment{}), api.Segment{Start: -9})
		spoil(r.Segments, api.Segment{Start: -9})
		same("another Result", second)
		same("a later Result", finished(t, c))
	}
	halts(c, 1)
	c.Land(at)
	c.Set(p)
	c.Fix(api.FixHeap, 0, 0, 1)
	c.Patch(at, 3)
	same("a Result after later calls", second)
}

// P2: a Code depends on nothing but its own calls.
func TestCallsAreIndependent(t *testing.T) {
	for range 3 {
		c := emit.New()
		p := c.Pad()
		is(t, "Pad", p, 0)
		guarded(c, p)
		c.Set(p)
		c.Push(4)
		wrote(t, c, "01000000 05fffffc 134f0000")
		segmented(t, c, 0, 1, 1, -1)
		is(t, "Most", c.Most(), 1)
	}
}

// P1: very much is worked through in good time.
func TestMuch(t *testing.T) {
	const most = 1 << 18
	c := emit.New()
	for n := range most {
		is(t, "Pad", c.Pad(), n)
		c.Guard(n)
		c.Set(n)
	}
	halts(c, 2)
	segmented(t, c, 0, 0)
	for range 3 {
		c.Show(c.Hide())
	}
	for range most - 1 {
		c.Unguard()
		c.Push(1)
		c.Drop(2)
		c.Fix(api.FixData, 0, 0, 1)
	}
	is(t, "Depth", c.Depth(), 0)
	is(t, "Here", c.Here(), full)
	failed(t, c, api.ErrCode)
}
