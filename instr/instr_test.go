package instr_test

import (
	"math"
	"math/bits"
	"slices"
	"strings"
	"testing"

	"pascaline/api"
	"pascaline/instr"
)

// The chapter's list of operations, in its order, each with its number and its shape.
var operations = []struct {
	op     int
	name   string
	number int
	shape  int
}{
	{instr.HALT, "HALT", 1, instr.None},
	{instr.LDI, "LDI", 2, instr.ASign},
	{instr.LUI, "LUI", 3, instr.AWide},
	{instr.ORI, "ORI", 4, instr.ABWide},
	{instr.ADDI, "ADDI", 5, instr.ABSign},
	{instr.ADD, "ADD", 6, instr.ABC},
	{instr.SUB, "SUB", 7, instr.ABC},
	{instr.MUL, "MUL", 8, instr.ABC},
	{instr.DIV, "DIV", 9, instr.ABC},
	{instr.MOD, "MOD", 10, instr.ABC},
	{instr.AND, "AND", 11, instr.ABC},
	{instr.OR, "OR", 12, instr.ABC},
	{instr.XOR, "XOR", 13, instr.ABC},
	{instr.SLT, "SLT", 14, instr.ABC},
	{instr.SLE, "SLE", 15, instr.ABC},
	{instr.SEQ, "SEQ", 16, instr.ABC},
	{instr.SNE, "SNE", 17, instr.ABC},
	{instr.LDW, "LDW", 18, instr.ABSign},
	{instr.STW, "STW", 19, instr.ABSign},
	{instr.BZ, "BZ", 20, instr.ASign},
	{instr.BNZ, "BNZ", 21, instr.ASign},
	{instr.BR, "BR", 22, instr.Far},
	{instr.CALL, "CALL", 23, instr.Far},
	{instr.JR, "JR", 24, instr.A},
	{instr.CALLR, "CALLR", 25, instr.A},
	{instr.CHK, "CHK", 26, instr.ABWide},
	{instr.NIL, "NIL", 27, instr.A},
	{instr.TRAP, "TRAP", 28, instr.Wide},
	{instr.RAISE, "RAISE", 29, instr.A},
	{instr.OUT, "OUT", 30, instr.AWide},
	{instr.IN, "IN", 31, instr.A},
	{instr.CHKS, "CHKS", 32, instr.A},
	{instr.RTC, "RTC", 33, instr.AWide},
	{instr.XORI, "XORI", 34, instr.ABWide},
}

// What the chapter's table says of each shape: its registers, the least and the greatest Imm, and the bits of a word that its fields have.
var shapes = []struct {
	shape       int
	registers   int
	hasImm      bool
	least, most int
	free        uint32
}{
	{instr.None, 0, false, 0, 0, 0},
	{instr.ASign, 1, true, -32768, 32767, 0xf0ffff},
	{instr.AWide, 1, true, 0, 65535, 0xf0ffff},
	{instr.ABSign, 2, true, -32768, 32767, 0xffffff},
	{instr.ABWide, 2, true, 0, 65535, 0xffffff},
	{instr.ABC, 3, false, 0, 0, 0xff000f},
	{instr.A, 1, false, 0, 0, 0xf00000},
	{instr.Far, 0, true, -8388608, 8388607, 0xffffff},
	{instr.Wide, 0, true, 0, 65535, 0x00ffff},
}

// noOperations are the numbers next to the operations and far from them.
var noOperations = []int{0, -1, -2, -34, 35, 36, 64, 255, 256, 257, 1<<32 + 1, math.MaxInt32, math.MinInt32, math.MaxInt, math.MinInt}

// written are instructions with their words and their texts, worked out by hand.
var written = []struct {
	i    instr.Instr
	w    uint32
	text string
}{
	{instr.Instr{Op: instr.HALT}, 0x01000000, "HALT"},
	{instr.Instr{Op: instr.LDI, A: 1, Imm: 5}, 0x02100005, "LDI r1, 5"},
	{instr.Instr{Op: instr.LDI, A: 15, Imm: -32768}, 0x02f08000, "LDI r15, -32768"},
	{instr.Instr{Op: instr.LDI, Imm: 32767}, 0x02007fff, "LDI r0, 32767"},
	{instr.Instr{Op: instr.LUI, A: 2, Imm: 65535}, 0x0320ffff, "LUI r2, 65535"},
	{instr.Instr{Op: instr.LUI}, 0x03000000, "LUI r0, 0"},
	{instr.Instr{Op: instr.ORI, A: 3, B: 4, Imm: 32768}, 0x04348000, "ORI r3, r4, 32768"},
	{instr.Instr{Op: instr.ADDI, A: 1, B: 2, Imm: -1}, 0x0512ffff, "ADDI r1, r2, -1"},
	{instr.Instr{Op: instr.ADDI, A: 15, B: 15, Imm: 32767}, 0x05ff7fff, "ADDI r15, r15, 32767"},
	{instr.Instr{Op: instr.ADD, A: 1, B: 2, C: 3}, 0x06120003, "ADD r1, r2, r3"},
	{instr.Instr{Op: instr.ADD, A: 15, B: 15, C: 15}, 0x06ff000f, "ADD r15, r15, r15"},
	{instr.Instr{Op: instr.ADD}, 0x06000000, "ADD r0, r0, r0"},
	{instr.Instr{Op: instr.SUB, C: 10}, 0x0700000a, "SUB r0, r0, r10"},
	{instr.Instr{Op: instr.MUL, B: 10}, 0x080a0000, "MUL r0, r10, r0"},
	{instr.Instr{Op: instr.DIV, A: 10}, 0x09a00000, "DIV r10, r0, r0"},
	{instr.Instr{Op: instr.MOD, A: 4, B: 5, C: 6}, 0x0a450006, "MOD r4, r5, r6"},
	{instr.Instr{Op: instr.AND, A: 7, B: 8, C: 9}, 0x0b780009, "AND r7, r8, r9"},
	{instr.Instr{Op: instr.OR, A: 11, B: 12, C: 13}, 0x0cbc000d, "OR r11, r12, r13"},
	{instr.Instr{Op: instr.XOR, A: 1, B: 1, C: 1}, 0x0d110001, "XOR r1, r1, r1"},
	{instr.Instr{Op: instr.SLT, A: 14, B: 13, C: 12}, 0x0eed000c, "SLT r14, r13, r12"},
	{instr.Instr{Op: instr.SLE, A: 1, B: 2, C: 3}, 0x0f120003, "SLE r1, r2, r3"},
	{instr.Instr{Op: instr.SEQ, A: 1, B: 2, C: 3}, 0x10120003, "SEQ r1, r2, r3"},
	{instr.Instr{Op: instr.SNE, A: 1, B: 2, C: 3}, 0x11120003, "SNE r1, r2, r3"},
	{instr.Instr{Op: instr.LDW, A: 14, B: 13, Imm: -4}, 0x12edfffc, "LDW r14, r13, -4"},
	{instr.Instr{Op: instr.STW, A: 1, B: 15, Imm: 4}, 0x131f0004, "STW r1, r15, 4"},
	{instr.Instr{Op: instr.BZ, A: 9, Imm: 0}, 0x14900000, "BZ r9, 0"},
	{instr.Instr{Op: instr.BNZ, A: 1, Imm: -2}, 0x1510fffe, "BNZ r1, -2"},
	{instr.Instr{Op: instr.BR, Imm: -1}, 0x16ffffff, "BR -1"},
	{instr.Instr{Op: instr.BR, Imm: 0}, 0x16000000, "BR 0"},
	{instr.Instr{Op: instr.BR, Imm: 8388607}, 0x167fffff, "BR 8388607"},
	{instr.Instr{Op: instr.BR, Imm: -8388608}, 0x16800000, "BR -8388608"},
	{instr.Instr{Op: instr.CALL, Imm: -2}, 0x17fffffe, "CALL -2"},
	{instr.Instr{Op: instr.CALL, Imm: 65536}, 0x17010000, "CALL 65536"},
	{instr.Instr{Op: instr.JR, A: 14}, 0x18e00000, "JR r14"},
	{instr.Instr{Op: instr.CALLR, A: 1}, 0x19100000, "CALLR r1"},
	{instr.Instr{Op: instr.CHK, A: 3, B: 1, Imm: 10}, 0x1a31000a, "CHK r3, 1, 10"},
	{instr.Instr{Op: instr.CHK, A: 15, B: 15, Imm: 65535}, 0x1affffff, "CHK r15, 15, 65535"},
	{instr.Instr{Op: instr.CHK}, 0x1a000000, "CHK r0, 0, 0"},
	{instr.Instr{Op: instr.NIL, A: 15}, 0x1bf00000, "NIL r15"},
	{instr.Instr{Op: instr.TRAP, Imm: 8}, 0x1c000008, "TRAP 8"},
	{instr.Instr{Op: instr.TRAP, Imm: 65535}, 0x1c00ffff, "TRAP 65535"},
	{instr.Instr{Op: instr.RAISE}, 0x1d000000, "RAISE r0"},
	{instr.Instr{Op: instr.OUT, A: 6, Imm: 5}, 0x1e600005, "OUT r6, 5"},
	{instr.Instr{Op: instr.IN, A: 12}, 0x1fc00000, "IN r12"},
	{instr.Instr{Op: instr.CHKS, A: 2}, 0x20200000, "CHKS r2"},
	{instr.Instr{Op: instr.RTC, A: 2, Imm: 1}, 0x21200001, "RTC r2, 1"},
	{instr.Instr{Op: instr.XORI, A: 0, B: 10, Imm: 1}, 0x220a0001, "XORI r0, r10, 1"},
}

// right returns the instructions of all operations with registers and numbers at their edges and between.
func right() []instr.Instr {
	var list []instr.Instr
	some := []int{0, 1, 7, 8, 15}
	for _, o := range operations {
		s := shapes[o.shape]
		of := func(n int) []int {
			if n < s.registers {
				return some
			}
			return []int{0}
		}
		numbers := []int{0}
		if s.hasImm {
			numbers = []int{s.least, s.least + 1, s.least / 2, 0, 1, 2, 255, 256, s.most / 2, s.most - 1, s.most}
		}
		for _, a := range of(0) {
			for _, b := range of(1) {
				for _, c := range of(2) {
					for _, n := range numbers {
						list = append(list, instr.Instr{Op: o.op, A: a, B: b, C: c, Imm: n})
					}
				}
			}
		}
	}
	return list
}

func refused(t *testing.T, i instr.Instr, want api.Errno) {
	t.Helper()
	if e := instr.Check(i); e != want {
		t.Errorf("Check(%+v): %d, not %d", i, e, want)
	}
	if w, e := instr.Encode(i); w != 0 || e != want {
		t.Errorf("Encode(%+v): %#x %d, not 0 %d", i, w, e, want)
	}
	if s, e := instr.Text(i); s != "" || e != want {
		t.Errorf("Text(%+v): %q %d, not %d", i, s, e, want)
	}
}

func accepted(t *testing.T, i instr.Instr) {
	t.Helper()
	if e := instr.Check(i); e != api.OK {
		t.Errorf("Check(%+v): %d", i, e)
	}
}

// P2.1
func TestNumbers(t *testing.T) {
	if instr.Last != 34 || len(operations) != 34 {
		t.Errorf("Last %d, %d operations", instr.Last, len(operations))
	}
	for _, o := range operations {
		if o.op != o.number {
			t.Errorf("%s is %d, not %d", o.name, o.op, o.number)
		}
	}
	for n, s := range shapes {
		if s.shape != n {
			t.Errorf("the shape %d is %d", n, s.shape)
		}
	}
}

// P2.1
func TestShapeNameOp(t *testing.T) {
	for _, o := range operations {
		if got := instr.Shape(o.op); got != o.shape {
			t.Errorf("Shape(%d): %d, not %d", o.op, got, o.shape)
		}
		if got := instr.Name(o.op); got != o.name {
			t.Errorf("Name(%d): %q, not %q", o.op, got, o.name)
		}
		if got := instr.Op(o.name); got != o.op {
			t.Errorf("Op(%q): %d, not %d", o.name, got, o.op)
		}
	}
}

// P2.1
func TestShapeNameOfNoOperation(t *testing.T) {
	for _, op := range noOperations {
		if got := instr.Shape(op); got != -1 {
			t.Errorf("Shape(%d): %d", op, got)
		}
		if got := instr.Name(op); got != "" {
			t.Errorf("Name(%d): %q", op, got)
		}
	}
}

// P2.1
func TestOpOfNoName(t *testing.T) {
	list := []string{"", " ", "halt", "Halt", "HALT ", " HALT", "HALT\n", "HAL", "HALTT", "ADD r1", "ADDII", "LD", "LDX", "WORD", "r1", "A", "None", "0", "1", "34", "B", "N", "\x00", "ΗALT", strings.Repeat("ADD", 1000)}
	for _, o := range operations {
		list = append(list, strings.ToLower(o.name), o.name+"X", o.name+o.name, " "+o.name)
	}
	for _, s := range list {
		if got := instr.Op(s); got != 0 {
			t.Errorf("Op(%q): %d", s, got)
		}
	}
}

// P2.1, P2.2, P2.3: no other field matters if there is no such operation.
func TestNoOperation(t *testing.T) {
	for _, op := range noOperations {
		refused(t, instr.Instr{Op: op}, api.ErrWord)
		refused(t, instr.Instr{Op: op, A: 1, B: 2, C: 3, Imm: 4}, api.ErrWord)
		refused(t, instr.Instr{Op: op, A: 16, B: -1, C: 99, Imm: math.MinInt}, api.ErrWord)
	}
	refused(t, instr.Instr{}, api.ErrWord)
}

// P2.1, P2.2, P2.3
func TestRegisters(t *testing.T) {
	outside := []int{-1, 16, 17, 31, 32, -15, -16, 1 << 8, 1<<32 + 1, math.MaxInt, math.MinInt}
	for _, o := range operations {
		s := shapes[o.shape]
		for n := range 3 {
			with := func(r int) instr.Instr {
				i := instr.Instr{Op: o.op}
				*[]*int{&i.A, &i.B, &i.C}[n] = r
				return i
			}
			accepted(t, with(0))
			for r := 1; r <= 15; r++ {
				if n < s.registers {
					accepted(t, with(r))
				} else {
					refused(t, with(r), api.ErrField)
				}
			}
			for _, r := range outside {
				refused(t, with(r), api.ErrField)
			}
		}
	}
}

// P2.1, P2.2, P2.3
func TestImm(t *testing.T) {
	for _, o := range operations {
		s := shapes[o.shape]
		for _, n := range []int{s.least, s.least / 2, 0, s.most / 2, s.most} {
			accepted(t, instr.Instr{Op: o.op, Imm: n})
		}
		for _, n := range []int{s.least - 1, s.most + 1, s.least - 1000, s.most + 1000, 1 << 24, -1 << 24, 1 << 32, -1 << 32, 1<<32 + 1, math.MaxInt, math.MinInt} {
			refused(t, instr.Instr{Op: o.op, Imm: n}, api.ErrField)
		}
		if s.least < 0 {
			accepted(t, instr.Instr{Op: o.op, Imm: -1})
		} else {
			refused(t, instr.Instr{Op: o.op, Imm: -1}, api.ErrField)
		}
		if s.hasImm {
			accepted(t, instr.Instr{Op: o.op, Imm: 1})
		} else {
			refused(t, instr.Instr{Op: o.op, Imm: 1}, api.ErrField)
		}
	}
}

// P2.1
func TestCheckOfRight(t *testing.T) {
	for _, i := range right() {
		accepted(t, i)
	}
}

// P2.2
func TestWords(t *testing.T) {
	for _, x := range written {
		if got, e := instr.Encode(x.i); got != x.w || e != api.OK {
			t.Errorf("Encode(%+v): %08x %d, not %08x", x.i, got, e, x.w)
		}
		if got, e := instr.Decode(x.w); got != x.i || e != api.OK {
			t.Errorf("Decode(%08x): %+v %d, not %+v", x.w, got, e, x.i)
		}
	}
}

// P2.2: the places of the fields, as the chapter tells them.
func TestEncodeOfRight(t *testing.T) {
	for _, i := range right() {
		want := i.Op << 24
		if instr.Shape(i.Op) == instr.Far {
			want += (i.Imm + 1<<24) % (1 << 24)
		} else {
			want += i.A<<20 + i.B<<16 + (i.Imm+1<<16)%(1<<16) + i.C
		}
		if got, e := instr.Encode(i); int(got) != want || e != api.OK {
			t.Fatalf("Encode(%+v): %08x %d, not %08x", i, got, e, want)
		}
	}
}

// lowBits returns settings of the 24 lower bits: none, one, two, all, all but one, and a fixed row of others.
func lowBits() []uint32 {
	const all = 1<<24 - 1
	list := []uint32{0, all, 0xf00000, 0xf0000, 0xffff, 0xfff0, 0xf}
	for a := range 24 {
		list = append(list, all&^(1<<a))
		for b := range a + 1 {
			list = append(list, 1<<a|1<<b)
		}
	}
	state := uint32(1)
	for range 200 {
		state = state*1664525 + 1013904223
		list = append(list, state>>8)
	}
	return list
}

// P2.2: a word is an instruction if its operation is one and bits are set only where the shape has fields, and then it is the word of this instruction alone.
func TestDecode(t *testing.T) {
	for top := range 256 {
		known := 1 <= top && top <= len(operations)
		for _, low := range lowBits() {
			w := uint32(top)<<24 | low
			isOne := known && low&^shapes[operations[top-1].shape].free == 0
			i, e := instr.Decode(w)
			if !isOne {
				if i != (instr.Instr{}) || e != api.ErrWord {
					t.Fatalf("Decode(%08x): %+v %d, not ErrWord", w, i, e)
				}
				continue
			}
			if e != api.OK || i.Op != top {
				t.Fatalf("Decode(%08x): %+v %d", w, i, e)
			}
			if back, e := instr.Encode(i); back != w || e != api.OK {
				t.Fatalf("Encode of Decode(%08x): %08x %d", w, back, e)
			}
		}
	}
}

// P2.2
func TestDecodeOfNoInstruction(t *testing.T) {
	for _, w := range []uint32{
		0, 1, 0x00ffffff, 0x23000000, 0x24000000, 0xff000000, 0xffffffff, 0x80000000, 0x81000000, // no such operation
		0x01000001, 0x01100000, 0x01010000, 0x01ffffff, // HALT has no field
		0x02010000, 0x02110005, 0x030f0000, 0x14910000, 0x1e610005, // neither ASign nor AWide has B
		0x06120013, 0x06120103, 0x06128003, 0x11121003, // ABC has nothing between B and C
		0x18e00001, 0x18e10000, 0x18e08000, 0x20200004, // A has nothing below A
		0x1c100008, 0x1c010008, 0x1c800000, // Wide has nothing above its number
	} {
		if i, e := instr.Decode(w); i != (instr.Instr{}) || e != api.ErrWord {
			t.Errorf("Decode(%08x): %+v %d, not ErrWord", w, i, e)
		}
	}
}

// P2.3
func TestTexts(t *testing.T) {
	for _, x := range written {
		if got, e := instr.Text(x.i); got != x.text || e != api.OK {
			t.Errorf("Text(%+v): %q %d, not %q", x.i, got, e, x.text)
		}
		if got, ok := instr.Fill(x.i.Op, fieldsOf(x.text)); got != x.i || !ok {
			t.Errorf("Fill(%d) of %q: %+v %v, not %+v", x.i.Op, x.text, got, ok, x.i)
		}
	}
}

// fieldsOf returns the fields in the text of an instruction.
func fieldsOf(text string) []string {
	_, list, ok := strings.Cut(text, " ")
	if !ok {
		return nil
	}
	return strings.Split(list, ", ")
}

// P2.3
func TestFillOfWrongCount(t *testing.T) {
	for _, x := range written {
		list := fieldsOf(x.text)
		for n := range len(list) {
			if _, ok := instr.Fill(x.i.Op, list[:n]); ok {
				t.Errorf("Fill(%d) of %q", x.i.Op, list[:n])
			}
		}
		for _, more := range []string{"", "0", "1", "r0", "r1"} {
			for _, longer := range [][]string{append(slices.Clone(list), more), append([]string{more}, list...)} {
				if _, ok := instr.Fill(x.i.Op, longer); ok {
					t.Errorf("Fill(%d) of %q", x.i.Op, longer)
				}
			}
		}
	}
	if i, ok := instr.Fill(instr.HALT, []string{}); !ok || i != (instr.Instr{Op: instr.HALT}) {
		t.Errorf("Fill of HALT: %+v %v", i, ok)
	}
	if _, ok := instr.Fill(instr.HALT, []string{""}); ok {
		t.Error("Fill of HALT with an empty text")
	}
	for _, o := range operations {
		if _, ok := instr.Fill(o.op, make([]string, 1000)); ok {
			t.Errorf("Fill(%d) of 1000 texts", o.op)
		}
	}
}

var noNumbers = []string{
	"", " ", "-", "+", "+1", "01", "00", "-0", "-01", " 1", "1 ", "1\n", "--1", "1,", "1.0", "0x1", "a", "1_0", "\xff", "١",
	"2147483648", "-2147483649", "4294967296", "4294967297", "18446744073709551617", "99999999999999999999999999",
}

var noRegisters = []string{"", " ", "0", "1", "15", "r", "R1", "R0", "r16", "r17", "r99", "r-1", "r-0", "r00", "r01", "r015", "r1 ", " r1", "r 1", "rr1", "r1r", "r+1", "x1", "1r", "r1,", "r4294967297", "r2147483648", "sp", "r\xff", "r١"}

// isNumber reports whether the n-th field of an operation is written as a number, by the chapter's table.
func isNumber(op, n int) bool {
	return n >= shapes[operations[op-1].shape].registers || op == instr.CHK && n == 1
}

// P2.3: each field alone is replaced by what can't stand there.
func TestFillOfWrongTexts(t *testing.T) {
	for _, x := range written {
		for n := range fieldsOf(x.text) {
			wrong := noRegisters
			if isNumber(x.i.Op, n) {
				wrong = append(slices.Clone(noNumbers), "r0", "r1", "r15", "R1")
			}
			for _, s := range wrong {
				list := fieldsOf(x.text)
				list[n] = s
				if i, ok := instr.Fill(x.i.Op, list); ok {
					t.Errorf("Fill(%d) of %q: %+v", x.i.Op, list, i)
				}
			}
		}
	}
}

// P2.3: numbers at the edges of their shape, and next to them.
func TestFillOfNumbers(t *testing.T) {
	tests := []struct {
		op     int
		before []string
		inside []string
		beside []string
	}{
		{instr.LDI, []string{"r1"}, []string{"-32768", "32767", "0"}, []string{"-32769", "32768", "65535"}},
		{instr.BZ, []string{"r1"}, []string{"-32768", "32767", "0"}, []string{"-32769", "32768"}},
		{instr.LUI, []string{"r1"}, []string{"0", "32768", "65535"}, []string{"-1", "65536", "-32768"}},
		{instr.RTC, []string{"r1"}, []string{"0", "1", "2", "65535"}, []string{"-1", "65536"}},
		{instr.ADDI, []string{"r1", "r2"}, []string{"-32768", "32767"}, []string{"-32769", "32768"}},
		{instr.ORI, []string{"r1", "r2"}, []string{"0", "65535"}, []string{"-1", "65536"}},
		{instr.CHK, []string{"r1", "2"}, []string{"0", "65535"}, []string{"-1", "65536"}},
		{instr.CHK, []string{"r1"}, nil, []string{"0", "15"}},
		{instr.BR, nil, []string{"-8388608", "8388607", "-1", "0"}, []string{"-8388609", "8388608", "16777215", "2147483647", "-2147483648"}},
		{instr.TRAP, nil, []string{"0", "65535"}, []string{"-1", "65536"}},
	}
	for _, x := range tests {
		for _, s := range x.inside {
			if i, ok := instr.Fill(x.op, append(slices.Clone(x.before), s)); !ok || i.Op != x.op {
				t.Errorf("Fill(%d) of %q, %q: %+v %v", x.op, x.before, s, i, ok)
			}
		}
		for _, s := range x.beside {
			if i, ok := instr.Fill(x.op, append(slices.Clone(x.before), s)); ok {
				t.Errorf("Fill(%d) of %q, %q: %+v", x.op, x.before, s, i)
			}
		}
	}
}

// P2.3: B of CHK is a number of a register's range.
func TestFillOfCause(t *testing.T) {
	for s, want := range map[string]bool{"0": true, "8": true, "15": true, "16": false, "-1": false, "r8": false, "08": false, "": false} {
		i, ok := instr.Fill(instr.CHK, []string{"r3", s, "10"})
		if ok != want {
			t.Errorf("Fill of CHK r3, %s, 10: %+v %v", s, i, ok)
		}
	}
	if _, ok := instr.Fill(instr.ORI, []string{"r3", "1", "10"}); ok {
		t.Error("Fill of ORI r3, 1, 10")
	}
	if _, ok := instr.Fill(instr.ADD, []string{"r1", "r2", "r16"}); ok {
		t.Error("Fill of ADD r1, r2, r16")
	}
}

// P2.3
func TestFillOfNoOperation(t *testing.T) {
	for _, op := range noOperations {
		for _, list := range [][]string{nil, {}, {"1"}, {"r1"}, {"r1", "1"}, {"r1", "r2", "r3"}, {"r1", "r2", "3"}} {
			if _, ok := instr.Fill(op, list); ok {
				t.Errorf("Fill(%d) of %q", op, list)
			}
		}
	}
}

// P2.4
func TestInverses(t *testing.T) {
	words := map[uint32]instr.Instr{}
	texts := map[string]instr.Instr{}
	for _, i := range right() {
		w, e := instr.Encode(i)
		if e != api.OK {
			t.Fatalf("Encode(%+v): %d", i, e)
		}
		if back, e := instr.Decode(w); back != i || e != api.OK {
			t.Fatalf("Decode of Encode(%+v): %+v %d", i, back, e)
		}
		s, e := instr.Text(i)
		if e != api.OK {
			t.Fatalf("Text(%+v): %d", i, e)
		}
		if back, ok := instr.Fill(i.Op, fieldsOf(s)); back != i || !ok {
			t.Fatalf("Fill of Text(%+v): %+v %v", i, back, ok)
		}
		if other, ok := words[w]; ok && other != i {
			t.Fatalf("%08x is the word of %+v and %+v", w, i, other)
		}
		if other, ok := texts[s]; ok && other != i {
			t.Fatalf("%q is the text of %+v and %+v", s, i, other)
		}
		words[w], texts[s] = i, i
	}
}

// P2.2, P2.4: all words of an operation of each shape, which are as many as the bits of its fields allow.
func TestInversesOfAll(t *testing.T) {
	for n, op := range []int{instr.HALT, instr.BNZ, instr.OUT, instr.LDW, instr.XORI, instr.SNE, instr.CHKS, instr.CALL, instr.TRAP} {
		count := 0
		for low := range uint32(1 << 24) {
			w := uint32(op)<<24 | low
			i, e := instr.Decode(w)
			if e != api.OK {
				continue
			}
			count++
			if back, e := instr.Encode(i); back != w || e != api.OK {
				t.Fatalf("Encode of Decode(%08x): %08x %d", w, back, e)
			}
		}
		if want := 1 << bits.OnesCount32(shapes[n].free); count != want {
			t.Errorf("%s has %d words, not %d", instr.Name(op), count, want)
		}
	}
}

// P1: whatever stands in the fields.
func TestAnyFields(t *testing.T) {
	numbers := []int{math.MinInt, math.MinInt32, -1, 0, 1, 15, 16, math.MaxInt32, math.MaxInt}
	for _, op := range append(slices.Clone(noOperations), instr.HALT, instr.LDI, instr.ADD, instr.CHK, instr.BR, instr.TRAP, instr.XORI) {
		for _, a := range numbers {
			for _, b := range numbers {
				for _, n := range numbers {
					i := instr.Instr{Op: op, A: a, B: b, C: n, Imm: n}
					e := instr.Check(i)
					if w, got := instr.Encode(i); got != e || e != api.OK && w != 0 {
						t.Fatalf("Encode(%+v): %#x %d, but Check: %d", i, w, got, e)
					}
					if s, got := instr.Text(i); got != e || (s == "") != (e != api.OK) {
						t.Fatalf("Text(%+v): %q %d, but Check: %d", i, s, got, e)
					}
				}
			}
		}
	}
}

// P2
func TestArgumentsStay(t *testing.T) {
	room := []string{"r1", "r2", "3", "r4"}
	before := slices.Clone(room)
	i, ok := instr.Fill(instr.ADDI, room[:3])
	if !slices.Equal(room, before) {
		t.Errorf("Fill changed its list to %q", room)
	}
	room[0], room[2] = "r9", "9"
	if want := (instr.Instr{Op: instr.ADDI, A: 1, B: 2, Imm: 3}); i != want || !ok {
		t.Errorf("Fill: %+v %v", i, ok)
	}
	instr.Fill(instr.ADD, room[:3])
	if !slices.Equal(room, []string{"r9", "r2", "9", "r4"}) {
		t.Errorf("Fill changed its list to %q", room)
	}
}
