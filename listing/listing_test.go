package listing_test

import (
	"iter"
	"math"
	"slices"
	"strings"
	"testing"
	"unsafe"

	"pascaline/api"
	"pascaline/instr"
	"pascaline/listing"
	"pascaline/word"
)

// Words by their instructions, where the tests need no more than these.
const (
	halt   = 0x01000000
	ldi    = 0x02100005 // LDI r1, 5
	noWord = 0xff000000 // no instruction
)

// br, call, bz and bnz return the words of BR, CALL, BZ r1 and BNZ r1 with a number.
func br(n int) uint32   { return 0x16<<24 | uint32(n)&0xffffff }
func call(n int) uint32 { return 0x17<<24 | uint32(n)&0xffffff }
func bz(n int) uint32   { return 0x141<<20 | uint32(n)&0xffff }
func bnz(n int) uint32  { return 0x151<<20 | uint32(n)&0xffff }

// Each operation with its word, its line's text at the address 1000 (Hex), and, of those that branch, the target there: worked out by hand from chapter 2.
var operations = []struct {
	op     int
	w      uint32
	text   string
	target uint32
}{
	{instr.HALT, 0x01000000, "HALT", 0},
	{instr.LDI, 0x02108000, "LDI r1, -32768", 0},
	{instr.LUI, 0x03f0ffff, "LUI r15, 65535", 0},
	{instr.ORI, 0x04128000, "ORI r1, r2, 32768", 0},
	{instr.ADDI, 0x0512ffff, "ADDI r1, r2, -1", 0},
	{instr.ADD, 0x06120003, "ADD r1, r2, r3", 0},
	{instr.SUB, 0x07450006, "SUB r4, r5, r6", 0},
	{instr.MUL, 0x08780009, "MUL r7, r8, r9", 0},
	{instr.DIV, 0x09ab000c, "DIV r10, r11, r12", 0},
	{instr.MOD, 0x0ade000f, "MOD r13, r14, r15", 0},
	{instr.AND, 0x0b000000, "AND r0, r0, r0", 0},
	{instr.OR, 0x0cf00001, "OR r15, r0, r1", 0},
	{instr.XOR, 0x0d10000f, "XOR r1, r0, r15", 0},
	{instr.SLT, 0x0e240006, "SLT r2, r4, r6", 0},
	{instr.SLE, 0x0f360009, "SLE r3, r6, r9", 0},
	{instr.SEQ, 0x1048000c, "SEQ r4, r8, r12", 0},
	{instr.SNE, 0x115a000f, "SNE r5, r10, r15", 0},
	{instr.LDW, 0x121dfff8, "LDW r1, r13, -8", 0},
	{instr.STW, 0x131f0004, "STW r1, r15, 4", 0},
	{instr.BZ, 0x14300002, "BZ r3, 2 -> 0000100c", 0x100c},
	{instr.BNZ, 0x1540fffd, "BNZ r4, -3 -> 00000ff8", 0xff8},
	{instr.BR, 0x16ffffff, "BR -1 -> 00001000", 0x1000},
	{instr.CALL, 0x17000010, "CALL 16 -> 00001044", 0x1044},
	{instr.JR, 0x18e00000, "JR r14", 0},
	{instr.CALLR, 0x19900000, "CALLR r9", 0},
	{instr.CHK, 0x1a31000a, "CHK r3, 1, 10", 0},
	{instr.NIL, 0x1b800000, "NIL r8", 0},
	{instr.TRAP, 0x1c00ffff, "TRAP 65535", 0},
	{instr.RAISE, 0x1d100000, "RAISE r1", 0},
	{instr.OUT, 0x1e600005, "OUT r6, 5", 0},
	{instr.IN, 0x1f700000, "IN r7", 0},
	{instr.CHKS, 0x20c00000, "CHKS r12", 0},
	{instr.RTC, 0x21200001, "RTC r2, 1", 0},
	{instr.XORI, 0x229a0001, "XORI r9, r10, 1", 0},
}

// noInstructions are words that are no instruction: of no operation, or with a bit where the shape has no field.
var noInstructions = []uint32{0, 1, 0x00ffffff, 0x01000001, 0x02010000, 0x06120103, 0x14910000, 0x18e00001, 0x1c100008, 0x23000000, 0x80000000, 0x96ffffff, 0xff000000, 0xffffffff}

// branches reports whether an operation has a target.
func branches(op int) bool {
	return op == instr.BZ || op == instr.BNZ || op == instr.BR || op == instr.CALL
}

// anyWords returns a fixed row of words: of each operation, of such with a bit too many, of branches near and far, and of any others.
func anyWords(count int) []uint32 {
	list := slices.Clone(noInstructions)
	for _, o := range operations {
		for _, bit := range []uint32{0, 1, 1 << 4, 1 << 15, 1 << 16, 1 << 20, 1 << 23, 1 << 31} {
			list = append(list, o.w, o.w^bit)
		}
	}
	state := uint32(1)
	for len(list) < count {
		state = state*1664525 + 1013904223
		near := int(state>>20) - 2048
		list = append(list, state, state%(instr.Last+2)<<24|state>>8, state%(instr.Last+2)<<24|state>>12&0xfff00f, br(near), call(near), bz(near), bnz(near))
	}
	return list[:count]
}

// P6.1: of the four that branch, by numbers worked out by hand.
func TestTargetOfBranches(t *testing.T) {
	tests := []struct {
		at   uint32
		imm  int
		want uint32
	}{
		{0, 0, 4},
		{0, 1, 8},
		{0, -1, 0},
		{4, -1, 4},
		{4, -2, 0},
		{100, 10, 144},
		{100, -10, 64},
		{3, 0, 7},
		{1, 2, 13},
		{0x1000, 32767, 0x21000},
		{0x40000, -32768, 0x20004},
		{0, 8388607, 0x2000000},
		{0x2000000, -8388608, 4},
		// Round at 2^32, both ways.
		{0xfffffffc, 0, 0},
		{0xffffffff, 0, 3},
		{0xfffffff8, 1, 0},
		{0xfffffff8, 2, 4},
		{0xfffffff8, 0, 0xfffffffc},
		{0, -2, 0xfffffffc},
		{0, -3, 0xfffffff8},
		{4, -3, 0xfffffffc},
		{0, -32768, 0xfffe0004},
		{0, -8388608, 0xfe000004},
		{0xffff0000, 32767, 0x00010000},
		{0x80000000, 8388607, 0x82000000},
	}
	for _, x := range tests {
		for _, op := range []int{instr.BZ, instr.BNZ, instr.BR, instr.CALL} {
			if got, ok := listing.Target(x.at, instr.Instr{Op: op, Imm: x.imm}); got != x.want || !ok {
				t.Errorf("Target(%08x, %s %d): %08x %v, not %08x", x.at, instr.Name(op), x.imm, got, ok, x.want)
			}
		}
	}
}

// P6.1
func TestTargetOfEachOperation(t *testing.T) {
	for n, o := range operations {
		if o.op != n+1 {
			t.Errorf("%s is %d, not %d", o.text, o.op, n+1)
		}
		i, e := instr.Decode(o.w)
		if e != api.OK || i.Op != o.op {
			t.Errorf("Decode(%08x): %+v %d", o.w, i, e)
		}
		if got, ok := listing.Target(0x1000, i); got != o.target || ok != branches(o.op) {
			t.Errorf("Target(1000, %s): %08x %v, not %08x", o.text, got, ok, o.target)
		}
	}
	if len(operations) != instr.Last {
		t.Errorf("%d operations, not %d", len(operations), instr.Last)
	}
}

// P6.1, P1: what is no instruction has none; fields that no operation can have don't matter to what branches, and are reckoned modulo 2^32.
func TestTargetOfAnything(t *testing.T) {
	for _, op := range []int{0, -1, 35, 36, 255, 256 + instr.BR, math.MaxInt, math.MinInt} {
		for _, imm := range []int{0, 1, -1, math.MaxInt, math.MinInt} {
			if got, ok := listing.Target(0x1000, instr.Instr{Op: op, A: 1, B: 2, C: 3, Imm: imm}); got != 0 || ok {
				t.Errorf("Target of the operation %d with %d: %08x %v", op, imm, got, ok)
			}
		}
	}
	for imm, want := range map[int]uint32{1 << 30: 12, 1 << 31: 12, 1<<32 + 1: 16, -1 << 30: 12, math.MaxInt: 8, math.MinInt: 12} {
		if got, ok := listing.Target(8, instr.Instr{Op: instr.BR, A: 99, B: -1, C: math.MinInt, Imm: imm}); got != want || !ok {
			t.Errorf("Target of BR %d: %08x %v, not %08x", imm, got, ok, want)
		}
	}
}

// P6.1
func TestLineOfEachOperation(t *testing.T) {
	for _, o := range operations {
		want := "00001000 " + word.Hex(o.w) + " " + o.text
		if got := listing.Line(0x1000, o.w); got != want {
			t.Errorf("Line(1000, %08x): %q, not %q", o.w, got, want)
		}
	}
}

// P6.1: the chapter's example, branches both ways, and round at 2^32.
func TestLineOfBranches(t *testing.T) {
	tests := []struct {
		at, w uint32
		want  string
	}{
		{4, 0x16ffffff, "00000004 16ffffff BR -1 -> 00000004"},
		{0, br(0), "00000000 16000000 BR 0 -> 00000004"},
		{0, br(-2), "00000000 16fffffe BR -2 -> fffffffc"},
		{0xfffffffc, br(1), "fffffffc 16000001 BR 1 -> 00000004"},
		{0x89abcdec, br(8388607), "89abcdec 167fffff BR 8388607 -> 8babcdec"},
		{0x89abcdec, br(-8388608), "89abcdec 16800000 BR -8388608 -> 87abcdf0"},
		{8, call(5), "00000008 17000005 CALL 5 -> 00000020"},
		{0x20, call(-9), "00000020 17fffff7 CALL -9 -> 00000000"},
		{0xfffffff0, call(3), "fffffff0 17000003 CALL 3 -> 00000000"},
		{12, bz(2), "0000000c 14100002 BZ r1, 2 -> 00000018"},
		{12, bz(-4), "0000000c 1410fffc BZ r1, -4 -> 00000000"},
		{0, bz(-32768), "00000000 14108000 BZ r1, -32768 -> fffe0004"},
		{12, bnz(32767), "0000000c 15107fff BNZ r1, 32767 -> 0002000c"},
		{12, bnz(-1), "0000000c 1510ffff BNZ r1, -1 -> 0000000c"},
		{0xffffffff, bnz(0), "ffffffff 15100000 BNZ r1, 0 -> 00000003"},
		{3, br(-1), "00000003 16ffffff BR -1 -> 00000003"},
	}
	for _, x := range tests {
		if got := listing.Line(x.at, x.w); got != x.want {
			t.Errorf("Line(%08x, %08x): %q, not %q", x.at, x.w, got, x.want)
		}
	}
}

// P6.1
func TestLineOfNoInstruction(t *testing.T) {
	for _, w := range noInstructions {
		for _, at := range []uint32{0, 1, 4, 0xabcdef01, 0xffffffff} {
			if got, want := listing.Line(at, w), word.Hex(at)+" "+word.Hex(w)+" ?"; got != want {
				t.Errorf("Line(%08x, %08x): %q, not %q", at, w, got, want)
			}
		}
	}
}

// starts are addresses from which words are listed: small ones, such that are no multiple of 4, and such that go round at 2^32.
var starts = []uint32{0, 1, 2, 3, 4, 8, 0x1000, 0x7ffffffc, 0x80000000, 0xfffffff0, 0xfffffffc, 0xfffffffd, 0xffffffff}

// wantLines returns the lines that words from an address on must have.
func wantLines(at uint32, list []uint32) []string {
	var want []string
	for _, w := range list {
		want = append(want, listing.Line(at, w))
		at += 4
	}
	return want
}

// P6.2
func TestLines(t *testing.T) {
	want := []string{"fffffff8 01000000 HALT", "fffffffc 16ffffff BR -1 -> fffffffc", "00000000 ff000000 ?", "00000004 1710fffe CALL 1114110 -> 00440000", "00000008 16fffffd BR -3 -> 00000000"}
	got := slices.Collect(listing.Lines(0xfffffff8, []uint32{halt, br(-1), noWord, 0x1710fffe, br(-3)}))
	if !slices.Equal(got, want) {
		t.Errorf("Lines: %q, not %q", got, want)
	}
	list := anyWords(2000)
	for _, at := range starts {
		for _, n := range []int{0, 1, 2, 3, 5, 2000} {
			if got, want := slices.Collect(listing.Lines(at, list[:n])), wantLines(at, list[:n]); !slices.Equal(got, want) {
				t.Errorf("Lines(%08x) of %d words: %d others", at, n, len(got))
			}
		}
	}
}

// P6.2
func TestLinesOfNoWords(t *testing.T) {
	for _, at := range starts {
		for _, list := range [][]uint32{nil, {}, anyWords(5)[:0]} {
			for line := range listing.Lines(at, list) {
				t.Errorf("Lines(%08x) of no words yields %q", at, line)
			}
			if got := listing.Print(at, list...); got != "" {
				t.Errorf("Print(%08x) of no words: %q", at, got)
			}
		}
	}
	if got := listing.Print(4); got != "" {
		t.Errorf("Print(4): %q", got)
	}
}

// taken returns the first n lines, left off with the last of them.
func taken(seq iter.Seq[string], n int) []string {
	var got []string
	for line := range seq {
		got = append(got, line)
		if len(got) == n {
			break
		}
	}
	return got
}

// P6.2: left off ahead of the end, and begun again.
func TestLinesLeftOff(t *testing.T) {
	list := []uint32{halt, ldi, br(-1), noWord, halt}
	want := wantLines(0xfffffff8, list)
	seq := listing.Lines(0xfffffff8, list)
	for n := 1; n <= len(list); n++ {
		if got := taken(seq, n); !slices.Equal(got, want[:n]) {
			t.Errorf("the first %d: %q, not %q", n, got, want[:n])
		}
		calls := 0
		seq(func(string) bool { calls++; return calls < n })
		if calls != n {
			t.Errorf("%d lines after yield has declined the line %d", calls, n)
		}
	}
	if got := slices.Collect(seq); !slices.Equal(got, want) {
		t.Errorf("all: %q, not %q", got, want)
	}
	// One within another.
	count := 0
	for range seq {
		count += len(slices.Collect(seq))
	}
	if count != len(list)*len(list) {
		t.Errorf("%d lines one within another", count)
	}
}

// P6.2
func TestPrint(t *testing.T) {
	if got, want := listing.Print(8, halt, noWord), "00000008 01000000 HALT\n0000000c ff000000 ?\n"; got != want {
		t.Errorf("Print: %q, not %q", got, want)
	}
	if got, want := listing.Print(0xfffffffc, br(1), bz(-2), 0), "fffffffc 16000001 BR 1 -> 00000004\n00000000 1410fffe BZ r1, -2 -> fffffffc\n00000004 00000000 ?\n"; got != want {
		t.Errorf("Print: %q, not %q", got, want)
	}
	list := anyWords(2000)
	for _, at := range starts {
		for _, n := range []int{1, 2, 3, 5, 2000} {
			if got, want := listing.Print(at, list[:n]...), strings.Join(wantLines(at, list[:n]), "\n")+"\n"; got != want {
				t.Errorf("Print(%08x) of %d words is another one", at, n)
			}
		}
	}
}

// isRead holds a text against the address and the words that it must be the Print of.
func isRead(t *testing.T, text string, at uint32, list []uint32) {
	t.Helper()
	gotAt, got, line, e := listing.Read(text)
	if gotAt != at || !slices.Equal(got, list) || line != 0 || e != api.OK {
		t.Errorf("Read(%.300q): %08x %.100v %d %d, not %08x %.100v", text, gotAt, got, line, e, at, list)
	}
}

// refused holds a text against the line with ErrText, beside which there is nothing.
func refused(t *testing.T, text string, line int) {
	t.Helper()
	at, list, got, e := listing.Read(text)
	if at != 0 || len(list) != 0 || got != line || e != api.ErrText {
		t.Errorf("Read(%.300q): %08x %.100v %d %d, not ErrText in the line %d", text, at, list, got, e, line)
	}
}

// P6.2
func TestRead(t *testing.T) {
	isRead(t, "", 0, nil)
	isRead(t, "00000008 01000000 HALT\n0000000c ff000000 ?\n", 8, []uint32{halt, noWord})
	isRead(t, "00000004 16ffffff BR -1 -> 00000004\n", 4, []uint32{0x16ffffff})
	isRead(t, "00000003 00000000 ?\n", 3, []uint32{0})
	isRead(t, "abcdef89 1a31000a CHK r3, 1, 10\nabcdef8d 1c00ffff TRAP 65535\n", 0xabcdef89, []uint32{0x1a31000a, 0x1c00ffff})
	isRead(t, "fffffff8 1410fffe BZ r1, -2 -> fffffff4\nfffffffc 15100001 BNZ r1, 1 -> 00000004\n00000000 17fffffe CALL -2 -> fffffffc\n", 0xfffffff8, []uint32{bz(-2), bnz(1), call(-2)})
	for _, o := range operations {
		isRead(t, "00001000 "+word.Hex(o.w)+" "+o.text+"\n", 0x1000, []uint32{o.w})
	}
}

// wrongLines can't be there as they are at the address 8, whatever surrounds them.
var wrongLines = []string{
	"", " ", "?", "HALT", "\r", "\t", "\x00", "\xff", "é", ";", "; 00000008 01000000 HALT",
	// The address: its digits, and what surrounds them.
	"8 01000000 HALT", "0000008 01000000 HALT", "000000008 01000000 HALT", "0000000g 01000000 HALT", "0x000008 01000000 HALT", "-0000008 01000000 HALT", " 0000008 01000000 HALT", " 00000008 01000000 HALT", "00000008, 01000000 HALT", "00000008: 01000000 HALT", "00000008\t01000000 HALT", "00000008  01000000 HALT", "0000000801000000 HALT",
	// The word.
	"00000008", "00000008 ", "00000008  ", "00000008 01000000", "00000008 01000000 ", "00000008 HALT", "00000008 1000000 HALT", "00000008 001000000 HALT", "00000008 010000000 HALT", "00000008 0100000g HALT", "00000008 0x100000 HALT", "00000008 01000000  HALT", "00000008 01000000\tHALT", "00000008 01000000HALT", "00000008 01000000, HALT",
	// Capital letters.
	"00000008 0512FFFF ADDI r1, r2, -1", "00000008 0512ffff addi r1, r2, -1", "00000008 0512ffff ADDI R1, r2, -1", "00000008 FF000000 ?", "00000008 01000000 Halt", "00000008 01000000 halt", "00000008 16000001 BR 1 -> 0000001O", "00000008 16000000 BR 0 -> 0000000C", "00000008 16000000 br 0 -> 0000000c",
	// A text that is not that of its word.
	"00000008 01000000 LDI r1, 5", "00000008 02100005 HALT", "00000008 02100005 LDI r1, 6", "00000008 02100005 LDI r2, 5", "00000008 02100005 LDI r1, 05", "00000008 02100005 LDI r1,5", "00000008 02100005 LDI r1 5", "00000008 02100005 LDI r1", "00000008 02100005 LDI", "00000008 02100005 LDI r1, 5, 0", "00000008 02100005 LDI  r1, 5", "00000008 06120003 ADD r1, r3, r2", "00000008 1a31000a CHK r3, r1, 10", "00000008 0512ffff ADDI r1, r2, 65535", "00000008 01000001 HALT", "00000008 00000000 HALT", "00000008 ff000000 WORD ff000000", "00000008 ff000000 HALT",
	// ? behind an instruction, and no ? behind what is none.
	"00000008 01000000 ?", "00000008 16ffffff ?", "00000008 16ffffff ? -> 00000008", "00000008 02100005 ?", "00000008 01000000 HALT ?", "00000008 01000000 HALT?", "00000008 ff000000", "00000008 ff000000 ", "00000008 ff000000 ??", "00000008 ff000000 ? ", "00000008 ff000000  ?", "00000008 ff000000 ? -> 00000008", "00000008 ff000000 HALT",
	// The target: another one, missing, or where none belongs.
	"00000008 16000001 BR 1", "00000008 16000001 BR 1 ", "00000008 16000001 BR 1 ->", "00000008 16000001 BR 1 -> ", "00000008 16000001 BR 1 -> 0000000c", "00000008 16000001 BR 1 -> 00000014", "00000008 16000001 BR 1 -> 00000011", "00000008 16000001 BR 1 -> 10", "00000008 16000001 BR 1 -> 000000010", "00000008 16000001 BR 1 ->  00000010", "00000008 16000001 BR 1  -> 00000010", "00000008 16000001 BR 1 > 00000010", "00000008 16000001 BR 1 - > 00000010", "00000008 16000001 BR 1-> 00000010", "00000008 16000001 BR 1 ->00000010", "00000008 16000001 BR 1 → 00000010", "00000008 16000001 BR 1 -> 00000010 ", "00000008 16000001 BR 1 -> 00000010 -> 00000010", "00000008 16000001 BR -> 00000010", "00000008 16000001 BR 2 -> 00000014", "00000008 16fffffe BR -2 -> 00000000", "00000008 16fffffc BR -4 -> 0fffffff", "00000008 14100001 BZ r1, 1", "00000008 15100001 BNZ r1, 1", "00000008 17000001 CALL 1", "00000008 14100001 BZ r1, 1 -> 00000014", "00000008 15100001 BNZ r1, 1 -> 00000014", "00000008 17000001 CALL 1 -> 00000014", "00000008 01000000 HALT -> 00000008", "00000008 01000000 HALT -> 0000000c", "00000008 18e00000 JR r14 -> 00000000", "00000008 19900000 CALLR r9 -> 00000000",
	// What is behind.
	"00000008 01000000 HALT ", "00000008 01000000 HALT\r", "00000008 01000000 HALT\x00", "00000008 01000000 HALT;", "00000008 01000000 HALT 00000008 01000000 HALT", "00000008 01000000 HALT\t",
}

// P6.2: each alone, ahead of others, behind others, and without its line feed.
func TestReadOfWrongLines(t *testing.T) {
	before := listing.Print(0, halt, noWord)
	after := listing.Print(12, halt, br(-1))
	for _, line := range wrongLines {
		refused(t, line+"\n", 1)
		refused(t, line+"\n"+after, 1)
		refused(t, before+line+"\n", 3)
		refused(t, before+line+"\n"+after, 3)
		if line == "" {
			isRead(t, before+line, 0, []uint32{halt, noWord})
			continue
		}
		refused(t, line, 1)
		refused(t, before+line, 3)
	}
	isRead(t, before+"00000008 02100005 LDI r1, 5\n"+after, 0, []uint32{halt, noWord, ldi, halt, br(-1)})
}

// P6.2
func TestReadOfWrongAddresses(t *testing.T) {
	for _, at := range starts {
		first := listing.Print(at, halt, noWord)
		isRead(t, first+listing.Print(at+8, ldi), at, []uint32{halt, noWord, ldi})
		for _, by := range []uint32{0, 1, 2, 3, 4, 5, 6, 7, 9, 11, 12, 16, 0x80000008, 0xfffffffc, 0xfffffff8} {
			refused(t, first+listing.Print(at+by, ldi), 3)
			refused(t, first+listing.Print(at+by, br(3), halt), 3)
		}
		refused(t, listing.Print(at, halt)+listing.Print(at, halt), 2)
		refused(t, listing.Print(at, halt)+listing.Print(at-4, halt), 2)
	}
	refused(t, "fffffffc 01000000 HALT\n100000000 01000000 HALT\n", 2)
}

// P6.2: lines without an end, and ends without a line.
func TestReadOfWrongEnds(t *testing.T) {
	for n := 1; n <= 4; n++ {
		text := listing.Print(0xfffffff8, []uint32{halt, br(-1), noWord, ldi}[:n]...)
		refused(t, strings.TrimSuffix(text, "\n"), n)
		refused(t, text+"\n", n+1)
		refused(t, text+"\n\n", n+1)
		refused(t, "\n"+text, 1)
		refused(t, text+"x", n+1)
		refused(t, text+" ", n+1)
		refused(t, text+" \n", n+1)
		refused(t, strings.ReplaceAll(text, "\n", "\r\n"), 1)
		refused(t, strings.ReplaceAll(text, "\n", "\r"), 1)
		refused(t, strings.ReplaceAll(text, "\n", "\n\n"), 2)
		refused(t, text+"\x00", n+1)
	}
	for _, text := range []string{"\n", "\n\n", "x", " ", "\r\n", "\x00", "00000008", "00000008 01000000 HALT"} {
		refused(t, text, 1)
	}
	refused(t, strings.Repeat("\n", 100000), 1)
	refused(t, strings.Repeat("0", 100000), 1)
	refused(t, strings.Repeat("00000000 ", 100000), 1)
	refused(t, strings.Repeat(" ", 100000)+"\n", 1)
}

// P6.2: a text that stops anywhere is refused in the line in which it stops, unless it stops between lines.
func TestReadOfPieces(t *testing.T) {
	list := []uint32{halt, br(-1), noWord, 0x1a31000a}
	text := listing.Print(0xfffffffc, list...)
	for n := range len(text) + 1 {
		lines := strings.Count(text[:n], "\n")
		switch {
		case n == 0:
			isRead(t, "", 0, nil)
		case text[n-1] == '\n':
			isRead(t, text[:n], 0xfffffffc, list[:lines])
		default:
			refused(t, text[:n], lines+1)
		}
	}
}

// P6.2: a byte that is another one is told in its line, or in the next one if it makes another line of this one.
func TestReadOfOtherBytes(t *testing.T) {
	text := listing.Print(0x10, halt, br(-1), noWord, 0x1a31000a)
	for n := range len(text) {
		for _, c := range []byte("\x00\n 0?-AxRr\x80") {
			changed := []byte(text)
			changed[n] = c
			at, list, line, e := listing.Read(string(changed))
			if e == api.OK {
				if listing.Print(at, list...) != string(changed) || line != 0 {
					t.Errorf("Read(%q): %08x %08x %d", changed, at, list, line)
				}
				continue
			}
			in := strings.Count(text[:n], "\n") + 1
			if at != 0 || len(list) != 0 || e != api.ErrText || line != in && line != in+1 {
				t.Errorf("Read(%q): %08x %08x %d %d, with another byte in the line %d", changed, at, list, line, e, in)
			}
		}
	}
}

// P6.2: of several wrong lines the first one is told.
func TestReadOfTwoFaults(t *testing.T) {
	right := func(at uint32) string { return listing.Print(at, halt) }
	refused(t, right(0)+"x\n"+"y\n", 2)
	refused(t, right(0)+right(8)+"x\n", 2)
	refused(t, right(0)+"x\n"+right(0), 2)
	refused(t, "x\n"+right(0)+right(0), 1)
	refused(t, right(0)+right(4)+right(4)+right(8), 3)
	refused(t, right(0)+right(4)+"00000008 01000000 ?\n"+"00000010 01000000 HALT", 3)
	refused(t, "00000000 16000000 BR 0\n\n", 1)
	// The line that follows an address that is wrong goes on from it, and yet the wrong one is told.
	refused(t, right(0)+right(100)+right(104)+right(108), 2)
}

// P6.4
func TestReadOfPrint(t *testing.T) {
	list := anyWords(5000)
	instructions := 0
	for n, w := range list {
		if _, e := instr.Decode(w); e == api.OK {
			instructions++
		}
		at := uint32(n) * 0x9e3779b1
		isRead(t, listing.Print(at, w), at, []uint32{w})
	}
	if instructions < 1000 || instructions > len(list)-1000 {
		t.Errorf("%d of %d words are instructions", instructions, len(list))
	}
	for _, at := range starts {
		for _, n := range []int{1, 2, 3, 100, 5000} {
			isRead(t, listing.Print(at, list[:n]...), at, list[:n])
			isRead(t, listing.Print(at, list[len(list)-n:]...), at, list[len(list)-n:])
		}
		// Nothing tells the address of no words.
		isRead(t, listing.Print(at), 0, nil)
	}
}

// isReached holds the words that can be reached, written as a text of 1 and 0.
func isReached(t *testing.T, list []uint32, from []int, want string) {
	t.Helper()
	var got strings.Builder
	for _, r := range listing.Reached(list, from...) {
		if r {
			got.WriteByte('1')
		} else {
			got.WriteByte('0')
		}
	}
	if got.String() != want {
		t.Errorf("Reached(%08x, %d): %s, not %s", list, from, got.String(), want)
	}
}

// P6.3
func TestReached(t *testing.T) {
	tests := []struct {
		list []uint32
		from []int
		want string
	}{
		{[]uint32{halt, br(-2)}, []int{1}, "11"}, // the example of the chapter
		{[]uint32{halt, br(-2)}, []int{0}, "10"},
		{[]uint32{halt}, []int{0}, "1"},
		{[]uint32{ldi}, []int{0}, "1"},
		{[]uint32{ldi, ldi, ldi, halt, ldi}, []int{0}, "11110"},
		{[]uint32{ldi, ldi, ldi, halt, ldi}, []int{2}, "00110"},
		{[]uint32{ldi, ldi, ldi, halt, ldi}, []int{2, 4}, "00111"},
		{[]uint32{ldi, ldi, ldi, halt, ldi}, []int{4, 2}, "00111"},
		// Branches onwards.
		{[]uint32{br(2), ldi, ldi, halt, ldi}, []int{0}, "10010"},
		{[]uint32{br(0), halt, ldi}, []int{0}, "110"},
		{[]uint32{bz(2), halt, ldi, halt, ldi}, []int{0}, "11010"},
		{[]uint32{bnz(2), halt, ldi, halt, ldi}, []int{0}, "11010"},
		{[]uint32{call(2), halt, ldi, ldi, halt}, []int{0}, "11011"},
		// Branches back.
		{[]uint32{halt, halt, ldi, br(-3)}, []int{2}, "0111"},
		{[]uint32{halt, halt, ldi, bz(-3), halt, halt}, []int{2}, "011110"},
		{[]uint32{halt, halt, ldi, bnz(-3), halt, halt}, []int{2}, "011110"},
		{[]uint32{halt, halt, ldi, call(-3), halt, halt}, []int{2}, "011110"},
		// Round loops.
		{[]uint32{br(-1), halt}, []int{0}, "10"},
		{[]uint32{bz(-1), halt, halt}, []int{0}, "110"},
		{[]uint32{ldi, ldi, br(-3), halt}, []int{1}, "1110"},
		{[]uint32{ldi, bnz(-2), ldi, br(-4), halt}, []int{0}, "11110"},
		{[]uint32{br(1), halt, br(-3)}, []int{0}, "101"},
		{[]uint32{call(-1), call(-2), call(-3), halt, halt}, []int{0}, "11110"},
		// From branch to branch.
		{[]uint32{br(3), halt, br(3), halt, br(-3), halt, halt}, []int{0}, "1010101"},
		{[]uint32{bz(2), bz(2), halt, halt, halt, halt}, []int{0}, "111110"},
	}
	for _, x := range tests {
		isReached(t, x.list, x.from, x.want)
	}
}

// P6.3
func TestReachedFromEachOperation(t *testing.T) {
	ends := []int{instr.HALT, instr.BR, instr.JR, instr.TRAP, instr.RAISE}
	for _, o := range operations {
		want := "0110"
		if slices.Contains(ends, o.op) {
			want = "0100"
		}
		w := o.w
		if branches(o.op) {
			// To itself.
			w = w&0xffff0000 | 0xffff
			if o.op == instr.BR || o.op == instr.CALL {
				w |= 0xff0000
			}
		}
		isReached(t, []uint32{ldi, w, halt, ldi}, []int{1}, want)
	}
	for _, w := range noInstructions {
		isReached(t, []uint32{ldi, w, halt, ldi}, []int{1}, "0100")
		isReached(t, []uint32{ldi, w, halt, ldi}, []int{0}, "1100")
	}
}

// P6.3
func TestReachedFromNowhere(t *testing.T) {
	list := []uint32{ldi, ldi, halt, ldi}
	for _, from := range [][]int{nil, {}, {-1}, {4}, {-1, 4, -4, 5, 100, -100}, {math.MaxInt, math.MinInt, math.MaxInt32, math.MinInt32, 1 << 32, -1 << 32}} {
		isReached(t, list, from, "0000")
		isReached(t, list, append(slices.Clone(from), 1), "0110")
		isReached(t, list, append([]int{1}, from...), "0110")
		isReached(t, nil, from, "")
		isReached(t, []uint32{}, from, "")
	}
	isReached(t, nil, []int{0}, "")
	if got := listing.Reached(nil); len(got) != 0 {
		t.Errorf("Reached(nil): %v", got)
	}
	if got := listing.Reached(list); !slices.Equal(got, make([]bool, 4)) {
		t.Errorf("Reached from no index: %v", got)
	}
}

// P6.3
func TestReachedFromOneTwice(t *testing.T) {
	list := []uint32{ldi, bz(1), halt, ldi, halt, ldi}
	for _, from := range [][]int{{1}, {1, 1}, {1, 1, 1, 1}, {1, 3, 1, 3}, {2, 1, 2}, {4, 1, -1, 4, 1, 6}} {
		isReached(t, list, from, "011110")
	}
}

// P6.3: branches ahead of the first word and behind the last one reach nothing.
func TestReachedOutside(t *testing.T) {
	for _, n := range []int{-3, -4, -100, -32768, 2, 3, 100, 32767} {
		isReached(t, []uint32{ldi, br(n), ldi, ldi}, []int{1}, "0100")
		isReached(t, []uint32{ldi, bz(n), halt, ldi}, []int{1}, "0110")
		isReached(t, []uint32{ldi, bnz(n), halt, ldi}, []int{1}, "0110")
		isReached(t, []uint32{ldi, call(n), halt, ldi}, []int{1}, "0110")
	}
	for _, n := range []int{-8388608, 8388607} {
		isReached(t, []uint32{ldi, br(n), ldi, ldi}, []int{1}, "0100")
		isReached(t, []uint32{ldi, call(n), halt, ldi}, []int{1}, "0110")
	}
	// The words next to those outside.
	isReached(t, []uint32{halt, br(-2), ldi, halt}, []int{1}, "1100")
	isReached(t, []uint32{halt, br(1), ldi, halt}, []int{1}, "0101")
	isReached(t, []uint32{br(1), ldi}, []int{0}, "10")
	isReached(t, []uint32{br(0), ldi}, []int{0}, "11")
}

// slowlyReached is Reached by the words of the chapter alone: what is reached is asked again until nothing is added.
func slowlyReached(list []uint32, from []int) []bool {
	reached := make([]bool, len(list))
	added := false
	reach := func(n int) {
		if 0 <= n && n < len(list) && !reached[n] {
			reached[n], added = true, true
		}
	}
	for _, n := range from {
		reach(n)
	}
	for added {
		added = false
		for n, w := range list {
			i, e := instr.Decode(w)
			if !reached[n] || e != api.OK {
				continue
			}
			switch i.Op {
			case instr.HALT, instr.BR, instr.JR, instr.TRAP, instr.RAISE:
			default:
				reach(n + 1)
			}
			if branches(i.Op) {
				reach(n + 1 + i.Imm)
			}
		}
	}
	return reached
}

// P6.3: fixed rows of words, many of which branch within the row.
func TestReachedOfAnyWords(t *testing.T) {
	state := uint32(7)
	next := func(n int) int {
		state = state*1664525 + 1013904223
		return int(state>>8) % n
	}
	for range 3000 {
		count := 1 + next(40)
		list := make([]uint32, count)
		for n := range list {
			by := next(count+4) - n - 3
			list[n] = []uint32{br(by), bz(by), bnz(by), call(by), ldi, ldi, operations[next(len(operations))].w, halt, noWord}[next(9)]
		}
		from := make([]int, next(4))
		for n := range from {
			from[n] = next(count+4) - 2
		}
		if got, want := listing.Reached(list, from...), slowlyReached(list, from); !slices.Equal(got, want) {
			t.Fatalf("Reached(%08x, %d): %v, not %v", list, from, got, want)
		}
	}
}

// P1, P6.3: long rows, in which what is reached is far from what reaches it.
func TestReachedOfLongRows(t *testing.T) {
	const count = 1 << 20
	all := slices.Repeat([]bool{true}, count)
	for _, w := range []uint32{ldi, bz(0), call(0), call(-2), bnz(-1), br(0), call(8388607)} {
		if got := listing.Reached(slices.Repeat([]uint32{w}, count), 0); !slices.Equal(got, all) {
			t.Errorf("not all of %d words %08x are reached", count, w)
		}
	}
	if got := listing.Reached(slices.Repeat([]uint32{br(-2)}, count), count-1); !slices.Equal(got, all) {
		t.Errorf("not all of %d words BR -2 are reached", count)
	}
	if got := listing.Reached(make([]uint32, count), make([]int, count)...); !got[0] || slices.Contains(got[1:], true) {
		t.Error("words that are no instruction reach others")
	}
}

// P2
func TestArgumentsStay(t *testing.T) {
	words := []uint32{halt, br(-1), bz(-2), noWord, 7, 8, 9}
	indices := []int{2, 1, -5, 2, 99, 98}
	wordsBefore, indicesBefore := slices.Clone(words), slices.Clone(indices)
	for range listing.Lines(0, words[:4]) {
	}
	listing.Print(4, words[:4]...)
	listing.Reached(words[:4], indices[:4]...)
	listing.Reached(words[:4], indices[:1]...)
	if !slices.Equal(words, wordsBefore) {
		t.Errorf("the words have become %08x", words)
	}
	if !slices.Equal(indices, indicesBefore) {
		t.Errorf("the indices have become %d", indices)
	}
	// A text that lies in memory where a change would show.
	before := listing.Print(4, words...)
	text := []byte(before)
	isRead(t, unsafe.String(&text[0], len(text)), 4, words)
	if string(text) != before {
		t.Errorf("the text has become %q", text)
	}
}

// P2: the lines are those of the list as it was handed in, whatever becomes of it.
func TestLinesKeepNoList(t *testing.T) {
	list := []uint32{halt, br(-1), noWord, ldi}
	want := wantLines(4, list[:3])
	seq := listing.Lines(4, list[:3])
	list[0] = ldi
	var got []string
	for line := range seq {
		got = append(got, line)
		for n := range list {
			list[n] = 0
		}
	}
	if !slices.Equal(got, want) {
		t.Errorf("Lines: %q, not %q", got, want)
	}
	if got := slices.Collect(seq); !slices.Equal(got, want) {
		t.Errorf("Lines, once more: %q, not %q", got, want)
	}
}

// P2
func TestResultsAreNew(t *testing.T) {
	text := listing.Print(4, halt, ldi)
	_, one, _, _ := listing.Read(text)
	_, other, _, _ := listing.Read(text)
	one[0] = 99
	if !slices.Equal(other, []uint32{halt, ldi}) {
		t.Errorf("Read: %08x shares memory with another result", other)
	}
	list := []uint32{halt, ldi}
	first := listing.Reached(list, 0)
	second := listing.Reached(list, 0)
	first[0], first[1] = false, true
	if !slices.Equal(second, []bool{true, false}) {
		t.Errorf("Reached: %v shares memory with another result", second)
	}
}

// P1, P6.2
func FuzzRead(f *testing.F) {
	for _, s := range []string{"", "\n", "00000004 16ffffff BR -1 -> 00000004\n", "00000008 01000000 HALT\n0000000c ff000000 ?\n", "fffffffc 01000000 HALT\n00000000 01000000 HALT", " ", "00000000 00000000 ?\n\n"} {
		f.Add(s)
	}
	f.Fuzz(func(t *testing.T, text string) {
		at, list, line, e := listing.Read(text)
		if e == api.OK {
			if line != 0 || listing.Print(at, list...) != text || len(list) == 0 && at != 0 {
				t.Errorf("Read(%q): %08x %08x %d", text, at, list, line)
			}
			return
		}
		if e != api.ErrText || at != 0 || len(list) != 0 || line < 1 || line > strings.Count(text, "\n")+1 {
			t.Fatalf("Read(%q): %08x %08x %d %d", text, at, list, line, e)
		}
		// The lines ahead of the one that is told are right.
		before := strings.Join(strings.SplitAfter(text, "\n")[:line-1], "")
		if at, list, n, e := listing.Read(before); e != api.OK || len(list) != line-1 {
			t.Errorf("Read(%q) tells the line %d, but Read(%q): %08x %08x %d %d", text, line, before, at, list, n, e)
		}
	})
}
