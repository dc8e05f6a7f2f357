package asm_test

import (
	"reflect"
	"slices"
	"strings"
	"testing"
	"unsafe"

	"pascaline/api"
	"pascaline/asm"
	"pascaline/instr"
)

// halt is the word of HALT.
const halt = 0x01000000

// lines returns a text of these lines, without a line feed at its end.
func lines(list ...string) string { return strings.Join(list, "\n") }

// comesTo holds a text against the words and labels that it must come to.
func comesTo(t *testing.T, text string, words []uint32, labels ...asm.Label) {
	t.Helper()
	u, line, e := asm.Assemble(text)
	if e != api.OK || line != 0 {
		t.Errorf("%.300q: line %d, error %d", text, line, e)
		return
	}
	if !slices.Equal(u.Words, words) {
		t.Errorf("%.300q: words %08x, not %08x", text, u.Words, words)
	}
	if !slices.Equal(u.Labels, labels) {
		t.Errorf("%.300q: labels %v, not %v", text, u.Labels, labels)
	}
}

// refused holds a text against the line and the error that it must come to, beside which there is nothing.
func refused(t *testing.T, text string, line int, e api.Errno) {
	t.Helper()
	u, gotLine, gotE := asm.Assemble(text)
	if gotLine != line || gotE != e {
		t.Errorf("%.300q: line %d, error %d, not %d, %d", text, gotLine, gotE, line, e)
	}
	if len(u.Words) != 0 || len(u.Labels) != 0 {
		t.Errorf("%.300q: %d words and %d labels beside error %d", text, len(u.Words), len(u.Labels), gotE)
	}
}

// wrongLine holds a line against ErrText, alone and behind others.
func wrongLine(t *testing.T, line string) {
	t.Helper()
	refused(t, line, 1, api.ErrText)
	refused(t, lines("HALT", "", "x:", line, "HALT"), 4, api.ErrText)
}

// P5.1
func TestName(t *testing.T) {
	for _, s := range []string{
		"a", "z", "_", "__", "m", "again", "a0", "a9", "_0", "_1_", "x_y_9", "r1", "r16", "halt", "word", "abcdefghijklmnopqrstuvwxyz",
		strings.Repeat("a", 32), "_" + strings.Repeat("9", 31),
	} {
		if !asm.Name(s) {
			t.Errorf("Name(%q): false", s)
		}
	}
	for _, s := range []string{
		"", "0", "9", "1a", "0_", "12", "-1", "A", "Z", "Again", "aGain", "agaiN", "HALT", "a ", " a", "a b", "a:", ":", ";", "a;", "a,", "a-b", "a.b", "a\n", "\n", "a\x00", "\x00", "\r", "a\r",
		"`", "{", "@", "[", "^", "/", "a`", "a{", "a@", "a[", "a/", // beside the ranges
		"é", "aé", "a\x80", "\xff", "a\xff", "aаb", "a١",
		strings.Repeat("a", 33), "_" + strings.Repeat("9", 32), strings.Repeat("a", 1000), strings.Repeat("a", 32) + "\n",
	} {
		if asm.Name(s) {
			t.Errorf("Name(%q): true", s)
		}
	}
}

// P5.1: every byte, alone and behind another one.
func TestNameOfBytes(t *testing.T) {
	for c := range 256 {
		letter := 'a' <= c && c <= 'z' || c == '_'
		digit := '0' <= c && c <= '9'
		s := string([]byte{byte(c)})
		if got := asm.Name(s); got != letter {
			t.Errorf("Name(%q): %v", s, got)
		}
		if got := asm.Name("a" + s + "b"); got != (letter || digit) {
			t.Errorf("Name(%q): %v", "a"+s+"b", got)
		}
	}
}

// P5.1
func TestAt(t *testing.T) {
	u := asm.Unit{
		Words:  []uint32{1, 2, 3},
		Labels: []asm.Label{{Name: "b", At: 7}, {Name: "a", At: 0}, {Name: "b", At: 2}, {Name: "", At: -9}, {Name: "A b", At: 5}, {Name: "b", At: 1}},
	}
	for name, want := range map[string]int{"b": 7, "a": 0, "": -9, "A b": 5, "c": -1, "B": -1, "a ": -1, "b:": -1, "ab": -1} {
		if got := u.At(name); got != want {
			t.Errorf("At(%q): %d, not %d", name, got, want)
		}
	}
	for _, name := range []string{"", "a"} {
		if got := (asm.Unit{}).At(name); got != -1 {
			t.Errorf("At(%q) of no labels: %d", name, got)
		}
	}
}

// P5.1, P5.2
func TestAtOfAssembled(t *testing.T) {
	u, _, e := asm.Assemble(lines("first:", "; remark", "HALT", "WORD 00000001", "second:", "third:", "HALT", "last:"))
	if e != api.OK {
		t.Fatalf("error %d", e)
	}
	for name, want := range map[string]int{"first": 0, "second": 2, "third": 2, "last": 3, "fourth": -1, "": -1, "remark": -1} {
		if got := u.At(name); got != want {
			t.Errorf("At(%q): %d, not %d", name, got, want)
		}
	}
}

// P5.2: the examples of the chapter.
func TestExamples(t *testing.T) {
	text := lines("; add up", "LDI r1, 3", "again:", "ADDI r1, r1, -1", "BNZ r1, again", "HALT")
	comesTo(t, text, []uint32{0x02100003, 0x0511ffff, 0x1510fffe, halt}, asm.Label{Name: "again", At: 1})
	comesTo(t, lines("loop:", "BR loop"), []uint32{0x16ffffff}, asm.Label{Name: "loop"})
	refused(t, "BR x", 1, api.ErrLabel)
}

// Each operation, with its fields as numbers, and its word by the table of chapter 2.
var operations = []struct {
	line string
	w    uint32
}{
	{"HALT", 0x01000000},
	{"LDI r1, -32768", 0x02108000},
	{"LUI r15, 65535", 0x03f0ffff},
	{"ORI r1, r2, 32768", 0x04128000},
	{"ADDI r1, r2, -1", 0x0512ffff},
	{"ADD r1, r2, r3", 0x06120003},
	{"SUB r4, r5, r6", 0x07450006},
	{"MUL r7, r8, r9", 0x08780009},
	{"DIV r10, r11, r12", 0x09ab000c},
	{"MOD r13, r14, r15", 0x0ade000f},
	{"AND r0, r0, r0", 0x0b000000},
	{"OR r15, r0, r1", 0x0cf00001},
	{"XOR r1, r0, r15", 0x0d10000f},
	{"SLT r2, r4, r6", 0x0e240006},
	{"SLE r3, r6, r9", 0x0f360009},
	{"SEQ r4, r8, r12", 0x1048000c},
	{"SNE r5, r10, r15", 0x115a000f},
	{"LDW r1, r13, -8", 0x121dfff8},
	{"STW r1, r15, 4", 0x131f0004},
	{"BZ r3, 32767", 0x14307fff},
	{"BNZ r4, -32768", 0x15408000},
	{"BR -8388608", 0x16800000},
	{"CALL 8388607", 0x177fffff},
	{"JR r14", 0x18e00000},
	{"CALLR r9", 0x19900000},
	{"CHK r3, 1, 10", 0x1a31000a},
	{"NIL r8", 0x1b800000},
	{"TRAP 65535", 0x1c00ffff},
	{"RAISE r1", 0x1d100000},
	{"OUT r6, 5", 0x1e600005},
	{"IN r7", 0x1f700000},
	{"CHKS r12", 0x20c00000},
	{"RTC r2, 1", 0x21200001},
	{"XORI r9, r10, 1", 0x229a0001},
}

// P5.2, P5.3
func TestEachOperation(t *testing.T) {
	if len(operations) != instr.Last {
		t.Errorf("%d operations, not %d", len(operations), instr.Last)
	}
	var text []string
	var words []uint32
	for _, o := range operations {
		comesTo(t, o.line, []uint32{o.w})
		if got := asm.Source(o.w); got != o.line+"\n" {
			t.Errorf("Source(%08x): %q, not %q", o.w, got, o.line)
		}
		text, words = append(text, o.line), append(words, o.w)
	}
	comesTo(t, lines(text...), words)
	if got := asm.Source(words...); got != lines(text...)+"\n" {
		t.Errorf("Source of all: %q", got)
	}
}

// P5.2: spaces and commas where none belong, for each operation.
func TestSpacesAndCommas(t *testing.T) {
	for _, o := range operations {
		for _, line := range []string{o.line + " ", " " + o.line, o.line + ",", o.line + ", ", o.line + ", 0", o.line + ", r0", o.line + " 0", o.line + " ;", o.line + ";", o.line + ":", o.line + "\r", o.line + "\t", o.line + "\x00"} {
			wrongLine(t, line)
		}
		first, rest, ok := strings.Cut(o.line, " ")
		for _, line := range []string{strings.ToLower(first) + " " + rest, first + "X " + rest, first + "  " + rest, first + "\t" + rest, first + ", " + rest, first + ":" + rest, first + " , " + rest, first + " ;" + rest} {
			wrongLine(t, line)
		}
		if !ok {
			continue
		}
		for _, line := range []string{first, first + " ", first + "  ", first + ",", first + rest, rest} {
			wrongLine(t, line)
		}
		if !strings.Contains(rest, ", ") {
			continue
		}
		for _, between := range []string{",", " ", "  ", " ,", " , ", ",  ", ",, ", ", , ", ",\t", ";", ""} {
			wrongLine(t, first+" "+strings.Replace(rest, ", ", between, 1))
		}
		before, _, _ := strings.Cut(rest, ", ")
		wrongLine(t, first+" "+before)
		wrongLine(t, first+" "+before+", ")
	}
	wrongLine(t, "HALT 0")
	wrongLine(t, "ADD r1, r2, r3, r4, r5, r6"+strings.Repeat(", r7", 1000))
}

// P5.2: fields that no instruction has.
func TestWrongFields(t *testing.T) {
	for _, line := range []string{
		"ADD r1, r2, r16", "ADD r1, r2, 3", "ADD r1, r2, R3", "ADD r01, r2, r3", "LDI 1, 3", "LDI r1, r3", "LDI r1, 03", "LDI r1, +3", "LDI r1, -0", "LDI r1, 0x3", "LDI r1, x",
		"LDI r1, 32768", "LDI r1, -32769", "LUI r1, -1", "LUI r1, 65536", "ORI r1, r2, 65536", "ADDI r1, r2, x", "CHK r3, r1, 10", "CHK r3, 16, 10", "CHK r3, -1, 10", "CHK r3, 1, x",
		"TRAP -1", "TRAP 65536", "TRAP x", "OUT r1, x", "RTC r1, x", "JR x", "JR 14", "CALLR x", "NIL x", "RAISE x", "IN x", "CHKS x", "STW r1, r15, x", "LDW r1, x, 4",
		"BR 8388608", "BR -8388609", "CALL 8388608", "CALL -8388609", "BZ r1, 32768", "BZ r1, -32769", "BNZ r1, 32768", "BNZ r1, -32769",
		"X", "x", "HALTS", "HAL", "h", "0", "1", "-1", ":", "::", " ", "  ", "\t", "\r", ",", ", ", " ;", "\x00", "\xff", "é",
		"WORDS 00000001", "word 00000001", "Word 00000001", "LABEL x", "OP 1", "None", "34",
	} {
		wrongLine(t, line)
	}
}

// P5.2
func TestWords(t *testing.T) {
	for text, w := range map[string]uint32{
		"WORD 00000000": 0, "WORD 00000001": 1, "WORD ffffffff": 0xffffffff, "WORD 89abcdef": 0x89abcdef, "WORD 01234567": 0x01234567, "WORD 01000000": halt, "WORD 10203040": 0x10203040,
	} {
		comesTo(t, text, []uint32{w})
		comesTo(t, lines("HALT", text, "HALT"), []uint32{halt, w, halt})
	}
	for _, line := range []string{
		"WORD", "WORD ", "WORD 0", "WORD 0000000", "WORD 000000000", "WORD fffffff", "WORD 1ffffffff", "WORD 0000000A", "WORD FFFFFFFF", "WORD 89ABCDEF", "WORD 0000000g", "WORD 0x000001", "WORD 0000 001", "WORD 0000000,",
		"WORD  00000001", "WORD  0000001", "WORD 00000001 ", "WORD 0000001 ", "WORD, 00000001", "WORD 00000001, 00000002", "WORD 00000001 00000002", "WORD\t00000001", "WORD00000001", " WORD 00000001", "WORD x", "WORD aaaaaaa_", "WORD -0000001", "WORD 00000001;", "WORD 00000001:",
	} {
		wrongLine(t, line)
	}
}

// P5.2
func TestLinesWithoutEffect(t *testing.T) {
	for _, text := range []string{"", "\n", "\n\n\n", ";", ";;", "; add up", ";HALT", "; HALT", ";x:", "; x:", "; WORD zz", ";\x00\xff\r\t é", lines(";", "", "; x", ""), strings.Repeat("\n", 4095), ";" + strings.Repeat("x", 100000)} {
		comesTo(t, text, nil)
	}
	comesTo(t, lines("", "; x:", "HALT", "", ";HALT", "WORD 00000002", ""), []uint32{halt, 2})
}

// P5.2: line feeds separate lines.
func TestLineFeeds(t *testing.T) {
	for _, text := range []string{"HALT", "HALT\n", "HALT\n\n\n", "\nHALT", "\n\n\nHALT\n", ";\nHALT\n;"} {
		comesTo(t, text, []uint32{halt})
	}
	comesTo(t, "HALT\nHALT", []uint32{halt, halt})
	refused(t, "HALT\r\nHALT", 1, api.ErrText)
	refused(t, "HALT\rHALT", 1, api.ErrText)
	refused(t, "HALT HALT", 1, api.ErrText)
	refused(t, "\n\nx\n", 3, api.ErrText)
	refused(t, "HALT\n\n x", 3, api.ErrText)
	refused(t, "HALT\n ", 2, api.ErrText)
}

// P5.2
func TestLabels(t *testing.T) {
	long := strings.Repeat("a", 32)
	comesTo(t, lines("a:", "_:", long+":", "HALT", "r1:", "; x", "", "_0:", "WORD 00000001", "halt:", "word:"), []uint32{halt, 1},
		asm.Label{Name: "a"}, asm.Label{Name: "_"}, asm.Label{Name: long}, asm.Label{Name: "r1", At: 1}, asm.Label{Name: "_0", At: 1}, asm.Label{Name: "halt", At: 2}, asm.Label{Name: "word", At: 2})
	comesTo(t, "x:", nil, asm.Label{Name: "x"})
	comesTo(t, "x:\n", nil, asm.Label{Name: "x"})
	for _, line := range []string{
		":", "1:", "1a:", "A:", "Again:", "aB:", "a b:", "a :", " a:", "a: ", "a:;", "a: ; x", "a:HALT", "a: HALT", "a::", "a:b:", "é:", "a\xff:", "\x80:", "a\r:", "a:\r", "a-b:", long + "a:", strings.Repeat("a", 33) + ":", "HALT:", "WORD:", "a", long,
	} {
		wrongLine(t, line)
	}
}

// P5.2
func TestLabelTwice(t *testing.T) {
	refused(t, lines("x:", "x:"), 2, api.ErrTwice)
	refused(t, lines("x:", "HALT", "y:", "BR x", "x:", "HALT"), 5, api.ErrTwice)
	refused(t, lines("a:", "b:", "b:", "a:"), 3, api.ErrTwice)
	comesTo(t, lines("x:", "; x:", "xx:", "x_:", "_x:"), nil, asm.Label{Name: "x"}, asm.Label{Name: "xx"}, asm.Label{Name: "x_"}, asm.Label{Name: "_x"})
}

// named are the operations that take a name, each with what stands before it and with the word for the number 0.
var named = []struct {
	before string
	w      uint32
	bits   int
}{
	{"BZ r3, ", 0x14300000, 16},
	{"BNZ r15, ", 0x15f00000, 16},
	{"BR ", 0x16000000, 24},
	{"CALL ", 0x17000000, 24},
}

// P5.2: names behind and ahead, at all near distances.
func TestNamesInInstructions(t *testing.T) {
	for _, x := range named {
		for at := range 6 {
			for place := range 7 {
				var list []string
				var words []uint32
				for n := range 6 {
					if n == place {
						list = append(list, "; here", "here:")
					}
					if n == at {
						list, words = append(list, x.before+"here"), append(words, x.w|uint32(place-at-1)&(1<<x.bits-1))
					} else {
						list, words = append(list, "", "HALT"), append(words, halt)
					}
				}
				if place == 6 {
					list = append(list, "here:")
				}
				comesTo(t, lines(list...), words, asm.Label{Name: "here", At: place})
			}
		}
	}
}

// P5.2: several names, one of them twice, and names that look like registers, words or operations.
func TestManyNames(t *testing.T) {
	text := lines("start:", "CALL r1", "BZ r1, r1", "BNZ r2, halt", "BR start", "r1:", "CALL word", "halt:", "word:", "BR -1", "BZ r0, _1", "_1:")
	words := []uint32{0x17000003, 0x14100002, 0x15200002, 0x16fffffc, 0x17000000, 0x16ffffff, 0x14000000}
	comesTo(t, text, words, asm.Label{Name: "start"}, asm.Label{Name: "r1", At: 4}, asm.Label{Name: "halt", At: 5}, asm.Label{Name: "word", At: 5}, asm.Label{Name: "_1", At: 7})
}

// P5.2: a name stands only in the last field of these four, and all else must be right.
func TestWrongNames(t *testing.T) {
	for _, line := range []string{
		"BR", "BR ", "BZ x", "BZ r1", "BZ r1, ", "BZ x, x", "BZ x, 1", "BZ r16, x", "BZ R1, x", "BZ 1, x", "BNZ x", "BNZ r16, x", "BNZ x, x", "BR x, x", "BR r1, x", "BR x, 1", "CALL x, x", "CALL r1, x", "BZ r1, x, x", "BZ r1, x, 1", "BZ r1,x", "BZ r1 x", "BZ r1,  x", "BZ  r1, x", "BZ r1 , x",
		"BR X", "BR x:", "BR :", "BR x;", "BR x ", "BR  x", "BR x,", "BR x, ", "BR 1x", "BR é", "BR x\xff", "BR x\r", "BR -x", "BR +1", "BR x+1", "BR " + strings.Repeat("x", 33), "BZ r1, " + strings.Repeat("x", 33),
		"JR x", "CALLR x", "LDI r1, x", "TRAP x", "HALT x", "ADDI r1, r1, x", "RAISE x",
	} {
		refused(t, lines("x:", line), 2, api.ErrText)
		refused(t, lines("x:", "x1:", "HALT", line, "X"), 4, api.ErrText)
	}
	long := strings.Repeat("x", 32)
	comesTo(t, lines(long+":", "BR "+long), []uint32{0x16ffffff}, asm.Label{Name: long})
}

// P5.2
func TestNoLabel(t *testing.T) {
	for _, x := range named {
		refused(t, x.before+"x", 1, api.ErrLabel)
		refused(t, lines("; x:", "xx:", "HALT", "", x.before+"x", "y:"), 5, api.ErrLabel)
		refused(t, lines("BR y", x.before+"x", "y:", "BR z"), 2, api.ErrLabel)
		refused(t, lines("BR x", x.before+"y", "x:"), 2, api.ErrLabel)
	}
}

// P5.2: the farthest labels that a text has room for.
func TestFarthestNames(t *testing.T) {
	for _, x := range named {
		list := slices.Repeat([]string{"HALT"}, api.MaxLines)
		words := slices.Repeat([]uint32{halt}, api.MaxLines-1)
		list[0], list[api.MaxLines-1] = x.before+"x", "x:"
		words[0] = x.w | api.MaxLines - 2
		comesTo(t, lines(list...), words, asm.Label{Name: "x", At: api.MaxLines - 1})

		list[0], list[api.MaxLines-1] = "x:", x.before+"x"
		words[0], words[api.MaxLines-2] = halt, x.w|(1<<x.bits-api.MaxLines+1)
		comesTo(t, lines(list...), words, asm.Label{Name: "x"})
	}
}

// P5.2: which of two faults is told.
func TestTwoFaults(t *testing.T) {
	tests := []struct {
		list []string
		line int
		e    api.Errno
	}{
		{[]string{"HALT", "x", "y"}, 2, api.ErrText},
		{[]string{"a:", "a:", "x"}, 2, api.ErrTwice},
		{[]string{"a:", "x", "a:"}, 2, api.ErrText},
		{[]string{"BR nowhere", "HALT", "x"}, 3, api.ErrText},
		{[]string{"BR nowhere", "a:", "a:"}, 3, api.ErrTwice},
		{[]string{"BR here", "CALL nowhere", "BR there", "here:"}, 2, api.ErrLabel},
		{[]string{"", "BR there", "BR nowhere"}, 2, api.ErrLabel},
		{[]string{"A:", "A:"}, 1, api.ErrText},
		{[]string{"BR nowhere", "BZ r16, nowhere"}, 2, api.ErrText},
	}
	for _, x := range tests {
		refused(t, lines(x.list...), x.line, x.e)
	}
}

// P5.2: line feeds separate lines, so that as many as MaxLines are one line too many.
func TestManyLines(t *testing.T) {
	full := slices.Repeat([]string{"HALT"}, api.MaxLines)
	words := slices.Repeat([]uint32{halt}, api.MaxLines)
	comesTo(t, lines(full...), words)
	comesTo(t, strings.Repeat("HALT\n", api.MaxLines-1), words[1:])
	comesTo(t, strings.Repeat("\n", api.MaxLines-1), nil)
	comesTo(t, strings.Repeat(";\n", api.MaxLines-1)+"x:", nil, asm.Label{Name: "x"})
	for _, text := range []string{
		lines(full...) + "\n",
		lines(full...) + "\nHALT",
		strings.Repeat("\n", api.MaxLines),
		strings.Repeat("\n", api.MaxLines+1),
		strings.Repeat(";\n", api.MaxLines),
		strings.Repeat("HALT\n", api.MaxCode),
		strings.Repeat("HALT\n", api.MaxCode+1),
		strings.Repeat("\n", 1<<20),
		// More lines than there may be go before all other faults.
		"x" + strings.Repeat("\n", api.MaxLines),
		"x:\nx:" + strings.Repeat("\n", api.MaxLines),
		"BR nowhere" + strings.Repeat("\n", api.MaxLines),
		strings.Repeat("\n", api.MaxLines) + "x",
	} {
		refused(t, text, api.MaxLines+1, api.ErrCode)
	}
	refused(t, strings.Repeat("\n", api.MaxLines-1)+"x", api.MaxLines, api.ErrText)
	refused(t, "x:"+strings.Repeat("\n", api.MaxLines-1)+"x:", api.MaxLines, api.ErrTwice)
	refused(t, strings.Repeat("\n", api.MaxLines-1)+"BR nowhere", api.MaxLines, api.ErrLabel)
}

// P5.3
func TestSource(t *testing.T) {
	tests := []struct {
		list []uint32
		want string
	}{
		{nil, ""},
		{[]uint32{}, ""},
		{[]uint32{halt}, "HALT\n"},
		{[]uint32{0}, "WORD 00000000\n"},
		{[]uint32{0x16ffffff, 0x17fffffe}, "BR -1\nCALL -2\n"},
		{[]uint32{0x0512ffff, 0xffffffff, 0x1a31000a, 0x01000001, 0x23000000}, "ADDI r1, r2, -1\nWORD ffffffff\nCHK r3, 1, 10\nWORD 01000001\nWORD 23000000\n"},
		{[]uint32{0x06120103, 0x14107fff, 0xabcdef01, 0x1510fffe}, "WORD 06120103\nBZ r1, 32767\nWORD abcdef01\nBNZ r1, -2\n"},
	}
	for _, x := range tests {
		if got := asm.Source(x.list...); got != x.want {
			t.Errorf("Source(%08x): %q, not %q", x.list, got, x.want)
		}
	}
	if got := asm.Source(); got != "" {
		t.Errorf("Source(): %q", got)
	}
	if got, want := asm.Source(slices.Repeat([]uint32{halt}, 100000)...), strings.Repeat("HALT\n", 100000); got != want {
		t.Errorf("Source of 100000 words: %d bytes, not %d", len(got), len(want))
	}
}

// anyWords returns a fixed row of words: of instructions, of such with a bit too many, and of any others.
func anyWords(count int) []uint32 {
	list := []uint32{0, 0xffffffff, halt, halt + 1}
	for _, o := range operations {
		for _, bit := range []uint32{0, 1, 1 << 4, 1 << 15, 1 << 16, 1 << 20, 1 << 23, 1 << 31} {
			list = append(list, o.w, o.w^bit)
		}
	}
	state := uint32(1)
	for len(list) < count {
		state = state*1664525 + 1013904223
		list = append(list, state, state%(instr.Last+2)<<24|state>>8, state%(instr.Last+2)<<24|state>>12&0xfff00f)
	}
	return list[:count]
}

// P5.4
func TestAssembleOfSource(t *testing.T) {
	list := anyWords(20000)
	count := 0
	for _, w := range list {
		if _, e := instr.Decode(w); e == api.OK {
			count++
		}
		comesTo(t, asm.Source(w), []uint32{w})
	}
	if count < 1000 || count > len(list)-1000 {
		t.Errorf("%d of %d words are instructions", count, len(list))
	}
	for _, n := range []int{0, 1, 2, 100, 4094, 4095} {
		comesTo(t, asm.Source(list[:n]...), list[:n])
		comesTo(t, asm.Source(list[len(list)-n:]...), list[len(list)-n:])
	}
	refused(t, asm.Source(list[:4096]...), 4097, api.ErrCode)
}

// P5.4: the other way round, each operation's own form is the only one that Source writes.
func TestSourceOfAssembled(t *testing.T) {
	text := lines("loop:", "LDI r1, 3", "WORD 0210000a", "BNZ r1, loop", "CALL last", "WORD 00000007", "last:", "")
	u, _, e := asm.Assemble(text)
	if e != api.OK {
		t.Fatalf("error %d", e)
	}
	if got, want := asm.Source(u.Words...), lines("LDI r1, 3", "LDI r1, 10", "BNZ r1, -3", "CALL 1", "WORD 00000007", ""); got != want {
		t.Errorf("Source: %q, not %q", got, want)
	}
}

// P2
func TestArgumentsStay(t *testing.T) {
	room := []uint32{halt, 0x16ffffff, 7, 8}
	before := slices.Clone(room)
	if got := asm.Source(room[:2]...); got != "HALT\nBR -1\n" {
		t.Errorf("Source: %q", got)
	}
	if !slices.Equal(room, before) {
		t.Errorf("Source changed its list to %08x", room)
	}
}

// P2: the result shares nothing with the text or with another result, and depends on the text alone.
func TestResultsAreNew(t *testing.T) {
	text := lines("name:", "BR name", "HALT", "other:")
	u, _, _ := asm.Assemble(text)
	start := uintptr(unsafe.Pointer(unsafe.StringData(text)))
	for _, l := range u.Labels {
		if at := uintptr(unsafe.Pointer(unsafe.StringData(l.Name))); start <= at && at < start+uintptr(len(text)) {
			t.Errorf("the name %q is a piece of the text", l.Name)
		}
	}
	again, _, _ := asm.Assemble(text)
	if !reflect.DeepEqual(u, again) {
		t.Errorf("%v, then %v", u, again)
	}
	u.Words[0], u.Labels[0] = 9, asm.Label{Name: "x", At: 9}
	if again.Words[0] != 0x16ffffff || again.Labels[0] != (asm.Label{Name: "name"}) {
		t.Errorf("%v shares memory with another result", again)
	}
}

// P1
func FuzzAssemble(f *testing.F) {
	for _, s := range []string{"", "\n", "x:", "x:\nBR x", "BZ r1, x", "WORD 0000000a", "; x\nHALT", "CHK r3, 1, 10\n", "BR ", "BR , ", ":", " :", "\xff:\x00"} {
		f.Add(s)
	}
	f.Fuzz(func(t *testing.T, text string) {
		u, line, e := asm.Assemble(text)
		if e != api.OK {
			if line < 1 || len(u.Words) > 0 || len(u.Labels) > 0 {
				t.Errorf("%q: line %d, error %d, %v", text, line, e, u)
			}
			return
		}
		if line != 0 {
			t.Errorf("%q: line %d without an error", text, line)
		}
		for _, l := range u.Labels {
			if !asm.Name(l.Name) || u.At(l.Name) != l.At || l.At < 0 || l.At > len(u.Words) {
				t.Errorf("%q: label %v", text, l)
			}
		}
		if len(u.Words) < api.MaxLines {
			comesTo(t, asm.Source(u.Words...), u.Words)
		}
	})
}
