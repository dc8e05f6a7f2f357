package asm

import (
	"testing"

	"pascaline/api"
	"pascaline/instr"
)

// A text of MaxLines lines has room neither for more than MaxCode words nor for a label that is too far away, so that these limits are tried on the assembler itself.

// filled returns an assembler that has read so many words.
func filled(t *testing.T, words int) *assembler {
	t.Helper()
	a := &assembler{places: map[string]int{}}
	for range words {
		a.unit.Words = append(a.unit.Words, 0x01000000)
	}
	return a
}

func mustRead(t *testing.T, a *assembler, number int, list ...string) {
	t.Helper()
	for _, line := range list {
		if e := a.read(line, number); e != api.OK {
			t.Fatalf("%q behind %d words: %d", line, len(a.unit.Words), e)
		}
	}
}

// P5.2
func TestMaxCode(t *testing.T) {
	for _, line := range []string{"HALT", "WORD 00000001", "BR -1", "BR x", "BZ r1, x"} {
		a := filled(t, api.MaxCode-1)
		mustRead(t, a, 1, line)
		if e := a.read(line, 2); e != api.ErrCode {
			t.Errorf("%q behind %d words: %d", line, api.MaxCode, e)
		}
		mustRead(t, a, 3, "", "; x", "x:")
		if len(a.unit.Words) != api.MaxCode {
			t.Errorf("%d words", len(a.unit.Words))
		}
		for _, wrong := range []string{"WORD 1", "BR", "HALT ", "X"} {
			if e := a.read(wrong, 4); e != api.ErrText {
				t.Errorf("%q behind %d words: %d", wrong, api.MaxCode, e)
			}
		}
	}
}

// P5.2
func TestMaxDistance(t *testing.T) {
	const wide, narrow = 24, 16
	for _, x := range []struct {
		op   int
		bits int
	}{{instr.BZ, narrow}, {instr.BNZ, narrow}, {instr.BR, wide}, {instr.CALL, wide}} {
		last := 1<<(x.bits-1) - 1
		for _, n := range []struct {
			number int
			e      api.Errno
		}{{last, api.OK}, {last + 1, api.ErrFar}, {-last - 1, api.OK}, {-last - 2, api.ErrFar}} {
			at := 5
			a := filled(t, 10)
			a.open = []named{{i: instr.Instr{Op: x.op}, label: "near", at: 2, line: 3}, {i: instr.Instr{Op: x.op}, label: "x", at: at, line: 7}, {i: instr.Instr{Op: x.op}, label: "none", at: 8, line: 9}}
			a.places = map[string]int{"near": 1, "x": at + 1 + n.number, "none": 0}
			line, e := a.resolve()
			if e != n.e || (line == 7) != (e == api.ErrFar) {
				t.Errorf("%s %d: line %d, error %d, not %d", instr.Name(x.op), n.number, line, e, n.e)
			}
			if want, _ := instr.Encode(instr.Instr{Op: x.op, Imm: n.number}); e == api.OK && a.unit.Words[at] != want {
				t.Errorf("%s %d: %08x, not %08x", instr.Name(x.op), n.number, a.unit.Words[at], want)
			}
		}
	}
}

// P5.2: the first word whose label is missing or too far away is told, whichever of the two it is.
func TestFarOrMissing(t *testing.T) {
	far, missing := named{i: instr.Instr{Op: instr.BZ}, label: "far", at: 1, line: 4}, named{i: instr.Instr{Op: instr.BZ}, label: "missing", at: 2, line: 6}
	a := filled(t, 5)
	a.places["far"] = 1 << 20
	a.open = []named{far, missing}
	if line, e := a.resolve(); line != 4 || e != api.ErrFar {
		t.Errorf("line %d, error %d", line, e)
	}
	a.open = []named{missing, far}
	if line, e := a.resolve(); line != 6 || e != api.ErrLabel {
		t.Errorf("line %d, error %d", line, e)
	}
}
