package place_test

import (
	"math"
	"slices"
	"strings"
	"testing"
	"unsafe"

	"pascaline/api"
	"pascaline/place"
)

// numbers that are far from every line, column and offset.
var farNumbers = []int{math.MinInt, math.MinInt + 1, math.MinInt32, -1000, 1000000, math.MaxInt32, math.MaxInt - 1, math.MaxInt}

// texts of one line and of several, with and without a line feed at their ends, and with signs that other programs take for the end of a line.
var texts = []string{
	"",
	"\n",
	"\n\n",
	"\n\n\n\n",
	"a",
	"a\n",
	"\na",
	"ab\nc",
	"ab\nc\n",
	"ab\n\nc\n\n\n",
	"\n\nab\n\n\ncd\ne",
	"one\n\ttwo\n",
	"\t\n\t\t\na\tb\t\n",
	"MODULE M;\nBEGIN\n  WRITE(7)\nEND M.\n",
	"a\r\nb\r\n",
	"a\rb\vc\fd\x00e\x85f\n\r\n\r",
	"\u00e4\n\u20ac\U0001f600\n\u2028\u2029\u0085\n\u010a",
	"\xff\n\xe2\x82\n\xf0\x9f\x98\nc\x80\xc3",
	"\xe2\n\x82\xac\n\xed\xa0\x80",
	strings.Repeat("x", 300) + "\n" + strings.Repeat("\t", 300),
	strings.Repeat("\n", 300),
	strings.Repeat("ab\n", 300),
}

// allTexts returns texts, and all of at most 6 bytes that are made of four bytes.
func allTexts() []string {
	all := slices.Clone(texts)
	short := []string{""}
	for range 6 {
		var longer []string
		for _, s := range short {
			for _, sign := range []string{"\n", "a", "\t", "\xc3"} {
				longer = append(longer, s+sign)
			}
		}
		all = append(all, longer...)
		short = longer
	}
	return all
}

// limited returns the offset within a text that is taken instead of any number.
func limited(text string, offset int) int {
	return max(0, min(offset, len(text)))
}

// slowAt works out At byte by byte.
func slowAt(text string, offset int) (int, int) {
	line, column := 1, 1
	for n := range limited(text, offset) {
		column++
		if text[n] == 10 {
			line, column = line+1, 1
		}
	}
	return line, column
}

// slowMark works out Mark from the lines as strings.Split tells them.
func slowMark(text string, offset int) string {
	line, column := slowAt(text, offset)
	s := strings.Split(text, "\n")[line-1]
	before := []byte(s[:column-1])
	for n := range before {
		if before[n] != '\t' {
			before[n] = ' '
		}
	}
	return s + "\n" + string(before) + "^"
}

// offsetsOf returns all offsets of a text, some just beyond it, and such as are far away.
func offsetsOf(text string) []int {
	offsets := slices.Clone(farNumbers)
	for n := -3; n <= len(text)+3; n++ {
		offsets = append(offsets, n)
	}
	return offsets
}

// isAt checks one answer of At.
func isAt(t *testing.T, text string, offset, line, column int) {
	t.Helper()
	if l, c := place.New(text).At(offset); l != line || c != column {
		t.Errorf("At(%d) of %q: %d %d, not %d %d", offset, text, l, c, line, column)
	}
}

// isOffset checks one answer of Offset.
func isOffset(t *testing.T, text string, line, column, want int, wanted api.Errno) {
	t.Helper()
	if got, e := place.New(text).Offset(line, column); got != want || e != wanted {
		t.Errorf("Offset(%d, %d) of %q: %d %d, not %d %d", line, column, text, got, e, want, wanted)
	}
}

// isMark checks one answer of Mark.
func isMark(t *testing.T, text string, offset int, want string) {
	t.Helper()
	if got := place.New(text).Mark(offset); got != want {
		t.Errorf("Mark(%d) of %q: %q, not %q", offset, text, got, want)
	}
}

// P7.1: a text has one line more than it has line feeds.
func TestLinesAndLen(t *testing.T) {
	tests := []struct {
		text       string
		lines, len int
	}{
		{"", 1, 0},
		{"a", 1, 1},
		{"\n", 2, 1},
		{"\n\n\n", 4, 3},
		{"ab\nc", 2, 4},
		{"ab\nc\n", 3, 5},
		{"\nab\n\nc\n\n", 6, 8},
		{"a\r\nb\r", 2, 5},
		{"a\rb\vc\fd\x00e", 1, 9},
		{"\u20ac\u2028\u2029\u0085\u010a", 1, 13},
		{"\u00e4\n\U0001f600", 2, 7},
		{"\xff\n\xe2\n\x80", 3, 5},
	}
	for _, x := range tests {
		index := place.New(x.text)
		if got := index.Lines(); got != x.lines {
			t.Errorf("Lines of %q: %d, not %d", x.text, got, x.lines)
		}
		if got := index.Len(); got != x.len {
			t.Errorf("Len of %q: %d, not %d", x.text, got, x.len)
		}
	}
}

// P7.1
func TestLine(t *testing.T) {
	tests := []struct {
		text string
		want []string
	}{
		{"", []string{""}},
		{"a", []string{"a"}},
		{"\n", []string{"", ""}},
		{"\n\n\n", []string{"", "", "", ""}},
		{"ab\nc", []string{"ab", "c"}},
		{"ab\nc\n", []string{"ab", "c", ""}},
		{"\nab\n\nc\n\n", []string{"", "ab", "", "c", "", ""}},
		{"a\r\n\tb \r", []string{"a\r", "\tb \r"}},
		{"\u00e4\n\u20ac\u2028\xff", []string{"\u00e4", "\u20ac\u2028\xff"}},
		{"\xe2\n\x82\xac", []string{"\xe2", "\x82\xac"}},
	}
	for _, x := range tests {
		index := place.New(x.text)
		for n, want := range x.want {
			if got := index.Line(n + 1); got != want {
				t.Errorf("Line(%d) of %q: %q, not %q", n+1, x.text, got, want)
			}
		}
		for _, n := range append([]int{0, -1, -2, -len(x.want), len(x.want) + 1, len(x.want) + 2}, farNumbers...) {
			if got := index.Line(n); got != "" {
				t.Errorf("Line(%d) of %q: %q, but there is no such line", n, x.text, got)
			}
		}
	}
}

// P7.1: the chapter's example, each offset of some texts, and those that are limited.
func TestAt(t *testing.T) {
	isAt(t, "ab\nc", 3, 2, 1)
	tests := []struct {
		text string
		want [][2]int
	}{
		{"", [][2]int{{1, 1}}},
		{"a", [][2]int{{1, 1}, {1, 2}}},
		{"\n", [][2]int{{1, 1}, {2, 1}}},
		{"\n\n", [][2]int{{1, 1}, {2, 1}, {3, 1}}},
		{"ab\nc", [][2]int{{1, 1}, {1, 2}, {1, 3}, {2, 1}, {2, 2}}},
		{"ab\nc\n", [][2]int{{1, 1}, {1, 2}, {1, 3}, {2, 1}, {2, 2}, {3, 1}}},
		{"\na\n\nb", [][2]int{{1, 1}, {2, 1}, {2, 2}, {3, 1}, {4, 1}, {4, 2}}},
		{"\ta\n\t", [][2]int{{1, 1}, {1, 2}, {1, 3}, {2, 1}, {2, 2}}},
		{"\u20aca\n\xff\r", [][2]int{{1, 1}, {1, 2}, {1, 3}, {1, 4}, {1, 5}, {2, 1}, {2, 2}, {2, 3}}},
	}
	for _, x := range tests {
		for offset, want := range x.want {
			isAt(t, x.text, offset, want[0], want[1])
		}
		last := x.want[len(x.want)-1]
		for _, beyond := range []int{len(x.text) + 1, len(x.text) + 2, math.MaxInt32, math.MaxInt} {
			isAt(t, x.text, beyond, last[0], last[1])
		}
		for _, below := range []int{-1, -2, -len(x.text), math.MinInt32, math.MinInt} {
			isAt(t, x.text, min(below, 0), 1, 1)
		}
	}
}

// P7.1: the chapter's example, and the first and last columns of lines, empty ones among them.
func TestOffset(t *testing.T) {
	tests := []struct {
		text         string
		line, column int
		want         int
	}{
		{"ab\nc", 1, 3, 2},
		{"ab\nc", 1, 1, 0},
		{"ab\nc", 1, 2, 1},
		{"ab\nc", 2, 1, 3},
		{"ab\nc", 2, 2, 4},
		{"ab\nc\n", 2, 2, 4},
		{"ab\nc\n", 3, 1, 5},
		{"", 1, 1, 0},
		{"\n", 1, 1, 0},
		{"\n", 2, 1, 1},
		{"\n\n\n", 3, 1, 2},
		{"\n\n\n", 4, 1, 3},
		{"\na\n\nb", 4, 2, 5},
		{"\u20aca\n\xff", 1, 4, 3},
		{"\u20aca\n\xff", 1, 5, 4},
		{"\u20aca\n\xff", 2, 2, 6},
		{"\ta\r\n\t", 1, 4, 3},
		{"\ta\r\n\t", 2, 2, 5},
	}
	for _, x := range tests {
		isOffset(t, x.text, x.line, x.column, x.want, api.OK)
	}
}

// P7.1: one column more than that behind a line's last byte, columns and lines from 0 down, and those beyond the last.
func TestOffsetOfNoPlace(t *testing.T) {
	tests := []struct {
		text         string
		line, column int
	}{
		{"", 1, 2},
		{"", 1, 0},
		{"", 0, 1},
		{"", 2, 1},
		{"\n", 1, 2},
		{"\n", 2, 2},
		{"\n", 3, 1},
		{"ab\nc", 1, 4},
		{"ab\nc", 2, 3},
		{"ab\nc", 1, 0},
		{"ab\nc", 2, 0},
		{"ab\nc", 1, -1},
		{"ab\nc", 2, -1},
		{"ab\nc", 2, -2},
		{"ab\nc", 0, 0},
		{"ab\nc", 0, 1},
		{"ab\nc", -1, 1},
		{"ab\nc", -1, -1},
		{"ab\nc", -2, 1},
		{"ab\nc", 3, 1},
		{"ab\nc", 4, 1},
		{"ab\nc\n", 3, 2},
		{"ab\nc\n", 4, 1},
		{"\u20ac\n", 1, 5},
	}
	for _, x := range tests {
		isOffset(t, x.text, x.line, x.column, 0, api.ErrPlace)
	}
	for _, text := range texts {
		for _, far := range farNumbers {
			isOffset(t, text, far, 1, 0, api.ErrPlace)
			isOffset(t, text, 1, far, 0, api.ErrPlace)
			isOffset(t, text, strings.Count(text, "\n")+1, far, 0, api.ErrPlace)
			for _, other := range farNumbers {
				isOffset(t, text, far, other, 0, api.ErrPlace)
			}
		}
	}
}

// P7.2: the chapter's example, and each kind of byte before, at and behind the one that is marked.
func TestMark(t *testing.T) {
	tests := []struct {
		text   string
		offset int
		want   string
	}{
		{"one\n\ttwo\n", 6, "\ttwo\n\t ^"},
		{"one\n\ttwo\n", 0, "one\n^"},
		{"one\n\ttwo\n", 2, "one\n  ^"},
		// A line feed is marked behind its line.
		{"one\n\ttwo\n", 3, "one\n   ^"},
		{"one\n\ttwo\n", 8, "\ttwo\n\t   ^"},
		// A tab at the byte, or behind it, changes nothing.
		{"one\n\ttwo\n", 4, "\ttwo\n^"},
		{"a\tb", 0, "a\tb\n^"},
		{"a\tb", 1, "a\tb\n ^"},
		{"a\tb", 2, "a\tb\n \t^"},
		{"\t\ta\t", 3, "\t\ta\t\n\t\t ^"},
		{"\t\ta\t", 4, "\t\ta\t\n\t\t \t^"},
		// The end of the text, and what is limited to it.
		{"one\n\ttwo\n", 9, "\n^"},
		{"one\n\ttwo\n", 10, "\n^"},
		{"one\n\ttwo\n", math.MaxInt, "\n^"},
		{"one\n\ttwo", 8, "\ttwo\n\t   ^"},
		{"one\n\ttwo", 9, "\ttwo\n\t   ^"},
		{"one\n\ttwo", math.MaxInt, "\ttwo\n\t   ^"},
		{"one\n\ttwo", -1, "one\n^"},
		{"one\n\ttwo", -5, "one\n^"},
		{"one\n\ttwo", math.MinInt, "one\n^"},
		// No bytes at all, and empty lines.
		{"", 0, "\n^"},
		{"", 1, "\n^"},
		{"", -1, "\n^"},
		{"\n", 0, "\n^"},
		{"\n", 1, "\n^"},
		{"a\n\nb", 2, "\n^"},
		// Columns count bytes, so a sign of three has three spaces; other signs without a width are spaces, too.
		{"\u20ac\ta", 0, "\u20ac\ta\n^"},
		{"\u20ac\ta", 1, "\u20ac\ta\n ^"},
		{"\u20ac\ta", 3, "\u20ac\ta\n   ^"},
		{"\u20ac\ta", 4, "\u20ac\ta\n   \t^"},
		{"x\n\xff\x80a", 4, "\xff\x80a\n  ^"},
		{"a\r\nb\r", 1, "a\r\n ^"},
		{"a\r\nb\r", 2, "a\r\n  ^"},
		{"\v\f\x00 x", 4, "\v\f\x00 x\n    ^"},
		{"^ ^", 2, "^ ^\n  ^"},
	}
	for _, x := range tests {
		isMark(t, x.text, x.offset, x.want)
	}
}

// P7.1, P7.2: all of it for all short texts of four bytes, by slower ways of reckoning.
func TestAllShortTexts(t *testing.T) {
	for _, text := range allTexts() {
		index := place.New(text)
		lines := strings.Split(text, "\n")
		if index.Lines() != len(lines) || index.Len() != len(text) {
			t.Errorf("%q: %d lines and %d bytes", text, index.Lines(), index.Len())
		}
		for n, want := range lines {
			if got := index.Line(n + 1); got != want {
				t.Errorf("Line(%d) of %q: %q, not %q", n+1, text, got, want)
			}
		}
		for _, offset := range offsetsOf(text) {
			line, column := slowAt(text, offset)
			if l, c := index.At(offset); l != line || c != column {
				t.Errorf("At(%d) of %q: %d %d, not %d %d", offset, text, l, c, line, column)
			}
			if got, want := index.Mark(offset), slowMark(text, offset); got != want {
				t.Errorf("Mark(%d) of %q: %q, not %q", offset, text, got, want)
			}
		}
	}
}

// P7.3: Offset of At of any offset is that offset, as far as it is limited.
func TestOffsetInvertsAt(t *testing.T) {
	for _, text := range allTexts() {
		index := place.New(text)
		for _, offset := range offsetsOf(text) {
			line, column := index.At(offset)
			if got, e := index.Offset(line, column); got != limited(text, offset) || e != api.OK {
				t.Errorf("Offset of At(%d) of %q: %d %d", offset, text, got, e)
			}
		}
	}
}

// P7.3: At of Offset of any line and column that there are is that line and column; there are just as many as a text has bytes, and one more.
func TestAtInvertsOffset(t *testing.T) {
	for _, text := range allTexts() {
		index := place.New(text)
		places := 0
		for line := -2; line <= index.Lines()+2; line++ {
			for column := -2; column <= len(index.Line(line))+3; column++ {
				offset, e := index.Offset(line, column)
				is := line >= 1 && line <= index.Lines() && column >= 1 && column <= len(index.Line(line))+1
				if is != (e == api.OK) {
					t.Errorf("Offset(%d, %d) of %q: %d", line, column, text, e)
				}
				if !is {
					continue
				}
				places++
				if l, c := index.At(offset); l != line || c != column {
					t.Errorf("At of Offset(%d, %d) of %q: %d %d", line, column, text, l, c)
				}
			}
		}
		if places != len(text)+1 {
			t.Errorf("%q has %d places", text, places)
		}
	}
}

// P1: a long text with many lines, and one that is a single line.
func TestLongTexts(t *testing.T) {
	const count = 1 << 20
	index := place.New(strings.Repeat("a\tb\n", count))
	if index.Lines() != count+1 || index.Len() != 4*count || index.Line(count) != "a\tb" || index.Line(count+1) != "" {
		t.Errorf("%d lines, %d bytes, the last %q and %q", index.Lines(), index.Len(), index.Line(count), index.Line(count+1))
	}
	for n := range count {
		line, column := index.At(4*n + 2)
		offset, e := index.Offset(n+1, 3)
		if line != n+1 || column != 3 || offset != 4*n+2 || e != api.OK {
			t.Fatalf("line %d: At %d %d, Offset %d %d", n+1, line, column, offset, e)
		}
		if got := index.Mark(4*n + 2); got != "a\tb\n \t^" {
			t.Fatalf("Mark(%d): %q", 4*n+2, got)
		}
	}
	one := strings.Repeat("a", 4*count)
	isMark(t, one, 4*count, one+"\n"+strings.Repeat(" ", 4*count)+"^")
	isAt(t, one, 4*count, 1, 4*count+1)
	isOffset(t, one, 1, 4*count+1, 4*count, api.OK)
}

// tell returns the lines of an index and the marks of all its places, one below the other.
func tell(index *place.Index) string {
	var out strings.Builder
	for n := range index.Lines() {
		out.WriteString(index.Line(n+1) + "\n")
	}
	for offset := range index.Len() + 1 {
		line, column := index.At(offset)
		back, _ := index.Offset(line, column)
		out.WriteString(index.Mark(back) + "\n")
	}
	return out.String()
}

// P2: the text stays, and the index stays what it is whatever becomes of the text; asking changes nothing, nor does another index.
func TestTextStays(t *testing.T) {
	before := "ab\n\tc\n\n\u20acd"
	want := tell(place.New(before))
	// A text that lies in memory where a change would show.
	text := []byte(before)
	index := place.New(unsafe.String(&text[0], len(text)))
	if got := tell(index); got != want {
		t.Errorf("%q, not %q", got, want)
	}
	if string(text) != before {
		t.Errorf("the text has become %q", text)
	}
	for n := range text {
		text[n] = '\n'
	}
	place.New("another\n\n\ntext\n").Mark(3)
	if got := tell(index); got != want {
		t.Errorf("after the text was changed: %q, not %q", got, want)
	}
}

// P2
func TestResultsAreNew(t *testing.T) {
	index := place.New("ab\n\tc")
	for _, call := range []func() string{
		func() string { return index.Line(2) },
		func() string { return index.Mark(4) },
	} {
		one, other := call(), call()
		if unsafe.StringData(one) == unsafe.StringData(other) {
			t.Errorf("%q shares memory with another result", one)
		}
	}
}

// P7.1 to P7.3, P1
func FuzzIndex(f *testing.F) {
	for _, text := range texts {
		f.Add(text, len(text)/2)
		f.Add(text, -1)
	}
	f.Fuzz(func(t *testing.T, text string, offset int) {
		index := place.New(text)
		line, column := index.At(offset)
		if l, c := slowAt(text, offset); l != line || c != column {
			t.Errorf("At(%d) of %q: %d %d, not %d %d", offset, text, line, column, l, c)
		}
		if got, e := index.Offset(line, column); got != limited(text, offset) || e != api.OK {
			t.Errorf("Offset(%d, %d) of %q: %d %d", line, column, text, got, e)
		}
		if got, want := index.Mark(offset), slowMark(text, offset); got != want {
			t.Errorf("Mark(%d) of %q: %q, not %q", offset, text, got, want)
		}
		if got, want := index.Line(offset), strings.Split(text, "\n"); offset > 0 && offset <= len(want) && got != want[offset-1] || (offset < 1 || offset > len(want)) && got != "" {
			t.Errorf("Line(%d) of %q: %q", offset, text, got)
		}
	})
}
