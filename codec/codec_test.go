package codec_test

import (
	"bytes"
	"encoding/hex"
	"math"
	"slices"
	"strconv"
	"strings"
	"testing"
	"unsafe"

	"pascaline/api"
	"pascaline/codec"
)

// The kinds of values that a Writer writes and a Reader reads.
const (
	aByte = iota
	aWord
	aCount
	aNumber
	aText
	kinds
)

// value is one that is written or read.
type value struct {
	kind int
	n    int
	text string
}

func (v value) String() string {
	return [kinds]string{"Byte ", "Word ", "Count ", "Number ", "Text "}[v.kind] + strconv.Itoa(v.n) + strconv.Quote(v.text[:min(len(v.text), 40)])
}

// write calls the Writer for a value.
func write(w *codec.Writer, v value) {
	switch v.kind {
	case aByte:
		w.Byte(byte(v.n))
	case aWord:
		w.Word(uint32(v.n))
	case aCount:
		w.Count(v.n)
	case aNumber:
		w.Number(int32(v.n))
	default:
		w.Text(v.text)
	}
}

// read calls the Reader for a value of a kind.
func read(r *codec.Reader, kind, most int) value {
	switch kind {
	case aByte:
		return value{kind: kind, n: int(r.Byte())}
	case aWord:
		return value{kind: kind, n: int(r.Word())}
	case aCount:
		return value{kind: kind, n: r.Count(most)}
	case aNumber:
		return value{kind: kind, n: int(r.Number())}
	}
	return value{kind: kind, text: r.Text(most)}
}

// countBytes tells what Count must write, by division.
func countBytes(n int) []byte {
	if n < 0 {
		n = 0
	}
	var list []byte
	for n/128 > 0 {
		list = append(list, byte(128+n%128))
		n /= 128
	}
	return append(list, byte(n))
}

// valueBytes tells what must be written for a value.
func valueBytes(v value) []byte {
	switch v.kind {
	case aByte:
		return []byte{byte(v.n)}
	case aWord:
		return []byte{byte(v.n % 256), byte(v.n / 256 % 256), byte(v.n / 65536 % 256), byte(v.n / 16777216 % 256)}
	case aCount:
		return countBytes(v.n)
	case aNumber:
		if v.n < 0 {
			return countBytes(-2*v.n - 1)
		}
		return countBytes(2 * v.n)
	}
	return append(countBytes(len(v.text)), v.text...)
}

// allBytes tells what must be written for values.
func allBytes(list []value) []byte {
	var all []byte
	for _, v := range list {
		all = append(all, valueBytes(v)...)
	}
	return all
}

// fromHex returns the bytes that a text of hexadecimal digits and spaces tells.
func fromHex(t *testing.T, s string) []byte {
	t.Helper()
	list, err := hex.DecodeString(strings.ReplaceAll(s, " ", ""))
	if err != nil {
		t.Fatal(err)
	}
	return list
}

// holds fails unless a Writer has just some bytes.
func holds(t *testing.T, w *codec.Writer, want []byte) {
	t.Helper()
	if got := w.Bytes(); !bytes.Equal(got, want) {
		t.Fatalf("Bytes: % .60x, not % .60x", got, want)
	}
	if w.Len() != len(want) {
		t.Fatalf("Len: %d, not %d", w.Len(), len(want))
	}
}

// writes fails unless a value is written as some bytes, by a new Writer and behind others.
func writes(t *testing.T, v value, want []byte) {
	t.Helper()
	var w codec.Writer
	write(&w, v)
	holds(t, &w, want)
	write(&w, v)
	holds(t, &w, slices.Concat(want, want))
}

// stands fails unless a Reader has an error and so many bytes left, however often it is asked.
func stands(t *testing.T, r *codec.Reader, e api.Errno, left int) {
	t.Helper()
	end := e
	if left > 0 {
		end = api.ErrForm
	}
	for range 2 {
		if r.Err() != e || r.Left() != left {
			t.Fatalf("Err: %d, not %d; Left: %d, not %d", r.Err(), e, r.Left(), left)
		}
		if got := r.End(); got != end {
			t.Fatalf("End: %d, not %d", got, end)
		}
	}
}

// reads fails unless a Reader of some bytes reads a value, with so many bytes left behind it.
func reads(t *testing.T, data []byte, most int, want value, left int) {
	t.Helper()
	r := codec.Read(data)
	stands(t, r, api.OK, len(data))
	if got := read(r, want.kind, most); got != want {
		t.Fatalf("% .40x: %s, not %s, at most %d", data, got, want, most)
	}
	stands(t, r, api.OK, left)
}

// isSpent fails unless a Reader with an error reads nothing more, and keeps the error.
func isSpent(t *testing.T, r *codec.Reader, e api.Errno) {
	t.Helper()
	stands(t, r, e, 0)
	for kind := range kinds {
		for _, most := range []int{math.MinInt, -1, 0, 1, 255, math.MaxInt} {
			if got := read(r, kind, most); got != (value{kind: kind}) {
				t.Fatalf("after the error %d: %s", e, got)
			}
			stands(t, r, e, 0)
		}
	}
}

// fails fails unless a Reader of some bytes has an error when it is to read a value of a kind.
func fails(t *testing.T, data []byte, kind, most int, want api.Errno) {
	t.Helper()
	r := codec.Read(data)
	if got := read(r, kind, most); got != (value{kind: kind}) || r.Err() != want {
		t.Fatalf("% .40x, at most %d: %s, and the error %d, not %d", data, most, got, r.Err(), want)
	}
	isSpent(t, r, want)
}

// P12.1
func TestZeroWriter(t *testing.T) {
	var w codec.Writer
	holds(t, &w, nil)
	holds(t, new(codec.Writer), nil)
	holds(t, &codec.Writer{}, nil)
	w.Byte(7)
	holds(t, &w, []byte{7})
	var inside struct{ first, second codec.Writer }
	inside.second.Count(300)
	holds(t, &inside.first, nil)
	holds(t, &inside.second, []byte{0xac, 0x02})
}

// P12.1
func TestWriteByte(t *testing.T) {
	var w codec.Writer
	var all []byte
	for n := range 256 {
		writes(t, value{kind: aByte, n: n}, []byte{byte(n)})
		w.Byte(byte(n))
		all = append(all, byte(n))
		holds(t, &w, all)
	}
}

var words = []struct {
	v    uint32
	want string
}{
	{0, "00 00 00 00"},
	{1, "01 00 00 00"},
	{127, "7f 00 00 00"},
	{128, "80 00 00 00"},
	{255, "ff 00 00 00"},
	{256, "00 01 00 00"},
	{0x12345678, "78 56 34 12"},
	{0x50535901, "01 59 53 50"},
	{0x00ff0000, "00 00 ff 00"},
	{0x7fffffff, "ff ff ff 7f"},
	{0x80000000, "00 00 00 80"},
	{0xfffefdfc, "fc fd fe ff"},
	{math.MaxUint32, "ff ff ff ff"},
}

// P12.1
func TestWriteWord(t *testing.T) {
	for _, x := range words {
		writes(t, value{kind: aWord, n: int(x.v)}, fromHex(t, x.want))
	}
	for place := range 32 {
		for _, v := range []uint32{1 << place, 1<<place - 1, ^uint32(1 << place)} {
			writes(t, value{kind: aWord, n: int(v)}, valueBytes(value{kind: aWord, n: int(v)}))
		}
	}
}

var counts = []struct {
	n    int
	want string
}{
	{0, "00"},
	{1, "01"},
	{2, "02"},
	{127, "7f"},
	{128, "80 01"},
	{129, "81 01"},
	{255, "ff 01"},
	{256, "80 02"},
	{300, "ac 02"},
	{16383, "ff 7f"},
	{16384, "80 80 01"},
	{16385, "81 80 01"},
	{1<<21 - 1, "ff ff 7f"},
	{1 << 21, "80 80 80 01"},
	{1<<28 - 1, "ff ff ff 7f"},
	{1 << 28, "80 80 80 80 01"},
	{math.MaxInt32, "ff ff ff ff 07"},
	{math.MaxUint32, "ff ff ff ff 0f"},
	{1 << 32, "80 80 80 80 10"},
	{1<<35 - 1, "ff ff ff ff 7f"},
	{1 << 35, "80 80 80 80 80 01"},
	{1<<42 - 1, "ff ff ff ff ff 7f"},
	{1 << 42, "80 80 80 80 80 80 01"},
	{1<<49 - 1, "ff ff ff ff ff ff 7f"},
	{1 << 49, "80 80 80 80 80 80 80 01"},
	{1<<56 - 1, "ff ff ff ff ff ff ff 7f"},
	{1 << 56, "80 80 80 80 80 80 80 80 01"},
	{1 << 62, "80 80 80 80 80 80 80 80 40"},
	{math.MaxInt - 1, "fe ff ff ff ff ff ff ff 7f"},
	{math.MaxInt, "ff ff ff ff ff ff ff ff 7f"},
}

// P12.1
func TestWriteCount(t *testing.T) {
	for _, x := range counts {
		writes(t, value{kind: aCount, n: x.n}, fromHex(t, x.want))
	}
	for n := range 70000 {
		var w codec.Writer
		w.Count(n)
		holds(t, &w, countBytes(n))
	}
}

// P12.1: a negative number is written as 0.
func TestWriteNegativeCount(t *testing.T) {
	for _, n := range []int{-1, -2, -127, -128, -129, -300, -16384, math.MinInt32, math.MinInt32 - 1, math.MinInt + 1, math.MinInt} {
		writes(t, value{kind: aCount, n: n}, []byte{0})
	}
}

var numbers = []struct {
	n    int32
	want string
}{
	{0, "00"},
	{-1, "01"},
	{1, "02"},
	{-2, "03"},
	{2, "04"},
	{63, "7e"},
	{-64, "7f"},
	{64, "80 01"},
	{-65, "81 01"},
	{150, "ac 02"},
	{8191, "fe 7f"},
	{-8192, "ff 7f"},
	{8192, "80 80 01"},
	{-8193, "81 80 01"},
	{1<<30 - 1, "fe ff ff ff 07"},
	{-1 << 30, "ff ff ff ff 07"},
	{1 << 30, "80 80 80 80 08"},
	{-1<<30 - 1, "81 80 80 80 08"},
	{math.MaxInt32 - 1, "fc ff ff ff 0f"},
	{math.MinInt32 + 1, "fd ff ff ff 0f"},
	{math.MaxInt32, "fe ff ff ff 0f"},
	{math.MinInt32, "ff ff ff ff 0f"},
}

// P12.1
func TestWriteNumber(t *testing.T) {
	for _, x := range numbers {
		writes(t, value{kind: aNumber, n: int(x.n)}, fromHex(t, x.want))
	}
	for n := int32(-20000); n <= 20000; n++ {
		var w codec.Writer
		w.Number(n)
		holds(t, &w, valueBytes(value{kind: aNumber, n: int(n)}))
	}
}

// someTexts are texts with any bytes, of lengths about those at which their counts get one group more.
func someTexts() []string {
	all := make([]byte, 256)
	for n := range all {
		all[n] = byte(n)
	}
	list := []string{"", "a", "hi", "\x00", "\x80", "\xff", "é", "\xc3", "a\x00b", "\n", string(all)}
	for _, n := range []int{31, 32, 33, 126, 127, 128, 129, 255, 16383, 16384, 16385, 1 << 17} {
		list = append(list, strings.Repeat("t", n), strings.Repeat("\xfe\x01", n)[:n])
	}
	return list
}

// P12.1
func TestWriteText(t *testing.T) {
	writes(t, value{kind: aText}, []byte{0})
	writes(t, value{kind: aText, text: "hi"}, fromHex(t, "02 68 69"))
	writes(t, value{kind: aText, text: "é\xff\x00"}, fromHex(t, "04 c3 a9 ff 00"))
	writes(t, value{kind: aText, text: strings.Repeat("a", 127)}, append([]byte{0x7f}, strings.Repeat("a", 127)...))
	writes(t, value{kind: aText, text: strings.Repeat("a", 128)}, append([]byte{0x80, 0x01}, strings.Repeat("a", 128)...))
	writes(t, value{kind: aText, text: strings.Repeat("a", 16384)}, append([]byte{0x80, 0x80, 0x01}, strings.Repeat("a", 16384)...))
	for _, s := range someTexts() {
		writes(t, value{kind: aText, text: s}, append(countBytes(len(s)), s...))
	}
}

// P12.1: values of all kinds one behind the other; Bytes and Len before, between and after.
func TestWriteAllKinds(t *testing.T) {
	var w codec.Writer
	holds(t, &w, nil)
	w.Word(0x50535901)
	holds(t, &w, fromHex(t, "01 59 53 50"))
	w.Text("hi")
	holds(t, &w, fromHex(t, "01 59 53 50 02 68 69"))
	w.Count(300)
	holds(t, &w, fromHex(t, "01 59 53 50 02 68 69 ac 02"))
	w.Number(-1)
	holds(t, &w, fromHex(t, "01 59 53 50 02 68 69 ac 02 01"))
	w.Byte(0)
	w.Count(-5)
	holds(t, &w, fromHex(t, "01 59 53 50 02 68 69 ac 02 01 00 00"))
	w.Text("")
	w.Number(math.MinInt32)
	holds(t, &w, fromHex(t, "01 59 53 50 02 68 69 ac 02 01 00 00 00 ff ff ff ff 0f"))
}

// P12.2
func TestReadOfNothing(t *testing.T) {
	for _, data := range [][]byte{nil, {}, make([]byte, 0, 20)} {
		stands(t, codec.Read(data), api.OK, 0)
		for kind := range kinds {
			for _, most := range []int{math.MinInt, -1, 0, 1, math.MaxInt} {
				fails(t, data, kind, most, api.ErrShort)
			}
		}
	}
}

// P12.2
func TestReadByte(t *testing.T) {
	var all []byte
	for n := range 256 {
		reads(t, []byte{byte(n)}, 0, value{kind: aByte, n: n}, 0)
		reads(t, []byte{byte(n), 9, 0}, 0, value{kind: aByte, n: n}, 2)
		all = append(all, byte(n))
	}
	r := codec.Read(all)
	for n := range 256 {
		stands(t, r, api.OK, 256-n)
		if got := r.Byte(); int(got) != n {
			t.Fatalf("Byte: %d, not %d", got, n)
		}
	}
	stands(t, r, api.OK, 0)
	if got := r.Byte(); got != 0 {
		t.Errorf("Byte at the end: %d", got)
	}
	isSpent(t, r, api.ErrShort)
}

// P12.2: also with 0 to 3 bytes left, at the start and behind others.
func TestReadWord(t *testing.T) {
	for _, x := range words {
		data := fromHex(t, x.want)
		reads(t, data, 0, value{kind: aWord, n: int(x.v)}, 0)
		reads(t, append(data, 1, 2, 3), 0, value{kind: aWord, n: int(x.v)}, 3)
		for n := range 4 {
			fails(t, data[:n], aWord, 0, api.ErrShort)
			r := codec.Read(append(slices.Clone(data), data[:n]...))
			if got := r.Word(); got != x.v {
				t.Fatalf("Word: %x, not %x", got, x.v)
			}
			stands(t, r, api.OK, n)
			if got := r.Word(); got != 0 {
				t.Errorf("Word with %d bytes left: %x", n, got)
			}
			isSpent(t, r, api.ErrShort)
		}
	}
}

// P12.2: the number that is most is read, one that is above it is not.
func TestReadCount(t *testing.T) {
	for _, x := range counts {
		data := fromHex(t, x.want)
		for _, most := range []int{x.n, x.n/2 + x.n%2 + x.n/2, math.MaxInt - 1, math.MaxInt} {
			if most < x.n {
				continue
			}
			reads(t, data, most, value{kind: aCount, n: x.n}, 0)
			reads(t, append(slices.Clone(data), 0x80, 0), most, value{kind: aCount, n: x.n}, 2)
		}
		for _, most := range []int{x.n - 1, x.n / 2, 1, 0, -1, -x.n, math.MinInt} {
			if max(most, 0) < x.n {
				fails(t, data, aCount, most, api.ErrForm)
				fails(t, append(slices.Clone(data), 1, 2, 3), aCount, most, api.ErrForm)
			}
		}
		for n := range data {
			fails(t, data[:n], aCount, x.n, api.ErrShort)
			fails(t, data[:n], aCount, 0, api.ErrShort)
			fails(t, data[:n], aCount, math.MaxInt, api.ErrShort)
		}
	}
}

// P12.2: a negative most counts as 0, which alone is then read.
func TestReadCountOfNegativeMost(t *testing.T) {
	for _, most := range []int{0, -1, -2, -128, math.MinInt32, math.MinInt32 - 1, math.MinInt + 1, math.MinInt} {
		reads(t, []byte{0}, most, value{kind: aCount}, 0)
		reads(t, []byte{0, 7}, most, value{kind: aCount}, 1)
		reads(t, []byte{0, 7}, most, value{kind: aText}, 1)
		for _, data := range []string{"01", "02", "7f", "80 01", "80 00", "ff ff ff ff ff ff ff ff 7f"} {
			fails(t, fromHex(t, data), aCount, most, api.ErrForm)
			fails(t, fromHex(t, data), aText, most, api.ErrForm)
		}
		fails(t, []byte{0x80}, aCount, most, api.ErrShort)
	}
}

// wrongCounts are bytes of which no count can be read, whatever its most is, and the error.
var wrongCounts = []struct {
	data string
	want api.Errno
}{
	{"", api.ErrShort},
	{"80", api.ErrShort},
	{"ff", api.ErrShort},
	{"81 80", api.ErrShort},
	{"80 80 80", api.ErrShort},
	{"80 80 80 80 80 80 80 80", api.ErrShort},
	{"ff ff ff ff ff ff ff ff", api.ErrShort},
	{"80 80 80 80 80 80 80 80 80", api.ErrShort},
	{"ff ff ff ff ff ff ff ff ff", api.ErrShort},
	{"80 00", api.ErrForm},
	{"81 00", api.ErrForm},
	{"ff 00", api.ErrForm},
	{"80 80 00", api.ErrForm},
	{"ff 80 00", api.ErrForm},
	{"ac 82 00", api.ErrForm},
	{"80 00 80", api.ErrForm},
	{"80 00 01", api.ErrForm},
	{"80 80 80 80 80 80 80 00", api.ErrForm},
	{"80 80 80 80 80 80 80 80 00", api.ErrForm},
	{"ff ff ff ff ff ff ff ff 00", api.ErrForm},
	{"80 80 80 80 80 80 80 80 80 00", api.ErrForm},
	{"80 80 80 80 80 80 80 80 80 01", api.ErrForm},
	{"ff ff ff ff ff ff ff ff ff 01", api.ErrForm},
	{"80 80 80 80 80 80 80 80 80 80", api.ErrForm},
	{"ff ff ff ff ff ff ff ff ff ff", api.ErrForm},
	{"ff ff ff ff ff ff ff ff ff 00", api.ErrForm},
	{"ff ff ff ff ff ff ff ff ff 80", api.ErrForm},
	{"ff ff ff ff ff ff ff ff ff ff ff ff ff ff ff ff ff ff ff ff", api.ErrForm},
	{"80 80 80 80 80 80 80 80 80 80 80 80 80 80 80 80 80 80 01", api.ErrForm},
}

// P12.2: the bytes end within the number; there is a tenth group; a byte behind the first one is 0.
func TestReadWrongCounts(t *testing.T) {
	for _, x := range wrongCounts {
		data := fromHex(t, x.data)
		for _, most := range []int{math.MinInt, -1, 0, 1, 127, 128, 4096, math.MaxInt32, math.MaxInt - 1, math.MaxInt} {
			fails(t, data, aCount, most, x.want)
			fails(t, data, aText, most, x.want)
			if x.want == api.ErrForm {
				fails(t, append(slices.Clone(data), 1, 2), aCount, most, api.ErrForm)
			}
		}
		fails(t, data, aNumber, 0, x.want)
	}
	// Only a byte behind the first one may not be 0.
	reads(t, []byte{0}, 0, value{kind: aCount}, 0)
	reads(t, []byte{0, 0}, 5, value{kind: aCount}, 1)
	reads(t, []byte{0, 0}, 5, value{kind: aNumber}, 1)
	reads(t, []byte{0, 0}, 5, value{kind: aText}, 1)
}

// P12.2: nine groups are a number like any other.
func TestReadNineGroups(t *testing.T) {
	data := fromHex(t, "80 80 80 80 80 80 80 80 01")
	reads(t, data, 1<<56, value{kind: aCount, n: 1 << 56}, 0)
	reads(t, append(data, 0), math.MaxInt, value{kind: aCount, n: 1 << 56}, 1)
	fails(t, data, aCount, 1<<56-1, api.ErrForm)
	data = fromHex(t, "81 82 84 88 90 a0 c0 80 41")
	n := 1 + 2<<7 + 4<<14 + 8<<21 + 16<<28 + 32<<35 + 64<<42 + 0x41<<56
	reads(t, data, n, value{kind: aCount, n: n}, 0)
	fails(t, data, aCount, n-1, api.ErrForm)
	fails(t, data, aNumber, 0, api.ErrForm)
}

// P12.2
func TestReadNumber(t *testing.T) {
	for _, x := range numbers {
		data := fromHex(t, x.want)
		reads(t, data, 0, value{kind: aNumber, n: int(x.n)}, 0)
		reads(t, append(data, 0x80), 0, value{kind: aNumber, n: int(x.n)}, 1)
		for n := range data {
			fails(t, data[:n], aNumber, 0, api.ErrShort)
		}
	}
	for n := int32(-20000); n <= 20000; n++ {
		var w codec.Writer
		w.Number(n)
		if got := codec.Read(w.Bytes()).Number(); got != n {
			t.Fatalf("Number: %d, not %d", got, n)
		}
	}
}

// P12.2: the largest count that is a number, and one more.
func TestReadLargeNumbers(t *testing.T) {
	count := func(n int) []byte {
		var w codec.Writer
		w.Count(n)
		return w.Bytes()
	}
	reads(t, count(math.MaxUint32-1), 0, value{kind: aNumber, n: math.MaxInt32}, 0)
	reads(t, count(math.MaxUint32), 0, value{kind: aNumber, n: math.MinInt32}, 0)
	for _, n := range []int{1 << 32, 1<<32 + 1, 1<<33 - 1, 1 << 33, 1<<40 + 2, 1<<62 + 1, math.MaxInt} {
		fails(t, count(n), aNumber, 0, api.ErrForm)
		fails(t, append(count(n), 0, 1), aNumber, math.MaxInt, api.ErrForm)
	}
}

// P12.2: texts that are just as long as they may be, and one byte longer.
func TestReadText(t *testing.T) {
	for _, s := range someTexts() {
		data := append(countBytes(len(s)), s...)
		for _, most := range []int{len(s), len(s) + 1, 2*len(s) + 1, math.MaxInt} {
			reads(t, data, most, value{kind: aText, text: s}, 0)
			reads(t, append(slices.Clone(data), 0xff, 0), most, value{kind: aText, text: s}, 2)
		}
		for _, most := range []int{len(s) - 1, len(s) / 2, 0, -1, -len(s), math.MinInt} {
			if max(most, 0) < len(s) {
				fails(t, data, aText, most, api.ErrForm)
			}
		}
	}
	fails(t, fromHex(t, "02 68 69"), aText, 1, api.ErrForm)
}

// P12.2: fewer bytes than the count says; a count that is above most goes before that.
func TestReadShortText(t *testing.T) {
	for _, x := range []struct {
		data string
		most int
		want api.Errno
	}{
		{"01", 1, api.ErrShort},
		{"02 68", 2, api.ErrShort},
		{"02", 2, api.ErrShort},
		{"03 68 69", math.MaxInt, api.ErrShort},
		{"7f 00", 127, api.ErrShort},
		{"80 01 00", 128, api.ErrShort},
		{"80 01", math.MaxInt, api.ErrShort},
		{"ff ff ff ff 0f 61", math.MaxInt, api.ErrShort},
		{"ff ff ff ff ff ff ff ff 7f", math.MaxInt, api.ErrShort},
		{"ff ff ff ff ff ff ff ff 7f 61 62 63", math.MaxInt, api.ErrShort},
		{"80 80 80 80 80 80 80 80 40 61", 1 << 62, api.ErrShort},
		{"02 68", 1, api.ErrForm},
		{"02", 1, api.ErrForm},
		{"01", 0, api.ErrForm},
		{"01", -1, api.ErrForm},
		{"80 01", 127, api.ErrForm},
		{"ff ff ff ff ff ff ff ff 7f", math.MaxInt - 1, api.ErrForm},
		{"80 00", 0, api.ErrForm},
		{"82 00 68 69", 2, api.ErrForm},
		{"", 0, api.ErrShort},
		{"82", 0, api.ErrShort},
		{"82", 2, api.ErrShort},
	} {
		fails(t, fromHex(t, x.data), aText, x.most, x.want)
	}
	for _, s := range someTexts() {
		data := append(countBytes(len(s)), s...)
		if len(s) > 0 {
			fails(t, data[:len(data)-1], aText, len(s), api.ErrShort)
			fails(t, data[:len(data)-len(s)], aText, math.MaxInt, api.ErrShort)
		}
	}
}

// P12.2: End asks; it takes nothing, and it is no error of the Reader's.
func TestEnd(t *testing.T) {
	if e := codec.Read(nil).End(); e != api.OK {
		t.Errorf("End of nothing: %d", e)
	}
	r := codec.Read(fromHex(t, "05 02 68 69 2a"))
	for _, left := range []int{5, 4, 1, 0} {
		for range 3 {
			want := api.OK
			if left > 0 {
				want = api.ErrForm
			}
			if e := r.End(); e != want {
				t.Errorf("End with %d bytes left: %d", left, e)
			}
			if r.Err() != api.OK || r.Left() != left {
				t.Errorf("after End, Err: %d; Left: %d, not %d", r.Err(), r.Left(), left)
			}
		}
		switch left {
		case 5:
			if n := r.Count(5); n != 5 {
				t.Errorf("Count: %d", n)
			}
		case 4:
			if s := r.Text(2); s != "hi" {
				t.Errorf("Text: %q", s)
			}
		case 1:
			if b := r.Byte(); b != 42 {
				t.Errorf("Byte: %d", b)
			}
		}
	}
	for range 3 {
		r.Byte()
		if e := r.End(); e != api.ErrShort {
			t.Errorf("End after an error: %d", e)
		}
	}
}

// P12.2: with bytes left that were not read, the error is still the first one.
func TestEndAfterAnError(t *testing.T) {
	for _, x := range []struct {
		data string
		kind int
		most int
		want api.Errno
	}{
		{"01 02 03", aWord, 0, api.ErrShort},
		{"03 68 69", aText, 5, api.ErrShort},
		{"80 00 05 05", aCount, 5, api.ErrForm},
		{"06 05 05", aCount, 5, api.ErrForm},
		{"02 68 69", aText, 1, api.ErrForm},
		{"80 80 80 80 10 00", aNumber, 0, api.ErrForm},
	} {
		r := codec.Read(fromHex(t, x.data))
		if got := read(r, x.kind, x.most); got != (value{kind: x.kind}) {
			t.Errorf("%s: %s", x.data, got)
		}
		if e := r.End(); e != x.want {
			t.Errorf("%s: End: %d, not %d", x.data, e, x.want)
		}
		isSpent(t, r, x.want)
	}
}

// P12.2: after an error nothing is read, however much would be there, and the first error remains.
func TestFirstErrorRemains(t *testing.T) {
	behind := bytes.Repeat([]byte{1}, 100)
	causes := []struct {
		data string
		kind int
		most int
		want api.Errno
	}{
		{"80 00", aCount, math.MaxInt, api.ErrForm},
		{"02", aCount, 1, api.ErrForm},
		{"80 80 80 80 10", aNumber, 0, api.ErrForm},
		{"03", aText, 2, api.ErrForm},
		{"ff ff ff ff ff ff ff ff ff", aText, 2, api.ErrForm},
		{"ff 01", aText, 255, api.ErrShort},
	}
	for _, x := range causes {
		fails(t, append(fromHex(t, x.data), behind...), x.kind, x.most, x.want)
		// Behind other values, too.
		r := codec.Read(slices.Concat(behind[:7], fromHex(t, x.data), behind))
		r.Word()
		r.Count(1)
		r.Text(1)
		stands(t, r, api.OK, len(fromHex(t, x.data))+len(behind))
		if got := read(r, x.kind, x.most); got != (value{kind: x.kind}) {
			t.Errorf("%s: %s", x.data, got)
		}
		isSpent(t, r, x.want)
	}
}

// model tells what a Reader must answer, in the order of the chapter's sentences.
type model struct {
	left []byte
	err  api.Errno
}

func (m *model) fail(e api.Errno) { m.left, m.err = nil, e }

// take returns the next n bytes, false if there are fewer.
func (m *model) take(n int) ([]byte, bool) {
	if m.err != api.OK {
		return nil, false
	}
	if len(m.left) < n {
		m.fail(api.ErrShort)
		return nil, false
	}
	next := m.left[:n]
	m.left = m.left[n:]
	return next, true
}

// count takes the groups up to the first one without 128, and holds them against what Count writes.
func (m *model) count(most int) (int, bool) {
	if m.err != api.OK {
		return 0, false
	}
	last := slices.IndexFunc(m.left, func(b byte) bool { return b < 128 })
	switch {
	case len(m.left) > 9 && (last < 0 || last > 8):
		m.fail(api.ErrForm)
		return 0, false
	case last < 0:
		m.fail(api.ErrShort)
		return 0, false
	}
	groups, _ := m.take(last + 1)
	n := 0
	for _, b := range slices.Backward(groups) {
		n = n*128 + int(b)%128
	}
	if !bytes.Equal(countBytes(n), groups) || n > max(most, 0) {
		m.fail(api.ErrForm)
		return 0, false
	}
	return n, true
}

func (m *model) read(kind, most int) value {
	switch kind {
	case aByte:
		if next, ok := m.take(1); ok {
			return value{kind: kind, n: int(next[0])}
		}
	case aWord:
		if next, ok := m.take(4); ok {
			return value{kind: kind, n: int(next[0]) + 256*(int(next[1])+256*(int(next[2])+256*int(next[3])))}
		}
	case aCount:
		n, _ := m.count(most)
		return value{kind: kind, n: n}
	case aNumber:
		n, _ := m.count(math.MaxUint32)
		if n%2 == 0 {
			return value{kind: kind, n: n / 2}
		}
		return value{kind: kind, n: -(n + 1) / 2}
	default:
		if n, ok := m.count(most); ok {
			if next, ok := m.take(n); ok {
				return value{kind: kind, text: string(next)}
			}
		}
	}
	return value{kind: kind}
}

// random returns a fixed row of numbers below 2^16.
func random(seed uint32) func() int {
	state := seed
	return func() int {
		state = state*1664525 + 1013904223
		return int(state >> 16)
	}
}

// isAsModel makes calls, each told by a kind and a most, of a Reader and of its model, and returns what was read before the first error.
func isAsModel(t *testing.T, data []byte, calls []int, mosts []int) []value {
	t.Helper()
	r, m := codec.Read(data), &model{left: data}
	var list []value
	for n, kind := range calls {
		got, want := read(r, kind, mosts[n]), m.read(kind, mosts[n])
		if got != want {
			t.Fatalf("% .60x: the call %d of %v, at most %v: %s, not %s", data, n, calls, mosts, got, want)
		}
		end := m.err
		if len(m.left) > 0 {
			end = api.ErrForm
		}
		if r.Err() != m.err || r.Left() != len(m.left) || r.End() != end {
			t.Fatalf("% .60x: after the call %d of %v, at most %v: Err %d, not %d; Left %d, not %d; End %d, not %d", data, n, calls, mosts, r.Err(), m.err, r.Left(), len(m.left), r.End(), end)
		}
		if m.err == api.OK {
			list = append(list, got)
		}
	}
	return list
}

// eachRow calls f with all rows of n bytes out of some.
func eachRow(some []byte, n int, f func([]byte)) {
	row := make([]byte, n)
	var fill func(at int)
	fill = func(at int) {
		if at == n {
			f(row)
			return
		}
		for _, b := range some {
			row[at] = b
			fill(at + 1)
		}
	}
	fill(0)
}

// P12.2: all short rows of bytes that matter, read as each of the kinds.
func TestReadAllShortRows(t *testing.T) {
	for n := range 6 {
		eachRow([]byte{0, 1, 2, 0x7f, 0x80, 0x81, 0xff}, n, func(row []byte) {
			for kind := range kinds {
				for _, most := range []int{-1, 0, 1, 128, 1 << 20, math.MaxInt} {
					isAsModel(t, row, []int{kind, kind}, []int{most, most})
				}
			}
		})
	}
	for n := 8; n <= 11; n++ {
		eachRow([]byte{0, 0x7f, 0x80}, n, func(row []byte) {
			isAsModel(t, row, []int{aCount, aText, aNumber}, []int{math.MaxInt, 3, 0})
		})
	}
}

// someValue is one of any kind, among them the edges.
func someValue(next func() int) value {
	v := value{kind: next() % kinds}
	large := (next()<<48 | next()<<32 | next()<<16 | next()) & math.MaxInt >> (next() % 63)
	switch v.kind {
	case aByte:
		v.n = large % 256
	case aWord:
		v.n = large % (1 << 32)
	case aCount:
		v.n = large
		if next()%8 == 0 {
			v.n = counts[next()%len(counts)].n
		}
	case aNumber:
		v.n = int(int32(large))
		if next()%2 == 0 {
			v.n = int(^int32(large))
		}
		if next()%8 == 0 {
			v.n = int(numbers[next()%len(numbers)].n)
		}
	default:
		text := make([]byte, next()%(1<<(next()%9)))
		for n := range text {
			text[n] = byte(next())
		}
		v.text = string(text)
	}
	return v
}

// mostOf returns a most that a value does not exceed.
func mostOf(v value, next func() int) int {
	least := max(v.n, len(v.text))
	return [...]int{least, max(least, min(least, math.MaxInt-5000)+next()%5000), math.MaxInt}[next()%3]
}

// P12.3: long rows of values are read as they were written.
func TestWrittenIsRead(t *testing.T) {
	next := random(1)
	for n := range 1500 {
		var w codec.Writer
		var list []value
		for range n % 150 {
			v := someValue(next)
			list = append(list, v)
			write(&w, v)
			if w.Len() != len(allBytes(list)) && n%10 == 0 {
				t.Fatalf("%v: Len: %d", list, w.Len())
			}
		}
		holds(t, &w, allBytes(list))
		r := codec.Read(w.Bytes())
		for k, v := range list {
			if got := read(r, v.kind, mostOf(v, next)); got != v || r.Err() != api.OK {
				t.Fatalf("%v: the value %d: %s, and the error %d", list, k, got, r.Err())
			}
			if n%10 == 0 {
				stands(t, r, api.OK, len(allBytes(list[k+1:])))
			}
		}
		stands(t, r, api.OK, 0)
	}
}

// P12.3: bytes that are read completely are those that are written for the values.
func TestReadIsWritten(t *testing.T) {
	complete := 0
	again := func(data []byte, calls []int, mosts []int) {
		list := isAsModel(t, data, calls, mosts)
		var w codec.Writer
		for _, v := range list {
			write(&w, v)
		}
		got := w.Bytes()
		if !bytes.HasPrefix(data, got) {
			t.Fatalf("% x were read as %v, which are written % x", data, list, got)
		}
		if len(list) == len(calls) && len(got) == len(data) {
			complete++
		}
	}
	for a := range 256 {
		for b := range 256 {
			for kind := range kinds {
				again([]byte{byte(a), byte(b)}, []int{kind}, []int{math.MaxInt})
				again([]byte{1, byte(a), byte(b), 5}, []int{aCount, kind}, []int{1, 200})
			}
		}
	}
	next := random(2)
	for n := range 60000 {
		data := make([]byte, n%14)
		for k := range data {
			data[k] = [...]byte{byte(next()), 0, 1, 0x7f, 0x80, byte(next()) | 0x80}[next()%6]
		}
		var calls, mosts []int
		for range 1 + next()%8 {
			calls = append(calls, next()%kinds)
			mosts = append(mosts, [...]int{-1, 0, 1, 20, 300, math.MaxInt}[next()%6])
		}
		again(data, calls, mosts)
	}
	if complete < 1000 {
		t.Errorf("only %d rows were read completely", complete)
	}
}

// P12.2: bytes of which one was changed, taken away, or put in.
func TestReadDamaged(t *testing.T) {
	next := random(3)
	for range 4000 {
		var list []value
		var calls, mosts []int
		for range 1 + next()%12 {
			v := someValue(next)
			list = append(list, v)
			calls = append(calls, v.kind)
			mosts = append(mosts, mostOf(v, next))
		}
		data := allBytes(list)
		if len(data) == 0 {
			continue
		}
		at := next() % len(data)
		switch next() % 4 {
		case 0:
			data[at] = byte(next())
		case 1:
			data[at] ^= 0x80
		case 2:
			data = slices.Delete(data, at, at+1)
		default:
			data = slices.Insert(data, at, byte(next()))
		}
		isAsModel(t, data, calls, mosts)
		isAsModel(t, data[:next()%(len(data)+1)], calls, mosts)
	}
}

// P2: Read leaves the bytes that it is given, and the memory behind them.
func TestReadLeavesItsBytes(t *testing.T) {
	memory := fromHex(t, "05 02 68 69 ac 02 01 78 56 34 12 80 00 77 77 77 77")
	whole := slices.Clone(memory)
	r := codec.Read(memory[:13])
	stands(t, r, api.OK, 13)
	r.Byte()
	r.Text(2)
	r.Count(300)
	r.Number()
	r.Word()
	stands(t, r, api.OK, 2)
	r.Count(10)
	isSpent(t, r, api.ErrForm)
	if !bytes.Equal(memory, whole) {
		t.Errorf("the bytes became % x", memory)
	}
}

// P2: whoever changes bytes that he gave to Read changes nothing for the Reader, nor for what it returned.
func TestReadCopiesItsBytes(t *testing.T) {
	data := fromHex(t, "05 02 68 69 ac 02 01 78 56 34 12 03 61 62 63")
	spoil := func(n int) {
		for k := range data {
			data[k] = byte(n)
		}
	}
	r := codec.Read(data)
	spoil(0xff)
	if got := r.Byte(); got != 5 {
		t.Errorf("Byte: %d", got)
	}
	spoil(0)
	first := r.Text(2)
	spoil(0x80)
	if got := r.Count(300); got != 300 {
		t.Errorf("Count: %d", got)
	}
	if got := r.Number(); got != -1 {
		t.Errorf("Number: %d", got)
	}
	spoil(1)
	if got := r.Word(); got != 0x12345678 {
		t.Errorf("Word: %x", got)
	}
	spoil(0)
	second := r.Text(3)
	spoil(0xee)
	if first != "hi" || second != "abc" {
		t.Errorf("Text: %q and %q", first, second)
	}
	stands(t, r, api.OK, 0)
}

// P2: whoever changes what Bytes returned, or puts more behind it, changes nothing else.
func TestBytesAreTheCallers(t *testing.T) {
	var w codec.Writer
	var want []byte
	for n := range 40 {
		w.Text("text " + strconv.Itoa(n))
		want = append(want, valueBytes(value{kind: aText, text: "text " + strconv.Itoa(n)})...)
		one, two := w.Bytes(), w.Bytes()
		more := append(one, 0xee, 0xee)
		for _, part := range [][]byte{one[:cap(one)], more} {
			for k := range part {
				part[k] = 0xff
			}
		}
		if !bytes.Equal(two, want) {
			t.Fatalf("the other result became % x", two)
		}
		holds(t, &w, want)
	}
	kept := w.Bytes()
	extended := append(w.Bytes(), 0xaa)
	w.Byte(0xbb)
	w.Word(0xcccccccc)
	if !bytes.Equal(kept, want) || !bytes.Equal(extended, append(slices.Clone(want), 0xaa)) {
		t.Errorf("what Bytes returned became % x and % x", kept, extended)
	}
	for _, b := range kept[:cap(kept)][len(kept):] {
		if b == 0xbb || b == 0xcc {
			t.Error("what was written shows behind what Bytes returned")
		}
	}
	holds(t, &w, append(slices.Clone(want), 0xbb, 0xcc, 0xcc, 0xcc, 0xcc))
}

// P2: a text is copied when it comes in, and when it goes out.
func TestTextsAreCopied(t *testing.T) {
	memory := []byte("name")
	var w codec.Writer
	w.Text(unsafe.String(unsafe.SliceData(memory), len(memory)))
	copy(memory, "xxxx")
	holds(t, &w, fromHex(t, "04 6e 61 6d 65"))
	data := fromHex(t, "04 6e 61 6d 65 04 6e 61 6d 65")
	one, two := codec.Read(data), codec.Read(data)
	var starts []*byte
	for _, r := range []*codec.Reader{one, two, one, two} {
		s := r.Text(4)
		if s != "name" || slices.Contains(starts, unsafe.StringData(s)) {
			t.Errorf("the text %q, which may share its memory", s)
		}
		starts = append(starts, unsafe.StringData(s))
	}
}

// P2: Writers have nothing in common, nor have Readers, even of the same bytes.
func TestObjectsAreIndependent(t *testing.T) {
	var one, two codec.Writer
	one.Text("one")
	holds(t, &two, nil)
	two.Count(300)
	one.Byte(7)
	two.Number(-1)
	holds(t, &one, fromHex(t, "03 6f 6e 65 07"))
	holds(t, &two, fromHex(t, "ac 02 01"))
	data := fromHex(t, "05 06 80 00 07")
	first, second := codec.Read(data), codec.Read(data)
	first.Byte()
	stands(t, second, api.OK, 5)
	first.Byte()
	first.Count(9)
	stands(t, first, api.ErrForm, 0)
	stands(t, second, api.OK, 5)
	if second.Byte() != 5 || second.Byte() != 6 || second.Byte() != 0x80 {
		t.Error("the second Reader reads something else")
	}
	stands(t, second, api.OK, 2)
	stands(t, codec.Read(data), api.OK, 5)
}

// P2: asking changes nothing.
func TestQuestionsChangeNothing(t *testing.T) {
	next := random(4)
	for range 300 {
		var w codec.Writer
		var list []value
		for range next() % 20 {
			v := someValue(next)
			list = append(list, v)
			write(&w, v)
			for range 3 {
				w.Bytes()
				w.Len()
			}
		}
		holds(t, &w, allBytes(list))
		r := codec.Read(w.Bytes())
		for _, v := range list {
			for range 3 {
				r.Err()
				r.Left()
				r.End()
			}
			if got := read(r, v.kind, math.MaxInt); got != v {
				t.Fatalf("%s, not %s", got, v)
			}
		}
		stands(t, r, api.OK, 0)
	}
}

// P1
func TestAnyArguments(t *testing.T) {
	large := []int{math.MinInt, math.MinInt + 1, math.MinInt32, -1, 0, 1, 127, 128, math.MaxInt32, math.MaxUint32, 1 << 32, math.MaxInt - 1, math.MaxInt}
	var w codec.Writer
	for _, n := range large {
		w.Byte(byte(n))
		w.Count(n)
		w.Number(int32(n))
		w.Word(uint32(n))
		w.Text(strings.Repeat("\xff", n&0xffff))
	}
	inputs := [][]byte{nil, w.Bytes()}
	for _, b := range []byte{0, 1, 0x7f, 0x80, 0xff} {
		inputs = append(inputs, bytes.Repeat([]byte{b}, 1<<16))
	}
	for _, data := range inputs {
		for kind := range kinds {
			for _, most := range large {
				r := codec.Read(data)
				for range len(data) + 1 {
					before := r.Left()
					read(r, kind, most)
					if r.Left() >= before && r.Err() == api.OK {
						t.Fatalf("%d bytes are left of %d", r.Left(), before)
					}
					if r.Err() != api.OK {
						break
					}
				}
				if r.Err() == api.OK {
					t.Fatal("no error at the end")
				}
				isSpent(t, r, r.Err())
			}
		}
	}
}

// P1: large files are written and read in good time.
func TestManyValues(t *testing.T) {
	const many = 1 << 20
	var w codec.Writer
	for n := range many {
		w.Word(uint32(n))
		w.Count(n % 128)
	}
	if w.Len() != 5*many {
		t.Fatalf("Len: %d", w.Len())
	}
	r := codec.Read(w.Bytes())
	for n := range many {
		if r.Word() != uint32(n) || r.Count(127) != n%128 || r.Left() != 5*(many-n-1) {
			t.Fatalf("the word %d is not read", n)
		}
	}
	stands(t, r, api.OK, 0)
	long := strings.Repeat("long", many)
	w = codec.Writer{}
	w.Text(long)
	if got := codec.Read(w.Bytes()).Text(4 * many); got != long {
		t.Errorf("Text: %d bytes", len(got))
	}
}

// P12.2, P12.3, P1
func FuzzReader(f *testing.F) {
	f.Add([]byte{}, []byte{2})
	f.Add([]byte{0x02, 0x68, 0x69, 0xac, 0x02, 0x01}, []byte{4, 2, 3})
	f.Add([]byte{0xff, 0xff, 0xff, 0xff, 0xff, 0xff, 0xff, 0xff, 0xff, 0x01}, []byte{2, 12})
	f.Fuzz(func(t *testing.T, data []byte, script []byte) {
		var calls, mosts []int
		for _, b := range script {
			calls = append(calls, int(b)%kinds)
			mosts = append(mosts, [...]int{math.MaxInt, 0, -1, 1, 127, 128, 1 << 40}[int(b)/kinds%7])
		}
		list := isAsModel(t, data, calls, mosts)
		if !bytes.HasPrefix(data, allBytes(list)) {
			t.Fatalf("% x were read as %v", data, list)
		}
	})
}
