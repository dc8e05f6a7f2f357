package finger_test

import (
	"bytes"
	"encoding/hex"
	"hash/fnv"
	"math"
	"slices"
	"strconv"
	"strings"
	"testing"
	"unsafe"

	"pascaline/api"
	"pascaline/codec"
	"pascaline/finger"
)

// someSums are sums behind which more bytes can come, not all of them sums of bytes that are known.
var someSums = []uint32{0, 1, 2, 255, 256, 0x811c9dc4, finger.Start, finger.Prime, 0x7fffffff, 0x80000000, 0xfffffffe, math.MaxUint32}

// modelMore tells what More must return, with numbers so large that nothing is lost ahead of the remainder.
func modelMore(sum uint32, data []byte) uint32 {
	for _, b := range data {
		sum = uint32((uint64(sum) ^ uint64(b)) * 16777619 % (1 << 32))
	}
	return sum
}

// librarySum tells what Sum must return.
func librarySum(data []byte) uint32 {
	h := fnv.New32a()
	h.Write(data)
	return h.Sum32()
}

// random returns a fixed row of numbers below 2^16.
func random(seed uint32) func() int {
	state := seed
	return func() int {
		state = state*1664525 + 1013904223
		return int(state >> 16)
	}
}

// everyByte returns all 256 bytes.
func everyByte() []byte {
	var list []byte
	for n := range 256 {
		list = append(list, byte(n))
	}
	return list
}

// someData returns rows of bytes of many lengths.
func someData() [][]byte {
	list := [][]byte{nil, {}, {0}, {255}, {0, 0}, []byte("a"), []byte("foobar"), everyByte(), slices.Repeat([]byte{0}, 1000), slices.Repeat([]byte{255}, 1000)}
	next := random(1)
	for n := range 100 {
		data := make([]byte, n)
		for k := range data {
			data[k] = byte(next())
		}
		list = append(list, data)
	}
	return list
}

// P13.1
func TestStartAndPrime(t *testing.T) {
	const start, prime uint32 = finger.Start, finger.Prime
	if start != 0x811c9dc5 || prime != 0x01000193 || int64(finger.Start) != 2166136261 || int64(finger.Prime) != 16777619 {
		t.Errorf("Start %x, Prime %x", start, prime)
	}
}

// P13.1
func TestSum(t *testing.T) {
	for _, x := range []struct {
		data string
		want uint32
	}{
		{"", 2166136261},
		{"a", 0xe40c292c},
		{"b", 0xe70c2de5},
		{"\x00", 0x050c5d1f},
		{"\xff", 0x7a0b824e},
		{"\x00\x00", 0x117697cd},
		{"\x00a", 0x70772d5a},
		{"ab", 0x4d2505ca},
		{"ba", 0x3c2ba6cc},
		{"abc", 0x1a47e90b},
		{"foobar", 0xbf9cf968},
		{string(everyByte()), 0x90a458c5},
	} {
		if got := finger.Sum([]byte(x.data)...); got != x.want {
			t.Errorf("Sum(% x): %08x, not %08x", x.data, got, x.want)
		}
	}
	if got := finger.Sum(); got != 2166136261 {
		t.Errorf("Sum(): %d", got)
	}
	if got := finger.Sum('f', 'o', 'o', 'b', 'a', 'r'); got != 0xbf9cf968 {
		t.Errorf("Sum of six bytes: %08x", got)
	}
	for _, data := range someData() {
		if got, want := finger.Sum(data...), librarySum(data); got != want {
			t.Errorf("Sum(% .40x): %08x, not %08x", data, got, want)
		}
	}
}

// P13.1: one byte behind each of some sums.
func TestMoreOneByte(t *testing.T) {
	for _, sum := range someSums {
		if got := finger.More(sum); got != sum {
			t.Errorf("More(%08x): %08x", sum, got)
		}
		for n := range 256 {
			want := modelMore(sum, []byte{byte(n)})
			if got := finger.More(sum, byte(n)); got != want {
				t.Fatalf("More(%08x, %02x): %08x, not %08x", sum, n, got, want)
			}
		}
	}
	if got := finger.More(0, 0); got != 0 {
		t.Errorf("More(0, 0): %08x", got)
	}
	if got := finger.More(0, 1); got != finger.Prime {
		t.Errorf("More(0, 1): %08x", got)
	}
}

// P13.1: many bytes behind each of some sums, all at once, byte by byte, and cut in two at each place.
func TestMoreManyBytes(t *testing.T) {
	for _, sum := range someSums {
		for _, data := range someData() {
			want := modelMore(sum, data)
			if got := finger.More(sum, data...); got != want {
				t.Fatalf("More(%08x, % .40x): %08x, not %08x", sum, data, got, want)
			}
			single := sum
			for _, b := range data {
				single = finger.More(single, b)
			}
			if single != want {
				t.Fatalf("% .40x behind %08x byte by byte: %08x, not %08x", data, sum, single, want)
			}
			for at := range min(len(data)+1, 40) {
				if got := finger.More(finger.More(sum, data[:at]...), data[at:]...); got != want {
					t.Fatalf("% .40x behind %08x, cut at %d: %08x, not %08x", data, sum, at, got, want)
				}
			}
		}
	}
}

// P13.1: Sum is More behind Start.
func TestSumIsMoreBehindStart(t *testing.T) {
	for _, data := range someData() {
		sum, more := finger.Sum(data...), finger.More(finger.Start, data...)
		if sum != more {
			t.Errorf("% .40x: Sum %08x, More %08x", data, sum, more)
		}
	}
}

// params returns so many parameters, which are not all the same.
func params(n int) []api.Param {
	var list []api.Param
	for k := range n {
		list = append(list, api.Param{Type: api.Int + k%3, Ref: k%2 == 1})
	}
	return list
}

// exports returns so many exports, which are not all the same.
func exports(n int) []api.Export {
	var list []api.Export
	for k := range n {
		list = append(list, api.Export{Name: "x" + strconv.Itoa(k), Kind: k % 9, Type: k % 4097, Value: int32(k - n/2), Params: params(k % 3)})
	}
	return list
}

// allKinds returns a list with exports of all kinds, with and without Params.
func allKinds() []api.Export {
	return []api.Export{
		{Name: "pi", Kind: api.ObjConst, Type: api.Int, Value: 3},
		{Name: "Node", Kind: api.ObjType, Type: 5},
		{Name: "count", Kind: api.ObjVar, Type: api.Char, Value: 8},
		{Name: "a", Kind: api.ObjParam, Type: api.Bool, Value: -4},
		{Name: "b", Kind: api.ObjRef, Type: api.Nil, Value: 4},
		{Name: "Draw", Kind: api.ObjProc, Type: api.None, Value: 12, Params: []api.Param{{Type: api.Int}, {Type: api.Char, Ref: true}}},
		{Name: "Stop", Kind: api.ObjProc, Type: api.Bool, Value: 0},
		{Name: "Lost", Kind: api.ObjExc, Type: api.None, Value: 1},
		{Name: "Circle", Kind: api.ObjModule, Type: api.None, Value: 1},
		{},
	}
}

// countBytes tells what a count is written as, by division.
func countBytes(n int) []byte {
	if n < 0 {
		n = 0
	}
	var list []byte
	for n/128 > 0 {
		list = append(list, byte(128+n%128))
		n /= 128
	}
	return append(list, byte(n))
}

func textBytes(s string) []byte { return append(countBytes(len(s)), s...) }

func numberBytes(n int32) []byte {
	if n < 0 {
		return countBytes(-2*int(n) - 1)
	}
	return countBytes(2 * int(n))
}

// listBytes tells what Write must write.
func listBytes(list []api.Export) []byte {
	all := countBytes(len(list))
	for _, x := range list {
		all = slices.Concat(all, textBytes(x.Name), countBytes(x.Kind), countBytes(x.Type), numberBytes(x.Value), countBytes(len(x.Params)))
		for _, p := range x.Params {
			all = append(all, countBytes(p.Type)...)
			if p.Ref {
				all = append(all, 1)
			} else {
				all = append(all, 0)
			}
		}
	}
	return all
}

// fromHex returns the bytes that a text of hexadecimal digits and spaces tells.
func fromHex(t *testing.T, s string) []byte {
	t.Helper()
	list, err := hex.DecodeString(strings.ReplaceAll(s, " ", ""))
	if err != nil {
		t.Fatal(err)
	}
	return list
}

// written returns what Write writes for a list.
func written(list []api.Export) []byte {
	var w codec.Writer
	finger.Write(&w, list)
	return w.Bytes()
}

// writes fails unless a list is written as some bytes, by a new Writer and behind others.
func writes(t *testing.T, list []api.Export, want []byte) {
	t.Helper()
	var w codec.Writer
	finger.Write(&w, list)
	if got := w.Bytes(); !bytes.Equal(got, want) {
		t.Fatalf("Write(%.300v): % .80x, not % .80x", list, got, want)
	}
	w.Text("more")
	finger.Write(&w, list)
	if got := w.Bytes(); !bytes.Equal(got, slices.Concat(want, textBytes("more"), want)) {
		t.Fatalf("Write(%.300v) behind others: % .80x", list, got)
	}
}

// one returns a list of one export.
func one(x api.Export) []api.Export { return []api.Export{x} }

// edge is a list with a number or a text at an edge, what is written for it, and whether Read takes that.
type edge struct {
	list  []api.Export
	want  string
	takes bool
}

// edges returns lists at the edges that the chapter names, and beyond them.
func edges() []edge {
	return []edge{
		{nil, "00", true},
		{[]api.Export{}, "00", true},
		{one(api.Export{}), "01 00 00 00 00 00", true},
		{[]api.Export{{}, {}}, "02 00 00 00 00 00 00 00 00 00 00", true},
		{one(api.Export{Name: "pi", Kind: api.ObjConst, Type: api.Int, Value: 3}), "01 02 70 69 01 01 06 00", true},
		{one(api.Export{Name: "p", Kind: api.ObjProc, Value: 12, Params: []api.Param{{Type: api.Int}, {Type: api.Char, Ref: true}}}), "01 01 70 06 00 18 02 01 00 03 01", true},
		{one(api.Export{Name: "\x00\xff\x80 \n"}), "01 05 00 ff 80 20 0a 00 00 00 00", true},
		{one(api.Export{Name: strings.Repeat("n", 32)}), "01 20" + strings.Repeat("6e", 32) + "00 00 00 00", true},
		{one(api.Export{Name: strings.Repeat("n", 33)}), "01 21" + strings.Repeat("6e", 33) + "00 00 00 00", false},
		{one(api.Export{Name: strings.Repeat("\xc3\xa9", 16)}), "01 20" + strings.Repeat("c3a9", 16) + "00 00 00 00", true},
		{one(api.Export{Name: strings.Repeat("n", 128)}), "01 80 01" + strings.Repeat("6e", 128) + "00 00 00 00", false},
		{one(api.Export{Kind: 1}), "01 00 01 00 00 00", true},
		{one(api.Export{Kind: 8}), "01 00 08 00 00 00", true},
		{one(api.Export{Kind: 9}), "01 00 09 00 00 00", false},
		{one(api.Export{Kind: 300}), "01 00 ac 02 00 00 00", false},
		{one(api.Export{Kind: math.MaxInt}), "01 00 ff ff ff ff ff ff ff ff 7f 00 00 00", false},
		{one(api.Export{Kind: -1}), "01 00 00 00 00 00", true},
		{one(api.Export{Kind: math.MinInt}), "01 00 00 00 00 00", true},
		{one(api.Export{Type: 1}), "01 00 00 01 00 00", true},
		{one(api.Export{Type: 4095}), "01 00 00 ff 1f 00 00", true},
		{one(api.Export{Type: 4096}), "01 00 00 80 20 00 00", true},
		{one(api.Export{Type: 4097}), "01 00 00 81 20 00 00", false},
		{one(api.Export{Type: -1}), "01 00 00 00 00 00", true},
		{one(api.Export{Type: math.MinInt}), "01 00 00 00 00 00", true},
		{one(api.Export{Value: 1}), "01 00 00 00 02 00", true},
		{one(api.Export{Value: -1}), "01 00 00 00 01 00", true},
		{one(api.Export{Value: 64}), "01 00 00 00 80 01 00", true},
		{one(api.Export{Value: math.MaxInt32}), "01 00 00 00 fe ff ff ff 0f 00", true},
		{one(api.Export{Value: math.MinInt32}), "01 00 00 00 ff ff ff ff 0f 00", true},
		{one(api.Export{Params: []api.Param{}}), "01 00 00 00 00 00", true},
		{one(api.Export{Params: make([]api.Param, 1)}), "01 00 00 00 00 01 00 00", true},
		{one(api.Export{Params: make([]api.Param, 16)}), "01 00 00 00 00 10" + strings.Repeat("0000", 16), true},
		{one(api.Export{Params: make([]api.Param, 17)}), "01 00 00 00 00 11" + strings.Repeat("0000", 17), false},
		{one(api.Export{Params: make([]api.Param, 128)}), "01 00 00 00 00 80 01" + strings.Repeat("0000", 128), false},
		{one(api.Export{Params: []api.Param{{Ref: true}, {Ref: false}}}), "01 00 00 00 00 02 00 01 00 00", true},
		{one(api.Export{Params: []api.Param{{Type: 4096}}}), "01 00 00 00 00 01 80 20 00", true},
		{one(api.Export{Params: []api.Param{{Type: 4097}}}), "01 00 00 00 00 01 81 20 00", false},
		{one(api.Export{Params: []api.Param{{Type: -1, Ref: true}}}), "01 00 00 00 00 01 00 01", true},
	}
}

// P13.2
func TestWrite(t *testing.T) {
	for _, x := range edges() {
		writes(t, x.list, fromHex(t, x.want))
		writes(t, x.list, listBytes(x.list))
	}
	writes(t, allKinds(), listBytes(allKinds()))
	for _, n := range []int{1, 2, 127, 128, 129, 4096, 4097, 20000} {
		writes(t, exports(n), listBytes(exports(n)))
	}
}

// P13.2: lists one behind the other, and between other values.
func TestWriteAppends(t *testing.T) {
	var w codec.Writer
	var want []byte
	for _, x := range edges() {
		w.Byte(0xee)
		finger.Write(&w, x.list)
		finger.Write(&w, allKinds())
		want = slices.Concat(want, []byte{0xee}, fromHex(t, x.want), listBytes(allKinds()))
		if got := w.Bytes(); !bytes.Equal(got, want) {
			t.Fatalf("Write(%.300v): % x, not % x", x.list, got, want)
		}
	}
}

// P13.2
func TestKey(t *testing.T) {
	for _, x := range []struct {
		name string
		list []api.Export
		want uint32
	}{
		{"", nil, 0x117697cd},
		{"", []api.Export{}, 0x117697cd},
		{"M", nil, librarySum([]byte{1, 'M', 0})},
		{"M", one(api.Export{Name: "pi", Kind: 1, Type: 1, Value: 3}), librarySum([]byte{1, 'M', 1, 2, 'p', 'i', 1, 1, 6, 0})},
	} {
		if got := finger.Key(x.name, x.list); got != x.want {
			t.Errorf("Key(%q, %v): %08x, not %08x", x.name, x.list, got, x.want)
		}
	}
	names := []string{"", "M", "m", "MM", "Circle", "\x00", "\xff\xfe", strings.Repeat("n", 32), strings.Repeat("n", 33), strings.Repeat("n", 128), strings.Repeat("n", 20000)}
	lists := [][]api.Export{allKinds(), exports(4096), exports(4097)}
	for _, x := range edges() {
		lists = append(lists, x.list)
	}
	for _, name := range names {
		for _, list := range lists {
			want := librarySum(slices.Concat(textBytes(name), listBytes(list)))
			if got := finger.Key(name, list); got != want {
				t.Errorf("Key(%q, %.300v): %08x, not %08x", name, list, got, want)
			}
			var w codec.Writer
			w.Text(name)
			finger.Write(&w, list)
			if got := finger.Sum(w.Bytes()...); got != want {
				t.Errorf("Sum of what is written for %q and %.300v: %08x, not %08x", name, list, got, want)
			}
		}
	}
}

// isNothing reports whether a list is what Read returns with an error.
func isNothing(list []api.Export) bool { return len(list) == 0 }

// stands fails unless a Reader has an error and so many bytes left.
func stands(t *testing.T, r *codec.Reader, e api.Errno, left int) {
	t.Helper()
	if r.Err() != e || r.Left() != left {
		t.Fatalf("Err: %d, not %d; Left: %d, not %d", r.Err(), e, r.Left(), left)
	}
}

// equal tells what Same must return.
func equal(a, b []api.Export) bool {
	if len(a) != len(b) {
		return false
	}
	for n, x := range a {
		y := b[n]
		if x.Name != y.Name || x.Kind != y.Kind || x.Type != y.Type || x.Value != y.Value || len(x.Params) != len(y.Params) {
			return false
		}
		for k, p := range x.Params {
			if p.Type != y.Params[k].Type || p.Ref != y.Params[k].Ref {
				return false
			}
		}
	}
	return true
}

// floored tells what is read of a list that was written: what is below 0 is written as 0.
func floored(list []api.Export) []api.Export {
	list = slices.Clone(list)
	for n := range list {
		x := &list[n]
		x.Kind, x.Type = max(x.Kind, 0), max(x.Type, 0)
		x.Params = slices.Clone(x.Params)
		for k := range x.Params {
			x.Params[k].Type = max(x.Params[k].Type, 0)
		}
	}
	return list
}

// reads fails unless a list is read of some bytes, alone and between others.
func reads(t *testing.T, data []byte, want []api.Export) {
	t.Helper()
	r := codec.Read(data)
	if got := finger.Read(r); !equal(got, want) || r.Err() != api.OK {
		t.Fatalf("% .80x: %.300v and the error %d, not %.300v", data, got, r.Err(), want)
	}
	stands(t, r, api.OK, 0)
	r = codec.Read(slices.Concat([]byte{7}, data, []byte{2, 'h', 'i'}))
	r.Byte()
	if got := finger.Read(r); !equal(got, want) {
		t.Fatalf("% .80x between others: %.300v, not %.300v", data, got, want)
	}
	stands(t, r, api.OK, 3)
	if s := r.Text(2); s != "hi" {
		t.Fatalf("% .80x: what comes behind is read as %q", data, s)
	}
	if e := r.End(); e != api.OK {
		t.Fatalf("% .80x: End: %d", data, e)
	}
}

// isSpent fails unless a Reader with an error gives nothing more, and keeps the error.
func isSpent(t *testing.T, r *codec.Reader, e api.Errno) {
	t.Helper()
	stands(t, r, e, 0)
	for range 2 {
		if got := finger.Read(r); !isNothing(got) {
			t.Fatalf("after the error %d: %.300v", e, got)
		}
		stands(t, r, e, 0)
	}
	if b, s := r.Byte(), r.Text(9); b != 0 || s != "" || r.End() != e {
		t.Fatalf("after the error %d: %d, %q, and End %d", e, b, s, r.End())
	}
}

// fails fails unless nothing is read of some bytes, with an error.
func fails(t *testing.T, data []byte, want api.Errno) {
	t.Helper()
	r := codec.Read(data)
	if got := finger.Read(r); !isNothing(got) || r.Err() != want {
		t.Fatalf("% .80x: %.300v and the error %d, not %d", data, got, r.Err(), want)
	}
	isSpent(t, r, want)
}

// P13.2
func TestRead(t *testing.T) {
	for _, x := range edges() {
		if x.takes {
			reads(t, fromHex(t, x.want), floored(x.list))
			continue
		}
		fails(t, fromHex(t, x.want), api.ErrForm)
		fails(t, slices.Concat(fromHex(t, x.want), make([]byte, 100)), api.ErrForm)
	}
	reads(t, listBytes(allKinds()), allKinds())
	for _, n := range []int{1, 2, 127, 128, 129, 4095, 4096} {
		reads(t, listBytes(exports(n)), exports(n))
	}
}

// P13.2: one export more than there may be is an error as soon as the number is read.
func TestReadTooMany(t *testing.T) {
	for _, n := range []int{4097, 5000, 20000} {
		fails(t, listBytes(exports(n)), api.ErrForm)
		fails(t, countBytes(n), api.ErrForm)
	}
	fails(t, countBytes(4096), api.ErrShort)
	fails(t, countBytes(math.MaxInt), api.ErrForm)
}

// P13.2: an export that is wrong, as the first, the last, or within the list: nothing of the list is returned.
func TestReadOneWrong(t *testing.T) {
	for _, x := range edges() {
		if x.takes {
			continue
		}
		for at := range len(allKinds()) + 1 {
			fails(t, listBytes(slices.Insert(allKinds(), at, x.list...)), api.ErrForm)
		}
	}
	last := exports(4096)
	last[4095].Kind = 9
	fails(t, listBytes(last), api.ErrForm)
	last[4095].Kind = 8
	reads(t, listBytes(last), last)
}

// P13.2: a parameter that is wrong, the first or the last one.
func TestReadOneWrongParam(t *testing.T) {
	for n := 1; n <= 16; n++ {
		for at := range n {
			x := api.Export{Name: "p", Params: params(n)}
			reads(t, listBytes(one(x)), one(x))
			x.Params[at].Type = 4096
			reads(t, listBytes(one(x)), one(x))
			x.Params[at].Type = 4097
			fails(t, listBytes(one(x)), api.ErrForm)
			x.Params[at].Type = 5
			data := listBytes(one(x))
			ref := len(data) - 1 - 2*(n-1-at)
			for b := 2; b < 128; b++ {
				data[ref] = byte(b)
				fails(t, data, api.ErrForm)
			}
		}
	}
}

// P13.2: bytes that no list is written as, and which error goes first.
func TestReadWrongBytes(t *testing.T) {
	for _, x := range []struct {
		data string
		want api.Errno
	}{
		{"", api.ErrShort},
		{"01", api.ErrShort},
		{"80", api.ErrShort},
		{"80 00", api.ErrForm},
		{"81 00 00 00 00 00 00", api.ErrForm},
		{"80 80 80 80 80 80 80 80 80 01", api.ErrForm},
		{"01 80 00 00 00 00 00", api.ErrForm},
		{"01 01 61 81 00 00 00 00", api.ErrForm},
		{"01 01 61 01 81 00 00 00", api.ErrForm},
		{"01 01 61 01 01 82 00 00", api.ErrForm},
		{"01 01 61 01 01 80 80 80 80 10 00", api.ErrForm},
		{"01 01 61 01 01 ff ff ff ff 1f 00", api.ErrForm},
		{"01 01 61 01 01 02 80 00", api.ErrForm},
		{"01 01 61 06 00 02 01 81 00 00", api.ErrForm},
		{"01 01 61 06 00 02 01 01 80 00", api.ErrForm},
		{"01 01 61 06 00 02 01 01 81 00", api.ErrForm},
		{"01 01 61 06 00 02 01 01 02", api.ErrForm},
		{"01 01 61 06 00 02 01 01 7f", api.ErrForm},
		{"01 05 61", api.ErrShort},
		{"01 21 61", api.ErrForm},
		{"01 00 09", api.ErrForm},
		{"01 00 08", api.ErrShort},
		{"01 00 08 81 20", api.ErrForm},
		{"01 00 08 80 20", api.ErrShort},
		{"01 00 00 00 00 11", api.ErrForm},
		{"01 00 00 00 00 10", api.ErrShort},
		{"02 00 00 00 00 00", api.ErrShort},
		{"02 00 09 00 00 00", api.ErrForm},
	} {
		fails(t, fromHex(t, x.data), x.want)
	}
}

// P13.2: the bytes end at each place.
func TestReadShort(t *testing.T) {
	lists := [][]api.Export{allKinds(), exports(20), exports(300)}
	for _, x := range edges() {
		if x.takes {
			lists = append(lists, x.list)
		}
	}
	for _, list := range lists {
		data := listBytes(list)
		for n := range data {
			fails(t, data[:n], api.ErrShort)
		}
		reads(t, data, floored(list))
	}
	large := listBytes(exports(4096))
	for _, n := range []int{1, 2, 3, len(large) / 2, len(large) - 2, len(large) - 1} {
		fails(t, large[:n], api.ErrShort)
	}
}

// P13.2: a Reader that has an error returns nothing, and keeps the error, whatever would be there to read.
func TestReadAfterAnError(t *testing.T) {
	list := listBytes(allKinds())
	short := codec.Read([]byte{1, 2, 3})
	short.Word()
	isSpent(t, short, api.ErrShort)
	form := codec.Read(slices.Concat(textBytes("hi"), list))
	form.Text(1)
	isSpent(t, form, api.ErrForm)
	second := codec.Read(slices.Concat(list, []byte{1, 0, 9}, list))
	if got := finger.Read(second); !equal(got, allKinds()) {
		t.Errorf("the first list: %v", got)
	}
	if got := finger.Read(second); !isNothing(got) {
		t.Errorf("the second list: %v", got)
	}
	isSpent(t, second, api.ErrForm)
	empty := codec.Read(nil)
	if got := finger.Read(empty); !isNothing(got) {
		t.Errorf("of no bytes: %v", got)
	}
	isSpent(t, empty, api.ErrShort)
}

// model tells what Read must do, in the order of the chapter's sentences.
type model struct {
	left []byte
	err  api.Errno
}

func (m *model) fail(e api.Errno) { m.left, m.err = nil, e }

// take returns the next n bytes, none if there are fewer.
func (m *model) take(n int) []byte {
	if len(m.left) < n {
		m.fail(api.ErrShort)
	}
	if m.err != api.OK {
		return nil
	}
	next := m.left[:n]
	m.left = m.left[n:]
	return next
}

// count takes the groups up to the first one without 128, and holds them against what a count is written as.
func (m *model) count(most int) int {
	if m.err != api.OK {
		return 0
	}
	last := slices.IndexFunc(m.left, func(b byte) bool { return b < 128 })
	switch {
	case len(m.left) > 9 && (last < 0 || last > 8):
		m.fail(api.ErrForm)
		return 0
	case last < 0:
		m.fail(api.ErrShort)
		return 0
	}
	n := 0
	groups := m.take(last + 1)
	for _, b := range slices.Backward(groups) {
		n = n*128 + int(b)%128
	}
	if !bytes.Equal(countBytes(n), groups) || n > most {
		m.fail(api.ErrForm)
		return 0
	}
	return n
}

func (m *model) list() []api.Export {
	var list []api.Export
	for n := m.count(4096); n > 0 && m.err == api.OK; n-- {
		x := api.Export{Name: string(m.take(m.count(32))), Kind: m.count(8), Type: m.count(4096)}
		v := m.count(math.MaxUint32)
		x.Value = int32(v / 2)
		if v%2 == 1 {
			x.Value = int32(-(v + 1) / 2)
		}
		for k := m.count(16); k > 0 && m.err == api.OK; k-- {
			x.Params = append(x.Params, api.Param{Type: m.count(4096), Ref: m.count(1) == 1})
		}
		list = append(list, x)
	}
	if m.err != api.OK {
		return nil
	}
	return list
}

// isAsModel reads lists one behind the other, up to the first error or the end, and returns how many were read.
func isAsModel(t *testing.T, data []byte) int {
	t.Helper()
	r, m := codec.Read(data), &model{left: data}
	read := 0
	for {
		before := r.Left()
		got, want := finger.Read(r), m.list()
		if !equal(got, want) || r.Err() != m.err || r.Left() != len(m.left) {
			t.Fatalf("% .80x: %.300v, not %.300v; Err %d, not %d; Left %d, not %d", data, got, want, r.Err(), m.err, r.Left(), len(m.left))
		}
		if r.Err() != api.OK {
			return read
		}
		taken := before - r.Left()
		if at := len(data) - before; !bytes.Equal(written(got), data[at:at+taken]) {
			t.Fatalf("% .80x: %.300v is written as % .80x", data, got, written(got))
		}
		read++
	}
}

// someExport is one of any kind, among them the edges.
func someExport(next func() int) api.Export {
	name := make([]byte, []int{0, 1, 3, 8, 32}[next()%5])
	for n := range name {
		name[n] = byte(next())
	}
	x := api.Export{Name: string(name), Kind: next() % 9, Type: []int{0, 1, 2, 3, 4, 127, 128, 4096, next() % 4097}[next()%9]}
	x.Value = []int32{0, 1, -1, math.MaxInt32, math.MinInt32, int32(next()<<16 | next()), int32(next())}[next()%7]
	for range []int{0, 0, 1, 2, 16, next() % 17}[next()%6] {
		x.Params = append(x.Params, api.Param{Type: []int{0, 1, 128, 4096, next() % 4097}[next()%5], Ref: next()%2 == 1})
	}
	return x
}

func someList(next func() int, most int) []api.Export {
	var list []api.Export
	for range next() % (most + 1) {
		list = append(list, someExport(next))
	}
	return list
}

// P13.2: all short rows of bytes that matter.
func TestReadAllShortRows(t *testing.T) {
	some := []byte{0, 1, 2, 8, 9, 0x80}
	for n := range 8 {
		row := make([]byte, n)
		var fill func(at int)
		fill = func(at int) {
			if at == n {
				isAsModel(t, row)
				return
			}
			for _, b := range some {
				row[at] = b
				fill(at + 1)
			}
		}
		fill(0)
	}
}

// P13.2: lists of which one byte was changed to any other.
func TestReadChanged(t *testing.T) {
	for _, list := range [][]api.Export{allKinds(), exports(12), one(api.Export{Name: "p", Kind: 6, Type: 4096, Value: math.MinInt32, Params: params(16)})} {
		data := listBytes(list)
		for at := range data {
			for b := range 256 {
				changed := slices.Clone(data)
				changed[at] = byte(b)
				isAsModel(t, changed)
			}
		}
	}
}

// P13.2: lists of which bytes were taken away, put in, or made of another kind.
func TestReadDamaged(t *testing.T) {
	next := random(2)
	read := 0
	for range 6000 {
		data := slices.Concat(listBytes(someList(next, 6)), listBytes(someList(next, 3)))
		for range next() % 3 {
			at := next() % (len(data) - 1)
			switch next() % 4 {
			case 0:
				data = slices.Delete(data, at, at+1)
			case 1:
				data = slices.Insert(data, at, byte(next()))
			case 2:
				data[at] ^= 0x80
			default:
				data[at] += byte(next()%3 - 1)
			}
			if len(data) < 2 {
				break
			}
		}
		read += isAsModel(t, data)
	}
	if read < 3000 {
		t.Errorf("only %d lists were read", read)
	}
}

// copied returns a list with memory of its own throughout.
func copied(list []api.Export) []api.Export {
	list = slices.Clone(list)
	for n := range list {
		list[n].Name = strings.Clone(list[n].Name)
		list[n].Params = slices.Clone(list[n].Params)
	}
	return list
}

// variants returns lists of which each two differ: in length, in order, or in just one field or one Param.
func variants() [][]api.Export {
	base := allKinds()
	list := [][]api.Export{base, nil, base[:1], base[1:], base[:9], append(copied(base), api.Export{}), slices.Concat(base, base)}
	reversed := copied(base)
	slices.Reverse(reversed)
	list = append(list, reversed)
	with := func(n int, change func(x *api.Export)) {
		v := copied(base)
		change(&v[n])
		list = append(list, v)
	}
	for n := range base {
		with(n, func(x *api.Export) { x.Name += "x" })
		with(n, func(x *api.Export) { x.Name = "\x00" + x.Name })
		with(n, func(x *api.Export) { x.Name = strings.ToUpper(x.Name) + "1" })
		with(n, func(x *api.Export) { x.Kind = (x.Kind + 1) % 9 })
		with(n, func(x *api.Export) { x.Type += 100 })
		with(n, func(x *api.Export) { x.Type = 4096 })
		with(n, func(x *api.Export) { x.Value++ })
		with(n, func(x *api.Export) { x.Value = -x.Value - 100 })
		with(n, func(x *api.Export) { x.Value = math.MinInt32 })
		with(n, func(x *api.Export) { x.Params = append(x.Params, api.Param{}) })
		with(n, func(x *api.Export) { x.Params = append(x.Params, api.Param{Ref: true}) })
		with(n, func(x *api.Export) { x.Params = params(16) })
	}
	for k := range base[5].Params {
		with(5, func(x *api.Export) { x.Params[k].Type++ })
		with(5, func(x *api.Export) { x.Params[k].Ref = !x.Params[k].Ref })
		with(5, func(x *api.Export) { x.Params = slices.Delete(x.Params, k, k+1) })
	}
	with(5, func(x *api.Export) { slices.Reverse(x.Params) })
	with(5, func(x *api.Export) { x.Params = nil })
	for n := 1; n < len(base); n++ {
		v := copied(base)
		v[n-1], v[n] = v[n], v[n-1]
		list = append(list, v)
	}
	return list
}

// P13.2, P13.3: lists that differ in anything are not the same (nor have these the same key); equal ones are, and do.
func TestSame(t *testing.T) {
	list := variants()
	for n, a := range list {
		for k, b := range list {
			b = copied(b)
			if got := finger.Same(a, b); got != (n == k) {
				t.Errorf("Same(%v, %v): %v", a, b, got)
			}
			if got := finger.Key("M", a) == finger.Key("M", b); got != (n == k) {
				t.Errorf("the keys of %v and %v: equal %v", a, b, got)
			}
		}
	}
}

// P13.2: what is below 0 is not the same as 0, though it is written so.
func TestSameBelowZero(t *testing.T) {
	zero := one(api.Export{Name: "x", Params: make([]api.Param, 1)})
	for _, other := range [][]api.Export{
		one(api.Export{Name: "x", Kind: -1, Params: make([]api.Param, 1)}),
		one(api.Export{Name: "x", Type: -1, Params: make([]api.Param, 1)}),
		one(api.Export{Name: "x", Params: []api.Param{{Type: -1}}}),
		one(api.Export{Name: "x", Kind: 1 << 40, Params: make([]api.Param, 1)}),
		one(api.Export{Name: "x", Type: 1 << 40, Params: make([]api.Param, 1)}),
		one(api.Export{Name: "x", Params: []api.Param{{Type: 1 << 40}}}),
	} {
		if finger.Same(zero, other) || finger.Same(other, zero) || !finger.Same(other, copied(other)) {
			t.Errorf("Same of %v", other)
		}
	}
	if finger.Key("M", zero) != finger.Key("M", one(api.Export{Name: "x", Kind: -1, Type: -9, Params: []api.Param{{Type: math.MinInt}}})) {
		t.Error("what is below 0 is not written as 0")
	}
}

// P13.2, P13.3: a list without elements may be nil or not.
func TestSameEmpty(t *testing.T) {
	none := [][]api.Export{nil, {}, make([]api.Export, 0, 9), allKinds()[:0]}
	for _, a := range none {
		for _, b := range none {
			if !finger.Same(a, b) || finger.Key("M", a) != finger.Key("M", b) {
				t.Errorf("%v and %v", a, b)
			}
		}
		if finger.Same(a, make([]api.Export, 1)) || finger.Same(make([]api.Export, 1), a) {
			t.Error("an export with nothing in it is one all the same")
		}
	}
	for _, a := range [][]api.Param{nil, {}, params(9)[:0]} {
		for _, b := range [][]api.Param{nil, {}, params(9)[:0]} {
			one, two := one(api.Export{Name: "p", Params: a}), one(api.Export{Name: "p", Params: b})
			if !finger.Same(one, two) || finger.Key("M", one) != finger.Key("M", two) {
				t.Errorf("%v and %v", one, two)
			}
		}
	}
}

// P13.2: the name of the module is part of the key.
func TestKeysOfNames(t *testing.T) {
	found := map[uint32]string{}
	for _, name := range []string{"", "M", "m", "N", "MM", "M\x00", "Circle", "circle", strings.Repeat("n", 31), strings.Repeat("n", 32), strings.Repeat("n", 33)} {
		key := finger.Key(name, allKinds())
		if other, ok := found[key]; ok {
			t.Errorf("%q and %q have the key %08x", name, other, key)
		}
		found[key] = name
		if again := finger.Key(strings.Clone(name), copied(allKinds())); again != key {
			t.Errorf("Key(%q) again: %08x, not %08x", name, again, key)
		}
	}
}

// P13.3: Read returns what Write wrote, also of lists one behind the other, and that has the same key.
func TestWrittenIsRead(t *testing.T) {
	next := random(3)
	for n := range 1500 {
		var w codec.Writer
		var lists [][]api.Export
		for range 1 + n%5 {
			list := someList(next, n%60)
			lists = append(lists, list)
			finger.Write(&w, list)
			w.Word(uint32(len(list)))
		}
		r := codec.Read(w.Bytes())
		for _, list := range lists {
			got := finger.Read(r)
			if !equal(got, list) || !finger.Same(got, list) || !finger.Same(list, got) {
				t.Fatalf("%v, not %v", got, list)
			}
			if finger.Key("M", got) != finger.Key("M", list) || finger.Key("", got) != finger.Key("", copied(list)) {
				t.Fatalf("%v: what is read has another key", list)
			}
			if v := r.Word(); v != uint32(len(list)) || r.Err() != api.OK {
				t.Fatalf("%v: what comes behind is read as %d, with the error %d", list, v, r.Err())
			}
		}
		if e := r.End(); e != api.OK {
			t.Fatalf("End: %d", e)
		}
	}
}

// P13.3: the largest list that there can be.
func TestLargestIsRead(t *testing.T) {
	list := make([]api.Export, 4096)
	for n := range list {
		list[n] = api.Export{Name: strings.Repeat("\xff", 27) + strconv.Itoa(10000+n), Kind: 8, Type: 4096, Value: math.MinInt32, Params: slices.Repeat([]api.Param{{Type: 4096, Ref: true}}, 16)}
	}
	data := written(list)
	reads(t, data, list)
	if got := finger.Read(codec.Read(data)); !finger.Same(got, list) || finger.Key("M", got) != finger.Key("M", list) {
		t.Error("what is read is not the same")
	}
}

// roomy returns a list that has spare capacity throughout, and all its memory.
func roomy() (list, memory []api.Export) {
	memory = slices.Concat(allKinds(), []api.Export{{Name: "spare", Kind: 77}, {Name: "more", Kind: 78}})
	for n := range memory {
		memory[n].Params = append(slices.Clone(memory[n].Params), api.Param{Type: 79}, api.Param{Type: 80, Ref: true})
	}
	list = memory[:len(memory)-2]
	for n := range list {
		list[n].Params = list[n].Params[:len(list[n].Params)-2]
	}
	return list, memory
}

// snapshot tells all that a list's memory holds.
func snapshot(memory []api.Export) []api.Export {
	all := copied(memory)
	for n, x := range memory {
		all[n].Params = slices.Clone(x.Params[:cap(x.Params)])
	}
	return all
}

// P2: no call changes a list that it is given, nor the memory behind it.
func TestListsStay(t *testing.T) {
	list, memory := roomy()
	other, otherMemory := roomy()
	before, otherBefore := snapshot(memory), snapshot(otherMemory)
	var w codec.Writer
	finger.Write(&w, list)
	finger.Key("M", list)
	finger.Same(list, other)
	finger.Same(list, list[1:])
	finger.Read(codec.Read(w.Bytes()))
	if !equal(snapshot(memory), before) || !equal(snapshot(otherMemory), otherBefore) {
		t.Errorf("the lists became %v and %v", memory, otherMemory)
	}
	if !equal(list, other) || !equal(list, allKinds()) {
		t.Errorf("the list became %v", list)
	}
}

// P2: Sum and More leave the bytes that they are given, and the memory behind them.
func TestBytesStay(t *testing.T) {
	memory := slices.Concat(everyByte(), []byte{1, 2, 3})
	before := slices.Clone(memory)
	first := finger.Sum(memory[:256]...)
	finger.More(7, memory[:256]...)
	if !bytes.Equal(memory, before) {
		t.Errorf("the bytes became % x", memory)
	}
	memory[0] = 99
	if again := finger.Sum(before[:256]...); again != first {
		t.Errorf("Sum: %08x, then %08x", first, again)
	}
}

// P2: what was written stays as it was when the list is changed.
func TestWriteKeepsNothing(t *testing.T) {
	memory := []byte("name")
	list := []api.Export{{Name: unsafe.String(unsafe.SliceData(memory), len(memory)), Kind: 6, Params: params(3)}}
	want := listBytes(copied(list))
	var w codec.Writer
	finger.Write(&w, list)
	key := finger.Key("M", list)
	copy(memory, "xxxx")
	list[0].Kind = 1
	list[0].Params[1].Type = 99
	if got := w.Bytes(); !bytes.Equal(got, want) {
		t.Errorf("what was written became % x", got)
	}
	if finger.Key("M", list) == key {
		t.Error("Key returned what it had returned")
	}
}

// P2: what Read returned stays as it was when its bytes are changed.
func TestReadKeepsItsBytes(t *testing.T) {
	data := listBytes(allKinds())
	got := finger.Read(codec.Read(data))
	for n := range data {
		data[n] = 0xee
	}
	if !equal(got, allKinds()) {
		t.Errorf("the list became %v", got)
	}
}

// spoil overwrites all that a list's memory holds, also behind it.
func spoil(list []api.Export) {
	for n := range list {
		p := append(list[n].Params, api.Param{Type: 99, Ref: true})
		for k := range p[:cap(p)] {
			p[:cap(p)][k] = api.Param{Type: 98, Ref: true}
		}
		for k := range list[n].Params {
			list[n].Params[k] = api.Param{Type: 97}
		}
	}
	list = append(list, api.Export{Name: "more"})
	for n := range list[:cap(list)] {
		list[:cap(list)][n] = api.Export{Name: "spoilt", Kind: 96}
	}
}

// P2: lists that Read returned share nothing: not with each other, not with the Reader, and none with another list within them.
func TestReadListsAreTheCallers(t *testing.T) {
	want := slices.Concat(allKinds(), exports(30))
	data := slices.Concat(listBytes(want), listBytes(want), listBytes(want))
	r, other := codec.Read(data), codec.Read(data)
	first, second, third := finger.Read(r), finger.Read(r), finger.Read(other)
	spoil(first)
	if !equal(second, want) || !equal(third, want) {
		t.Errorf("other lists became %v and %v", second, third)
	}
	if got := finger.Read(r); !equal(got, want) {
		t.Errorf("the third list: %v", got)
	}
	spoil(second)
	if got := finger.Read(other); !equal(got, want) || !equal(third, want) {
		t.Errorf("the lists of the other Reader: %v and %v", got, third)
	}
	for n := range third {
		p := third[n].Params
		third[n].Params = nil
		p = append(p, api.Param{Type: 99, Ref: true})
		for k := range p[:cap(p)] {
			p[:cap(p)][k] = api.Param{Type: 98, Ref: true}
		}
		if !equal(third[n+1:], want[n+1:]) {
			t.Fatalf("behind the export %d the list became %v", n, third[n+1:])
		}
	}
}

// P2: names that Read returned share no memory.
func TestReadNamesAreTheirOwn(t *testing.T) {
	data := listBytes(slices.Repeat(one(api.Export{Name: "name"}), 5))
	starts := map[*byte]int{}
	for range 2 {
		r := codec.Read(data)
		for _, x := range finger.Read(r) {
			starts[unsafe.StringData(x.Name)]++
		}
	}
	if len(starts) != 10 {
		t.Errorf("10 names begin at %d places", len(starts))
	}
}

// P2: what a call returns depends on nothing that came before it.
func TestCallsAreIndependent(t *testing.T) {
	list := variants()
	var keys []uint32
	for _, x := range list {
		keys = append(keys, finger.Key("M", x))
		finger.Read(codec.Read(fromHex(t, "01 00 09")))
		finger.Sum(1, 2, 3)
	}
	for n, x := range slices.Backward(list) {
		if got := finger.Key("M", x); got != keys[n] {
			t.Errorf("Key: %08x, then %08x", keys[n], got)
		}
		if got := finger.Sum(); got != finger.Start {
			t.Errorf("Sum(): %08x", got)
		}
		reads(t, listBytes(x), x)
	}
}

// P1
func TestAnyArguments(t *testing.T) {
	large := []int{math.MinInt, math.MinInt32, -1, 0, 1, 128, 4097, math.MaxUint32, math.MaxInt}
	var list []api.Export
	for _, n := range large {
		list = append(list, api.Export{Name: strings.Repeat("\xff", n&0xffff), Kind: n, Type: n, Value: int32(n), Params: []api.Param{{Type: n}, {Type: n, Ref: true}}})
	}
	list = append(list, api.Export{Params: make([]api.Param, 1<<16)})
	writes(t, list, listBytes(list))
	if !finger.Same(list, copied(list)) {
		t.Error("a list is not the same as its copy")
	}
	if got, want := finger.Key(strings.Repeat("n", 1<<16), list), librarySum(slices.Concat(textBytes(strings.Repeat("n", 1<<16)), listBytes(list))); got != want {
		t.Errorf("Key: %08x, not %08x", got, want)
	}
	fails(t, listBytes(list), api.ErrForm)
	for b := range 256 {
		isAsModel(t, bytes.Repeat([]byte{byte(b)}, 1<<12))
		isAsModel(t, slices.Concat(countBytes(4096), bytes.Repeat([]byte{byte(b)}, 1<<12)))
	}
}

// P1: very much is summed, written and read in good time.
func TestMuch(t *testing.T) {
	data := bytes.Repeat(everyByte(), 1<<16)
	if got, want := finger.Sum(data...), librarySum(data); got != want {
		t.Errorf("Sum: %08x, not %08x", got, want)
	}
	list := exports(1 << 18)
	if got, want := finger.Key("M", list), librarySum(slices.Concat(textBytes("M"), written(list))); got != want {
		t.Errorf("Key: %08x, not %08x", got, want)
	}
	if !finger.Same(list, copied(list)) {
		t.Error("a list is not the same as its copy")
	}
	// As many lists as possible, each of no exports.
	r := codec.Read(make([]byte, 1<<20))
	for r.Left() > 0 {
		if got := finger.Read(r); !isNothing(got) {
			t.Fatalf("%v", got)
		}
	}
	stands(t, r, api.OK, 0)
}

// P13.2, P13.3, P1
func FuzzRead(f *testing.F) {
	f.Add([]byte{})
	f.Add(listBytes(allKinds()))
	f.Add(listBytes(exports(20)))
	for _, x := range edges() {
		f.Add(listBytes(x.list))
	}
	f.Fuzz(func(t *testing.T, data []byte) {
		isAsModel(t, data)
		if got, want := finger.Sum(data...), librarySum(data); got != want {
			t.Fatalf("Sum(% .80x): %08x, not %08x", data, got, want)
		}
	})
}
