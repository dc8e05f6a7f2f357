package objfile_test

import (
	"bytes"
	"encoding/hex"
	"math"
	"slices"
	"strconv"
	"strings"
	"testing"
	"unsafe"

	"pascaline/api"
	"pascaline/codec"
	"pascaline/objfile"
	"pascaline/symfile"
)

// wrongNames are texts that are no names, though some of them come near.
var wrongNames = []string{"", "1", "9x", "_", "a_b", "x ", " x", "a.b", "a\x00", "é", "a\xff", "*", long(33), "a" + strings.Repeat("1", 32), strings.Repeat("a", 1<<16)}

// far are numbers far from all that can be.
var far = []int{math.MinInt, math.MinInt + 1, math.MinInt32, -1 << 14, 1 << 15, math.MaxInt32, math.MaxUint32, 1<<32 + 1, math.MaxInt - 2, math.MaxInt - 1, math.MaxInt}

// long returns a name of so many bytes.
func long(n int) string { return strings.Repeat("n", n) }

// modelCheck tells what Check must return.
func modelCheck(o objfile.Object) api.Errno {
	if !symfile.Name(o.Module) {
		return api.ErrName
	}
	if e := symfile.Imports(o.Module, o.Imports); e != api.OK {
		return e
	}
	if len(o.Code) > 16384 || len(o.Fixups) > 16384 || len(o.Segments) > 16384 {
		return api.ErrCode
	}
	if o.Data < 0 || o.Data > 16384 || o.Excs < 0 || o.Excs > 4096 {
		return api.ErrData
	}
	if o.Body < 0 || o.Body >= len(o.Code) || !modelSegments(o) || !modelFixups(o) {
		return api.ErrForm
	}
	return api.OK
}

func modelSegments(o objfile.Object) bool {
	next := 0 // the least Start that the next one can have
	for n, s := range o.Segments {
		if n == 0 && s.Start > 0 || s.Start < next || s.Start >= len(o.Code) || s.Pad < -1 || s.Pad >= len(o.Code) {
			return false
		}
		next = s.Start + 1
	}
	return next > 0
}

// modelFixups counts how often each word is changed, and holds each first word against all words ahead.
func modelFixups(o objfile.Object) bool {
	last := -1
	for _, x := range o.Fixups {
		changes, known := map[int]int{1: 2, 2: 2, 3: 1, 4: 2}[x.Kind]
		if !known || x.At <= last || x.At < 0 || x.At >= len(o.Code) || changes == 2 && x.At == len(o.Code)-1 {
			return false
		}
		last = x.At + changes - 1
		if x.Module < 0 || x.Module > len(o.Imports) || x.Value < 0 || x.Value > 16384 {
			return false
		}
		if x.Kind == 4 && (x.Module != 0 || x.Value != 0) || x.Kind == 3 && x.Module == 0 {
			return false
		}
		if x.Module == 0 && (x.Kind == 1 && x.Value > o.Data || x.Kind == 2 && x.Value >= o.Excs) {
			return false
		}
	}
	return true
}

// objectBytes tells what Encode must return, if Check returns OK. It writes also what Check refuses, with 0 for what is below 0.
func objectBytes(o objfile.Object) []byte {
	var w codec.Writer
	w.Word(0x504f4201)
	w.Text(o.Module)
	w.Word(o.Key)
	w.Count(len(o.Imports))
	for _, x := range o.Imports {
		w.Text(x.Name)
		w.Word(x.Key)
	}
	w.Count(len(o.Code))
	for _, v := range o.Code {
		w.Word(v)
	}
	w.Count(len(o.Fixups))
	for _, x := range o.Fixups {
		w.Count(x.At)
		w.Count(x.Kind)
		w.Count(x.Module)
		w.Count(x.Value)
	}
	w.Count(len(o.Segments))
	for _, s := range o.Segments {
		w.Count(s.Start)
		w.Count(s.Pad + 1)
	}
	w.Count(o.Data)
	w.Count(o.Excs)
	w.Count(o.Body)
	return w.Bytes()
}

// modelDecode tells what Decode must return.
func modelDecode(data []byte) (objfile.Object, api.Errno) {
	if !bytes.HasPrefix(data, []byte{0x01, 0x42, 0x4f, 0x50}) {
		return objfile.Object{}, api.ErrForm
	}
	r := codec.Read(data[4:])
	o := objfile.Object{Module: r.Text(32), Key: r.Word()}
	for n := r.Count(64); n > 0; n-- {
		o.Imports = append(o.Imports, api.Import{Name: r.Text(32), Key: r.Word()})
	}
	for n := r.Count(16384); n > 0; n-- {
		o.Code = append(o.Code, r.Word())
	}
	for n := r.Count(16384); n > 0; n-- {
		o.Fixups = append(o.Fixups, api.Fixup{At: r.Count(16384), Kind: r.Count(4), Module: r.Count(64), Value: r.Count(16384)})
	}
	for n := r.Count(16384); n > 0; n-- {
		o.Segments = append(o.Segments, api.Segment{Start: r.Count(16384), Pad: r.Count(16384) - 1})
	}
	o.Data, o.Excs, o.Body = r.Count(16384), r.Count(4096), r.Count(16384)
	e := r.End()
	if e == api.OK {
		e = modelCheck(o)
	}
	if e != api.OK {
		return objfile.Object{}, e
	}
	return o, api.OK
}

// equal reports whether two objects are equal in everything.
func equal(a, b objfile.Object) bool {
	return a.Module == b.Module && a.Key == b.Key && slices.Equal(a.Imports, b.Imports) && slices.Equal(a.Code, b.Code) && slices.Equal(a.Fixups, b.Fixups) && slices.Equal(a.Segments, b.Segments) && a.Data == b.Data && a.Excs == b.Excs && a.Body == b.Body
}

// isZero reports whether an object is what is returned with an error.
func isZero(o objfile.Object) bool { return equal(o, objfile.Object{}) }

// random returns a fixed row of numbers below 2^16.
func random(seed uint32) func() int {
	state := seed
	return func() int {
		state = state*1664525 + 1013904223
		return int(state >> 16)
	}
}

// fromHex returns the bytes that a text of hexadecimal digits and spaces tells.
func fromHex(t *testing.T, s string) []byte {
	t.Helper()
	list, err := hex.DecodeString(strings.ReplaceAll(s, " ", ""))
	if err != nil {
		t.Fatal(err)
	}
	return list
}

// imports returns so many imports with names of their own.
func imports(n int) []api.Import {
	var list []api.Import
	for k := range n {
		list = append(list, api.Import{Name: "Used" + strconv.Itoa(k), Key: uint32(k) * 0x01234567})
	}
	return list
}

// words returns so many words, which are not all the same.
func words(n int) []uint32 {
	var list []uint32
	for k := range n {
		list = append(list, uint32(k)*0x89abcdef+0x01000000)
	}
	return list
}

// calls returns a fixup of the first import for each of so many words.
func calls(n int) []api.Fixup {
	var list []api.Fixup
	for k := range n {
		list = append(list, api.Fixup{At: k, Kind: api.FixCall, Module: 1, Value: k})
	}
	return list
}

// segments returns a segment for each of so many words.
func segments(n int) []api.Segment {
	var list []api.Segment
	for k := range n {
		list = append(list, api.Segment{Start: k, Pad: k - 1})
	}
	return list
}

// whole is the one segment of code in which nothing is handled.
func whole() []api.Segment { return []api.Segment{{Start: 0, Pad: -1}} }

// plain returns an object of so many words, with nothing else.
func plain(n int) objfile.Object {
	return objfile.Object{Module: "M", Code: words(n), Segments: whole()}
}

// rich returns an object that has something of everything.
func rich() objfile.Object {
	return objfile.Object{
		Module:  "Rich",
		Key:     0x89abcdef,
		Imports: imports(3),
		Code:    words(20),
		Fixups: []api.Fixup{
			{At: 0, Kind: api.FixData, Module: 0, Value: 300},
			{At: 2, Kind: api.FixExc, Module: 0, Value: 4},
			{At: 4, Kind: api.FixHeap},
			{At: 6, Kind: api.FixCall, Module: 1, Value: 0},
			{At: 7, Kind: api.FixCall, Module: 3, Value: 16384},
			{At: 9, Kind: api.FixData, Module: 2, Value: 16384},
			{At: 12, Kind: api.FixExc, Module: 3, Value: 16384},
			{At: 16, Kind: api.FixHeap},
			{At: 18, Kind: api.FixData, Module: 0, Value: 0},
		},
		Segments: []api.Segment{{Start: 0, Pad: -1}, {Start: 3, Pad: 9}, {Start: 4, Pad: 0}, {Start: 11, Pad: 0}, {Start: 19, Pad: 19}},
		Data:     300,
		Excs:     5,
		Body:     12,
	}
}

// someObjects returns objects that may be.
func someObjects() []objfile.Object {
	edge := rich()
	edge.Module, edge.Key, edge.Data, edge.Excs, edge.Body = long(32), math.MaxUint32, 16384, 4096, 19
	bare := rich()
	bare.Fixups, bare.Imports, bare.Data, bare.Excs, bare.Body = nil, []api.Import{}, 0, 0, 0
	return []objfile.Object{
		plain(1),
		plain(3),
		rich(),
		edge,
		bare,
		{Module: "z9", Key: 1, Imports: imports(64), Code: words(200), Fixups: calls(200), Segments: segments(200), Body: 150},
		{Module: "N", Imports: []api.Import{{Name: long(32), Key: math.MaxUint32}, {Name: "n"}}, Code: words(2), Fixups: []api.Fixup{{Kind: api.FixHeap}}, Segments: []api.Segment{{Start: 0, Pad: 1}, {Start: 1, Pad: 1}}, Data: 1, Excs: 1, Body: 1},
		{Module: "C", Code: make([]uint32, 130), Fixups: []api.Fixup{}, Segments: []api.Segment{{Start: 0, Pad: 127}, {Start: 127, Pad: 128}, {Start: 128, Pad: 129}}, Data: 127, Excs: 128, Body: 129},
	}
}

// copied returns an object with memory of its own throughout.
func copied(o objfile.Object) objfile.Object {
	o.Module = strings.Clone(o.Module)
	o.Imports, o.Code, o.Fixups, o.Segments = slices.Clone(o.Imports), slices.Clone(o.Code), slices.Clone(o.Fixups), slices.Clone(o.Segments)
	for n := range o.Imports {
		o.Imports[n].Name = strings.Clone(o.Imports[n].Name)
	}
	return o
}

// decodes fails unless some bytes are decoded to an object, or to an error.
func decodes(t *testing.T, data []byte, want objfile.Object, e api.Errno) {
	t.Helper()
	got, err := objfile.Decode(data)
	if err != e {
		t.Fatalf("Decode(% .80x): %d, not %d", data, err, e)
	}
	if e != api.OK {
		if !isZero(got) {
			t.Fatalf("Decode(% .80x): %.300v beside the error %d", data, got, e)
		}
		return
	}
	if !equal(got, want) {
		t.Fatalf("Decode(% .80x): %.300v, not %.300v", data, got, want)
	}
}

// refuses fails unless some bytes are decoded to an error.
func refuses(t *testing.T, data []byte, e api.Errno) {
	t.Helper()
	decodes(t, data, objfile.Object{}, e)
}

// is fails unless Check and Encode return what they must for an object that has an error, or that may be; Decode must take just the bytes of the latter.
func is(t *testing.T, o objfile.Object, want api.Errno) {
	t.Helper()
	for range 2 {
		if got := objfile.Check(o); got != want {
			t.Fatalf("Check(%.300v): %d, not %d", o, got, want)
		}
	}
	data, e := objfile.Encode(o)
	if e != want {
		t.Fatalf("Encode(%.300v): %d, not %d", o, e, want)
	}
	if want != api.OK {
		if len(data) != 0 {
			t.Fatalf("Encode(%.300v): % .80x beside the error %d", o, data, e)
		}
		isAsModel(t, objectBytes(o))
		return
	}
	if !bytes.Equal(data, objectBytes(o)) {
		t.Fatalf("Encode(%.300v): % .80x, not % .80x", o, data, objectBytes(o))
	}
	decodes(t, data, o, api.OK)
}

// isAsModel fails unless Decode returns what it must for some bytes, and Encode these bytes for the object. It reports whether there is one.
func isAsModel(t *testing.T, data []byte) bool {
	t.Helper()
	want, e := modelDecode(data)
	decodes(t, data, want, e)
	if e != api.OK {
		return false
	}
	got, _ := objfile.Decode(data)
	if e := objfile.Check(got); e != api.OK {
		t.Fatalf("Check of what Decode returned for % .80x: %d", data, e)
	}
	again, e := objfile.Encode(got)
	if e != api.OK || !bytes.Equal(again, data) {
		t.Fatalf("Encode of what Decode returned for % .80x: % .80x and %d", data, again, e)
	}
	return true
}

// right returns OK for what may be, else an error.
func right(may bool, e api.Errno) api.Errno {
	if may {
		return api.OK
	}
	return e
}

// P15.2
func TestMagic(t *testing.T) {
	const magic uint32 = objfile.Magic
	if magic != 0x504f4201 {
		t.Errorf("Magic: %x", magic)
	}
}

// P15.1, P15.2, P15.3: the examples of the chapter, and objects that have something of everything.
func TestObjects(t *testing.T) {
	is(t, plain(1), api.OK)
	is(t, plain(3), api.OK)
	data, e := objfile.Encode(plain(3))
	if o, err := objfile.Decode(data); e != api.OK || err != api.OK || !slices.Equal(o.Code, words(3)) {
		t.Errorf("an object of three words: % x, %d, %v, %d", data, e, o, err)
	}
	for _, o := range someObjects() {
		is(t, o, api.OK)
	}
	o := plain(3)
	o.Imports, o.Data = imports(1), 4
	o.Fixups = []api.Fixup{{At: 0, Kind: api.FixData}, {At: 1, Kind: api.FixCall, Module: 1}}
	is(t, o, api.ErrForm)
	o.Fixups[1].At = 2
	is(t, o, api.OK)
	is(t, objfile.Object{}, api.ErrName)
}

// P15.1
func TestCheckOfModules(t *testing.T) {
	for _, name := range []string{"a", "Z", "x1", "MODULE", long(31), long(32)} {
		o := rich()
		o.Module = name
		is(t, o, api.OK)
	}
	for _, name := range wrongNames {
		o := rich()
		o.Module = name
		is(t, o, api.ErrName)
		o.Imports = imports(65)
		is(t, o, api.ErrName)
	}
	for _, key := range []uint32{0, 1, 1 << 31, math.MaxUint32} {
		o := rich()
		o.Key = key
		is(t, o, api.OK)
	}
}

// P15.1
func TestCheckOfImports(t *testing.T) {
	o := plain(2)
	for _, n := range []int{0, 1, 2, 63, 64} {
		o.Imports = imports(n)
		is(t, o, api.OK)
	}
	for _, n := range []int{65, 66, 300} {
		o.Imports = imports(n)
		is(t, o, api.ErrModules)
		o.Imports[0].Name = ""
		is(t, o, api.ErrModules)
	}
	for _, n := range []int{1, 5, 64} {
		for at := range n {
			for _, name := range wrongNames {
				o.Imports = imports(n)
				o.Imports[at].Name = name
				is(t, o, api.ErrName)
			}
			o.Imports = imports(n)
			o.Imports[at].Name = "M"
			is(t, o, api.ErrTwice)
			o.Imports[at].Name = "m"
			is(t, o, api.OK)
			if at > 0 {
				o.Imports[at].Name = o.Imports[at-1].Name
				is(t, o, api.ErrTwice)
			}
		}
	}
}

// P15.1: as many words, fixups and segments as there may be, and one more.
func TestCheckOfMany(t *testing.T) {
	is(t, plain(16383), api.OK)
	is(t, plain(16384), api.OK)
	is(t, plain(16385), api.ErrCode)
	is(t, plain(20000), api.ErrCode)
	o := plain(16384)
	o.Imports = imports(1)
	for _, n := range []int{16383, 16384} {
		o.Fixups = calls(n)
		is(t, o, api.OK)
		o.Segments = segments(n)
		is(t, o, api.OK)
	}
	o.Body = 16383
	is(t, o, api.OK)
	o.Body = 16384
	is(t, o, api.ErrForm)
	o.Body = 0
	o.Fixups = calls(16385)
	is(t, o, api.ErrCode)
	o.Fixups = nil
	is(t, o, api.OK)
	o.Segments = segments(16385)
	is(t, o, api.ErrCode)
	// There may be too many of each, whatever they are.
	for _, o := range []objfile.Object{
		{Module: "M", Code: make([]uint32, 16385)},
		{Module: "M", Fixups: make([]api.Fixup, 16385)},
		{Module: "M", Segments: make([]api.Segment, 16385)},
		{Module: "M", Code: words(1), Fixups: make([]api.Fixup, 16385), Segments: whole()},
		{Module: "M", Code: words(1), Segments: make([]api.Segment, 16385)},
	} {
		is(t, o, api.ErrCode)
	}
	is(t, objfile.Object{Module: "M", Fixups: make([]api.Fixup, 16384)}, api.ErrForm)
	is(t, objfile.Object{Module: "M", Segments: make([]api.Segment, 16384)}, api.ErrForm)
}

// P15.1
func TestCheckOfNumbers(t *testing.T) {
	numbers := append([]int{-2, -1, 0, 1, 2, 4095, 4096, 4097, 16383, 16384, 16385}, far...)
	for _, data := range numbers {
		for _, excs := range numbers {
			o := plain(2)
			o.Data, o.Excs = data, excs
			is(t, o, right(data >= 0 && data <= 16384 && excs >= 0 && excs <= 4096, api.ErrData))
		}
	}
}

// P15.1
func TestCheckOfBody(t *testing.T) {
	for _, size := range []int{0, 1, 2, 3, 9} {
		for _, body := range append([]int{-2, -1, 0, 1, size - 2, size - 1, size, size + 1}, far...) {
			o := plain(size)
			o.Body = body
			is(t, o, right(body >= 0 && body < size, api.ErrForm))
		}
	}
}

// P15.1: without code nothing may be.
func TestCheckWithoutCode(t *testing.T) {
	for _, list := range [][]api.Segment{nil, {}, whole(), {{Start: 0, Pad: 0}}} {
		for _, code := range [][]uint32{nil, {}} {
			is(t, objfile.Object{Module: "M", Code: code, Segments: list}, api.ErrForm)
			is(t, objfile.Object{Module: "M", Code: code, Segments: list, Fixups: []api.Fixup{{Kind: api.FixHeap}}}, api.ErrForm)
		}
	}
}

// P15.1
func TestCheckOfSegments(t *testing.T) {
	none := func(starts ...int) []api.Segment {
		var list []api.Segment
		for _, n := range starts {
			list = append(list, api.Segment{Start: n, Pad: -1})
		}
		return list
	}
	for _, x := range []struct {
		list []api.Segment
		want api.Errno
	}{
		{none(), api.ErrForm},
		{[]api.Segment{}, api.ErrForm},
		{none(0), api.OK},
		{none(1), api.ErrForm},
		{none(-1), api.ErrForm},
		{none(7), api.ErrForm},
		{none(-1, 0), api.ErrForm},
		{none(1, 2), api.ErrForm},
		{none(0, 1), api.OK},
		{none(0, 7), api.OK},
		{none(0, 8), api.ErrForm},
		{none(0, 9), api.ErrForm},
		{none(0, 0), api.ErrForm},
		{none(0, -1), api.ErrForm},
		{none(0, 4, 4), api.ErrForm},
		{none(0, 4, 3), api.ErrForm},
		{none(0, 4, 0), api.ErrForm},
		{none(0, 4, 5), api.OK},
		{none(0, 4, 5, 5), api.ErrForm},
		{none(0, 4, 2, 5), api.ErrForm},
		{none(0, 4, 8, 9), api.ErrForm},
		{none(0, 1, 2, 3, 4, 5, 6, 7), api.OK},
		{none(0, 1, 2, 3, 4, 5, 6, 7, 8), api.ErrForm},
		{none(0, 7, 7), api.ErrForm},
	} {
		o := plain(8)
		o.Segments = x.list
		is(t, o, x.want)
	}
	for _, start := range far {
		o := plain(8)
		o.Segments = none(start)
		is(t, o, api.ErrForm)
		o.Segments = none(0, start)
		is(t, o, api.ErrForm)
		o.Segments = none(0, 3, start)
		is(t, o, api.ErrForm)
	}
}

// P15.1: each pad of each of several segments; that two in a row have the same one is no error.
func TestCheckOfPads(t *testing.T) {
	for _, size := range []int{1, 2, 8} {
		for _, n := range []int{1, 2, 8} {
			if n > size {
				continue
			}
			for at := range n {
				for _, pad := range append([]int{-3, -2, -1, 0, 1, size - 2, size - 1, size, size + 1}, far...) {
					o := plain(size)
					o.Segments = segments(n)
					o.Segments[at].Pad = pad
					is(t, o, right(pad >= -1 && pad < size, api.ErrForm))
				}
			}
		}
	}
	o := plain(4)
	o.Segments = []api.Segment{{Start: 0, Pad: 2}, {Start: 1, Pad: 2}, {Start: 2, Pad: -1}, {Start: 3, Pad: -1}}
	is(t, o, api.OK)
}

// fixup returns one of a kind that may be wherever its words are, for an object with imports, variables and exceptions.
func fixup(at, kind int) api.Fixup {
	x := api.Fixup{At: at, Kind: kind}
	if kind == api.FixCall {
		x.Module = 1
	}
	return x
}

// P15.1: one fixup of each kind, at each word.
func TestCheckOfKinds(t *testing.T) {
	for _, size := range []int{1, 2, 3, 6} {
		for _, kind := range append([]int{-4, -3, -2, -1, 0, 1, 2, 3, 4, 5, 6, 1<<32 + 3, 1<<32 + 4}, far...) {
			for _, at := range append([]int{-2, -1, 0, 1, 2, size - 3, size - 2, size - 1, size, size + 1}, far...) {
				o := plain(size)
				o.Imports, o.Data, o.Excs = imports(2), 8, 2
				o.Fixups = []api.Fixup{fixup(at, kind)}
				last := at + 1
				if kind == api.FixCall {
					last = at
				}
				is(t, o, right(kind >= 1 && kind <= 4 && at >= 0 && at < size && last < size, api.ErrForm))
			}
		}
	}
}

// P15.1: two fixups, and three, of all kinds and at all words: none on the words of another, and none ahead of another.
func TestCheckOfSeveralFixups(t *testing.T) {
	found := 0
	one := func(n int) api.Fixup { return fixup(n%8-1, n/8+1) }
	for first := range 32 {
		for second := range 32 {
			o := plain(6)
			o.Imports, o.Data, o.Excs = imports(1), 8, 2
			o.Fixups = []api.Fixup{one(first), one(second)}
			is(t, o, modelCheck(o))
			for third := range 32 {
				o.Fixups = []api.Fixup{one(first), one(second), one(third)}
				is(t, o, modelCheck(o))
				if modelCheck(o) == api.OK {
					found++
				}
			}
		}
	}
	// Of 6 words, three fixups leave 0 to 3: none of these with three of two words, one with two, two with one, three with none.
	if want := 27*1 + 3*9*4 + 3*3*10 + 20; found != want {
		t.Errorf("%d rows of three fixups may be, not %d", found, want)
	}
}

// P15.1: the words of a fixup, those of the preceding one, and the first one behind these.
func TestCheckOfFixupsBehindAnother(t *testing.T) {
	for _, x := range []struct{ first, second, from int }{
		{api.FixData, api.FixCall, 2},
		{api.FixExc, api.FixData, 2},
		{api.FixHeap, api.FixHeap, 2},
		{api.FixCall, api.FixCall, 1},
		{api.FixCall, api.FixExc, 1},
	} {
		for at := 3; at < 7; at++ {
			for _, behind := range append([]int{-1, 0, 1, 2, 3}, far...) {
				o := plain(12)
				o.Imports, o.Data, o.Excs = imports(1), 8, 2
				o.Fixups = []api.Fixup{fixup(at, x.first), fixup(at+behind, x.second)}
				is(t, o, right(behind >= x.from && behind <= 3, api.ErrForm))
			}
		}
	}
}

// P15.1: each module and each value of each kind.
func TestCheckOfMeanings(t *testing.T) {
	for _, limits := range [][2]int{{0, 0}, {1, 1}, {0, 4096}, {16384, 0}, {12, 5}, {16384, 4096}} {
		data, excs := limits[0], limits[1]
		for kind := 1; kind <= 4; kind++ {
			for _, used := range []int{0, 1, 3, 64} {
				for _, module := range append([]int{-2, -1, 0, 1, 2, used - 1, used, used + 1, 65}, far...) {
					for _, value := range append([]int{-2, -1, 0, 1, data - 1, data, data + 1, excs - 1, excs, excs + 1, 4096, 16383, 16384, 16385}, far...) {
						o := plain(4)
						o.Imports, o.Data, o.Excs = imports(used), data, excs
						o.Fixups = []api.Fixup{{At: 1, Kind: kind, Module: module, Value: value}}
						may := module >= 0 && module <= used && value >= 0 && value <= 16384
						switch {
						case kind == api.FixHeap:
							may = module == 0 && value == 0
						case kind == api.FixCall:
							may = may && module > 0
						case module == 0 && kind == api.FixData:
							may = may && value <= data
						case module == 0:
							may = may && value < excs
						}
						is(t, o, right(may, api.ErrForm))
					}
				}
			}
		}
	}
}

// P15.1: a wrong fixup, and a wrong segment, at each place.
func TestCheckAtEachPlace(t *testing.T) {
	for at := range rich().Fixups {
		for _, change := range []func(x *api.Fixup){
			func(x *api.Fixup) { x.Kind = 0 },
			func(x *api.Fixup) { x.Kind = 5 },
			func(x *api.Fixup) { x.Kind = -1 },
			func(x *api.Fixup) { x.At = -1 },
			func(x *api.Fixup) { x.At = 20 },
			func(x *api.Fixup) { x.Module = -1 },
			func(x *api.Fixup) { x.Module = 4 },
			func(x *api.Fixup) { x.Value = -1 },
			func(x *api.Fixup) { x.Value = 16385 },
			func(x *api.Fixup) { *x = api.Fixup{At: x.At, Kind: api.FixCall} },
			func(x *api.Fixup) { *x = api.Fixup{At: x.At, Kind: api.FixData, Value: 301} },
			func(x *api.Fixup) { *x = api.Fixup{At: x.At, Kind: api.FixExc, Value: 5} },
			func(x *api.Fixup) { *x = api.Fixup{At: x.At, Kind: api.FixHeap, Value: 1} },
			func(x *api.Fixup) { *x = api.Fixup{At: x.At, Kind: api.FixHeap, Module: 1} },
		} {
			o := rich()
			change(&o.Fixups[at])
			is(t, o, api.ErrForm)
		}
		for _, more := range []api.Fixup{rich().Fixups[at], {At: 20, Kind: api.FixCall, Module: 1}} {
			o := rich()
			o.Fixups = slices.Insert(o.Fixups, at, more)
			is(t, o, api.ErrForm)
		}
	}
	for at := range rich().Segments {
		for _, change := range []func(s *api.Segment){
			func(s *api.Segment) { s.Start = -1 },
			func(s *api.Segment) { s.Start = 20 },
			func(s *api.Segment) { s.Pad = -2 },
			func(s *api.Segment) { s.Pad = 20 },
		} {
			o := rich()
			change(&o.Segments[at])
			is(t, o, api.ErrForm)
		}
		for _, start := range []int{0, 2, 3, 4, 10, 11, 12, 18, 19} {
			o := rich()
			o.Segments[at].Start = start
			is(t, o, modelCheck(o))
		}
		o := rich()
		o.Segments = slices.Insert(o.Segments, at, o.Segments[at])
		is(t, o, api.ErrForm)
	}
}

// P15.1: an object that is wrong in everything; each change mends what the error told, so that the next one shows.
func TestCheckInOrder(t *testing.T) {
	wrong := objfile.Object{Module: "1", Imports: imports(65), Code: words(16385), Fixups: make([]api.Fixup, 16385), Segments: make([]api.Segment, 16385), Data: -1, Excs: -1, Body: -1}
	wrong.Imports[2].Name, wrong.Imports[3].Name, wrong.Imports[4].Name = "", "M", "Used0"
	mends := []struct {
		want api.Errno
		mend func(o *objfile.Object)
	}{
		{api.ErrName, func(o *objfile.Object) { o.Module = "M" }},
		{api.ErrModules, func(o *objfile.Object) { o.Imports = o.Imports[:64] }},
		{api.ErrName, func(o *objfile.Object) { o.Imports[2].Name = "A" }},
		{api.ErrTwice, func(o *objfile.Object) { o.Imports[3].Name = "B" }},
		{api.ErrTwice, func(o *objfile.Object) { o.Imports[4].Name = "C" }},
		{api.ErrCode, func(o *objfile.Object) { o.Code = o.Code[:16384] }},
		{api.ErrCode, func(o *objfile.Object) { o.Fixups = o.Fixups[:16384] }},
		{api.ErrCode, func(o *objfile.Object) { o.Segments = o.Segments[:16384] }},
		{api.ErrData, func(o *objfile.Object) { o.Data = 16385 }},
		{api.ErrData, func(o *objfile.Object) { o.Data = 0 }},
		{api.ErrData, func(o *objfile.Object) { o.Excs = 4097 }},
		{api.ErrData, func(o *objfile.Object) { o.Excs = 0 }},
		{api.ErrForm, func(o *objfile.Object) { o.Body = 16384 }},
		{api.ErrForm, func(o *objfile.Object) { o.Body = 0 }},
		{api.ErrForm, func(o *objfile.Object) { o.Segments = segments(16384) }},
		{api.ErrForm, func(o *objfile.Object) { o.Fixups = calls(16384) }},
		{api.OK, func(o *objfile.Object) {}},
	}
	o := copied(wrong)
	for _, x := range mends {
		is(t, o, x.want)
		x.mend(&o)
	}
	// Each thing that is wrong in the form shows alone, too.
	for _, spoil := range []func(o *objfile.Object){
		func(o *objfile.Object) { o.Body = -1 },
		func(o *objfile.Object) { o.Segments = make([]api.Segment, 16384) },
		func(o *objfile.Object) { o.Fixups = make([]api.Fixup, 16384) },
	} {
		one := o
		spoil(&one)
		is(t, one, api.ErrForm)
	}
}

// P15.1: of each two errors, the one that goes before the other.
func TestCheckOfTwoErrors(t *testing.T) {
	errors := []struct {
		want  api.Errno
		spoil func(o *objfile.Object)
	}{
		{api.ErrName, func(o *objfile.Object) { o.Module = "" }},
		{api.ErrModules, func(o *objfile.Object) { o.Imports = append(imports(65), o.Imports...) }},
		{api.ErrName, func(o *objfile.Object) { o.Imports = append([]api.Import{{Name: "1"}}, o.Imports...) }},
		{api.ErrTwice, func(o *objfile.Object) { o.Imports = append(o.Imports, api.Import{Name: o.Module}) }},
		{api.ErrCode, func(o *objfile.Object) { o.Code = words(16385) }},
		{api.ErrCode, func(o *objfile.Object) { o.Fixups = calls(16385) }},
		{api.ErrCode, func(o *objfile.Object) { o.Segments = segments(16385) }},
		{api.ErrData, func(o *objfile.Object) { o.Data = -1 }},
		{api.ErrData, func(o *objfile.Object) { o.Excs = 4097 }},
		{api.ErrForm, func(o *objfile.Object) { o.Body = -1 }},
		{api.ErrForm, func(o *objfile.Object) { o.Segments[0].Start = 1 }},
		{api.ErrForm, func(o *objfile.Object) { o.Fixups[0].Kind = 0 }},
	}
	for n, first := range errors {
		for _, second := range errors[n:] {
			o := rich()
			second.spoil(&o)
			first.spoil(&o)
			is(t, o, first.want)
		}
	}
}

// P15.2
func TestEncode(t *testing.T) {
	for _, x := range []struct {
		object objfile.Object
		want   string
	}{
		{objfile.Object{Module: "M", Code: []uint32{0x01000000}, Segments: whole()}, "01 42 4f 50 01 4d 00 00 00 00 00 01 00 00 00 01 00 01 00 00 00 00 00"},
		{
			objfile.Object{Module: "Mod1", Key: 0x12345678, Imports: []api.Import{{Name: "N", Key: 0x9abcdef0}, {Name: "hi", Key: 1}}, Code: []uint32{1, 0x16ffffff, 3, 4, 5, 6, 7}, Fixups: []api.Fixup{{At: 0, Kind: api.FixData, Module: 2, Value: 300}, {At: 2, Kind: api.FixCall, Module: 1, Value: 7}, {At: 3, Kind: api.FixHeap}, {At: 5, Kind: api.FixExc, Value: 2}}, Segments: []api.Segment{{Start: 0, Pad: -1}, {Start: 3, Pad: 6}, {Start: 5, Pad: 0}}, Data: 16384, Excs: 3, Body: 4},
			"01 42 4f 50 04 4d 6f 64 31 78 56 34 12 02 01 4e f0 de bc 9a 02 68 69 01 00 00 00" +
				"07 01 00 00 00 ff ff ff 16 03 00 00 00 04 00 00 00 05 00 00 00 06 00 00 00 07 00 00 00" +
				"04 00 01 02 ac 02 02 03 01 07 03 04 00 00 05 02 00 02" +
				"03 00 00 03 07 05 01" +
				"80 80 01 03 04",
		},
	} {
		want := fromHex(t, x.want)
		got, e := objfile.Encode(x.object)
		if e != api.OK || !bytes.Equal(got, want) {
			t.Errorf("Encode(%v): % x and %d, not % x", x.object, got, e, want)
		}
		decodes(t, want, x.object, api.OK)
	}
}

// P15.2: another first word is an error that goes before all others.
func TestDecodeOfAnotherWord(t *testing.T) {
	for _, o := range someObjects() {
		data := objectBytes(o)
		for place := range 32 {
			other := slices.Clone(data)
			other[place/8] ^= 1 << (place % 8)
			refuses(t, other, api.ErrForm)
			refuses(t, other[:len(other)-1], api.ErrForm)
			refuses(t, other[:4], api.ErrForm)
			refuses(t, append(other, 0), api.ErrForm)
		}
		o.Module = "1"
		data = objectBytes(o)
		refuses(t, data, api.ErrName)
		for _, word := range []uint32{0, 1, 0x01424f50, 0x50535901, 0x50494d01, 0x504f4200, 0x504f4202, math.MaxUint32} {
			var w codec.Writer
			w.Word(word)
			refuses(t, w.Bytes(), api.ErrForm)
			refuses(t, slices.Concat(w.Bytes(), data[4:]), api.ErrForm)
		}
	}
	file, e := symfile.Encode(symfile.Make("M", nil, nil))
	if e != api.OK {
		t.Fatal(e)
	}
	refuses(t, file, api.ErrForm)
}

// P15.2: the bytes end at each place. Where they end within the first word, it is not Magic.
func TestDecodeOfShortBytes(t *testing.T) {
	for _, o := range someObjects() {
		wrong := copied(o)
		wrong.Module = "1"
		for _, data := range [][]byte{objectBytes(o), objectBytes(wrong)} {
			for n := range data {
				want := api.ErrShort
				if n < 4 {
					want = api.ErrForm
				}
				refuses(t, data[:n], want)
				refuses(t, slices.Clip(data[:n]), want)
			}
		}
	}
	refuses(t, nil, api.ErrForm)
	refuses(t, []byte{}, api.ErrForm)
	data := objectBytes(objfile.Object{Module: "M", Imports: imports(64), Code: words(16384), Fixups: calls(16384), Segments: segments(16384)})
	for n := 4; n < len(data); n += 1 + len(data)/50 {
		refuses(t, data[:n], api.ErrShort)
	}
	refuses(t, data[:len(data)-1], api.ErrShort)
}

// P15.2: bytes that are left are an error that goes before those of Check.
func TestDecodeOfBytesLeft(t *testing.T) {
	for _, o := range someObjects() {
		data := objectBytes(o)
		for _, more := range [][]byte{{0}, {1}, {0xff}, {0, 0, 0, 0}, data, make([]byte, 1000)} {
			refuses(t, slices.Concat(data, more), api.ErrForm)
		}
		o.Module = "1"
		refuses(t, objectBytes(o), api.ErrName)
		refuses(t, append(objectBytes(o), 0), api.ErrForm)
	}
}

// P15.2: each number that is read at its most, and one above. Where all of them are read, Check tells that the name is wrong.
func TestDecodeOfNumbersAboveTheirMost(t *testing.T) {
	for _, x := range []struct {
		name string
		most int
		set  func(o *objfile.Object, n int)
	}{
		{"Data", 16384, func(o *objfile.Object, n int) { o.Data = n }},
		{"Excs", 4096, func(o *objfile.Object, n int) { o.Excs = n }},
		{"Body", 16384, func(o *objfile.Object, n int) { o.Body = n }},
		{"At", 16384, func(o *objfile.Object, n int) { o.Fixups[1].At = n }},
		{"Kind", 4, func(o *objfile.Object, n int) { o.Fixups[1].Kind = n }},
		{"Module", 64, func(o *objfile.Object, n int) { o.Fixups[1].Module = n }},
		{"Value", 16384, func(o *objfile.Object, n int) { o.Fixups[1].Value = n }},
		{"Start", 16384, func(o *objfile.Object, n int) { o.Segments[1].Start = n }},
		{"Pad + 1", 16384, func(o *objfile.Object, n int) { o.Segments[1].Pad = n - 1 }},
		{"imports", 64, func(o *objfile.Object, n int) { o.Imports = imports(n) }},
		{"words", 16384, func(o *objfile.Object, n int) { o.Code = words(n) }},
		{"fixups", 16384, func(o *objfile.Object, n int) { o.Fixups = calls(n) }},
		{"segments", 16384, func(o *objfile.Object, n int) { o.Segments = segments(n) }},
		{"bytes of a name", 32, func(o *objfile.Object, n int) { o.Imports[1].Name = long(n) }},
	} {
		for _, n := range []int{0, 1, x.most - 1, x.most, x.most + 1, x.most + 2, 2 * x.most, 1 << 20} {
			if n > 1<<15 && strings.HasSuffix(x.name, "s") && x.name != "Excs" {
				continue
			}
			o := rich()
			o.Module = "1"
			x.set(&o, n)
			want := api.ErrName
			if n > x.most {
				want = api.ErrForm
			}
			got, e := objfile.Decode(objectBytes(o))
			if e != want || !isZero(got) {
				t.Errorf("%d for %s: %v and %d, not %d", n, x.name, got, e, want)
			}
			is(t, o, api.ErrName)
			o.Module = "M"
			is(t, o, modelCheck(o))
		}
	}
}

// P15.2: the module's name at its most, and one byte more.
func TestDecodeOfLongModules(t *testing.T) {
	o := rich()
	for n := range 130 {
		o.Module = long(n)
		want := api.OK
		if n == 0 {
			want = api.ErrName
		}
		if n > 32 {
			want = api.ErrForm
		}
		decodes(t, objectBytes(o), o, want)
	}
}

// P15.2: a count that is above its most is wrong even if nothing comes behind it.
func TestDecodeOfCounts(t *testing.T) {
	head := "01 42 4f 50 01 4d 00 00 00 00"
	for _, x := range []struct {
		data string
		want api.Errno
	}{
		{"01 42 4f 50", api.ErrShort},
		{"01 42 4f 50 20", api.ErrShort},
		{"01 42 4f 50 21", api.ErrForm},
		{"01 42 4f 50 81 00 4d", api.ErrForm},
		{head, api.ErrShort},
		{head + "40", api.ErrShort},
		{head + "41", api.ErrForm},
		{head + "00 80 80 01", api.ErrShort},
		{head + "00 81 80 01", api.ErrForm},
		{head + "00 81 00", api.ErrForm},
		{head + "00 ff ff ff ff ff ff ff ff ff", api.ErrShort},
		{head + "00 ff ff ff ff ff ff ff ff ff 00", api.ErrForm},
		{head + "00 01 00 00 00", api.ErrShort},
		{head + "00 00 80 80 01", api.ErrShort},
		{head + "00 00 81 80 01", api.ErrForm},
		{head + "00 00 01 80 80 01", api.ErrShort},
		{head + "00 00 01 81 80 01", api.ErrForm},
		{head + "00 00 01 00 04", api.ErrShort},
		{head + "00 00 01 00 05", api.ErrForm},
		{head + "00 00 01 00 01 40", api.ErrShort},
		{head + "00 00 01 00 01 41", api.ErrForm},
		{head + "00 00 01 00 01 00 80 80 01", api.ErrShort},
		{head + "00 00 01 00 01 00 81 80 01", api.ErrForm},
		{head + "00 00 00 80 80 01", api.ErrShort},
		{head + "00 00 00 81 80 01", api.ErrForm},
		{head + "00 00 00 01 80 80 01", api.ErrShort},
		{head + "00 00 00 01 81 80 01", api.ErrForm},
		{head + "00 00 00 01 00 80 80 01", api.ErrShort},
		{head + "00 00 00 01 00 81 80 01", api.ErrForm},
		{head + "00 00 00 00 80 80 01", api.ErrShort},
		{head + "00 00 00 00 81 80 01", api.ErrForm},
		{head + "00 00 00 00 00 80 20", api.ErrShort},
		{head + "00 00 00 00 00 81 20", api.ErrForm},
		{head + "00 00 00 00 00 00 80 80 01", api.ErrForm}, // all is read, but Body is no word
		{head + "00 00 00 00 00 00 81 80 01", api.ErrForm},
		{head + "00 00 00 00 00 00 00", api.ErrForm}, // all is read, but there is no code
		{head + "00 01 00 00 00 00 00 00 00 00 00", api.ErrForm},
		{head + "00 01 00 00 00 00 00 01 00 00 00 00 00", api.OK},
		{head + "00 01 00 00 00 00 00 01 00 01 00 00 00", api.OK},
		{head + "00 01 00 00 00 00 00 01 00 02 00 00 00", api.ErrForm},
		{head + "00 01 00 00 00 00 00 01 00 00 80 00 00 00", api.ErrForm},
		{head + "00 01 00 00 00 00 00 01 00 00 00 00 00 00", api.ErrForm},
	} {
		data := fromHex(t, x.data)
		if x.want != api.OK {
			refuses(t, data, x.want)
		}
		if isAsModel(t, data) != (x.want == api.OK) {
			t.Errorf("% x: the model does not say %d", data, x.want)
		}
	}
}

// P15.2: what was read but Check refuses.
func TestDecodeOfWhatCheckRefuses(t *testing.T) {
	for _, x := range []struct {
		want  api.Errno
		spoil func(o *objfile.Object)
	}{
		{api.ErrName, func(o *objfile.Object) { o.Module = "" }},
		{api.ErrName, func(o *objfile.Object) { o.Module = "a b" }},
		{api.ErrName, func(o *objfile.Object) { o.Imports[2].Name = "" }},
		{api.ErrTwice, func(o *objfile.Object) { o.Imports[2].Name = "Rich" }},
		{api.ErrTwice, func(o *objfile.Object) { o.Imports[2].Name = o.Imports[0].Name }},
		{api.ErrForm, func(o *objfile.Object) { o.Body = 20 }},
		{api.ErrForm, func(o *objfile.Object) { o.Code = o.Code[:19] }},
		{api.ErrForm, func(o *objfile.Object) { o.Segments = nil }},
		{api.ErrForm, func(o *objfile.Object) { o.Segments = o.Segments[1:] }},
		{api.ErrForm, func(o *objfile.Object) { o.Segments[1].Start = 0 }},
		{api.ErrForm, func(o *objfile.Object) { o.Segments[4].Start = 20 }},
		{api.ErrForm, func(o *objfile.Object) { o.Segments[4].Pad = 20 }},
		{api.ErrForm, func(o *objfile.Object) { o.Fixups[0].Kind = 0 }},
		{api.ErrForm, func(o *objfile.Object) { o.Fixups[0].Value = 301 }},
		{api.ErrForm, func(o *objfile.Object) { o.Fixups[1].Value = 5 }},
		{api.ErrForm, func(o *objfile.Object) { o.Fixups[1].At = 1 }},
		{api.ErrForm, func(o *objfile.Object) { o.Fixups[2].Value = 1 }},
		{api.ErrForm, func(o *objfile.Object) { o.Fixups[2].Module = 1 }},
		{api.ErrForm, func(o *objfile.Object) { o.Fixups[3].Module = 0 }},
		{api.ErrForm, func(o *objfile.Object) { o.Fixups[3].Module = 4 }},
		{api.ErrForm, func(o *objfile.Object) { o.Fixups[8].At = 19 }},
		{api.ErrForm, func(o *objfile.Object) { o.Fixups[8].At = 20 }},
	} {
		o := rich()
		x.spoil(&o)
		is(t, o, x.want)
		refuses(t, objectBytes(o), x.want)
	}
}

// P15.2, P15.3: each byte of some objects changed to each other byte, and each byte left out.
func TestDecodeOfChangedBytes(t *testing.T) {
	taken, refused := 0, 0
	for _, o := range someObjects() {
		data := objectBytes(o)
		for at := range data {
			if len(data) > 1000 && at%23 != 0 {
				continue
			}
			for b := range 256 {
				if len(data) > 300 && b%5 != 0 {
					continue
				}
				other := slices.Clone(data)
				other[at] = byte(b)
				if isAsModel(t, other) {
					taken++
				} else {
					refused++
				}
			}
			isAsModel(t, slices.Delete(slices.Clone(data), at, at+1))
			isAsModel(t, slices.Insert(slices.Clone(data), at, 0))
			isAsModel(t, slices.Insert(slices.Clone(data), at, 0x80))
		}
	}
	if taken == 0 || refused == 0 {
		t.Errorf("%d changes are taken, %d refused", taken, refused)
	}
}

// randomObject returns an object that may be, or comes near.
func randomObject(next func() int) objfile.Object {
	o := plain(1 + next()%12)
	o.Key, o.Imports, o.Data, o.Excs, o.Body = uint32(next())*65537, imports(next()%4), next()%10, next()%4, next()%len(o.Code)
	for at := next() % 3; at < len(o.Code); at += next() % 4 {
		x := api.Fixup{At: at, Kind: 1 + next()%4, Module: next() % (len(o.Imports) + 1), Value: next() % 6}
		if x.Kind == api.FixHeap {
			x.Module, x.Value = 0, 0
		}
		o.Fixups = append(o.Fixups, x)
		if x.Kind != api.FixCall && next()%8 != 0 {
			at++
		}
	}
	for at := 1 + next()%3; at < len(o.Code); at += 1 + next()%4 {
		o.Segments = append(o.Segments, api.Segment{Start: at, Pad: next()%(len(o.Code)+1) - 1})
	}
	return o
}

// P15.1, P15.2, P15.3: many objects that may be, or come near.
func TestRandomObjects(t *testing.T) {
	next := random(15)
	found := map[api.Errno]int{}
	for range 20000 {
		o := randomObject(next)
		want := modelCheck(o)
		is(t, o, want)
		found[want]++
		numbers := []*int{&o.Data, &o.Excs, &o.Body}
		for n := range o.Fixups {
			x := &o.Fixups[n]
			numbers = append(numbers, &x.At, &x.Kind, &x.Module, &x.Value)
		}
		for n := range o.Segments {
			numbers = append(numbers, &o.Segments[n].Start, &o.Segments[n].Pad)
		}
		*numbers[next()%len(numbers)] += next()%5 - 2
		is(t, o, modelCheck(o))
		found[modelCheck(o)]++
	}
	if found[api.OK] < 5000 || found[api.ErrForm] < 5000 || found[api.ErrData] == 0 {
		t.Errorf("too few of some: %v", found)
	}
}

// P15.2, P15.3: bytes that are damaged here and there.
func TestRandomBytes(t *testing.T) {
	next := random(51)
	taken := 0
	for range 30000 {
		data := objectBytes(randomObject(next))
		for range 1 + next()%3 {
			data[next()%len(data)] = byte(next())
		}
		if next()%4 == 0 {
			data = data[:next()%len(data)]
		}
		if isAsModel(t, data) {
			taken++
		}
	}
	if taken == 0 {
		t.Error("nothing is taken")
	}
}

// roomy returns an object whose lists have spare capacity, and a call that tells whether something of them has changed, also behind them.
func roomy() (objfile.Object, func() bool) {
	o := rich()
	o.Imports = append(o.Imports, make([]api.Import, 5)...)[:len(o.Imports)]
	o.Code = append(o.Code, make([]uint32, 50)...)[:len(o.Code)]
	o.Fixups = append(o.Fixups, make([]api.Fixup, 50)...)[:len(o.Fixups)]
	o.Segments = append(o.Segments, make([]api.Segment, 50)...)[:len(o.Segments)]
	all := o
	all.Imports, all.Code, all.Fixups, all.Segments = o.Imports[:cap(o.Imports)], o.Code[:cap(o.Code)], o.Fixups[:cap(o.Fixups)], o.Segments[:cap(o.Segments)]
	before := copied(all)
	return o, func() bool { return !equal(all, before) || !equal(o, rich()) }
}

// spoil changes all that an object's lists hold, also behind them.
func spoil(o objfile.Object) {
	for _, list := range [][]api.Import{o.Imports, append(o.Imports, api.Import{})} {
		for n := range list[:cap(list)] {
			list[:cap(list)][n] = api.Import{Name: "spoilt", Key: 95}
		}
	}
	for _, list := range [][]uint32{o.Code, append(o.Code, 0)} {
		for n := range list[:cap(list)] {
			list[:cap(list)][n] = 96
		}
	}
	for _, list := range [][]api.Fixup{o.Fixups, append(o.Fixups, api.Fixup{})} {
		for n := range list[:cap(list)] {
			list[:cap(list)][n] = api.Fixup{At: 97, Kind: 97, Module: 97, Value: 97}
		}
	}
	for _, list := range [][]api.Segment{o.Segments, append(o.Segments, api.Segment{})} {
		for n := range list[:cap(list)] {
			list[:cap(list)][n] = api.Segment{Start: 98, Pad: 98}
		}
	}
}

// P2: what is given is not changed, also not behind the lists, and not kept.
func TestArgumentsStay(t *testing.T) {
	o, changed := roomy()
	if e := objfile.Check(o); e != api.OK || changed() {
		t.Fatalf("Check: %d, and the object became %v", e, o)
	}
	data, e := objfile.Encode(o)
	if e != api.OK || changed() {
		t.Fatalf("Encode: %d, and the object became %v", e, o)
	}
	spoil(o)
	if !bytes.Equal(data, objectBytes(rich())) {
		t.Errorf("the bytes became % x", data)
	}
	room := append(slices.Clone(data), bytes.Repeat([]byte{0xee}, 100)...)
	before := slices.Clone(room)
	for n := range len(data) + 2 {
		isAsModel(t, room[:n])
		if !bytes.Equal(room, before) {
			t.Fatalf("the bytes became % x", room)
		}
	}
	for _, change := range []func(o *objfile.Object){
		func(o *objfile.Object) { o.Module = "" },
		func(o *objfile.Object) { o.Body = -1 },
	} {
		o, changed := roomy()
		change(&o)
		objfile.Check(o)
		objfile.Encode(o)
		o.Module, o.Body = "Rich", 12
		if changed() {
			t.Fatalf("the object became %v", o)
		}
	}
}

// P2: objects that Decode returned share nothing with the bytes or with each other; bytes that Encode returned share nothing.
func TestResultsAreTheCallers(t *testing.T) {
	data := objectBytes(rich())
	first, _ := objfile.Decode(data)
	second, _ := objfile.Decode(data)
	for n := range data {
		data[n] = 0xee
	}
	if !equal(first, rich()) || !equal(second, rich()) {
		t.Errorf("the objects became %v and %v", first, second)
	}
	spoil(first)
	if !equal(second, rich()) {
		t.Errorf("the other object became %v", second)
	}
	one, _ := objfile.Encode(second)
	two, _ := objfile.Encode(second)
	for n := range one[:cap(one)] {
		one[:cap(one)][n] = 0xee
	}
	if !bytes.Equal(two, objectBytes(rich())) || !equal(second, rich()) {
		t.Errorf("other bytes became % x, and the object %v", two, second)
	}
	decodes(t, two, rich(), api.OK)
}

// P2: names that are read share no memory, with the bytes or with each other.
func TestNamesAreTheirOwn(t *testing.T) {
	o := plain(2)
	o.Module, o.Imports = "Module", imports(9)
	data := objectBytes(o)
	starts := map[*byte]int{}
	for n := range data {
		starts[&data[n]] = -1
	}
	for range 2 {
		got, e := objfile.Decode(data)
		if e != api.OK {
			t.Fatal(e)
		}
		starts[unsafe.StringData(got.Module)]++
		for _, x := range got.Imports {
			starts[unsafe.StringData(x.Name)]++
		}
	}
	for p, n := range starts {
		if n != -1 && n != 1 {
			t.Errorf("at %p begin %d names, or it is one of the bytes", p, n)
		}
	}
	if len(starts) != len(data)+20 {
		t.Errorf("20 names begin at %d places", len(starts)-len(data))
	}
}

// P2: what a call returns depends on nothing that came before it.
func TestCallsAreIndependent(t *testing.T) {
	next := random(7)
	var list []objfile.Object
	for range 300 {
		list = append(list, randomObject(next))
	}
	var found []api.Errno
	for _, o := range list {
		found = append(found, objfile.Check(o))
		objfile.Check(rich())
		objfile.Check(plain(0))
		objfile.Decode(objectBytes(o)[:9])
		objfile.Encode(rich())
	}
	for n, o := range slices.Backward(list) {
		if got := objfile.Check(o); got != found[n] || got != modelCheck(o) {
			t.Errorf("Check(%v): %d, then %d", o, found[n], got)
		}
	}
}

// P1
func TestAnyArguments(t *testing.T) {
	numbers := append([]int{-1, 0, 1, 2, 3, 4, 5, 64, 4096, 16383, 16384}, far...)
	for _, a := range numbers {
		for _, b := range numbers {
			for _, c := range numbers {
				o := plain(5)
				o.Imports = imports(2)
				o.Fixups = []api.Fixup{{At: a, Kind: b, Module: c, Value: a}, {At: b, Kind: c, Module: a, Value: b}}
				is(t, o, modelCheck(o))
				o.Segments = []api.Segment{{Start: a, Pad: b}, {Start: b, Pad: c}}
				is(t, o, modelCheck(o))
				o.Fixups = nil
				is(t, o, modelCheck(o))
				o.Data, o.Excs, o.Body = a, b, c
				is(t, o, modelCheck(o))
			}
		}
	}
	for b := range 256 {
		row := bytes.Repeat([]byte{byte(b)}, 1<<12)
		isAsModel(t, row)
		isAsModel(t, slices.Concat([]byte{0x01, 0x42, 0x4f, 0x50}, row))
		for n := range objectBytes(rich()) {
			isAsModel(t, slices.Concat(objectBytes(rich())[:n], row[:300]))
		}
	}
}

// P1: very much is worked through in good time.
func TestMuch(t *testing.T) {
	o := objfile.Object{Module: "M", Imports: imports(64), Code: words(16384), Fixups: calls(16384), Segments: segments(16384), Data: 16384, Excs: 4096, Body: 16383}
	is(t, o, api.OK)
	data := objectBytes(o)
	for at := 0; at < len(data); at += 1 + len(data)/60 {
		other := slices.Clone(data)
		other[at] ^= 1
		isAsModel(t, other)
	}
	refuses(t, slices.Concat(data, make([]byte, 1<<24)), api.ErrForm)
	huge := objfile.Object{Module: "M", Code: make([]uint32, 1<<22), Fixups: make([]api.Fixup, 1<<20), Segments: make([]api.Segment, 1<<20)}
	if e := objfile.Check(huge); e != api.ErrCode {
		t.Errorf("Check: %d", e)
	}
	huge.Imports = make([]api.Import, 1<<20)
	if data, e := objfile.Encode(huge); e != api.ErrModules || len(data) != 0 {
		t.Errorf("Encode: %d", e)
	}
}

// P15.2, P15.3, P1
func FuzzDecode(f *testing.F) {
	f.Add([]byte{})
	for _, o := range someObjects() {
		f.Add(objectBytes(o))
	}
	f.Fuzz(func(t *testing.T, data []byte) { isAsModel(t, data) })
}
