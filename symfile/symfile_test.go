package symfile_test

import (
	"bytes"
	"encoding/hex"
	"math"
	"regexp"
	"slices"
	"strconv"
	"strings"
	"testing"
	"unsafe"

	"pascaline/api"
	"pascaline/codec"
	"pascaline/finger"
	"pascaline/symfile"
)

const (
	letters = "abcdefghijklmnopqrstuvwxyzABCDEFGHIJKLMNOPQRSTUVWXYZ"
	digits  = "0123456789"
)

// wrongNames are texts that are no names, though some of them come near.
var wrongNames = []string{"", "1", "9x", "_", "a_b", "x ", " x", "a.b", "a\x00", "a\n", "é", "aé", "Ä", "a\xff", "\xc3", "a٣", "ａ", "*", "a*", "a-b", strings.Repeat("a", 33), "a" + strings.Repeat("1", 32), strings.Repeat("a", 64), strings.Repeat("a", 1<<16)}

// long returns a name of so many bytes.
func long(n int) string { return strings.Repeat("n", n) }

// modelName tells what Name must return.
func modelName(s string) bool { return aName.MatchString(s) }

var aName = regexp.MustCompile(`\A[a-zA-Z][a-zA-Z0-9]{0,31}\z`)

// modelMay tells what May must return.
func modelMay(x api.Export) api.Errno {
	if !modelName(x.Name) {
		return api.ErrName
	}
	simple := func(t int) bool { return t >= 1 && t <= 3 }
	may := x.Kind == 1 || x.Value >= 0
	switch x.Kind {
	case 1, 3:
		may = may && simple(x.Type) && len(x.Params) == 0
	case 6:
		may = may && x.Type >= 0 && x.Type <= 3 && len(x.Params) <= 16
		for _, p := range x.Params {
			may = may && simple(p.Type)
		}
	case 7:
		may = may && x.Type == 0 && len(x.Params) == 0
	default:
		may = false
	}
	if !may {
		return api.ErrExport
	}
	return api.OK
}

// modelImports tells what Imports must return, by holding each name against all that come before it.
func modelImports(module string, list []api.Import) api.Errno {
	if len(list) > 64 {
		return api.ErrModules
	}
	for n, x := range list {
		if !modelName(x.Name) {
			return api.ErrName
		}
		if x.Name == module || slices.ContainsFunc(list[:n], func(y api.Import) bool { return y.Name == x.Name }) {
			return api.ErrTwice
		}
	}
	return api.OK
}

// modelCheck tells what Check must return.
func modelCheck(f symfile.File) api.Errno {
	if !modelName(f.Module) {
		return api.ErrName
	}
	if e := modelImports(f.Module, f.Imports); e != api.OK {
		return e
	}
	if len(f.Exports) > 4096 {
		return api.ErrCode
	}
	for n, x := range f.Exports {
		if e := modelMay(x); e != api.OK {
			return e
		}
		if slices.ContainsFunc(f.Exports[:n], func(y api.Export) bool { return y.Name == x.Name }) {
			return api.ErrTwice
		}
	}
	if f.Key != finger.Key(f.Module, f.Exports) {
		return api.ErrKey
	}
	return api.OK
}

// importBytes tells what Write must write.
func importBytes(list []api.Import) []byte {
	var w codec.Writer
	w.Count(len(list))
	for _, x := range list {
		w.Text(x.Name)
		w.Word(x.Key)
	}
	return w.Bytes()
}

// exportBytes tells what is written for exports.
func exportBytes(list []api.Export) []byte {
	var w codec.Writer
	finger.Write(&w, list)
	return w.Bytes()
}

// headBytes tells what comes ahead of the imports.
func headBytes(magic uint32, module string, key uint32) []byte {
	var w codec.Writer
	w.Word(magic)
	w.Text(module)
	w.Word(key)
	return w.Bytes()
}

// fileBytes tells what Encode must return, if Check returns OK.
func fileBytes(f symfile.File) []byte {
	return slices.Concat(headBytes(0x50535901, f.Module, f.Key), importBytes(f.Imports), exportBytes(f.Exports))
}

// modelDecode tells what Decode must return.
func modelDecode(data []byte) (symfile.File, api.Errno) {
	if !bytes.HasPrefix(data, []byte{0x01, 0x59, 0x53, 0x50}) {
		return symfile.File{}, api.ErrForm
	}
	r := codec.Read(data[4:])
	f := symfile.File{Module: r.Text(32), Key: r.Word()}
	for n := r.Count(64); n > 0; n-- {
		f.Imports = append(f.Imports, api.Import{Name: r.Text(32), Key: r.Word()})
	}
	f.Exports = finger.Read(r)
	e := r.End()
	if e == api.OK {
		e = modelCheck(f)
	}
	if e != api.OK {
		return symfile.File{}, e
	}
	return f, api.OK
}

// equal tells what Same must return.
func equal(a, b symfile.File) bool {
	return a.Module == b.Module && a.Key == b.Key && slices.Equal(a.Imports, b.Imports) && equalExports(a.Exports, b.Exports)
}

func equalExports(a, b []api.Export) bool {
	return slices.EqualFunc(a, b, func(x, y api.Export) bool {
		return x.Name == y.Name && x.Kind == y.Kind && x.Type == y.Type && x.Value == y.Value && slices.Equal(x.Params, y.Params)
	})
}

// isZero reports whether a file is what is returned with an error.
func isZero(f symfile.File) bool {
	return f.Module == "" && f.Key == 0 && len(f.Imports) == 0 && len(f.Exports) == 0
}

// random returns a fixed row of numbers below 2^16.
func random(seed uint32) func() int {
	state := seed
	return func() int {
		state = state*1664525 + 1013904223
		return int(state >> 16)
	}
}

// fromHex returns the bytes that a text of hexadecimal digits and spaces tells.
func fromHex(t *testing.T, s string) []byte {
	t.Helper()
	list, err := hex.DecodeString(strings.ReplaceAll(s, " ", ""))
	if err != nil {
		t.Fatal(err)
	}
	return list
}

// imports returns so many imports with names of their own.
func imports(n int) []api.Import {
	var list []api.Import
	for k := range n {
		list = append(list, api.Import{Name: "Used" + strconv.Itoa(k), Key: uint32(k) * 0x01234567})
	}
	return list
}

// params returns so many parameters, which are not all the same.
func params(n int) []api.Param {
	var list []api.Param
	for k := range n {
		list = append(list, api.Param{Type: api.Int + k%3, Ref: k%2 == 1})
	}
	return list
}

// allKinds returns exports of all kinds that may be.
func allKinds() []api.Export {
	return []api.Export{
		{Name: "pi", Kind: api.ObjConst, Type: api.Int, Value: 3},
		{Name: "least", Kind: api.ObjConst, Type: api.Int, Value: math.MinInt32},
		{Name: "yes", Kind: api.ObjConst, Type: api.Bool, Value: 1},
		{Name: "a", Kind: api.ObjConst, Type: api.Char, Value: 97},
		{Name: "n", Kind: api.ObjVar, Type: api.Int, Value: 0},
		{Name: "b1", Kind: api.ObjVar, Type: api.Bool, Value: 4},
		{Name: "B1", Kind: api.ObjVar, Type: api.Char, Value: math.MaxInt32},
		{Name: "Stop", Kind: api.ObjProc, Type: api.None, Value: 0},
		{Name: "Draw", Kind: api.ObjProc, Type: api.None, Value: 12, Params: []api.Param{{Type: api.Int}, {Type: api.Char, Ref: true}}},
		{Name: "Sum", Kind: api.ObjProc, Type: api.Int, Value: 40, Params: params(16)},
		{Name: "Is", Kind: api.ObjProc, Type: api.Bool, Value: 99, Params: params(1)},
		{Name: "Sign", Kind: api.ObjProc, Type: api.Char, Value: math.MaxInt32, Params: params(3)},
		{Name: "Lost", Kind: api.ObjExc, Type: api.None, Value: 0},
		{Name: long(32), Kind: api.ObjExc, Type: api.None, Value: 1},
	}
}

// exports returns so many exports that may be, of all kinds, with names of their own.
func exports(n int) []api.Export {
	var list []api.Export
	kinds := allKinds()
	for k := range n {
		x := kinds[k%len(kinds)]
		x.Name = "x" + strconv.Itoa(k)
		list = append(list, x)
	}
	return list
}

// keyed returns a file with the key that its exports have.
func keyed(module string, imports []api.Import, exports []api.Export) symfile.File {
	return symfile.File{Module: module, Key: finger.Key(module, exports), Imports: imports, Exports: exports}
}

// small is the smallest file that may be, and rich one with much in it.
func small() symfile.File { return keyed("M", nil, nil) }

func rich() symfile.File { return keyed("Rich", imports(5), allKinds()) }

// someFiles returns files that may be.
func someFiles() []symfile.File {
	return []symfile.File{
		small(),
		rich(),
		keyed(long(32), imports(1), nil),
		keyed("z9", nil, exports(1)),
		keyed("N", imports(63), exports(2)),
		keyed("A0123456789", imports(64), exports(130)),
		keyed("n", []api.Import{{Name: long(31), Key: 0}, {Name: long(32), Key: math.MaxUint32}, {Name: "N", Key: 1}}, allKinds()),
		keyed("pi", []api.Import{{Name: "Stop"}}, allKinds()), // exports that have the names of modules
		keyed("M", []api.Import{}, []api.Export{}),
	}
}

// copied returns a file with memory of its own throughout.
func copied(f symfile.File) symfile.File {
	f.Module = strings.Clone(f.Module)
	f.Imports, f.Exports = slices.Clone(f.Imports), slices.Clone(f.Exports)
	for n := range f.Imports {
		f.Imports[n].Name = strings.Clone(f.Imports[n].Name)
	}
	for n := range f.Exports {
		f.Exports[n].Name = strings.Clone(f.Exports[n].Name)
		f.Exports[n].Params = slices.Clone(f.Exports[n].Params)
	}
	return f
}

// may fails unless May returns an error, or OK, whenever it is asked.
func may(t *testing.T, x api.Export, want api.Errno) {
	t.Helper()
	for range 2 {
		if got := symfile.May(x); got != want {
			t.Fatalf("May(%.300v): %d, not %d", x, got, want)
		}
	}
}

// uses fails unless Imports returns an error, or OK, whenever it is asked.
func uses(t *testing.T, module string, list []api.Import, want api.Errno) {
	t.Helper()
	for range 2 {
		if got := symfile.Imports(module, list); got != want {
			t.Fatalf("Imports(%.80q, %.300v): %d, not %d", module, list, got, want)
		}
	}
}

// decodes fails unless some bytes are decoded to a file, or to an error.
func decodes(t *testing.T, data []byte, want symfile.File, e api.Errno) {
	t.Helper()
	got, err := symfile.Decode(data)
	if err != e {
		t.Fatalf("Decode(% .80x): %d, not %d", data, err, e)
	}
	if e != api.OK {
		if !isZero(got) {
			t.Fatalf("Decode(% .80x): %.300v beside the error %d", data, got, e)
		}
		return
	}
	if !equal(got, want) || !symfile.Same(got, want) {
		t.Fatalf("Decode(% .80x): %.300v, not %.300v", data, got, want)
	}
}

// refuses fails unless some bytes are decoded to an error.
func refuses(t *testing.T, data []byte, e api.Errno) {
	t.Helper()
	decodes(t, data, symfile.File{}, e)
}

// is fails unless Check and Encode return what they must for a file that has an error, or that may be; Decode must take just the bytes of the latter.
func is(t *testing.T, f symfile.File, want api.Errno) {
	t.Helper()
	for range 2 {
		if got := symfile.Check(f); got != want {
			t.Fatalf("Check(%.300v): %d, not %d", f, got, want)
		}
	}
	data, e := symfile.Encode(f)
	if e != want {
		t.Fatalf("Encode(%.300v): %d, not %d", f, e, want)
	}
	if want != api.OK {
		if len(data) != 0 {
			t.Fatalf("Encode(%.300v): % .80x beside the error %d", f, data, e)
		}
		isAsModel(t, fileBytes(f))
		return
	}
	if !bytes.Equal(data, fileBytes(f)) {
		t.Fatalf("Encode(%.300v): % .80x, not % .80x", f, data, fileBytes(f))
	}
	decodes(t, data, f, api.OK)
}

// isAsModel fails unless Decode returns what it must for some bytes, and Encode these bytes for the file. It reports whether there is one.
func isAsModel(t *testing.T, data []byte) bool {
	t.Helper()
	want, e := modelDecode(data)
	decodes(t, data, want, e)
	if e != api.OK {
		return false
	}
	got, _ := symfile.Decode(data)
	again, e := symfile.Encode(got)
	if e != api.OK || !bytes.Equal(again, data) {
		t.Fatalf("Encode of what Decode returned for % .80x: % .80x and %d", data, again, e)
	}
	return true
}

// P14.3
func TestMagic(t *testing.T) {
	const magic uint32 = symfile.Magic
	if magic != 0x50535901 {
		t.Errorf("Magic: %x", magic)
	}
}

// P14.1
func TestName(t *testing.T) {
	for _, s := range []string{"a", "z", "A", "Z", "m", "M", "a0", "A9", "x1y2", "abcXYZ", "aA", "Za", "INTEGER", "MODULE", "Circle", letters[:32], letters[20:52], "x" + digits + digits + digits + "1", long(31), long(32)} {
		if !symfile.Name(s) {
			t.Errorf("Name(%q): false", s)
		}
	}
	for _, s := range slices.Concat(wrongNames, []string{long(33), long(34), letters, "x" + digits + digits + digits + "12", "0", "0a", "9"}) {
		if symfile.Name(s) {
			t.Errorf("Name(%.80q): true", s)
		}
	}
	for n := range 300 {
		if got := symfile.Name(long(n)); got != (n >= 1 && n <= 32) {
			t.Errorf("Name of %d bytes: %v", n, got)
		}
	}
}

// P14.1: each single byte, and each behind a letter.
func TestNameOfEachByte(t *testing.T) {
	for n := range 256 {
		b := string([]byte{byte(n)})
		if got, want := symfile.Name(b), strings.Contains(letters, b); got != want {
			t.Errorf("Name(%q): %v", b, got)
		}
		for _, first := range letters {
			s := string(first) + b
			if got, want := symfile.Name(s), strings.Contains(letters+digits, b); got != want {
				t.Errorf("Name(%q): %v", s, got)
			}
		}
	}
}

// P14.1: each two bytes, and each byte at each place of names of all lengths.
func TestNameOfBytesEverywhere(t *testing.T) {
	for n := range 1 << 16 {
		s := string([]byte{byte(n >> 8), byte(n)})
		if got, want := symfile.Name(s), modelName(s); got != want {
			t.Errorf("Name(%q): %v", s, got)
		}
	}
	for size := 1; size <= 34; size++ {
		for at := range size {
			for n := range 256 {
				s := long(at) + string([]byte{byte(n)}) + long(size-at-1)
				if got, want := symfile.Name(s), modelName(s); got != want {
					t.Errorf("Name(%q): %v", s, got)
				}
			}
		}
	}
}

// P14.1
func TestMay(t *testing.T) {
	for _, x := range allKinds() {
		may(t, x, api.OK)
	}
	for _, x := range []struct {
		export api.Export
		want   api.Errno
	}{
		{api.Export{}, api.ErrName},
		{api.Export{Name: "x"}, api.ErrExport},
		{api.Export{Name: "x", Kind: api.ObjConst, Type: api.Int, Value: -1}, api.OK},
		{api.Export{Name: "x", Kind: api.ObjConst, Type: api.Bool, Value: 2}, api.OK},
		{api.Export{Name: "x", Kind: api.ObjConst, Type: api.Char, Value: 256}, api.OK},
		{api.Export{Name: "x", Kind: api.ObjConst, Type: api.Int, Params: []api.Param{}}, api.OK},
		{api.Export{Name: "x", Kind: api.ObjConst, Type: api.Int, Params: params(1)}, api.ErrExport},
		{api.Export{Name: "x", Kind: api.ObjConst, Type: api.None}, api.ErrExport},
		{api.Export{Name: "x", Kind: api.ObjConst, Type: api.Nil}, api.ErrExport},
		{api.Export{Name: "x", Kind: api.ObjConst, Type: 5}, api.ErrExport},
		{api.Export{Name: "x", Kind: api.ObjVar, Type: api.Int, Value: -1}, api.ErrExport},
		{api.Export{Name: "x", Kind: api.ObjVar, Type: api.Int, Value: math.MinInt32}, api.ErrExport},
		{api.Export{Name: "x", Kind: api.ObjVar, Type: api.Char, Value: 0}, api.OK},
		{api.Export{Name: "x", Kind: api.ObjVar, Type: api.Bool, Params: params(1)}, api.ErrExport},
		{api.Export{Name: "x", Kind: api.ObjVar, Type: api.None}, api.ErrExport},
		{api.Export{Name: "x", Kind: api.ObjVar, Type: api.Nil}, api.ErrExport},
		{api.Export{Name: "x", Kind: api.ObjVar, Type: 7}, api.ErrExport},
		{api.Export{Name: "x", Kind: api.ObjProc, Type: api.Nil}, api.ErrExport},
		{api.Export{Name: "x", Kind: api.ObjProc, Type: -1}, api.ErrExport},
		{api.Export{Name: "x", Kind: api.ObjProc, Value: -1}, api.ErrExport},
		{api.Export{Name: "x", Kind: api.ObjProc, Params: params(16)}, api.OK},
		{api.Export{Name: "x", Kind: api.ObjProc, Params: params(17)}, api.ErrExport},
		{api.Export{Name: "x", Kind: api.ObjProc, Params: make([]api.Param, 1)}, api.ErrExport},
		{api.Export{Name: "x", Kind: api.ObjProc, Params: []api.Param{{Type: api.Nil, Ref: true}}}, api.ErrExport},
		{api.Export{Name: "x", Kind: api.ObjExc, Value: -1}, api.ErrExport},
		{api.Export{Name: "x", Kind: api.ObjExc, Params: params(1)}, api.ErrExport},
		{api.Export{Name: "x", Kind: api.ObjExc, Type: api.Int}, api.ErrExport},
		{api.Export{Name: "x", Kind: api.ObjExc, Type: api.Nil}, api.ErrExport},
		{api.Export{Name: "x", Kind: api.ObjType, Type: api.Int}, api.ErrExport},
		{api.Export{Name: "x", Kind: api.ObjParam, Type: api.Int}, api.ErrExport},
		{api.Export{Name: "x", Kind: api.ObjRef, Type: api.Int}, api.ErrExport},
		{api.Export{Name: "x", Kind: api.ObjModule}, api.ErrExport},
	} {
		may(t, x.export, x.want)
		is(t, keyed("M", nil, []api.Export{x.export}), x.want)
	}
}

// P14.1: each kind with each type, each number of parameters and each value.
func TestMayOfEachKind(t *testing.T) {
	found := 0
	for _, kind := range []int{math.MinInt, -7, -1, 0, 1, 2, 3, 4, 5, 6, 7, 8, 9, 10, 16, 1<<32 + 1, 1<<32 + 3, 1<<32 + 6, 1<<32 + 7, math.MaxInt} {
		for _, kindOfValue := range []int{math.MinInt, -1, 0, 1, 2, 3, 4, 5, 6, 7, 8, 257, 4096, 1<<32 + 1, math.MaxInt} {
			for _, list := range [][]api.Param{nil, {}, params(1), params(2), params(15), params(16), params(17), params(300), make([]api.Param, 1), {{Type: 4}}} {
				for _, value := range []int32{math.MinInt32, -2, -1, 0, 1, 4, 255, 256, 1 << 14, math.MaxInt32} {
					x := api.Export{Name: "x", Kind: kind, Type: kindOfValue, Value: value, Params: list}
					may(t, x, modelMay(x))
					if modelMay(x) == api.OK {
						found++
					}
				}
			}
		}
	}
	// Types, values and lists of parameters that are taken for constants, variables, procedures and exceptions.
	if found != 3*10*2+3*7*2+4*7*6+1*7*2 {
		t.Errorf("%d of them may be", found)
	}
}

// P14.1: a procedure with each number of parameters, and with each type at each place.
func TestMayOfParams(t *testing.T) {
	for n := range 40 {
		for _, kind := range []int{api.None, api.Int, api.Bool, api.Char, api.Nil} {
			want := api.OK
			if n > 16 || kind == api.Nil {
				want = api.ErrExport
			}
			may(t, api.Export{Name: "p", Kind: api.ObjProc, Type: kind, Params: params(n)}, want)
		}
	}
	for n := 1; n <= 16; n++ {
		for at := range n {
			for _, kind := range []int{math.MinInt, -1, 0, 1, 2, 3, 4, 5, 6, 7, 4096, 1<<32 + 1, math.MaxInt} {
				for _, ref := range []bool{false, true} {
					want := api.ErrExport
					if kind >= 1 && kind <= 3 {
						want = api.OK
					}
					list := params(n)
					list[at] = api.Param{Type: kind, Ref: ref}
					may(t, api.Export{Name: "p", Kind: api.ObjProc, Params: list}, want)
				}
			}
		}
	}
}

// P14.1: a wrong name goes before all else that is wrong.
func TestMayOfNames(t *testing.T) {
	for _, name := range wrongNames {
		for _, x := range allKinds() {
			x.Name = name
			may(t, x, api.ErrName)
			x.Kind, x.Type, x.Value, x.Params = 99, -1, -1, params(17)
			may(t, x, api.ErrName)
			x.Name = "x"
			may(t, x, api.ErrExport)
		}
	}
	for _, name := range []string{"A", "z0", long(31), long(32)} {
		may(t, api.Export{Name: name, Kind: api.ObjExc}, api.OK)
	}
}

// P14.2
func TestImports(t *testing.T) {
	for _, n := range []int{0, 1, 2, 5, 63, 64} {
		uses(t, "M", imports(n), api.OK)
	}
	for _, n := range []int{65, 66, 128, 5000} {
		uses(t, "M", imports(n), api.ErrModules)
	}
	uses(t, "M", nil, api.OK)
	uses(t, "M", []api.Import{}, api.OK)
	uses(t, "M", []api.Import{{Name: "N", Key: 7}, {Name: "n", Key: 7}, {Name: "m", Key: 7}}, api.OK)
	uses(t, "M", []api.Import{{Name: long(32)}, {Name: long(31)}}, api.OK)
	uses(t, "M", []api.Import{{Name: "M"}}, api.ErrTwice)
	uses(t, "M", []api.Import{{Name: "N", Key: 1}, {Name: "N", Key: 2}}, api.ErrTwice)
	uses(t, "M", []api.Import{{}}, api.ErrName)
}

// P14.2: whether module is itself a name is not asked.
func TestImportsOfAnyModule(t *testing.T) {
	for _, module := range wrongNames {
		uses(t, module, nil, api.OK)
		uses(t, module, imports(64), api.OK)
		uses(t, module, imports(65), api.ErrModules)
		uses(t, module, []api.Import{{Name: module}}, api.ErrName)
		uses(t, module, []api.Import{{Name: "M"}, {Name: "M"}}, api.ErrTwice)
	}
}

// P14.2: a wrong name, the module's own one, and one that stands twice, at each place.
func TestImportsAtEachPlace(t *testing.T) {
	for _, n := range []int{1, 2, 9, 64} {
		for at := range n {
			for _, name := range wrongNames {
				list := imports(n)
				list[at].Name = name
				uses(t, "M", list, api.ErrName)
			}
			list := imports(n)
			list[at].Name = "M"
			uses(t, "M", list, api.ErrTwice)
			uses(t, "m", list, api.OK)
			for other := range at {
				list[at].Name = list[other].Name
				uses(t, "M", list, api.ErrTwice)
				list[at].Key = list[other].Key
				uses(t, "M", list, api.ErrTwice)
			}
		}
	}
}

// P14.2: too many go before all else, and the first element that is wrong before the others.
func TestImportsInOrder(t *testing.T) {
	for _, wrong := range []string{"", "9", "M", "Used0"} {
		list := imports(65)
		for n := range list {
			list[n].Name = wrong
		}
		uses(t, "M", list, api.ErrModules)
	}
	wrong := func(name string) api.Import { return api.Import{Name: name} }
	for _, x := range []struct {
		list []api.Import
		want api.Errno
	}{
		{[]api.Import{wrong("N"), wrong("N"), wrong("1")}, api.ErrTwice},
		{[]api.Import{wrong("N"), wrong("1"), wrong("N")}, api.ErrName},
		{[]api.Import{wrong("M"), wrong("1")}, api.ErrTwice},
		{[]api.Import{wrong("1"), wrong("M")}, api.ErrName},
		{[]api.Import{wrong("N"), wrong("M"), wrong("")}, api.ErrTwice},
		{[]api.Import{wrong("N"), wrong(""), wrong("M")}, api.ErrName},
		{[]api.Import{wrong("1"), wrong("1")}, api.ErrName},
		{[]api.Import{wrong(""), wrong("")}, api.ErrName},
	} {
		uses(t, "M", x.list, x.want)
		is(t, keyed("M", x.list, nil), x.want)
	}
	next := random(4)
	for range 3000 {
		list := imports(next() % 70)
		for range next() % 4 {
			if len(list) > 0 {
				list[next()%len(list)].Name = []string{"", "M", "1", "Used3", "Used40", "a b", "m"}[next()%7]
			}
		}
		uses(t, "M", list, modelImports("M", list))
	}
}

// P14.2
func TestMake(t *testing.T) {
	if e := symfile.Check(symfile.Make("M", nil, nil)); e != api.OK {
		t.Errorf("Check of Make for M: %d", e)
	}
	for _, f := range someFiles() {
		got := symfile.Make(f.Module, f.Imports, f.Exports)
		if !equal(got, f) {
			t.Errorf("Make: %.300v, not %.300v", got, f)
		}
		is(t, got, api.OK)
	}
	// Make takes also what Check refuses.
	for _, name := range wrongNames {
		want := keyed(name, append(imports(66), api.Import{Name: name}), append(exports(5000), api.Export{Name: name, Kind: -1, Type: 9, Value: -1, Params: params(20)}))
		if got := symfile.Make(want.Module, want.Imports, want.Exports); !equal(got, want) {
			t.Errorf("Make(%.80q): not what it was given, or the key %08x, not %08x", name, got.Key, want.Key)
		}
	}
}

// P14.2, P14.3
func TestCheck(t *testing.T) {
	for _, f := range someFiles() {
		is(t, f, api.OK)
	}
	for _, name := range []string{"a", "Z", "x1", long(31), long(32)} {
		is(t, keyed(name, imports(2), exports(3)), api.OK)
	}
	for _, name := range wrongNames {
		is(t, keyed(name, imports(2), exports(3)), api.ErrName)
	}
}

// P14.2: the key is that of the module's name and the exports, and of nothing else.
func TestCheckOfKeys(t *testing.T) {
	for _, f := range someFiles() {
		right := f.Key
		for _, key := range []uint32{right + 1, right - 1, ^right, right + 1<<31, finger.Key(f.Module+"x", f.Exports), finger.Key("", f.Exports), finger.Key(f.Module, append(exports(1), f.Exports...)), finger.Sum()} {
			f.Key = key
			is(t, f, api.ErrKey)
		}
		for place := range 32 {
			f.Key = right ^ 1<<place
			is(t, f, api.ErrKey)
		}
		f.Key = right
		f.Imports = imports(7)
		is(t, f, api.OK)
		f.Exports = append(slices.Clone(f.Exports), api.Export{Name: "more", Kind: api.ObjExc})
		is(t, f, api.ErrKey)
	}
	zero := symfile.File{Module: "M"}
	is(t, zero, api.ErrKey)
	is(t, symfile.File{}, api.ErrName)
}

// P14.2: as many exports as there may be, and more.
func TestCheckOfManyExports(t *testing.T) {
	is(t, keyed("M", imports(64), exports(4095)), api.OK)
	is(t, keyed("M", imports(64), exports(4096)), api.OK)
	is(t, keyed("M", nil, exports(4097)), api.ErrCode)
	is(t, keyed("M", nil, exports(10000)), api.ErrCode)
	// Too many go before all that is wrong with one of them.
	list := exports(4097)
	for n := range list {
		list[n] = api.Export{Name: "1", Kind: -1}
	}
	is(t, keyed("M", nil, list), api.ErrCode)
	is(t, keyed("M", nil, list[1:]), api.ErrName)
	list = exports(4096)
	list[4095].Name = "x0"
	is(t, keyed("M", nil, list), api.ErrTwice)
	list[4095].Name = "1"
	is(t, keyed("M", nil, list), api.ErrName)
	list[4095].Name, list[4095].Kind = "x4095", api.ObjType
	is(t, keyed("M", nil, list), api.ErrExport)
}

// P14.2: what is wrong with an export, at each place.
func TestCheckAtEachPlace(t *testing.T) {
	size := len(allKinds())
	for at := range size {
		for _, name := range wrongNames {
			list := allKinds()
			list[at].Name = name
			is(t, keyed("M", nil, list), api.ErrName)
		}
		for _, change := range []func(x *api.Export){
			func(x *api.Export) { x.Kind = api.ObjType },
			func(x *api.Export) { x.Type = api.Nil },
			func(x *api.Export) { x.Params = params(17) },
		} {
			list := allKinds()
			change(&list[at])
			is(t, keyed("M", nil, list), api.ErrExport)
		}
		for other := range size {
			list := allKinds()
			list[at].Name = list[other].Name
			want := api.ErrTwice
			if at == other {
				want = api.OK
			}
			is(t, keyed("M", nil, list), want)
		}
		list := slices.Insert(allKinds(), at, allKinds()[size-1])
		is(t, keyed("M", nil, list), api.ErrTwice)
	}
}

// P14.2: of exports that are wrong, the first one tells the error; of what is wrong with one, the error of May.
func TestCheckInOrderOfExports(t *testing.T) {
	name, export := api.Export{Name: "1", Kind: api.ObjExc}, api.Export{Name: "t", Kind: api.ObjType}
	once, twice := api.Export{Name: "e", Kind: api.ObjExc}, api.Export{Name: "e", Kind: api.ObjExc, Value: 1}
	both := api.Export{Name: "e", Kind: api.ObjModule}
	for _, x := range []struct {
		list []api.Export
		want api.Errno
	}{
		{[]api.Export{once, name, export, twice}, api.ErrName},
		{[]api.Export{once, name, twice, export}, api.ErrName},
		{[]api.Export{once, export, name, twice}, api.ErrExport},
		{[]api.Export{once, export, twice, name}, api.ErrExport},
		{[]api.Export{once, twice, name, export}, api.ErrTwice},
		{[]api.Export{once, twice, export, name}, api.ErrTwice},
		{[]api.Export{once, both}, api.ErrExport},
		{[]api.Export{both, once}, api.ErrExport},
		{[]api.Export{name, name}, api.ErrName},
		{[]api.Export{export, export}, api.ErrExport},
	} {
		f := keyed("M", imports(3), x.list)
		is(t, f, x.want)
		f.Key++
		is(t, f, x.want)
		f.Imports[1].Name = "M"
		is(t, f, api.ErrTwice)
	}
}

// P14.2: a file that is wrong in everything; each change mends what the error told, so that the next one shows.
func TestCheckInOrder(t *testing.T) {
	f := symfile.File{Module: "1", Key: 5, Imports: imports(65), Exports: exports(4097)}
	f.Imports[2].Name, f.Imports[3].Name, f.Imports[4].Name = "", "M", "Used0"
	f.Exports[2].Name, f.Exports[3].Kind, f.Exports[4].Name = "", api.ObjType, "x0"
	for _, x := range []struct {
		want api.Errno
		mend func()
	}{
		{api.ErrName, func() { f.Module = "M" }},
		{api.ErrModules, func() { f.Imports = f.Imports[:64] }},
		{api.ErrName, func() { f.Imports[2].Name = "A" }},
		{api.ErrTwice, func() { f.Imports[3].Name = "B" }},
		{api.ErrTwice, func() { f.Imports[4].Name = "C" }},
		{api.ErrCode, func() { f.Exports = f.Exports[:4096] }},
		{api.ErrName, func() { f.Exports[2].Name = "A" }},
		{api.ErrExport, func() { f.Exports[3].Kind = api.ObjConst }},
		{api.ErrTwice, func() { f.Exports[4].Name = "C" }},
		{api.ErrKey, func() { f.Key = finger.Key("M", f.Exports) }},
		{api.OK, func() {}},
	} {
		is(t, f, x.want)
		x.mend()
	}
}

// edge is a list of imports at an edge, what is written for it, and whether Read takes that.
type edge struct {
	list  []api.Import
	want  string
	takes bool
}

func edges() []edge {
	one := func(name string, key uint32) []api.Import { return []api.Import{{Name: name, Key: key}} }
	return []edge{
		{nil, "00", true},
		{[]api.Import{}, "00", true},
		{one("", 0), "01 00 00 00 00 00", true},
		{one("M", 1), "01 01 4d 01 00 00 00", true},
		{one("hi", 0x12345678), "01 02 68 69 78 56 34 12", true},
		{one("hi", math.MaxUint32), "01 02 68 69 ff ff ff ff", true},
		{[]api.Import{{Name: "N", Key: 1}, {Name: "M", Key: 1 << 31}}, "02 01 4e 01 00 00 00 01 4d 00 00 00 80", true},
		{one("\x00\xff 1", 0), "01 04 00 ff 20 31 00 00 00 00", true},
		{slices.Repeat(one("a", 2), 3), "03" + strings.Repeat("01 61 02 00 00 00", 3), true},
		{one(long(32), 3), "01 20" + strings.Repeat("6e", 32) + "03 00 00 00", true},
		{one(long(33), 3), "01 21" + strings.Repeat("6e", 33) + "03 00 00 00", false},
		{one(long(128), 3), "01 80 01" + strings.Repeat("6e", 128) + "03 00 00 00", false},
		{make([]api.Import, 64), "40" + strings.Repeat("00", 5*64), true},
		{make([]api.Import, 65), "41" + strings.Repeat("00", 5*65), false},
		{make([]api.Import, 300), "ac 02" + strings.Repeat("00", 5*300), false},
	}
}

// P14.3
func TestWrite(t *testing.T) {
	var all codec.Writer
	var want []byte
	for _, x := range edges() {
		var w codec.Writer
		symfile.Write(&w, x.list)
		if got := w.Bytes(); !bytes.Equal(got, fromHex(t, x.want)) {
			t.Errorf("Write(%.300v): % .80x", x.list, got)
		}
		all.Byte(0xee)
		symfile.Write(&all, x.list)
		symfile.Write(&all, imports(70))
		want = slices.Concat(want, []byte{0xee}, fromHex(t, x.want), importBytes(imports(70)))
		if got := all.Bytes(); !bytes.Equal(got, want) {
			t.Fatalf("Write(%.300v) behind others: % .80x", x.list, got)
		}
	}
}

// stands fails unless a Reader has an error and so many bytes left.
func stands(t *testing.T, r *codec.Reader, e api.Errno, left int) {
	t.Helper()
	if r.Err() != e || r.Left() != left {
		t.Fatalf("Err: %d, not %d; Left: %d, not %d", r.Err(), e, r.Left(), left)
	}
}

// reads fails unless a list is read of some bytes, alone and between others.
func reads(t *testing.T, data []byte, want []api.Import) {
	t.Helper()
	r := codec.Read(data)
	if got := symfile.Read(r); !slices.Equal(got, want) {
		t.Fatalf("% .80x: %.300v, not %.300v", data, got, want)
	}
	stands(t, r, api.OK, 0)
	r = codec.Read(slices.Concat([]byte{7}, data, data, []byte{2, 'h', 'i'}))
	r.Byte()
	for n := range 2 {
		if got := symfile.Read(r); !slices.Equal(got, want) {
			t.Fatalf("% .80x between others: %.300v, not %.300v", data, got, want)
		}
		stands(t, r, api.OK, (1-n)*len(data)+3)
	}
	if s, e := r.Text(2), r.End(); s != "hi" || e != api.OK {
		t.Fatalf("% .80x: what comes behind is read as %q, and End is %d", data, s, e)
	}
}

// isSpent fails unless a Reader with an error gives nothing more, and keeps the error.
func isSpent(t *testing.T, r *codec.Reader, e api.Errno) {
	t.Helper()
	for range 3 {
		stands(t, r, e, 0)
		if got := symfile.Read(r); len(got) != 0 {
			t.Fatalf("after the error %d: %.300v", e, got)
		}
	}
	stands(t, r, e, 0)
}

// fails fails unless nothing is read of some bytes, with an error.
func fails(t *testing.T, data []byte, want api.Errno) {
	t.Helper()
	r := codec.Read(data)
	if got := symfile.Read(r); len(got) != 0 || r.Err() != want {
		t.Fatalf("% .80x: %.300v and the error %d, not %d", data, got, r.Err(), want)
	}
	isSpent(t, r, want)
}

// P14.3
func TestRead(t *testing.T) {
	for _, x := range edges() {
		data := fromHex(t, x.want)
		if !x.takes {
			fails(t, data, api.ErrForm)
			fails(t, slices.Concat(data, make([]byte, 100)), api.ErrForm)
			continue
		}
		reads(t, data, x.list)
		for n := range data {
			fails(t, data[:n], api.ErrShort)
		}
	}
	for n := range 65 {
		reads(t, importBytes(imports(n)), imports(n))
	}
	// What symfile.Imports refuses is read all the same.
	for _, name := range wrongNames {
		if len(name) <= 32 {
			list := []api.Import{{Name: name, Key: 1}, {Name: "M"}, {Name: name, Key: 1}}
			reads(t, importBytes(list), list)
		}
	}
}

// P14.3: bytes that no list is written as, and which error goes first.
func TestReadWrongBytes(t *testing.T) {
	for _, x := range []struct {
		data string
		want api.Errno
	}{
		{"", api.ErrShort},
		{"01", api.ErrShort},
		{"40", api.ErrShort},
		{"41", api.ErrForm},
		{"80", api.ErrShort},
		{"80 00", api.ErrForm},
		{"81 00 00 00 00 00 00", api.ErrForm},
		{"80 01", api.ErrForm},
		{"ff ff ff ff ff ff ff ff 7f", api.ErrForm},
		{"01 20", api.ErrShort},
		{"01 21", api.ErrForm},
		{"01 80 00 00 00 00 00", api.ErrForm},
		{"01 81 00 61 00 00 00 00", api.ErrForm},
		{"01 02 61", api.ErrShort},
		{"01 01 61 00 00 00", api.ErrShort},
		{"02 01 61 00 00 00 00", api.ErrShort},
		{"02 01 61 00 00 00 00 21", api.ErrForm},
	} {
		fails(t, fromHex(t, x.data), x.want)
	}
	for at := range 64 {
		list := imports(64)
		list[at].Name = long(33)
		fails(t, importBytes(list), api.ErrForm)
		list[at].Name = long(32)
		reads(t, importBytes(list), list)
	}
}

// P14.3: a Reader that has an error returns nothing, and keeps the error, whatever would be there to read.
func TestReadAfterAnError(t *testing.T) {
	list := importBytes(imports(3))
	short := codec.Read([]byte{1, 2, 3})
	short.Word()
	isSpent(t, short, api.ErrShort)
	form := codec.Read(slices.Concat([]byte{2, 'h', 'i'}, list))
	form.Text(1)
	isSpent(t, form, api.ErrForm)
	second := codec.Read(slices.Concat(list, []byte{1, 33}, list))
	if got := symfile.Read(second); !slices.Equal(got, imports(3)) {
		t.Errorf("the first list: %v", got)
	}
	if got := symfile.Read(second); len(got) != 0 {
		t.Errorf("the second list: %v", got)
	}
	isSpent(t, second, api.ErrForm)
}

// P14.3
func TestEncode(t *testing.T) {
	for _, x := range []struct {
		file symfile.File
		want string
	}{
		{keyed("M", nil, nil), "01 59 53 50 01 4d KEY 00 00"},
		{keyed("Mod1", []api.Import{{Name: "N", Key: 0x12345678}}, nil), "01 59 53 50 04 4d 6f 64 31 KEY 01 01 4e 78 56 34 12 00"},
		{keyed("M", nil, []api.Export{{Name: "pi", Kind: api.ObjConst, Type: api.Int, Value: -3}}), "01 59 53 50 01 4d KEY 00 01 02 70 69 01 01 05 00"},
		{keyed("M", []api.Import{{Name: "A", Key: 1}, {Name: "B", Key: 2}}, []api.Export{{Name: "p", Kind: api.ObjProc, Value: 12, Params: []api.Param{{Type: api.Int}, {Type: api.Char, Ref: true}}}, {Name: "E", Kind: api.ObjExc}}),
			"01 59 53 50 01 4d KEY 02 01 41 01 00 00 00 01 42 02 00 00 00 02 01 70 06 00 18 02 01 00 03 01 01 45 07 00 00 00"},
	} {
		var key codec.Writer
		key.Word(x.file.Key)
		want := fromHex(t, strings.Replace(x.want, "KEY", hex.EncodeToString(key.Bytes()), 1))
		got, e := symfile.Encode(x.file)
		if e != api.OK || !bytes.Equal(got, want) {
			t.Errorf("Encode(%v): % x and %d, not % x", x.file, got, e, want)
		}
		decodes(t, want, x.file, api.OK)
	}
}

// P14.3: another first word is an error that goes before all others.
func TestDecodeOfAnotherWord(t *testing.T) {
	for _, f := range someFiles() {
		data := fileBytes(f)
		for place := range 32 {
			other := slices.Clone(data)
			other[place/8] ^= 1 << (place % 8)
			refuses(t, other, api.ErrForm)
			refuses(t, other[:len(other)-1], api.ErrForm)
			refuses(t, other[:4], api.ErrForm)
			refuses(t, append(other, 0), api.ErrForm)
		}
	}
	for _, word := range []uint32{0, 1, 0x01595350, 0x504f4201, 0x50494d01, 0x50535900, 0x50535902, math.MaxUint32} {
		refuses(t, headBytes(word, "M", 0), api.ErrForm)
		refuses(t, slices.Concat(headBytes(word, "M", small().Key), []byte{0, 0}), api.ErrForm)
		refuses(t, slices.Concat(headBytes(word, "1", 0), []byte{0, 0}), api.ErrForm)
	}
}

// P14.3: the bytes end at each place. Where they end within the first word, it is not Magic.
func TestDecodeOfShortBytes(t *testing.T) {
	for _, f := range someFiles() {
		data := fileBytes(f)
		for n := range data {
			want := api.ErrShort
			if n < 4 {
				want = api.ErrForm
			}
			refuses(t, data[:n], want)
			refuses(t, slices.Clip(data[:n]), want)
		}
	}
	refuses(t, nil, api.ErrForm)
	refuses(t, []byte{}, api.ErrForm)
	data := fileBytes(keyed("M", imports(64), exports(4096)))
	for n := 4; n < len(data); n += 1 + len(data)/50 {
		refuses(t, data[:n], api.ErrShort)
	}
	refuses(t, data[:len(data)-1], api.ErrShort)
}

// P14.3: bytes that are left are an error that goes before those of Check.
func TestDecodeOfBytesLeft(t *testing.T) {
	for _, f := range someFiles() {
		data := fileBytes(f)
		for _, more := range [][]byte{{0}, {1}, {0xff}, {0, 0, 0, 0}, data, make([]byte, 1000)} {
			refuses(t, slices.Concat(data, more), api.ErrForm)
		}
		f.Key++
		refuses(t, fileBytes(f), api.ErrKey)
		refuses(t, append(fileBytes(f), 0), api.ErrForm)
	}
}

// P14.3: a Module that is too long, and imports and exports that can't be read.
func TestDecodeOfWrongForms(t *testing.T) {
	list := []symfile.File{
		keyed(long(33), nil, nil),
		keyed(long(128), nil, nil),
		keyed("M", imports(65), nil),
		keyed("M", []api.Import{{Name: long(33)}}, nil),
		keyed("M", nil, exports(4097)),
		keyed("M", nil, []api.Export{{Name: long(33), Kind: 1, Type: 1}}),
		keyed("M", nil, []api.Export{{Name: "x", Kind: 9, Type: 1}}),
		keyed("M", nil, []api.Export{{Name: "x", Kind: 1, Type: 4097}}),
		keyed("M", nil, []api.Export{{Name: "x", Kind: 6, Params: params(17)}}),
		keyed("M", nil, []api.Export{{Name: "x", Kind: 6, Params: []api.Param{{Type: 4097}}}}),
	}
	for _, f := range list {
		refuses(t, fileBytes(f), api.ErrForm)
		f.Key++
		refuses(t, fileBytes(f), api.ErrForm)
		// What comes ahead would be refused by Check, too.
		if f.Module == "M" {
			f.Module = "1"
			refuses(t, fileBytes(f), api.ErrForm)
		}
	}
	head, key := headBytes(0x50535901, "M", small().Key), small().Key
	refuses(t, slices.Concat(head, []byte{0x80, 0, 0}), api.ErrForm)
	refuses(t, slices.Concat(head, []byte{0, 0x80, 0}), api.ErrForm)
	refuses(t, slices.Concat(head, []byte{0, 0x80, 0x80, 0x01}), api.ErrForm)
	refuses(t, slices.Concat([]byte{0x01, 0x59, 0x53, 0x50, 0x81, 0, 'M', byte(key), byte(key >> 8), byte(key >> 16), byte(key >> 24), 0, 0}), api.ErrForm)
	decodes(t, slices.Concat(head, []byte{0, 0}), small(), api.OK)
}

// P14.3: what can be read and Check refuses.
func TestDecodeOfWrongFiles(t *testing.T) {
	excs := func(names ...string) []api.Export {
		var list []api.Export
		for _, name := range names {
			list = append(list, api.Export{Name: name, Kind: api.ObjExc})
		}
		return list
	}
	for _, x := range []struct {
		file symfile.File
		want api.Errno
	}{
		{keyed("", nil, nil), api.ErrName},
		{keyed("1", nil, nil), api.ErrName},
		{keyed("a b", imports(2), exports(2)), api.ErrName},
		{keyed("M", []api.Import{{Name: ""}}, nil), api.ErrName},
		{keyed("M", []api.Import{{Name: "M"}}, nil), api.ErrTwice},
		{keyed("M", []api.Import{{Name: "A"}, {Name: "A", Key: 1}}, nil), api.ErrTwice},
		{keyed("M", nil, excs("A", "")), api.ErrName},
		{keyed("M", nil, excs("A", "B", "A")), api.ErrTwice},
		{keyed("M", nil, []api.Export{{Name: "x", Kind: 8}}), api.ErrExport},
		{keyed("M", nil, []api.Export{{Name: "x", Kind: 1, Type: 4096}}), api.ErrExport},
		{keyed("M", nil, []api.Export{{Name: "x", Kind: 3, Type: 1, Value: -1}}), api.ErrExport},
		{symfile.File{Module: "M", Key: small().Key + 1}, api.ErrKey},
		{symfile.File{Module: "N", Key: small().Key}, api.ErrKey},
		{symfile.File{Module: "M", Key: small().Key, Exports: excs("A")}, api.ErrKey},
		{symfile.File{Module: "M", Key: 9, Imports: []api.Import{{Name: "M"}}, Exports: excs("1")}, api.ErrTwice},
		{symfile.File{Module: "1", Key: 9, Imports: []api.Import{{Name: "1"}}, Exports: excs("1")}, api.ErrName},
	} {
		refuses(t, fileBytes(x.file), x.want)
		is(t, x.file, x.want)
	}
}

// P14.3, P14.4: all changes of one byte, with the key that stands there, and with the one that fits what is then there.
func TestDecodeOfChangedBytes(t *testing.T) {
	found := 0
	for _, f := range []symfile.File{small(), rich(), keyed("z9", nil, exports(3)), keyed("N", imports(3), nil)} {
		data := fileBytes(f)
		keyAt := 4 + 1 + len(f.Module)
		exportsAt := keyAt + 4 + len(importBytes(f.Imports))
		for at := range data {
			for b := range 256 {
				changed := slices.Clone(data)
				changed[at] = byte(b)
				isAsModel(t, changed)
				key := finger.Sum(slices.Concat(changed[4:keyAt], changed[exportsAt:])...)
				for k := range 4 {
					changed[keyAt+k] = byte(key >> (8 * k))
				}
				if isAsModel(t, changed) {
					found++
				}
			}
		}
	}
	if found < 10000 {
		t.Errorf("only %d changed files were decoded", found)
	}
}

// someFile is one of which much is random, and which in most cases may be.
func someFile(next func() int) symfile.File {
	names := []string{"A", "a", "B2", "Circle", "z", "Zz9", long(31), long(32), "M", "N", "x1", "x2"}
	f := symfile.File{Module: names[next()%len(names)]}
	for range next() % 4 {
		f.Imports = append(f.Imports, api.Import{Name: names[next()%len(names)], Key: uint32(next()<<16 | next())})
	}
	for range next() % 4 {
		x := allKinds()[next()%14]
		x.Name = names[next()%len(names)]
		f.Exports = append(f.Exports, x)
	}
	if next()%4 == 0 && len(f.Exports) > 0 {
		x := &f.Exports[next()%len(f.Exports)]
		x.Kind, x.Type, x.Value, x.Params = next()%9, next()%5, int32(next()%3-1), params(next()%20)
	}
	if next()%8 == 0 {
		f.Module = wrongNames[next()%len(wrongNames)]
	}
	f.Key = finger.Key(f.Module, f.Exports)
	if next()%8 == 0 {
		f.Key += uint32(next()%3 - 1)
	}
	return f
}

// P14.2, P14.3, P14.4
func TestRandomFiles(t *testing.T) {
	next := random(5)
	found := map[api.Errno]int{}
	for range 6000 {
		f := someFile(next)
		want := modelCheck(f)
		found[want]++
		is(t, f, want)
	}
	for _, e := range []api.Errno{api.OK, api.ErrName, api.ErrTwice, api.ErrExport, api.ErrKey} {
		if found[e] < 100 {
			t.Errorf("the error %d came only %d times", e, found[e])
		}
	}
}

// P14.3, P14.4: files of which bytes were taken away, put in, or changed.
func TestDecodeOfDamagedBytes(t *testing.T) {
	next := random(6)
	found := 0
	for range 10000 {
		data := fileBytes(someFile(next))
		for range next() % 3 {
			at := 4 + next()%(len(data)-4)
			switch next() % 4 {
			case 0:
				data = slices.Delete(data, at, at+1)
			case 1:
				data = slices.Insert(data, at, byte(next()))
			case 2:
				data[at] ^= 0x80
			default:
				data[at] += byte(next()%3 - 1)
			}
			if len(data) < 6 {
				break
			}
		}
		if isAsModel(t, data) {
			found++
		}
	}
	if found < 1000 {
		t.Errorf("only %d files were decoded", found)
	}
}

// variants returns files of which each two differ: in just one field, in a list's length or order, or in one field of one element.
func variants() []symfile.File {
	base := rich()
	list := []symfile.File{base, {}}
	with := func(change func(f *symfile.File)) {
		f := copied(base)
		change(&f)
		list = append(list, f)
	}
	with(func(f *symfile.File) { f.Module = "rich" })
	with(func(f *symfile.File) { f.Module = "" })
	with(func(f *symfile.File) { f.Module += "\x00" })
	with(func(f *symfile.File) { f.Key++ })
	with(func(f *symfile.File) { f.Key ^= 1 << 31 })
	with(func(f *symfile.File) { f.Key = 0 })
	with(func(f *symfile.File) { f.Imports = nil })
	with(func(f *symfile.File) { f.Imports = f.Imports[1:] })
	with(func(f *symfile.File) { f.Imports = f.Imports[:4] })
	with(func(f *symfile.File) { f.Imports = append(f.Imports, api.Import{}) })
	with(func(f *symfile.File) { slices.Reverse(f.Imports) })
	with(func(f *symfile.File) { f.Exports = nil })
	with(func(f *symfile.File) { f.Exports = f.Exports[1:] })
	with(func(f *symfile.File) { f.Exports = f.Exports[:13] })
	with(func(f *symfile.File) { f.Exports = append(f.Exports, api.Export{}) })
	with(func(f *symfile.File) { slices.Reverse(f.Exports) })
	for n := range base.Imports {
		with(func(f *symfile.File) { f.Imports[n].Name += "x" })
		with(func(f *symfile.File) { f.Imports[n].Name = strings.ToLower(f.Imports[n].Name) })
		with(func(f *symfile.File) { f.Imports[n].Name = "" })
		with(func(f *symfile.File) { f.Imports[n].Key++ })
		with(func(f *symfile.File) { f.Imports[n].Key ^= 1 << 31 })
		if n > 0 {
			with(func(f *symfile.File) { f.Imports[n-1], f.Imports[n] = f.Imports[n], f.Imports[n-1] })
		}
	}
	for n := range base.Exports {
		with(func(f *symfile.File) { f.Exports[n].Name += "x" })
		with(func(f *symfile.File) { f.Exports[n].Kind += 10 })
		with(func(f *symfile.File) { f.Exports[n].Type += 10 })
		with(func(f *symfile.File) { f.Exports[n].Type = -1 })
		with(func(f *symfile.File) { f.Exports[n].Value ^= 1 << 12 })
		with(func(f *symfile.File) { f.Exports[n].Params = append(f.Exports[n].Params, api.Param{}) })
		if n > 0 {
			with(func(f *symfile.File) { f.Exports[n-1], f.Exports[n] = f.Exports[n], f.Exports[n-1] })
		}
		for k := range base.Exports[n].Params {
			with(func(f *symfile.File) { f.Exports[n].Params[k].Type += 4 })
			with(func(f *symfile.File) { f.Exports[n].Params[k].Ref = !f.Exports[n].Params[k].Ref })
		}
	}
	return list
}

// P14.3
func TestSame(t *testing.T) {
	list := variants()
	for n, a := range list {
		for k, b := range list {
			if got := symfile.Same(a, copied(b)); got != (n == k) {
				t.Errorf("Same(%v, %v): %v", a, b, got)
			}
		}
	}
	for n, a := range someFiles() {
		for k, b := range someFiles() {
			// The first and the last one differ only in lists without elements, which may be nil or not.
			if got := symfile.Same(a, b); got != (n == k || n+k == len(someFiles())-1 && n*k == 0) {
				t.Errorf("Same(%v, %v): %v", a, b, got)
			}
		}
	}
	none := func(imports []api.Import, exports []api.Export) symfile.File {
		return symfile.File{Module: "M", Imports: imports, Exports: exports}
	}
	for _, f := range []symfile.File{none(nil, []api.Export{}), none([]api.Import{}, nil), none(imports(3)[:0], allKinds()[:0])} {
		if !symfile.Same(f, none(nil, nil)) || !symfile.Same(none(nil, nil), f) {
			t.Errorf("Same of %v and of nil lists: false", f)
		}
	}
}

// P14.4: what is encoded is decoded to the same file, and no two files have the same bytes.
func TestEncodedIsDecoded(t *testing.T) {
	found := map[string]symfile.File{}
	files := someFiles()[:8]
	for _, f := range variants() {
		files = append(files, symfile.Make(f.Module, f.Imports, f.Exports))
	}
	encoded := 0
	for _, f := range files {
		data, e := symfile.Encode(f)
		if e != modelCheck(f) {
			t.Fatalf("Encode(%v): %d", f, e)
		}
		if e != api.OK {
			continue
		}
		encoded++
		got, e := symfile.Decode(data)
		if e != api.OK || !symfile.Same(got, f) || !equal(got, f) {
			t.Fatalf("%v is decoded to %v and %d", f, got, e)
		}
		if other, ok := found[string(data)]; ok && !equal(other, f) {
			t.Fatalf("%v and %v have the same bytes", f, other)
		}
		found[string(data)] = f
	}
	if encoded < 50 {
		t.Errorf("only %d files were encoded", encoded)
	}
}

// roomy returns a file whose lists have spare capacity throughout, and their memory.
func roomy() (symfile.File, []api.Import, []api.Export) {
	used := append(imports(5), api.Import{Name: "spare", Key: 77}, api.Import{Name: "more", Key: 78})
	given := append(allKinds(), api.Export{Name: "spare", Kind: 77}, api.Export{Name: "more", Kind: 78})
	for n := range given {
		given[n].Params = append(slices.Clone(given[n].Params), api.Param{Type: 79}, api.Param{Type: 80, Ref: true})
	}
	exports := given[:len(given)-2]
	for n := range exports {
		exports[n].Params = exports[n].Params[:len(exports[n].Params)-2]
	}
	return keyed("Rich", used[:5], exports), used, given
}

// snapshot tells all that the memory of exports holds.
func snapshot(memory []api.Export) []api.Export {
	all := slices.Clone(memory)
	for n, x := range memory {
		all[n].Params = slices.Clone(x.Params[:cap(x.Params)])
	}
	return all
}

// P2: no call changes the lists that it is given, nor the memory behind them.
func TestArgumentsStay(t *testing.T) {
	f, used, given := roomy()
	wantUsed, wantGiven := slices.Clone(used), snapshot(given)
	other, _, _ := roomy()
	symfile.Make("M", f.Imports, f.Exports)
	symfile.Imports("Used3", f.Imports)
	for _, x := range f.Exports {
		symfile.May(x)
	}
	symfile.Same(f, other)
	var w codec.Writer
	symfile.Write(&w, f.Imports)
	is(t, f, api.OK)
	is(t, symfile.File{Module: f.Module, Imports: f.Imports, Exports: f.Exports}, api.ErrKey)
	if !slices.Equal(used, wantUsed) || !equalExports(snapshot(given), wantGiven) {
		t.Errorf("the lists became %v and %v", used, given)
	}
	if !equal(f, other) || !equal(f, rich()) {
		t.Errorf("the file became %v", f)
	}
}

// P2: the bytes that Decode is given stay, and those behind them.
func TestBytesStay(t *testing.T) {
	data := fileBytes(rich())
	memory := append(slices.Clone(data), 1, 2, 3)
	before := slices.Clone(memory)
	decodes(t, memory[:len(data)], rich(), api.OK)
	refuses(t, memory[:len(data)+1], api.ErrForm)
	refuses(t, memory[:len(data)-1], api.ErrShort)
	if !bytes.Equal(memory, before) {
		t.Errorf("the bytes became % x", memory)
	}
}

// spoil overwrites all that a file's lists hold, also behind them.
func spoil(f symfile.File) {
	for n := range f.Exports {
		p := append(f.Exports[n].Params, api.Param{Type: 99})
		for _, list := range [][]api.Param{f.Exports[n].Params, p[:cap(p)]} {
			for k := range list {
				list[k] = api.Param{Type: 98, Ref: true}
			}
		}
	}
	for _, list := range [][]api.Export{f.Exports, append(f.Exports, api.Export{})} {
		list = list[:cap(list)]
		for n := range list {
			list[n] = api.Export{Name: "spoilt", Kind: 96}
		}
	}
	for _, list := range [][]api.Import{f.Imports, append(f.Imports, api.Import{})} {
		list = list[:cap(list)]
		for n := range list {
			list[n] = api.Import{Name: "spoilt", Key: 95}
		}
	}
}

// P2: Make keeps nothing of its lists, and gives nothing of them out.
func TestMakeCopiesItsLists(t *testing.T) {
	given, _, _ := roomy()
	first := symfile.Make("Rich", given.Imports, given.Exports)
	second := symfile.Make("Rich", given.Imports, given.Exports)
	spoil(first)
	if !equal(given, rich()) || !equal(second, rich()) {
		t.Errorf("what Make was given became %v, and another file %v", given, second)
	}
	spoil(given)
	if !equal(second, rich()) {
		t.Errorf("the file became %v", second)
	}
}

// P2: of two lists of a file, none reaches into the other.
func TestMakeSharesNothingWithin(t *testing.T) {
	list := params(2)
	shared := api.Export{Name: "p", Kind: api.ObjProc, Params: list}
	f := symfile.Make("M", nil, []api.Export{shared, {Name: "q", Kind: api.ObjProc, Params: list}})
	f.Exports[0].Params[0].Type = 99
	_ = append(f.Exports[0].Params[:1], api.Param{Type: 98})
	if !slices.Equal(f.Exports[1].Params, params(2)) || !slices.Equal(list, params(2)) {
		t.Errorf("the parameters became %v and %v", f.Exports[1].Params, list)
	}
}

// text returns a text that changes with its memory.
func text(memory []byte) string { return unsafe.String(unsafe.SliceData(memory), len(memory)) }

// P2: Make keeps nothing of its texts.
func TestMakeCopiesItsTexts(t *testing.T) {
	module, used, exported := []byte("Module"), []byte("Used"), []byte("exported")
	f := symfile.Make(text(module), []api.Import{{Name: text(used)}}, []api.Export{{Name: text(exported), Kind: api.ObjExc}})
	for _, memory := range [][]byte{module, used, exported} {
		copy(memory, "spoilt")
	}
	if want := keyed("Module", []api.Import{{Name: "Used"}}, []api.Export{{Name: "exported", Kind: api.ObjExc}}); !equal(f, want) {
		t.Errorf("the file became %v", f)
	}
}

// P2: files that Decode returned share nothing with the bytes or with each other; bytes that Encode returned share nothing.
func TestResultsAreTheCallers(t *testing.T) {
	data := fileBytes(rich())
	first, _ := symfile.Decode(data)
	second, _ := symfile.Decode(data)
	for n := range data {
		data[n] = 0xee
	}
	if !equal(first, rich()) || !equal(second, rich()) {
		t.Errorf("the files became %v and %v", first, second)
	}
	spoil(first)
	if !equal(second, rich()) {
		t.Errorf("the other file became %v", second)
	}
	one, _ := symfile.Encode(second)
	two, _ := symfile.Encode(second)
	for n := range one[:cap(one)] {
		one[:cap(one)][n] = 0xee
	}
	if !bytes.Equal(two, fileBytes(rich())) || !equal(second, rich()) {
		t.Errorf("other bytes became % x, and the file %v", two, second)
	}
	decodes(t, two, rich(), api.OK)
	for n := range second.Exports {
		p := append(second.Exports[n].Params, api.Param{Type: 99})
		for k := range p[:cap(p)] {
			p[:cap(p)][k] = api.Param{Type: 98}
		}
		if !equalExports(second.Exports[n+1:], rich().Exports[n+1:]) {
			t.Fatalf("behind the export %d the list became %v", n, second.Exports[n+1:])
		}
	}
}

// P2: names that are read share no memory.
func TestNamesAreTheirOwn(t *testing.T) {
	list := slices.Repeat([]api.Import{{Name: "Name"}}, 5)
	data := importBytes(list)
	starts := map[*byte]int{}
	for range 2 {
		for _, x := range symfile.Read(codec.Read(data)) {
			starts[unsafe.StringData(x.Name)]++
		}
		f := symfile.Make("Name", list, []api.Export{{Name: "Name"}})
		starts[unsafe.StringData(f.Module)]++
		starts[unsafe.StringData(f.Exports[0].Name)]++
		for _, x := range f.Imports {
			starts[unsafe.StringData(x.Name)]++
		}
	}
	if len(starts) != 24 {
		t.Errorf("24 names begin at %d places", len(starts))
	}
}

// P2: Write keeps nothing of its list, and lists that Read returned are the caller's.
func TestImportsAreTheCallers(t *testing.T) {
	memory := []byte("name")
	list := []api.Import{{Name: text(memory), Key: 7}, {Name: "N", Key: 8}}
	want := importBytes([]api.Import{{Name: "name", Key: 7}, {Name: "N", Key: 8}})
	var w codec.Writer
	symfile.Write(&w, list)
	copy(memory, "xxxx")
	list[0].Key, list[1] = 9, api.Import{}
	if got := w.Bytes(); !bytes.Equal(got, want) {
		t.Errorf("what was written became % x", got)
	}
	data := slices.Repeat(importBytes(imports(5)), 3)
	r := codec.Read(data)
	first, second := symfile.Read(r), symfile.Read(r)
	for n := range data {
		data[n] = 0xee
	}
	spoil(symfile.File{Imports: first})
	if third := symfile.Read(r); !slices.Equal(second, imports(5)) || !slices.Equal(third, imports(5)) {
		t.Errorf("other lists became %v and %v", second, third)
	}
}

// P2: what a call returns depends on nothing that came before it.
func TestCallsAreIndependent(t *testing.T) {
	list := variants()
	var found []api.Errno
	for _, f := range list {
		found = append(found, symfile.Check(f))
		symfile.Check(keyed("M", nil, exports(30)))
		symfile.Imports("M", imports(64))
		symfile.Decode(fileBytes(f)[:9])
	}
	for n, f := range slices.Backward(list) {
		if got := symfile.Check(f); got != found[n] || got != modelCheck(f) {
			t.Errorf("Check(%v): %d, then %d", f, found[n], got)
		}
	}
}

// P1
func TestAnyArguments(t *testing.T) {
	numbers := []int{math.MinInt, math.MinInt32, -1, 0, 1, 6, 128, 4097, math.MaxUint32, math.MaxInt}
	var given []api.Export
	for _, n := range numbers {
		x := api.Export{Name: strings.Repeat("\xff", n&0xffff), Kind: n, Type: n, Value: int32(n), Params: []api.Param{{Type: n}, {Type: n, Ref: true}}}
		may(t, x, modelMay(x))
		x.Name = "x"
		may(t, x, modelMay(x))
		given = append(given, x)
	}
	given = append(given, api.Export{Name: "p", Kind: api.ObjProc, Params: make([]api.Param, 1<<16)})
	used := append(imports(3), api.Import{Name: strings.Repeat("\x00", 1<<16), Key: math.MaxUint32})
	for _, name := range append([]string{"M"}, wrongNames...) {
		f := symfile.Make(name, used, given)
		is(t, f, api.ErrName)
		if !symfile.Same(f, copied(f)) {
			t.Error("a file is not the same as its copy")
		}
	}
	for b := range 256 {
		row := bytes.Repeat([]byte{byte(b)}, 1<<12)
		isAsModel(t, row)
		isAsModel(t, slices.Concat([]byte{0x01, 0x59, 0x53, 0x50}, row))
		isAsModel(t, slices.Concat(headBytes(0x50535901, "M", 0), row))
		isAsModel(t, slices.Concat(headBytes(0x50535901, "M", 0), []byte{0}, row))
		symfile.Read(codec.Read(row))
	}
}

// P1: very much is worked through in good time.
func TestMuch(t *testing.T) {
	if symfile.Name(long(1<<24)) || symfile.Name(strings.Repeat("\xff", 1<<24)) {
		t.Error("Name of very many bytes: true")
	}
	f := symfile.Make("M", imports(1<<16), exports(1<<17))
	if e := symfile.Check(f); e != api.ErrModules {
		t.Errorf("Check: %d", e)
	}
	f.Imports = nil
	if e := symfile.Check(f); e != api.ErrCode {
		t.Errorf("Check: %d", e)
	}
	if !symfile.Same(f, copied(f)) {
		t.Error("a file is not the same as its copy")
	}
	may(t, api.Export{Name: "p", Kind: api.ObjProc, Params: params(1 << 20)}, api.ErrExport)
	large := exports(4096)
	for n := range large {
		large[n] = api.Export{Name: long(27) + strconv.Itoa(10000+n), Kind: api.ObjProc, Value: math.MaxInt32, Params: params(16)}
	}
	is(t, keyed("M", imports(64), large), api.OK)
	refuses(t, slices.Concat(fileBytes(small()), make([]byte, 1<<24)), api.ErrForm)
}

// P14.3, P14.4, P1
func FuzzDecode(f *testing.F) {
	f.Add([]byte{})
	for _, x := range someFiles() {
		f.Add(fileBytes(x))
	}
	f.Fuzz(func(t *testing.T, data []byte) {
		isAsModel(t, data)
		if got, want := symfile.Name(string(data)), modelName(string(data)); got != want {
			t.Fatalf("Name(%q): %v", data, got)
		}
		r := codec.Read(data)
		list := symfile.Read(r)
		if e := r.Err(); e == api.OK && !bytes.Equal(importBytes(list), data[:len(data)-r.Left()]) || e != api.OK && len(list) != 0 {
			t.Fatalf("Read(% .80x): %v and the error %d", data, list, e)
		}
	})
}
