package types_test

import (
	"math"
	"slices"
	"strconv"
	"strings"
	"testing"
	"unsafe"

	"pascaline/api"
	"pascaline/types"
)

// absent are numbers that no table has.
var absent = []int{-1, -2, -5, -4096, math.MinInt32, math.MinInt, api.MaxTable, api.MaxTable + 1, 1 << 16, math.MaxInt32, math.MaxInt32 + 1, 1 << 32, 1<<32 + 1, math.MaxInt - 1, math.MaxInt}

// always are the types that every table has.
var always = []types.Type{
	{Kind: 0, Size: 0},
	{Kind: 1, Size: 4},
	{Kind: 2, Size: 4},
	{Kind: 3, Size: 4},
	{Kind: 4, Size: 4},
}

// same reports whether two types are equal; a list without elements may be nil or not.
func same(a, b types.Type) bool {
	return a.Kind == b.Kind && a.Len == b.Len && a.Base == b.Base && a.Size == b.Size && a.Open == b.Open && slices.Equal(a.Fields, b.Fields)
}

// all returns all types of a table.
func all(t *types.Table) []types.Type {
	var list []types.Type
	for id := range t.Len() {
		list = append(list, t.Get(id))
	}
	return list
}

// holds fails unless a table has just some types.
func holds(t *testing.T, table *types.Table, want []types.Type) {
	t.Helper()
	if table.Len() != len(want) {
		t.Fatalf("%d types, not %d", table.Len(), len(want))
	}
	for id, x := range want {
		if got := table.Get(id); !same(got, x) {
			t.Fatalf("the type %d is %+v, not %+v", id, got, x)
		}
	}
	if got := table.Get(len(want)); !same(got, types.Type{}) {
		t.Fatalf("the type %d, behind the last: %+v", len(want), got)
	}
}

// is fails unless a type is just so.
func is(t *testing.T, table *types.Table, id int, want types.Type) {
	t.Helper()
	if got := table.Get(id); !same(got, want) {
		t.Errorf("the type %d is %+v, not %+v", id, got, want)
	}
}

// added returns the number of a type that must have been added as the last one.
func added(t *testing.T, table *types.Table, id int, e api.Errno) int {
	t.Helper()
	if e != api.OK || id != table.Len()-1 {
		t.Fatalf("%d %d, with %d types", id, e, table.Len())
	}
	return id
}

func array(t *testing.T, table *types.Table, length, base int) int {
	t.Helper()
	id, e := table.Array(length, base)
	return added(t, table, id, e)
}

func open(t *testing.T, table *types.Table) int {
	t.Helper()
	id, e := table.Open()
	return added(t, table, id, e)
}

func pointer(t *testing.T, table *types.Table, base int) int {
	t.Helper()
	id, e := table.Pointer(base)
	return added(t, table, id, e)
}

// field adds a field that must be permitted.
func field(t *testing.T, table *types.Table, id int, name string, kind int) {
	t.Helper()
	if e := table.Field(id, name, kind); e != api.OK {
		t.Fatalf("Field(%d, %q, %d): %d", id, name, kind, e)
	}
}

func closes(t *testing.T, table *types.Table, id int) {
	t.Helper()
	if e := table.Close(id); e != api.OK {
		t.Fatalf("Close(%d): %d", id, e)
	}
}

// record adds a closed record with fields of some types, which are named a, b, c and so on.
func record(t *testing.T, table *types.Table, kinds ...int) int {
	t.Helper()
	id := open(t, table)
	for n, kind := range kinds {
		field(t, table, id, letter(n), kind)
	}
	closes(t, table, id)
	return id
}

func letter(n int) string { return string(rune('a' + n)) }

// sized returns a closed record that has just so many bytes.
func sized(t *testing.T, table *types.Table, size int) int {
	t.Helper()
	if size == 0 {
		return record(t, table)
	}
	return record(t, table, array(t, table, size/4, api.Int))
}

// refuses fails unless a call that adds a type returned an error and left the table as it was.
func refuses(t *testing.T, table *types.Table, want api.Errno, call func() (int, api.Errno)) {
	t.Helper()
	before := all(table)
	for range 2 {
		if id, e := call(); id != 0 || e != want {
			t.Errorf("%d %d, not 0 %d", id, e, want)
		}
	}
	holds(t, table, before)
}

func refusesArray(t *testing.T, table *types.Table, length, base int, want api.Errno) {
	t.Helper()
	refuses(t, table, want, func() (int, api.Errno) { return table.Array(length, base) })
}

func refusesPointer(t *testing.T, table *types.Table, base int, want api.Errno) {
	t.Helper()
	refuses(t, table, want, func() (int, api.Errno) { return table.Pointer(base) })
}

func refusesField(t *testing.T, table *types.Table, id int, name string, kind int, want api.Errno) {
	t.Helper()
	refuses(t, table, want, func() (int, api.Errno) { return 0, table.Field(id, name, kind) })
}

func refusesClose(t *testing.T, table *types.Table, id int, want api.Errno) {
	t.Helper()
	refuses(t, table, want, func() (int, api.Errno) { return 0, table.Close(id) })
}

// finds fails unless a record has a field.
func finds(t *testing.T, table *types.Table, id int, want types.Field) {
	t.Helper()
	if got, e := table.Find(id, want.Name); got != want || e != api.OK {
		t.Errorf("Find(%d, %q): %+v %d, not %+v", id, want.Name, got, e, want)
	}
}

// lacks fails unless Find returns an error.
func lacks(t *testing.T, table *types.Table, id int, name string, want api.Errno) {
	t.Helper()
	if got, e := table.Find(id, name); got != (types.Field{}) || e != want {
		t.Errorf("Find(%d, %q): %+v %d, not %d", id, name, got, e, want)
	}
}

// P9.1
func TestNew(t *testing.T) {
	table := types.New()
	if table.Len() != 5 {
		t.Errorf("%d types", table.Len())
	}
	holds(t, table, always)
	for id, kind := range map[int]int{api.None: api.KindNone, api.Int: api.KindInt, api.Bool: api.KindBool, api.Char: api.KindChar, api.Nil: api.KindNil} {
		if got := table.Get(id).Kind; got != kind {
			t.Errorf("the type %d has the kind %d, not %d", id, got, kind)
		}
	}
}

// P9.1
func TestGetOfAbsent(t *testing.T) {
	table := types.New()
	for n := range 4 {
		for _, id := range append([]int{table.Len(), table.Len() + 1}, absent...) {
			is(t, table, id, types.Type{})
		}
		record(t, table, api.Int, api.Char)
		if got, want := table.Len(), 6+n; got != want {
			t.Errorf("%d types, not %d", got, want)
		}
	}
}

// P9.1: the chapter's examples, and arrays of everything that can be in one.
func TestArray(t *testing.T) {
	table := types.New()
	ten := array(t, table, 10, api.Int)
	is(t, table, ten, types.Type{Kind: api.KindArray, Len: 10, Base: api.Int, Size: 40})
	for _, base := range []int{api.Int, api.Bool, api.Char} {
		for _, length := range []int{1, 2, 3, 6, 10, 4095, 4096} {
			is(t, table, array(t, table, length, base), types.Type{Kind: api.KindArray, Len: length, Base: base, Size: 4 * length})
		}
	}
	is(t, table, array(t, table, 5, ten), types.Type{Kind: api.KindArray, Len: 5, Base: ten, Size: 200})
	is(t, table, array(t, table, 1, table.Len()-1), types.Type{Kind: api.KindArray, Len: 1, Base: table.Len() - 2, Size: 200})
	pair := record(t, table, api.Int, ten)
	is(t, table, array(t, table, 3, pair), types.Type{Kind: api.KindArray, Len: 3, Base: pair, Size: 132})
	node := open(t, table)
	ref := pointer(t, table, node)
	is(t, table, array(t, table, 7, ref), types.Type{Kind: api.KindArray, Len: 7, Base: ref, Size: 28})
	closes(t, table, node)
	is(t, table, array(t, table, 7, node), types.Type{Kind: api.KindArray, Len: 7, Base: node})
	// Two equal arrays are two types.
	if one, other := array(t, table, 10, api.Int), array(t, table, 10, api.Int); one == other || one == ten {
		t.Errorf("%d, %d and %d", ten, one, other)
	}
}

// P9.1: an array of arrays has as many bytes as all its elements.
func TestArraysOfArrays(t *testing.T) {
	table := types.New()
	base, size := api.Char, 4
	for size < api.MaxSize {
		base, size = array(t, table, 2, base), 2*size
		if got := table.Get(base).Size; got != size {
			t.Fatalf("the size is %d, not %d", got, size)
		}
	}
	is(t, table, array(t, table, 1, base), types.Type{Kind: api.KindArray, Len: 1, Base: base, Size: api.MaxSize})
	refusesArray(t, table, 2, base, api.ErrSize)
}

// P9.1: what can't be in an array.
func TestArrayOfWrong(t *testing.T) {
	table := types.New()
	node := open(t, table)
	field(t, table, node, "a", api.Int)
	for _, base := range append([]int{api.None, api.Nil, node, node + 1, node + 2}, absent...) {
		for _, length := range []int{1, 10, 0, -1, api.MaxSize, api.MaxSize + 1, math.MaxInt} {
			refusesArray(t, table, length, base, api.ErrType)
		}
	}
	// An array whose number would be that of its own elements is none either.
	refusesArray(t, table, 3, table.Len(), api.ErrType)
	closes(t, table, node)
	is(t, table, array(t, table, 3, node), types.Type{Kind: api.KindArray, Len: 3, Base: node, Size: 12})
}

// greatLengths are those that are too great for every array, also if the number of its bytes would not fit.
var greatLengths = []int{api.MaxSize + 1, api.MaxSize + 2, 1 << 15, 1<<30 - 1, 1 << 30, 1<<30 + 1, math.MaxInt32, 1 << 31, 1 << 32, 1<<32 + 1, 1 << 48, 1 << 52, 1<<60 + 1, 1<<61 + 1, 1 << 62, 1<<62 + 1, math.MaxInt - 3, math.MaxInt - 1, math.MaxInt}

// smallLengths are those that are too small for every array.
var smallLengths = []int{0, -1, -2, -4, -api.MaxSize, math.MinInt32, -1 << 62, math.MinInt + 1, math.MinInt}

// P9.1: each length of arrays with elements of some sizes.
func TestLengths(t *testing.T) {
	for _, size := range []int{0, 4, 8, 12, 40, 100, 4096, 5460, 8188, 8192, 8196, 16380, api.MaxSize} {
		table := types.New()
		base := sized(t, table, size)
		before := table.Len()
		for _, length := range slices.Concat(smallLengths, greatLengths) {
			refusesArray(t, table, length, base, api.ErrSize)
		}
		for length := 1; length <= api.MaxSize; length++ {
			if table.Len() == api.MaxTable {
				table = types.New()
				base = sized(t, table, size)
			}
			id, e := table.Array(length, base)
			if length*size > api.MaxSize {
				if id != 0 || e != api.ErrSize {
					t.Fatalf("Array(%d) of %d bytes: %d %d", length, size, id, e)
				}
				continue
			}
			if got, want := table.Get(id), (types.Type{Kind: api.KindArray, Len: length, Base: base, Size: length * size}); e != api.OK || id < before || !same(got, want) {
				t.Fatalf("Array(%d) of %d bytes: %d %d, %+v", length, size, id, e, got)
			}
		}
	}
}

// P9.1: the edges of the size, by hand.
func TestArraySizes(t *testing.T) {
	table := types.New()
	is(t, table, array(t, table, 4096, api.Int), types.Type{Kind: api.KindArray, Len: 4096, Base: api.Int, Size: 16384})
	refusesArray(t, table, 4097, api.Int, api.ErrSize)
	refusesArray(t, table, 16384, api.Int, api.ErrSize)
	three := record(t, table, api.Int, api.Bool, api.Char)
	is(t, table, array(t, table, 1365, three), types.Type{Kind: api.KindArray, Len: 1365, Base: three, Size: 16380})
	refusesArray(t, table, 1366, three, api.ErrSize)
	empty := record(t, table)
	is(t, table, array(t, table, 16384, empty), types.Type{Kind: api.KindArray, Len: 16384, Base: empty, Size: 0})
	refusesArray(t, table, 16385, empty, api.ErrSize)
	refusesArray(t, table, 0, empty, api.ErrSize)
}

// P9.1
func TestOpen(t *testing.T) {
	table := types.New()
	for n := range 10 {
		id, e := table.Open()
		if id != 5+n || e != api.OK || table.Len() != 6+n {
			t.Fatalf("%d %d, then %d types", id, e, table.Len())
		}
		is(t, table, id, types.Type{Kind: api.KindRecord, Open: true})
	}
}

// P9.1: of each record there is one pointer, whether it is open or closed.
func TestPointer(t *testing.T) {
	table := types.New()
	var records, pointers []int
	for n := range 5 {
		records = append(records, open(t, table))
		if n%2 == 0 {
			closes(t, table, records[n])
		}
	}
	for _, id := range records {
		pointers = append(pointers, pointer(t, table, id))
	}
	count := table.Len()
	for range 3 {
		for n, id := range records {
			is(t, table, pointers[n], types.Type{Kind: api.KindPointer, Base: id, Size: 4})
			if got, e := table.Pointer(id); got != pointers[n] || e != api.OK {
				t.Errorf("Pointer(%d): %d %d, not %d", id, got, e, pointers[n])
			}
		}
		if table.Len() != count {
			t.Errorf("%d types, not %d", table.Len(), count)
		}
		// Fields and the end of them change nothing.
		table.Field(records[1], "next", pointers[1])
		table.Field(records[1], "other", pointers[0])
		table.Close(records[3])
	}
	is(t, table, records[1], types.Type{Kind: api.KindRecord, Open: true, Size: 8, Fields: []types.Field{{"next", pointers[1], 0}, {"other", pointers[0], 4}}})
}

// P9.1: an array whose elements are a record is no pointer to it.
func TestPointerBesideArray(t *testing.T) {
	table := types.New()
	node := record(t, table, api.Int)
	list := array(t, table, 1, node)
	ref := pointer(t, table, node)
	if ref == list {
		t.Errorf("the pointer is the array %d", list)
	}
	array(t, table, 2, node)
	if got, e := table.Pointer(node); got != ref || e != api.OK {
		t.Errorf("Pointer: %d %d, not %d", got, e, ref)
	}
}

// P9.1
func TestPointerToWrong(t *testing.T) {
	table := types.New()
	list := array(t, table, 3, api.Int)
	node := record(t, table)
	ref := pointer(t, table, node)
	for _, base := range append([]int{api.None, api.Int, api.Bool, api.Char, api.Nil, list, ref, table.Len(), table.Len() + 1}, absent...) {
		refusesPointer(t, table, base, api.ErrType)
	}
}

// P9.2: the chapter's examples, and fields of every kind, one behind the other.
func TestField(t *testing.T) {
	table := types.New()
	list := array(t, table, 3, api.Char)
	inner := record(t, table, api.Int, api.Bool)
	empty := record(t, table)
	node := open(t, table)
	ref := pointer(t, table, node)
	var want []types.Field
	size := 0
	for _, x := range []struct {
		name string
		kind int
		size int
	}{
		{"next", ref, 4}, {"second", api.Int, 4}, {"c", api.Char, 4}, {"", api.Bool, 4}, {"list", list, 12}, {"Next", inner, 8}, {"nothing", empty, 0},
		{" next", ref, 4}, {"next\x00", empty, 0}, {"\xff", list, 12}, {"\u00e4", api.Int, 4}, {strings.Repeat("x", 1000), inner, 8}, {strings.Repeat("x", 1001), api.Int, 4},
	} {
		lacks(t, table, node, x.name, api.ErrUnknown)
		field(t, table, node, x.name, x.kind)
		want = append(want, types.Field{Name: x.name, Type: x.kind, Offset: size})
		size += x.size
		is(t, table, node, types.Type{Kind: api.KindRecord, Open: true, Size: size, Fields: want})
		for _, y := range want {
			finds(t, table, node, y)
			refusesField(t, table, node, y.Name, x.kind, api.ErrTwice)
		}
	}
	closes(t, table, node)
	is(t, table, node, types.Type{Kind: api.KindRecord, Size: size, Fields: want})
	if want[1].Offset != 4 || want[5].Offset != 28 || want[7].Offset != 36 || size != 68 {
		t.Errorf("the first fields are %+v, and all have %d bytes", want[:8], size)
	}
}

// P9.2: what gets no field.
func TestFieldOfWrong(t *testing.T) {
	table := types.New()
	list := array(t, table, 3, api.Int)
	closed := record(t, table, api.Int)
	ref := pointer(t, table, closed)
	node := open(t, table)
	for _, id := range append([]int{api.None, api.Int, api.Bool, api.Char, api.Nil, list, closed, ref, node + 1}, absent...) {
		for _, name := range []string{"a", "b", ""} {
			for _, kind := range []int{api.Int, api.None, api.Nil, node, closed, -1, node + 1} {
				refusesField(t, table, id, name, kind, api.ErrKind)
			}
		}
	}
}

// P9.2: what can't be a field.
func TestFieldOfWrongType(t *testing.T) {
	table := types.New()
	node, other := open(t, table), open(t, table)
	field(t, table, node, "a", api.Int)
	for _, kind := range append([]int{api.None, api.Nil, node, other, other + 1, other + 2}, absent...) {
		for _, name := range []string{"r", "a", ""} {
			refusesField(t, table, node, name, kind, api.ErrType)
		}
	}
	closes(t, table, other)
	field(t, table, node, "r", other)
	closes(t, table, node)
	// A closed record isn't a field of itself either.
	refusesField(t, table, node, "s", node, api.ErrKind)
}

// P9.2: a record that comes to just the greatest size, and to more.
func TestRecordSizes(t *testing.T) {
	for _, size := range []int{0, 4, 8, 12, 4096, 8188, 8192, 8196, 16380, api.MaxSize} {
		table := types.New()
		first, second := sized(t, table, size), sized(t, table, api.MaxSize-size)
		empty := record(t, table)
		whole := open(t, table)
		field(t, table, whole, "a", first)
		if size > 0 {
			refusesField(t, table, whole, "b", sized(t, table, api.MaxSize-size+4), api.ErrSize)
		}
		field(t, table, whole, "b", second)
		want := types.Type{Kind: api.KindRecord, Open: true, Size: api.MaxSize, Fields: []types.Field{{"a", first, 0}, {"b", second, size}}}
		is(t, table, whole, want)
		refusesField(t, table, whole, "c", api.Int, api.ErrSize)
		refusesField(t, table, whole, "b", api.Int, api.ErrTwice)
		// There still is room for what has no bytes.
		field(t, table, whole, "c", empty)
		want.Fields = append(want.Fields, types.Field{Name: "c", Type: empty, Offset: api.MaxSize})
		is(t, table, whole, want)
		closes(t, table, whole)
		want.Open = false
		is(t, table, whole, want)
	}
}

// P9.2: as many fields as there are words, and one more.
func TestManyFields(t *testing.T) {
	table := types.New()
	node := open(t, table)
	var want []types.Field
	for n := range api.MaxSize / 4 {
		name := "f" + strconv.Itoa(n)
		field(t, table, node, name, api.Char)
		want = append(want, types.Field{Name: name, Type: api.Char, Offset: 4 * n})
	}
	refusesField(t, table, node, "f", api.Int, api.ErrSize)
	refusesField(t, table, node, "f4096", api.Int, api.ErrSize)
	refusesField(t, table, node, "f4095", api.Int, api.ErrTwice)
	is(t, table, node, types.Type{Kind: api.KindRecord, Open: true, Size: api.MaxSize, Fields: want})
	for _, x := range want {
		finds(t, table, node, x)
	}
	lacks(t, table, node, "f4096", api.ErrUnknown)
	closes(t, table, node)
	is(t, table, node, types.Type{Kind: api.KindRecord, Size: api.MaxSize, Fields: want})
}

// P9.2: the first check that fails is told.
func TestOrderOfFieldErrors(t *testing.T) {
	table := types.New()
	great := array(t, table, 4096, api.Int)
	closed := record(t, table, api.Int)
	node := open(t, table)
	field(t, table, node, "a", api.Int)
	for _, x := range []struct {
		id   int
		name string
		kind int
		want api.Errno
	}{
		{closed, "a", great, api.ErrKind}, // it has an a, and no room
		{closed, "a", node, api.ErrKind},
		{closed, "b", api.None, api.ErrKind},
		{closed, "a", api.Int, api.ErrKind},
		{closed, "b", great, api.ErrKind},
		{api.Int, "a", api.Nil, api.ErrKind},
		{-1, "a", -1, api.ErrKind},
		{node, "a", node, api.ErrType},
		{node, "a", api.Nil, api.ErrType},
		{node, "a", -1, api.ErrType},
		{node, "a", great, api.ErrTwice},
		{node, "a", api.Int, api.ErrTwice},
		{node, "b", great, api.ErrSize},
	} {
		refusesField(t, table, x.id, x.name, x.kind, x.want)
	}
}

// P9.2
func TestClose(t *testing.T) {
	table := types.New()
	list := array(t, table, 3, api.Int)
	node, other := open(t, table), open(t, table)
	ref := pointer(t, table, node)
	field(t, table, node, "a", ref)
	closes(t, table, node)
	is(t, table, node, types.Type{Kind: api.KindRecord, Size: 4, Fields: []types.Field{{"a", ref, 0}}})
	is(t, table, other, types.Type{Kind: api.KindRecord, Open: true})
	for _, id := range append([]int{api.None, api.Int, api.Bool, api.Char, api.Nil, list, node, ref, table.Len(), table.Len() + 1}, absent...) {
		refusesClose(t, table, id, api.ErrKind)
	}
	refusesField(t, table, node, "b", api.Int, api.ErrKind)
	closes(t, table, other)
	is(t, table, other, types.Type{Kind: api.KindRecord})
	refusesClose(t, table, other, api.ErrKind)
	refusesField(t, table, other, "b", api.Int, api.ErrKind)
}

// P9.2
func TestFind(t *testing.T) {
	table := types.New()
	list := array(t, table, 5, api.Int)
	empty := record(t, table)
	node, other := open(t, table), open(t, table)
	ref := pointer(t, table, node)
	field(t, table, node, "next", ref)
	field(t, table, node, "second", list)
	field(t, table, other, "third", api.Bool)
	field(t, table, node, "third", api.Char)
	for range 2 {
		finds(t, table, node, types.Field{Name: "next", Type: ref, Offset: 0})
		finds(t, table, node, types.Field{Name: "second", Type: list, Offset: 4})
		finds(t, table, node, types.Field{Name: "third", Type: api.Char, Offset: 24})
		finds(t, table, other, types.Field{Name: "third", Type: api.Bool, Offset: 0})
		for _, name := range []string{"", "n", "nex", "nextt", "Next", "NEXT", " next", "next ", "third\x00", "second.next", strings.Repeat("next", 1<<16)} {
			lacks(t, table, node, name, api.ErrUnknown)
			lacks(t, table, other, name, api.ErrUnknown)
			lacks(t, table, empty, name, api.ErrUnknown)
		}
		lacks(t, table, other, "next", api.ErrUnknown)
		// What is no record has no fields, not even those of the record that it points to.
		for _, id := range append([]int{api.None, api.Int, api.Bool, api.Char, api.Nil, list, ref, table.Len(), table.Len() + 1}, absent...) {
			lacks(t, table, id, "next", api.ErrKind)
			lacks(t, table, id, "", api.ErrKind)
		}
		table.Close(node)
		table.Close(other)
	}
}

// zoo returns a table with types of all kinds, numbered as in TestQuestions.
func zoo(t *testing.T) *types.Table {
	t.Helper()
	table := types.New()
	array(t, table, 10, api.Int) // 5
	array(t, table, 10, api.Int) // 6
	open(t, table)               // 7
	record(t, table, api.Int, 5) // 8
	record(t, table)             // 9
	pointer(t, table, 7)         // 10
	pointer(t, table, 8)         // 11
	array(t, table, 3, 10)       // 12
	record(t, table, 10)         // 13
	pointer(t, table, 9)         // 14
	field(t, table, 7, "self", 10)
	return table
}

// P9.3: each type, and each pair of types.
func TestQuestions(t *testing.T) {
	table := zoo(t)
	before := all(table)
	simple := []int{1, 2, 3, 4, 10, 11, 14}
	ordered := []int{1, 3}
	takes := [][2]int{{1, 1}, {2, 2}, {3, 3}, {10, 10}, {11, 11}, {14, 14}, {10, 4}, {11, 4}, {14, 4}}
	equals := append([][2]int{{4, 4}, {4, 10}, {4, 11}, {4, 14}}, takes...)
	var ids []int
	for id := range table.Len() + 2 {
		ids = append(ids, id)
	}
	ids = append(ids, absent...)
	for _, a := range ids {
		if got := table.Simple(a); got != slices.Contains(simple, a) {
			t.Errorf("Simple(%d): %t", a, got)
		}
		if got := table.Ordered(a); got != slices.Contains(ordered, a) {
			t.Errorf("Ordered(%d): %t", a, got)
		}
		for _, b := range ids {
			pair := [2]int{a, b}
			if got := table.Takes(a, b); got != slices.Contains(takes, pair) {
				t.Errorf("Takes(%d, %d): %t", a, b, got)
			}
			if got := table.Equals(a, b); got != slices.Contains(equals, pair) {
				t.Errorf("Equals(%d, %d): %t", a, b, got)
			}
		}
	}
	holds(t, table, before)
}

// full returns a table with as many types as there may be, which are numbered as said; the rest are arrays.
func full(t *testing.T) *types.Table {
	t.Helper()
	table := types.New()
	open(t, table)                 // 5
	pointer(t, table, 5)           // 6
	record(t, table, api.Int)      // 7
	pointer(t, table, 7)           // 8
	open(t, table)                 // 9
	record(t, table, api.Char)     // 10
	array(t, table, 4096, api.Int) // 11
	field(t, table, 5, "a", api.Int)
	field(t, table, 9, "a", api.Int)
	for table.Len() < api.MaxTable {
		array(t, table, table.Len(), api.Int)
	}
	return table
}

// P9.1: the 4096th type is the last one, of whatever kind.
func TestLastType(t *testing.T) {
	for kind, add := range map[int]func(table *types.Table) (int, api.Errno){
		api.KindArray:   func(table *types.Table) (int, api.Errno) { return table.Array(1, api.Bool) },
		api.KindRecord:  func(table *types.Table) (int, api.Errno) { return table.Open() },
		api.KindPointer: func(table *types.Table) (int, api.Errno) { return table.Pointer(5) },
	} {
		table := types.New()
		open(t, table)
		for table.Len() < 4095 {
			array(t, table, 1, api.Int)
		}
		id, e := add(table)
		if id != 4095 || e != api.OK || table.Len() != 4096 || table.Get(4095).Kind != kind {
			t.Errorf("%d %d: %+v, with %d types", id, e, table.Get(id), table.Len())
		}
		refusesArray(t, table, 1, api.Bool, api.ErrCode)
		refuses(t, table, api.ErrCode, table.Open)
		if kind != api.KindPointer {
			refusesPointer(t, table, 5, api.ErrCode)
		}
	}
}

// P9.1, P9.2: with all types there, only what adds one fails for it, and only after all other checks.
func TestFullTable(t *testing.T) {
	table := full(t)
	before := all(table)
	if len(before) != 4096 {
		t.Fatalf("%d types", len(before))
	}
	for _, x := range [][2]int{{5, 6}, {7, 8}} {
		if id, e := table.Pointer(x[0]); id != x[1] || e != api.OK {
			t.Errorf("Pointer(%d): %d %d, not %d", x[0], id, e, x[1])
		}
	}
	holds(t, table, before)
	refuses(t, table, api.ErrCode, table.Open)
	refusesPointer(t, table, 9, api.ErrCode)
	refusesPointer(t, table, 10, api.ErrCode)
	refusesArray(t, table, 1, api.Int, api.ErrCode)
	refusesArray(t, table, 4096, 7, api.ErrCode)
	refusesArray(t, table, 1, 11, api.ErrCode)
	for _, base := range []int{api.None, api.Int, api.Nil, 6, 11, 4095, 4096, -1} {
		refusesPointer(t, table, base, api.ErrType)
	}
	for _, base := range []int{api.None, api.Nil, 5, 9, 4096, -1} {
		refusesArray(t, table, 1, base, api.ErrType)
		refusesArray(t, table, 0, base, api.ErrType)
	}
	for _, length := range slices.Concat(smallLengths, greatLengths, []int{4097, api.MaxSize}) {
		refusesArray(t, table, length, api.Int, api.ErrSize)
	}
	refusesArray(t, table, 2, 11, api.ErrSize)
	// Fields are no types.
	field(t, table, 9, "b", 6)
	finds(t, table, 9, types.Field{Name: "b", Type: 6, Offset: 4})
	closes(t, table, 9)
	before[9] = types.Type{Kind: api.KindRecord, Size: 8, Fields: []types.Field{{"a", api.Int, 0}, {"b", 6, 4}}}
	holds(t, table, before)
	if !table.Takes(6, api.Nil) || !table.Simple(8) || table.Simple(4095) || table.Equals(4095, 4095) || table.Ordered(4095) {
		t.Error("a full table answers otherwise")
	}
}

// P9.1: the order of the checks of Array.
func TestOrderOfArrayErrors(t *testing.T) {
	table := types.New()
	node := open(t, table)
	great := array(t, table, 4096, api.Int)
	refusesArray(t, table, 0, node, api.ErrType)
	refusesArray(t, table, api.MaxSize+1, api.Nil, api.ErrType)
	refusesArray(t, table, math.MaxInt, great+1, api.ErrType)
	refusesArray(t, table, math.MinInt, great, api.ErrSize)
	refusesArray(t, table, math.MaxInt, great, api.ErrSize)
	refusesArray(t, table, 2, great, api.ErrSize)
}

// P2: what Get returned stays, whatever is called later.
func TestGetIsASnapshot(t *testing.T) {
	table := types.New()
	node := open(t, table)
	ref := pointer(t, table, node)
	var seen, want []types.Type
	for n := range 20 {
		seen = append(seen, table.Get(node))
		var fields []types.Field
		for i := range n {
			fields = append(fields, types.Field{Name: letter(i), Type: ref, Offset: 4 * i})
		}
		want = append(want, types.Type{Kind: api.KindRecord, Open: true, Size: 4 * n, Fields: fields})
		field(t, table, node, letter(n), ref)
	}
	closes(t, table, node)
	for n := range want {
		if !same(seen[n], want[n]) {
			t.Errorf("with %d fields it was %+v, not %+v", n, seen[n], want[n])
		}
	}
}

// P2: whoever changes what Get or Find returned, or puts more behind it, changes nothing else.
func TestResultsAreTheCallers(t *testing.T) {
	table := types.New()
	node := open(t, table)
	for n := range 20 {
		one, other := table.Get(node), table.Get(node)
		before := all(table)
		more := append(one.Fields, types.Field{Name: "more", Type: 77, Offset: 88})
		for _, list := range [][]types.Field{one.Fields, more, one.Fields[:cap(one.Fields)]} {
			for i := range list {
				list[i] = types.Field{Name: "changed", Type: -1, Offset: -1}
			}
		}
		one.Kind, one.Len, one.Base, one.Size, one.Open = 99, 99, 99, 99, false
		if !same(other, before[node]) {
			t.Errorf("the other result became %+v", other)
		}
		holds(t, table, before)
		field(t, table, node, letter(n), api.Int)
		got, _ := table.Find(node, letter(n))
		got.Name, got.Type, got.Offset = "", 99, 99
		finds(t, table, node, types.Field{Name: letter(n), Type: api.Int, Offset: 4 * n})
		is(t, table, api.Int, always[api.Int])
	}
}

// P2: a name is copied when it comes in, and when it goes out.
func TestNamesAreCopied(t *testing.T) {
	table := types.New()
	node := open(t, table)
	memory := []byte("name")
	name := unsafe.String(unsafe.SliceData(memory), len(memory))
	field(t, table, node, name, api.Int)
	table.Field(node, name, api.Int)
	table.Find(node, name)
	if string(memory) != "name" {
		t.Errorf("the name became %q", memory)
	}
	copy(memory, "xxxx")
	finds(t, table, node, types.Field{Name: "name", Type: api.Int})
	lacks(t, table, node, "xxxx", api.ErrUnknown)
	is(t, table, node, types.Type{Kind: api.KindRecord, Open: true, Size: 4, Fields: []types.Field{{"name", api.Int, 0}}})
	asked := "name"
	one, _ := table.Find(node, asked)
	other, _ := table.Find(node, asked)
	starts := []*byte{
		unsafe.StringData(asked),
		unsafe.StringData(one.Name),
		unsafe.StringData(other.Name),
		unsafe.StringData(table.Get(node).Fields[0].Name),
		unsafe.StringData(table.Get(node).Fields[0].Name),
	}
	for n, start := range starts {
		if slices.Contains(starts[:n], start) {
			t.Errorf("the name %d shares its memory", n)
		}
	}
}

// P2: what only asks changes nothing.
func TestQuestionsChangeNothing(t *testing.T) {
	table := zoo(t)
	before := all(table)
	for id := -2; id < table.Len()+2; id++ {
		table.Get(id)
		table.Simple(id)
		table.Ordered(id)
		table.Find(id, "a")
		table.Find(id, "none")
		for other := -2; other < table.Len()+2; other++ {
			table.Takes(id, other)
			table.Equals(id, other)
		}
	}
	holds(t, table, before)
	if id, e := table.Open(); id != len(before) || e != api.OK {
		t.Errorf("Open: %d %d", id, e)
	}
}

// P2: two tables have nothing in common, and the same calls give the same results.
func TestTablesAreIndependent(t *testing.T) {
	one, other := types.New(), types.New()
	node := open(t, one)
	field(t, one, node, "a", api.Int)
	array(t, one, 3, api.Int)
	holds(t, other, always)
	open(t, other)
	closes(t, other, node)
	is(t, one, node, types.Type{Kind: api.KindRecord, Open: true, Size: 4, Fields: []types.Field{{"a", api.Int, 0}}})
	is(t, other, node, types.Type{Kind: api.KindRecord})
	holds(t, types.New(), always)
	holds(t, zoo(t), all(zoo(t)))
}

// model tells what a table must answer, in the order of the chapter's sentences; what it keeps is what the types must be.
type model struct {
	list []types.Type
}

func (m *model) get(id int) types.Type {
	if 0 <= id && id < len(m.list) {
		return m.list[id]
	}
	return types.Type{}
}

func (m *model) add(x types.Type) (int, api.Errno) {
	if len(m.list) == api.MaxTable {
		return 0, api.ErrCode
	}
	m.list = append(m.list, x)
	return len(m.list) - 1, api.OK
}

func (m *model) isComplete(id int) bool {
	return 0 <= id && id < len(m.list) && id != api.None && id != api.Nil && !m.list[id].Open
}

func (m *model) array(length, base int) (int, api.Errno) {
	switch {
	case !m.isComplete(base):
		return 0, api.ErrType
	case length < 1, length > api.MaxSize, m.list[base].Size > 0 && length > api.MaxSize/m.list[base].Size:
		return 0, api.ErrSize
	}
	size := 0
	for range length {
		size += m.list[base].Size
	}
	return m.add(types.Type{Kind: api.KindArray, Len: length, Base: base, Size: size})
}

func (m *model) pointer(base int) (int, api.Errno) {
	if m.get(base).Kind != api.KindRecord {
		return 0, api.ErrType
	}
	for id, x := range m.list {
		if x.Kind == api.KindPointer && x.Base == base {
			return id, api.OK
		}
	}
	return m.add(types.Type{Kind: api.KindPointer, Base: base, Size: 4})
}

func (m *model) field(id int, name string, kind int) api.Errno {
	x := m.get(id)
	if x.Kind != api.KindRecord || !x.Open {
		return api.ErrKind
	}
	if !m.isComplete(kind) {
		return api.ErrType
	}
	size := 0
	for _, f := range x.Fields {
		if f.Name == name {
			return api.ErrTwice
		}
		size += m.list[f.Type].Size
	}
	if size+m.list[kind].Size > api.MaxSize {
		return api.ErrSize
	}
	m.list[id].Fields = append(x.Fields, types.Field{Name: name, Type: kind, Offset: size})
	m.list[id].Size = size + m.list[kind].Size
	return api.OK
}

func (m *model) close(id int) api.Errno {
	if x := m.get(id); x.Kind != api.KindRecord || !x.Open {
		return api.ErrKind
	}
	m.list[id].Open = false
	return api.OK
}

func (m *model) find(id int, name string) (types.Field, api.Errno) {
	if m.get(id).Kind != api.KindRecord {
		return types.Field{}, api.ErrKind
	}
	for _, f := range m.list[id].Fields {
		if f.Name == name {
			return f, api.OK
		}
	}
	return types.Field{}, api.ErrUnknown
}

func (m *model) simple(id int) bool {
	return slices.Contains([]int{api.KindInt, api.KindBool, api.KindChar, api.KindNil, api.KindPointer}, m.get(id).Kind)
}

func (m *model) takes(to, from int) bool {
	if to == from && m.simple(to) && to != api.Nil {
		return true
	}
	return m.get(to).Kind == api.KindPointer && from == api.Nil
}

var someNames = []string{"a", "b", "c", "A", "", "ab", "next", "\xff"}

var someLengths = []int{1, 2, 3, 10, 64, 1024, 4095, 4096, 4097, 16383, 16384, 16385, 0, -1, math.MaxInt, 1 << 62}

// step makes one call, told by three bytes, of a table and of its model; false if their answers differ.
func step(table *types.Table, m *model, what, a, b byte) bool {
	id, other := int(int8(a)), int(int8(b))
	name := someNames[int(what)/8%len(someNames)]
	switch what % 8 {
	case 0:
		length := someLengths[int(a)%len(someLengths)]
		x, e := table.Array(length, other)
		y, want := m.array(length, other)
		return x == y && e == want
	case 1:
		x, e := table.Open()
		y, want := m.add(types.Type{Kind: api.KindRecord, Open: true})
		return x == y && e == want
	case 2:
		x, e := table.Pointer(id)
		y, want := m.pointer(id)
		return x == y && e == want
	case 3:
		return table.Close(id) == m.close(id)
	case 4:
		x, e := table.Find(id, name)
		y, want := m.find(id, name)
		return x == y && e == want
	}
	return table.Field(id, name, other) == m.field(id, name, other)
}

// isAsModel makes calls, each told by three bytes, and checks all that the table is and answers then.
func isAsModel(t *testing.T, calls []byte) {
	t.Helper()
	table, m := types.New(), &model{list: slices.Clone(always)}
	for n := 0; n+3 <= len(calls); n += 3 {
		if !step(table, m, calls[n], calls[n+1], calls[n+2]) {
			t.Fatalf("%v: the call %d returned something else", calls, n/3)
		}
	}
	holds(t, table, m.list)
	fitsTogether(t, table)
	last := min(len(m.list), 40)
	for id := -2; id < last+2; id++ {
		kind := m.get(id).Kind
		if table.Simple(id) != m.simple(id) || table.Ordered(id) != (kind == api.KindInt || kind == api.KindChar) {
			t.Errorf("%v: the type %d: %t %t", calls, id, table.Simple(id), table.Ordered(id))
		}
		for other := -2; other < last+2; other++ {
			takes := m.takes(id, other)
			equals := takes || m.takes(other, id) || id == api.Nil && other == api.Nil
			if table.Takes(id, other) != takes || table.Equals(id, other) != equals {
				t.Errorf("%v: the types %d and %d: %t %t", calls, id, other, table.Takes(id, other), table.Equals(id, other))
			}
		}
	}
}

// fitsTogether checks what the fields and the sizes of all types must be.
func fitsTogether(t *testing.T, table *types.Table) {
	t.Helper()
	for id := range table.Len() {
		x := table.Get(id)
		if x.Size < 0 || x.Size > api.MaxSize || x.Size%4 != 0 {
			t.Errorf("the type %d has %d bytes", id, x.Size)
		}
		at := 0
		for _, f := range x.Fields {
			if f.Offset < at {
				t.Errorf("the field %+v of %d overlaps what ends at %d", f, id, at)
			}
			at = f.Offset + table.Get(f.Type).Size
		}
		if x.Kind == api.KindRecord && at != x.Size {
			t.Errorf("the fields of %d end at %d, and its size is %d", id, at, x.Size)
		}
	}
}

// random returns a fixed row of bytes.
func random() func() byte {
	state := uint32(1)
	return func() byte {
		state = state*1664525 + 1013904223
		return byte(state >> 16)
	}
}

// P9.1 to P9.4: long rows of calls, most of them about the first types.
func TestLongRuns(t *testing.T) {
	next := random()
	added, refused := 0, 0
	for n := range 4000 {
		var calls []byte
		for range 1 + n%90 {
			calls = append(calls, next(), next()%32, next()%32)
		}
		if n%4 == 0 {
			calls[int(next())%len(calls)] = next()
		}
		isAsModel(t, calls)
		table, m := types.New(), &model{list: slices.Clone(always)}
		for i := 0; i < len(calls); i += 3 {
			before := table.Len()
			step(table, m, calls[i], calls[i+1], calls[i+2])
			if table.Len() > before {
				added++
			} else {
				refused++
			}
		}
	}
	// The rows would test little if hardly any call had an effect.
	if added < 10000 || refused < 10000 {
		t.Errorf("%d calls added a type, %d did not", added, refused)
	}
}

// P9.4: records that are filled up with whatever fits.
func TestFieldsFillTheirRecord(t *testing.T) {
	next := random()
	for range 200 {
		table := types.New()
		for table.Len() < 20 {
			array(t, table, 1+int(next())*4, api.Int)
		}
		node := open(t, table)
		refused := 0
		for n := 0; refused < 20; n++ {
			if table.Field(node, strconv.Itoa(n), 1+int(next())%19) != api.OK {
				refused++
			}
			fitsTogether(t, table)
		}
		closes(t, table, node)
		fitsTogether(t, table)
		if got := table.Get(node); got.Size < api.MaxSize-4*1024 {
			t.Errorf("the record has %d bytes only", got.Size)
		}
	}
}

// P1
func TestAnyArguments(t *testing.T) {
	ids := append([]int{-3, -1, 0, 1, 2, 3, 4, 5, 7, 8, 9, 10, 12, 13, 14, 15, 16, 20}, absent...)
	lengths := slices.Concat(smallLengths, greatLengths, []int{1, 2, 4096, api.MaxSize})
	long := strings.Repeat("long", 1<<18)
	for _, table := range []*types.Table{types.New(), zoo(t), full(t)} {
		for _, id := range ids {
			for _, length := range lengths {
				table.Array(length, id)
			}
			for _, other := range ids {
				table.Takes(id, other)
				table.Equals(id, other)
				for _, name := range []string{"", "a", "\x00\xff", long} {
					table.Field(id, name, other)
				}
			}
			for _, name := range []string{"", "a", "\x00\xff", long, long + "a"} {
				table.Find(id, name)
			}
			table.Pointer(id)
			table.Open()
			table.Get(id)
			table.Simple(id)
			table.Ordered(id)
			table.Close(id)
		}
		fitsTogether(t, table)
	}
}

// P9.1 to P9.4, P1
func FuzzTable(f *testing.F) {
	f.Add([]byte{})
	f.Add([]byte{1, 0, 0, 2, 5, 0, 13, 5, 6, 21, 5, 1, 13, 5, 1, 29, 5, 5, 3, 5, 0, 3, 5, 0, 0, 3, 5, 4, 5, 0})
	f.Add([]byte{0, 7, 1, 1, 0, 0, 5, 6, 5, 13, 6, 5, 3, 6, 0, 0, 0, 6, 0, 1, 6, 2, 6, 0, 2, 6, 0})
	f.Fuzz(isAsModel)
}
