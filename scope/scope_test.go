package scope_test

import (
	"math"
	"slices"
	"strconv"
	"strings"
	"testing"
	"unsafe"

	"pascaline/api"
	"pascaline/scope"
)

// absent are levels and modules that no Scopes have.
var absent = []int{-1, -2, -64, math.MinInt32, math.MinInt, api.MaxModules + 1, 66, 1 << 16, math.MaxInt32, math.MaxInt32 + 1, 1 << 32, 1<<32 + 1, math.MaxInt - 1, math.MaxInt}

// wrongNames are names that no object can be declared with.
var wrongNames = []string{"", strings.Repeat("a", 33), strings.Repeat("a", 34), strings.Repeat("é", 17), strings.Repeat("x", 1<<16)}

// same reports whether two objects are equal; a list without elements may be nil or not.
func same(a, b scope.Object) bool {
	return a.Name == b.Name && a.Kind == b.Kind && a.Type == b.Type && a.Level == b.Level && a.N == b.N && a.Module == b.Module && a.Out == b.Out && slices.Equal(a.Params, b.Params)
}

func sameExport(a, b api.Export) bool {
	return a.Name == b.Name && a.Kind == b.Kind && a.Type == b.Type && a.Value == b.Value && slices.Equal(a.Params, b.Params)
}

// declares declares an object that must be permitted.
func declares(t *testing.T, s *scope.Scopes, x scope.Object) {
	t.Helper()
	if e := s.Declare(x); e != api.OK {
		t.Fatalf("Declare(%+v): %d", x, e)
	}
}

// names declares objects that have nothing but names.
func names(t *testing.T, s *scope.Scopes, list ...string) {
	t.Helper()
	for _, name := range list {
		declares(t, s, scope.Object{Name: name})
	}
}

func opens(t *testing.T, s *scope.Scopes) {
	t.Helper()
	before := s.Level()
	if e := s.Open(); e != api.OK || s.Level() != before+1 {
		t.Fatalf("Open at level %d: %d, and level %d", before, e, s.Level())
	}
}

func closes(t *testing.T, s *scope.Scopes) {
	t.Helper()
	before := s.Level()
	if e := s.Close(); e != api.OK || s.Level() != before-1 {
		t.Fatalf("Close at level %d: %d, and level %d", before, e, s.Level())
	}
}

func changes(t *testing.T, s *scope.Scopes, level int, x scope.Object) {
	t.Helper()
	if e := s.Change(level, x); e != api.OK {
		t.Fatalf("Change(%d, %+v): %d", level, x, e)
	}
}

// imports fails unless a module is imported with a number.
func imports(t *testing.T, s *scope.Scopes, name string, want int, list ...api.Export) {
	t.Helper()
	if got, e := s.Import(name, list); got != want || e != api.OK {
		t.Fatalf("Import(%q): %d %d, not %d", name, got, e, want)
	}
}

// finds fails unless a name names an object.
func finds(t *testing.T, s *scope.Scopes, want scope.Object) {
	t.Helper()
	if got, e := s.Find(want.Name); !same(got, want) || e != api.OK {
		t.Errorf("Find(%q): %+v %d, not %+v", want.Name, got, e, want)
	}
}

func lacks(t *testing.T, s *scope.Scopes, name string) {
	t.Helper()
	if got, e := s.Find(name); !same(got, scope.Object{}) || got.Params != nil || e != api.ErrUnknown {
		t.Errorf("Find(%q): %+v %d", name, got, e)
	}
}

// has fails unless a module has an object.
func has(t *testing.T, s *scope.Scopes, module int, want scope.Object) {
	t.Helper()
	if got, e := s.Member(module, want.Name); !same(got, want) || e != api.OK {
		t.Errorf("Member(%d, %q): %+v %d, not %+v", module, want.Name, got, e, want)
	}
}

func hasNot(t *testing.T, s *scope.Scopes, module int, name string) {
	t.Helper()
	if got, e := s.Member(module, name); !same(got, scope.Object{}) || got.Params != nil || e != api.ErrUnknown {
		t.Errorf("Member(%d, %q): %+v %d", module, name, got, e)
	}
}

// named fails unless the innermost scope has just some names.
func named(t *testing.T, s *scope.Scopes, want ...string) {
	t.Helper()
	if got := s.Names(); !slices.Equal(got, want) {
		t.Errorf("Names: %q, not %q", got, want)
	}
}

// exported fails unless just so much is exported.
func exported(t *testing.T, s *scope.Scopes, want ...api.Export) {
	t.Helper()
	if got := s.Exports(); !slices.EqualFunc(got, want, sameExport) {
		t.Errorf("Exports: %+v, not %+v", got, want)
	}
}

// P11.1
func TestNew(t *testing.T) {
	s := scope.New()
	if s.Level() != 0 {
		t.Errorf("the level %d", s.Level())
	}
	named(t, s)
	exported(t, s)
	for _, name := range []string{"", "x", "INTEGER", "INDEX"} {
		lacks(t, s, name)
		hasNot(t, s, 0, name)
		hasNot(t, s, 1, name)
	}
	for range 3 {
		if e := s.Close(); e != api.ErrKind || s.Level() != 0 {
			t.Errorf("Close: %d, and level %d", e, s.Level())
		}
	}
	names(t, s, "x")
	opens(t, s)
	closes(t, s)
	finds(t, s, scope.Object{Name: "x"})
}

// P11.1: up to the innermost scope that there can be, and back.
func TestLevels(t *testing.T) {
	s := scope.New()
	for range 2 {
		for level := range 64 {
			if s.Level() != level {
				t.Fatalf("the level %d, not %d", s.Level(), level)
			}
			if e := s.Open(); e != api.OK {
				t.Fatalf("Open at level %d: %d", level, e)
			}
		}
		for range 3 {
			if e := s.Open(); e != api.ErrNested || s.Level() != 64 {
				t.Errorf("Open at level 64: %d, and level %d", e, s.Level())
			}
		}
		closes(t, s)
		opens(t, s)
		if e := s.Open(); e != api.ErrNested {
			t.Errorf("Open once more: %d", e)
		}
		for s.Level() > 0 {
			closes(t, s)
		}
		if e := s.Close(); e != api.ErrKind || s.Level() != 0 {
			t.Errorf("Close at level 0: %d, and level %d", e, s.Level())
		}
	}
}

// P11.1: what can't be opened or closed changes nothing.
func TestRefusedOpenAndClose(t *testing.T) {
	s := scope.New()
	names(t, s, "a", "b")
	if e := s.Close(); e != api.ErrKind {
		t.Errorf("Close: %d", e)
	}
	named(t, s, "a", "b")
	for s.Level() < api.MaxNesting {
		opens(t, s)
	}
	names(t, s, "c", "a")
	if e := s.Open(); e != api.ErrNested {
		t.Errorf("Open: %d", e)
	}
	named(t, s, "c", "a")
	finds(t, s, scope.Object{Name: "a", Level: 64})
	finds(t, s, scope.Object{Name: "b"})
	closes(t, s)
	named(t, s)
	finds(t, s, scope.Object{Name: "a"})
}

// P11.1: a scope that is opened anew has nothing of the one that was closed.
func TestCloseRemovesAll(t *testing.T) {
	s := scope.New()
	names(t, s, "outer")
	for n := range 5 {
		opens(t, s)
		named(t, s)
		lacks(t, s, "inner")
		lacks(t, s, "n"+strconv.Itoa(n-1))
		names(t, s, "inner", "n"+strconv.Itoa(n))
		named(t, s, "inner", "n"+strconv.Itoa(n))
		opens(t, s)
		named(t, s)
		names(t, s, "inner")
		closes(t, s)
		closes(t, s)
		named(t, s, "outer")
		lacks(t, s, "inner")
		lacks(t, s, "n"+strconv.Itoa(n))
		if e := s.Change(1, scope.Object{Name: "inner"}); e != api.ErrUnknown {
			t.Errorf("Change in a closed scope: %d", e)
		}
	}
}

// P11.2: objects of all kinds come out as they went in.
func TestDeclareAndFind(t *testing.T) {
	s := scope.New()
	var all []scope.Object
	for kind := range 10 {
		for _, out := range []bool{false, true} {
			x := scope.Object{Name: "x" + strconv.Itoa(len(all)), Kind: kind, Type: 7 * kind, N: int32(100 - 50*kind), Module: kind % 3, Out: out}
			for n := range kind {
				x.Params = append(x.Params, api.Param{Type: n, Ref: n%2 == 0})
			}
			declares(t, s, x)
			all = append(all, x)
			for _, y := range all {
				finds(t, s, y)
			}
			lacks(t, s, "x"+strconv.Itoa(len(all)))
		}
	}
	// Numbers that mean nothing are kept like all others.
	for _, n := range []int{math.MinInt, -1, math.MaxInt} {
		x := scope.Object{Name: strconv.Itoa(n), Kind: n, Type: n, Module: n, N: int32(n), Params: []api.Param{{Type: n}}}
		declares(t, s, x)
		finds(t, s, x)
	}
}

// P11.2: a name has 1 to 32 bytes, whatever they are.
func TestDeclaredNames(t *testing.T) {
	s := scope.New()
	var all []string
	for _, name := range []string{"a", "A", " ", "\x00", "\xff", "a b", "1", "*", "TRUE", "\n", "é", strings.Repeat("a", 31), strings.Repeat("a", 32), strings.Repeat("é", 16), strings.Repeat("\x00", 32)} {
		names(t, s, name)
		all = append(all, name)
		named(t, s, all...)
		finds(t, s, scope.Object{Name: name})
	}
	for _, name := range wrongNames {
		if e := s.Declare(scope.Object{Name: name}); e != api.ErrName {
			t.Errorf("Declare of a name of %d bytes: %d", len(name), e)
		}
		lacks(t, s, name)
	}
	named(t, s, all...)
}

// P11.2: each scope has its own names.
func TestDeclareTwice(t *testing.T) {
	s := scope.New()
	first := scope.Object{Name: "x", Kind: api.ObjConst, N: 1, Out: true}
	declares(t, s, first)
	for _, again := range []scope.Object{first, {Name: "x"}, {Name: "x", Kind: api.ObjVar, N: 2, Level: 1, Module: 3}} {
		if e := s.Declare(again); e != api.ErrTwice {
			t.Errorf("Declare(%+v): %d", again, e)
		}
		finds(t, s, first)
		named(t, s, "x")
	}
	names(t, s, "X", "xx", "y")
	for level := 1; level <= 3; level++ {
		opens(t, s)
		finds(t, s, scope.Object{Name: "y"})
		x := scope.Object{Name: "x", Kind: api.ObjVar, N: int32(10 * level)}
		declares(t, s, x)
		x.Level = level
		finds(t, s, x)
		if e := s.Declare(scope.Object{Name: "x"}); e != api.ErrTwice {
			t.Errorf("Declare at level %d: %d", level, e)
		}
		finds(t, s, x)
		named(t, s, "x")
	}
}

// P11.2: the level is that of the scope, whatever it came with.
func TestDeclaredLevel(t *testing.T) {
	for _, level := range append([]int{0, 1, 2, 3, 64}, absent...) {
		s := scope.New()
		for at := range 4 {
			name := "x" + strconv.Itoa(at)
			declares(t, s, scope.Object{Name: name, Level: level})
			finds(t, s, scope.Object{Name: name, Level: at})
			opens(t, s)
		}
		for at := range 4 {
			finds(t, s, scope.Object{Name: "x" + strconv.Itoa(at), Level: at})
		}
	}
}

// fill declares as many objects as the innermost scope can have.
func fill(t *testing.T, s *scope.Scopes) []string {
	t.Helper()
	list := s.Names()
	for n := 0; len(list) < 4096; n++ {
		name := "x" + strconv.Itoa(n)
		declares(t, s, scope.Object{Name: name, N: int32(n), Out: true})
		list = append(list, name)
	}
	return list
}

// P11.2: the 4096th object of a scope, and one more; each scope is counted by itself.
func TestFullScope(t *testing.T) {
	s := scope.New()
	for level := range 3 {
		list := fill(t, s)
		if len(s.Names()) != 4096 {
			t.Fatalf("%d names", len(s.Names()))
		}
		for _, x := range []struct {
			name string
			want api.Errno
		}{
			{"y", api.ErrCode},
			{"x4096", api.ErrCode},
			{strings.Repeat("y", 32), api.ErrCode},
			{"x0", api.ErrTwice},
			{"x4095", api.ErrTwice},
			{"", api.ErrName},
			{strings.Repeat("y", 33), api.ErrName},
		} {
			if e := s.Declare(scope.Object{Name: x.name}); e != x.want {
				t.Errorf("Declare(%q) at level %d: %d, not %d", x.name, level, e, x.want)
			}
		}
		if module, e := s.Import("y", nil); module != 0 || e != api.ErrCode {
			t.Errorf("Import at level %d: %d %d", level, module, e)
		}
		hasNot(t, s, 1, "")
		named(t, s, list...)
		lacks(t, s, "y")
		for _, n := range []int{0, 1, 2047, 4094, 4095} {
			finds(t, s, scope.Object{Name: "x" + strconv.Itoa(n), Level: level, N: int32(n), Out: true})
		}
		opens(t, s)
	}
	closes(t, s)
	// Even a full scope can be changed, and there is room again in one that is opened anew.
	changes(t, s, 2, scope.Object{Name: "x7", N: 77})
	finds(t, s, scope.Object{Name: "x7", N: 77, Level: 2})
	closes(t, s)
	opens(t, s)
	names(t, s, "y")
	fill(t, s)
	if e := s.Declare(scope.Object{Name: "z"}); e != api.ErrCode {
		t.Errorf("Declare: %d", e)
	}
	if got := s.Exports(); len(got) != 4096 || got[4095].Name != "x4095" || got[4095].Value != 4095 {
		t.Errorf("%d exports", len(got))
	}
}

// P11.2: a module counts as an object of its scope.
func TestModulesFillTheirScope(t *testing.T) {
	s := scope.New()
	imports(t, s, "M", 1)
	list := fill(t, s)
	if len(list) != 4096 || list[0] != "M" || list[4095] != "x4094" {
		t.Errorf("%q is the last of %d", list[len(list)-1], len(list))
	}
	if e := s.Declare(scope.Object{Name: "M"}); e != api.ErrTwice {
		t.Errorf("Declare: %d", e)
	}
	if n, e := s.Import("M", nil); n != 0 || e != api.ErrTwice {
		t.Errorf("Import: %d %d", n, e)
	}
	if n, e := s.Import("N", nil); n != 0 || e != api.ErrCode {
		t.Errorf("Import: %d %d", n, e)
	}
	opens(t, s)
	imports(t, s, "N", 2)
}

// P11.2: names are compared byte by byte.
func TestFindOfOthers(t *testing.T) {
	s := scope.New()
	names(t, s, "name", "é", "a\x00")
	opens(t, s)
	names(t, s, "inner")
	for _, name := range []string{"", "n", "nam", "names", "Name", "NAME", " name", "name ", "e", "\xc3", "a", "a\x00\x00", "inner.name", strings.Repeat("name", 1<<16)} {
		lacks(t, s, name)
	}
	finds(t, s, scope.Object{Name: "name"})
	finds(t, s, scope.Object{Name: "é"})
	finds(t, s, scope.Object{Name: "a\x00"})
	finds(t, s, scope.Object{Name: "inner", Level: 1})
	closes(t, s)
	lacks(t, s, "inner")
}

// P11.2: Change replaces all of an object but its level, at its place among the others.
func TestChange(t *testing.T) {
	s := scope.New()
	names(t, s, "a", "b", "c")
	for n := range 5 {
		x := scope.Object{Name: "b", Kind: n, Type: n + 1, N: int32(-n), Module: n, Out: n%2 == 1, Params: make([]api.Param, n)}
		x.Level = 40 * n
		changes(t, s, 0, x)
		x.Level = 0
		finds(t, s, x)
		named(t, s, "a", "b", "c")
		finds(t, s, scope.Object{Name: "a"})
		finds(t, s, scope.Object{Name: "c"})
	}
	if e := s.Declare(scope.Object{Name: "b"}); e != api.ErrTwice {
		t.Errorf("Declare: %d", e)
	}
	changes(t, s, 0, scope.Object{Name: "b"})
	finds(t, s, scope.Object{Name: "b"})
}

// P11.2: Change takes the scope of its level, no other one.
func TestChangeOfLevels(t *testing.T) {
	s := scope.New()
	for level := range 4 {
		names(t, s, "x", "only"+strconv.Itoa(level))
		if level < 3 {
			opens(t, s)
		}
	}
	for level := range 4 {
		for _, came := range []int{0, 1, 3, -1, 99} {
			changes(t, s, level, scope.Object{Name: "x", N: int32(10 + level), Level: came})
		}
		changes(t, s, level, scope.Object{Name: "only" + strconv.Itoa(level), N: int32(20 + level), Level: level + 1})
		for other := range 4 {
			if other != level {
				if e := s.Change(other, scope.Object{Name: "only" + strconv.Itoa(level), N: 99}); e != api.ErrUnknown {
					t.Errorf("Change at level %d of what level %d has: %d", other, level, e)
				}
			}
		}
	}
	for level := 3; level >= 0; level-- {
		finds(t, s, scope.Object{Name: "x", N: int32(10 + level), Level: level})
		for other := range level + 1 {
			finds(t, s, scope.Object{Name: "only" + strconv.Itoa(other), N: int32(20 + other), Level: other})
		}
		named(t, s, "x", "only"+strconv.Itoa(level))
		if level > 0 {
			closes(t, s)
		}
	}
}

// P11.2: levels that are not open, and names that are not there.
func TestChangeOfAbsent(t *testing.T) {
	s := scope.New()
	names(t, s, "x")
	for level := range 65 {
		for _, at := range append([]int{level + 1, level + 2}, absent...) {
			if e := s.Change(at, scope.Object{Name: "x", N: 5, Level: level}); e != api.ErrUnknown {
				t.Errorf("Change(%d) at level %d: %d", at, level, e)
			}
		}
		for at := range level + 1 {
			for _, name := range append([]string{"y", "X", "xx"}, wrongNames...) {
				if e := s.Change(at, scope.Object{Name: name, N: 5}); e != api.ErrUnknown {
					t.Errorf("Change(%d) of the name %.40q at level %d: %d", at, name, level, e)
				}
			}
		}
		finds(t, s, scope.Object{Name: "x", Level: level})
		named(t, s, "x")
		lacks(t, s, "y")
		if level < 64 {
			opens(t, s)
			names(t, s, "x")
		}
	}
}

// P11.2: the names are in the order in which they were declared.
func TestNames(t *testing.T) {
	s := scope.New()
	names(t, s, "z", "a", "m")
	imports(t, s, "Math", 1, api.Export{Name: "abs"})
	names(t, s, "b")
	named(t, s, "z", "a", "m", "Math", "b")
	opens(t, s)
	named(t, s)
	names(t, s, "b", "a")
	named(t, s, "b", "a")
	changes(t, s, 0, scope.Object{Name: "z"})
	changes(t, s, 1, scope.Object{Name: "b", Out: true})
	named(t, s, "b", "a")
	closes(t, s)
	named(t, s, "z", "a", "m", "Math", "b")
}

// mathList is what a module of numbers exports.
func mathList() []api.Export {
	return []api.Export{
		{Name: "pi", Kind: api.ObjConst, Type: api.Int, Value: 3},
		{Name: "abs", Kind: api.ObjProc, Type: api.Int, Value: 12, Params: []api.Param{{Type: api.Int}}},
		{Name: "seed", Kind: api.ObjVar, Type: api.Int, Value: 8},
		{Name: "Overflow", Kind: api.ObjExc, Value: 0},
		{Name: "swap", Kind: api.ObjProc, Value: 40, Params: []api.Param{{Type: api.Int, Ref: true}, {Type: api.Char, Ref: true}}},
	}
}

// hasAll fails unless a module has just what it was imported with.
func hasAll(t *testing.T, s *scope.Scopes, module int, list []api.Export) {
	t.Helper()
	for _, x := range list {
		has(t, s, module, scope.Object{Name: x.Name, Kind: x.Kind, Type: x.Type, N: x.Value, Module: module, Params: x.Params})
	}
	for _, name := range []string{"none", "Math", "math", "PI", "ab", "abss"} {
		hasNot(t, s, module, name)
	}
}

// P11.3: the examples of the chapter among others.
func TestImport(t *testing.T) {
	s := scope.New()
	imports(t, s, "Math", 1, mathList()...)
	finds(t, s, scope.Object{Name: "Math", Kind: api.ObjModule, N: 1})
	if e := s.Declare(scope.Object{Name: "Math"}); e != api.ErrTwice {
		t.Errorf("Declare: %d", e)
	}
	if x, e := s.Member(1, "abs"); x.Module != 1 || e != api.OK {
		t.Errorf("Member: %+v %d", x, e)
	}
	hasAll(t, s, 1, mathList())
	// What a module has is not declared by its import.
	named(t, s, "Math")
	lacks(t, s, "abs")
	exported(t, s)
	names(t, s, "abs")
	imports(t, s, "Other", 2, api.Export{Name: "abs", Kind: api.ObjVar, Value: 4})
	hasAll(t, s, 1, mathList())
	has(t, s, 2, scope.Object{Name: "abs", Kind: api.ObjVar, N: 4, Module: 2})
	hasNot(t, s, 2, "pi")
	finds(t, s, scope.Object{Name: "abs"})
	finds(t, s, scope.Object{Name: "Other", Kind: api.ObjModule, N: 2})
	named(t, s, "Math", "abs", "Other")
}

// P11.3: a list may be empty, have a name twice, or names that nothing can be declared with.
func TestImportedLists(t *testing.T) {
	s := scope.New()
	imports(t, s, "None", 1)
	imports(t, s, "Empty", 2, []api.Export{}...)
	imports(t, s, "Twice", 3, api.Export{Name: "x", Value: 1}, api.Export{Name: "y", Value: 2}, api.Export{Name: "x", Value: 3}, api.Export{Name: "y", Value: 4, Kind: 6})
	long := strings.Repeat("l", 33)
	imports(t, s, "Odd", 4, api.Export{Name: "", Value: 5, Kind: -1, Type: -1}, api.Export{Name: long, Value: math.MinInt32, Kind: math.MaxInt}, api.Export{Name: "Odd", Kind: api.ObjModule})
	for _, name := range []string{"x", "y", "", "None", "Empty", "Twice", long} {
		hasNot(t, s, 1, name)
		hasNot(t, s, 2, name)
	}
	has(t, s, 3, scope.Object{Name: "x", N: 1, Module: 3})
	has(t, s, 3, scope.Object{Name: "y", N: 2, Module: 3})
	hasNot(t, s, 3, "")
	has(t, s, 4, scope.Object{Name: "", N: 5, Kind: -1, Type: -1, Module: 4})
	has(t, s, 4, scope.Object{Name: long, N: math.MinInt32, Kind: math.MaxInt, Module: 4})
	has(t, s, 4, scope.Object{Name: "Odd", Kind: api.ObjModule, Module: 4})
	named(t, s, "None", "Empty", "Twice", "Odd")
}

// P11.3: a module may have more objects than a scope.
func TestImportOfManyExports(t *testing.T) {
	s := scope.New()
	var list []api.Export
	for n := range 5000 {
		list = append(list, api.Export{Name: "x" + strconv.Itoa(n), Value: int32(n)})
	}
	imports(t, s, "M", 1, list...)
	for _, n := range []int{0, 4095, 4096, 4999} {
		has(t, s, 1, scope.Object{Name: "x" + strconv.Itoa(n), N: int32(n), Module: 1})
	}
	hasNot(t, s, 1, "x5000")
	names(t, s, "x")
}

// refusesImport fails unless a module can't be imported, and nothing comes of it.
func refusesImport(t *testing.T, s *scope.Scopes, name string, want api.Errno) {
	t.Helper()
	before := s.Names()
	found, known := s.Find(name)
	for range 2 {
		if n, e := s.Import(name, mathList()); n != 0 || e != want {
			t.Errorf("Import(%.40q): %d %d, not %d", name, n, e, want)
		}
	}
	named(t, s, before...)
	if x, e := s.Find(name); !same(x, found) || e != known {
		t.Errorf("Find(%.40q) after a refused import: %+v %d", name, x, e)
	}
}

// P11.3: a name that Declare refuses; what is refused is not counted.
func TestRefusedImports(t *testing.T) {
	s := scope.New()
	names(t, s, "x")
	for _, name := range wrongNames {
		refusesImport(t, s, name, api.ErrName)
	}
	refusesImport(t, s, "x", api.ErrTwice)
	hasNot(t, s, 1, "abs")
	imports(t, s, strings.Repeat("M", 32), 1)
	refusesImport(t, s, strings.Repeat("M", 32), api.ErrTwice)
	hasNot(t, s, 1, "abs")
	hasNot(t, s, 2, "abs")
	imports(t, s, "N", 2, mathList()...)
	hasAll(t, s, 2, mathList())
	finds(t, s, scope.Object{Name: "N", Kind: api.ObjModule, N: 2})
}

// P11.3: the module's name is one of the innermost scope, but the module stays.
func TestImportAtALevel(t *testing.T) {
	s := scope.New()
	imports(t, s, "M", 1, api.Export{Name: "a", Value: 1})
	opens(t, s)
	opens(t, s)
	imports(t, s, "M", 2, api.Export{Name: "a", Value: 2})
	imports(t, s, "N", 3, mathList()...)
	finds(t, s, scope.Object{Name: "M", Kind: api.ObjModule, N: 2, Level: 2})
	finds(t, s, scope.Object{Name: "N", Kind: api.ObjModule, N: 3, Level: 2})
	refusesImport(t, s, "N", api.ErrTwice)
	named(t, s, "M", "N")
	closes(t, s)
	finds(t, s, scope.Object{Name: "M", Kind: api.ObjModule, N: 1})
	lacks(t, s, "N")
	named(t, s)
	hasAll(t, s, 3, mathList())
	has(t, s, 1, scope.Object{Name: "a", N: 1, Module: 1})
	has(t, s, 2, scope.Object{Name: "a", N: 2, Module: 2})
	imports(t, s, "N", 4)
	finds(t, s, scope.Object{Name: "N", Kind: api.ObjModule, N: 4, Level: 1})
	hasNot(t, s, 4, "abs")
}

// P11.3: the 64th module, and one more, whatever its name is.
func TestManyModules(t *testing.T) {
	s := scope.New()
	for n := 1; n <= 64; n++ {
		imports(t, s, "M"+strconv.Itoa(n), n, api.Export{Name: "x", Value: int32(n)})
		if n%20 == 0 {
			opens(t, s)
		}
	}
	refuse := func() {
		for _, name := range append([]string{"M65", "M1", "M64"}, wrongNames...) {
			refusesImport(t, s, name, api.ErrModules)
		}
	}
	refuse()
	for n := 1; n <= 64; n++ {
		has(t, s, n, scope.Object{Name: "x", N: int32(n), Module: n})
		hasNot(t, s, n, "abs")
		finds(t, s, scope.Object{Name: "M" + strconv.Itoa(n), Kind: api.ObjModule, N: int32(n), Level: (n - 1) / 20})
	}
	hasNot(t, s, 65, "x")
	hasNot(t, s, 65, "abs")
	names(t, s, "M65")
	for s.Level() > 0 {
		closes(t, s)
	}
	// The modules of the scopes that were closed are still there.
	refuse()
	opens(t, s)
	fill(t, s)
	refuse()
	has(t, s, 64, scope.Object{Name: "x", N: 64, Module: 64})
}

// P11.3: modules that are not there have nothing.
func TestMemberOfAbsent(t *testing.T) {
	s := scope.New()
	names(t, s, "x", "abs")
	for n := range 4 {
		for _, module := range append([]int{0, n + 1, n + 2, 64}, absent...) {
			for _, name := range []string{"x", "abs", "pi", "", "M0"} {
				hasNot(t, s, module, name)
			}
		}
		imports(t, s, "M"+strconv.Itoa(n), n+1, mathList()...)
		hasNot(t, s, n+1, "x")
		hasNot(t, s, n+1, "")
		hasAll(t, s, n+1, mathList())
	}
}

// P11.3: Change of a module's name doesn't change the module.
func TestChangeOfAModule(t *testing.T) {
	s := scope.New()
	imports(t, s, "Math", 1, mathList()...)
	changes(t, s, 0, scope.Object{Name: "Math", Kind: api.ObjConst, N: 9, Out: true})
	finds(t, s, scope.Object{Name: "Math", Kind: api.ObjConst, N: 9, Out: true})
	hasAll(t, s, 1, mathList())
	exported(t, s, api.Export{Name: "Math", Kind: api.ObjConst, Value: 9})
	imports(t, s, "Other", 2)
	// An object that says of itself that it is of a module isn't one of it.
	declares(t, s, scope.Object{Name: "sqrt", Module: 1})
	hasNot(t, s, 1, "sqrt")
}

// P11.3: what is exported is at level 0 and Out, in order.
func TestExports(t *testing.T) {
	s := scope.New()
	params := []api.Param{{Type: api.Int}, {Type: api.Char, Ref: true}}
	declares(t, s, scope.Object{Name: "z", Kind: api.ObjVar, Type: api.Int, N: 4, Out: true})
	declares(t, s, scope.Object{Name: "hidden", Kind: api.ObjVar, Type: api.Int, N: 8})
	imports(t, s, "Math", 1, mathList()...)
	declares(t, s, scope.Object{Name: "a", Kind: api.ObjProc, Type: api.Bool, N: -12, Out: true, Module: 5, Params: params})
	declares(t, s, scope.Object{Name: "m", Out: true})
	want := []api.Export{
		{Name: "z", Kind: api.ObjVar, Type: api.Int, Value: 4},
		{Name: "a", Kind: api.ObjProc, Type: api.Bool, Value: -12, Params: params},
		{Name: "m"},
	}
	exported(t, s, want...)
	for range 3 {
		opens(t, s)
		exported(t, s, want...)
		declares(t, s, scope.Object{Name: "inner", Kind: api.ObjConst, Out: true})
		declares(t, s, scope.Object{Name: "z", Kind: api.ObjConst, N: 7, Out: true})
		changes(t, s, s.Level(), scope.Object{Name: "inner", N: 5, Out: true})
		exported(t, s, want...)
	}
	// With inner scopes open, the objects of level 0 still change.
	changes(t, s, 0, scope.Object{Name: "hidden", Kind: api.ObjConst, Type: api.Char, N: 65, Out: true})
	changes(t, s, 0, scope.Object{Name: "a", Kind: api.ObjProc, N: 16})
	changes(t, s, 0, scope.Object{Name: "m", N: 1, Params: params[:1], Out: true})
	want = []api.Export{
		{Name: "z", Kind: api.ObjVar, Type: api.Int, Value: 4},
		{Name: "hidden", Kind: api.ObjConst, Type: api.Char, Value: 65},
		{Name: "m", Value: 1, Params: params[:1]},
	}
	exported(t, s, want...)
	for s.Level() > 0 {
		closes(t, s)
		exported(t, s, want...)
	}
	changes(t, s, 0, scope.Object{Name: "a", Kind: api.ObjProc, N: 20, Out: true})
	exported(t, s, want[0], want[1], api.Export{Name: "a", Kind: api.ObjProc, Value: 20}, want[2])
}

// P11.3: what one module exports, another one imports.
func TestExportsAreImported(t *testing.T) {
	one, other := scope.New(), scope.New()
	for _, x := range mathList() {
		declares(t, one, scope.Object{Name: x.Name, Kind: x.Kind, Type: x.Type, N: x.Value, Params: x.Params, Out: true})
	}
	exported(t, one, mathList()...)
	imports(t, other, "Math", 1, one.Exports()...)
	hasAll(t, other, 1, mathList())
}

// P11.4: an inner declaration hides the outer ones until its scope is closed.
func TestHiding(t *testing.T) {
	s := scope.New()
	declares(t, s, scope.Object{Name: "x", N: 100})
	declares(t, s, scope.Object{Name: "y", N: 200})
	opens(t, s)
	finds(t, s, scope.Object{Name: "x", N: 100})
	declares(t, s, scope.Object{Name: "x", N: 101})
	finds(t, s, scope.Object{Name: "x", N: 101, Level: 1})
	finds(t, s, scope.Object{Name: "y", N: 200})
	closes(t, s)
	finds(t, s, scope.Object{Name: "x", N: 100})
	for level := 1; level <= 64; level++ {
		opens(t, s)
		if level%3 == 0 {
			declares(t, s, scope.Object{Name: "x", N: int32(100 + level)})
		}
		if level == 50 {
			imports(t, s, "y", 1)
		}
	}
	for level := 64; level > 0; level-- {
		last := level - level%3
		finds(t, s, scope.Object{Name: "x", N: int32(100 + last), Level: last})
		if level >= 50 {
			finds(t, s, scope.Object{Name: "y", Kind: api.ObjModule, N: 1, Level: 50})
		} else {
			finds(t, s, scope.Object{Name: "y", N: 200})
		}
		closes(t, s)
	}
	finds(t, s, scope.Object{Name: "x", N: 100})
	finds(t, s, scope.Object{Name: "y", N: 200})
}

// P2: what was returned stays, whatever is called later.
func TestResultsStay(t *testing.T) {
	s := scope.New()
	imports(t, s, "Math", 1, mathList()...)
	old := scope.Object{Name: "p", Kind: api.ObjProc, N: 3, Out: true, Params: []api.Param{{Type: api.Int}, {Type: api.Char, Ref: true}}}
	declares(t, s, old)
	found, _ := s.Find("p")
	member, _ := s.Member(1, "swap")
	list, exports := s.Names(), s.Exports()
	changes(t, s, 0, scope.Object{Name: "p", Kind: api.ObjVar, N: 4, Params: []api.Param{{Type: api.Bool}}})
	names(t, s, "q", "r")
	imports(t, s, "More", 2, api.Export{Name: "swap"})
	opens(t, s)
	names(t, s, "Math", "p")
	changes(t, s, 1, scope.Object{Name: "p", N: 5})
	s.Names()
	s.Exports()
	s.Member(1, "abs")
	closes(t, s)
	if !same(found, old) {
		t.Errorf("what Find returned became %+v", found)
	}
	if want := mathList()[4]; !same(member, scope.Object{Name: "swap", Kind: api.ObjProc, N: 40, Module: 1, Params: want.Params}) {
		t.Errorf("what Member returned became %+v", member)
	}
	if !slices.Equal(list, []string{"Math", "p"}) {
		t.Errorf("what Names returned became %q", list)
	}
	if len(exports) != 1 || !sameExport(exports[0], api.Export{Name: "p", Kind: api.ObjProc, Value: 3, Params: old.Params}) {
		t.Errorf("what Exports returned became %+v", exports)
	}
}

// scribble writes into parameters, and into the memory behind them.
func scribble(list []api.Param) {
	more := append(list, api.Param{Type: 77, Ref: true})
	for _, part := range [][]api.Param{list[:cap(list)], more} {
		for i := range part {
			part[i] = api.Param{Type: -99, Ref: !part[i].Ref}
		}
	}
}

// P2: whoever changes what came in, or puts more behind it, changes nothing else.
func TestArgumentsAreTheCallers(t *testing.T) {
	s := scope.New()
	params := func() []api.Param {
		return append(make([]api.Param, 0, 8), api.Param{Type: 1}, api.Param{Type: 3, Ref: true})
	}
	declared, changed, list := params(), params(), mathList()
	declares(t, s, scope.Object{Name: "p", Out: true, Params: declared})
	names(t, s, "q")
	changes(t, s, 0, scope.Object{Name: "q", Out: true, Params: changed})
	shared := params()
	list[0].Params, list[2].Params = shared[:1], shared
	imports(t, s, "Math", 1, list...)
	s.Declare(scope.Object{Name: "p", Params: declared})
	s.Change(5, scope.Object{Name: "q", Params: changed})
	s.Import("Math", list)
	for _, got := range [][]api.Param{declared, changed, shared} {
		if !slices.Equal(got, params()) || slices.ContainsFunc(got[2:cap(got)], func(x api.Param) bool { return x != api.Param{} }) {
			t.Errorf("the parameters that came in became %+v", got[:cap(got)])
		}
		scribble(got)
	}
	scribble(list[1].Params)
	scribble(list[4].Params)
	for i := range list {
		list[i] = api.Export{Name: "changed", Kind: 99, Value: 99}
	}
	want := mathList()
	want[0].Params, want[2].Params = params()[:1], params()
	hasAll(t, s, 1, want)
	hasNot(t, s, 1, "changed")
	finds(t, s, scope.Object{Name: "p", Out: true, Params: params()})
	finds(t, s, scope.Object{Name: "q", Out: true, Params: params()})
	exported(t, s, api.Export{Name: "p", Params: params()}, api.Export{Name: "q", Params: params()})
}

// P2: a list that comes in is not changed, nor the memory behind it.
func TestImportLeavesItsList(t *testing.T) {
	s := scope.New()
	list := append(make([]api.Export, 0, 20), mathList()...)
	for _, name := range []string{"Math", "Math", "", "More"} {
		s.Import(name, list)
		s.Import(name, list[:2])
	}
	if !slices.EqualFunc(list, mathList(), sameExport) {
		t.Errorf("the list became %+v", list)
	}
	for _, x := range list[len(list):cap(list)] {
		if !sameExport(x, api.Export{}) {
			t.Errorf("behind the list is %+v", x)
		}
	}
}

// P2: whoever changes what was returned, or puts more behind it, changes nothing else.
func TestResultsAreTheCallers(t *testing.T) {
	s := scope.New()
	params := []api.Param{{Type: 1}, {Type: 3, Ref: true}}
	declares(t, s, scope.Object{Name: "p", Out: true, Params: params})
	declares(t, s, scope.Object{Name: "q", Out: true, Params: params})
	imports(t, s, "Math", 1, mathList()...)
	for range 3 {
		found, _ := s.Find("p")
		again, _ := s.Find("p")
		member, _ := s.Member(1, "swap")
		memberAgain, _ := s.Member(1, "swap")
		exports, more := s.Exports(), s.Exports()
		list, others := s.Names(), s.Names()
		scribble(found.Params)
		scribble(member.Params)
		scribble(exports[0].Params)
		found.Name, found.N, member.Name = "changed", 99, "changed"
		if !slices.Equal(exports[1].Params, params) {
			t.Errorf("the second export became %+v", exports[1])
		}
		for i := range exports {
			exports[i] = api.Export{Name: "changed"}
		}
		_ = append(list, "more")
		for i := range list {
			list[i] = "changed"
		}
		if !slices.Equal(again.Params, params) || !slices.Equal(memberAgain.Params, mathList()[4].Params) {
			t.Errorf("the other results became %+v and %+v", again, memberAgain)
		}
		want := []api.Export{{Name: "p", Params: params}, {Name: "q", Params: params}}
		if !slices.EqualFunc(more, want, sameExport) || !slices.Equal(others, []string{"p", "q", "Math"}) {
			t.Errorf("the other lists became %+v and %q", more, others)
		}
		finds(t, s, scope.Object{Name: "p", Out: true, Params: params})
		finds(t, s, scope.Object{Name: "q", Out: true, Params: params})
		exported(t, s, want...)
		hasAll(t, s, 1, mathList())
		named(t, s, "p", "q", "Math")
	}
}

// text returns a string whose memory can be changed.
func text(memory []byte) string { return unsafe.String(unsafe.SliceData(memory), len(memory)) }

// P2: names are copied when they come in.
func TestNamesAreCopied(t *testing.T) {
	s := scope.New()
	one, two, three, four := []byte("one"), []byte("two"), []byte("three"), []byte("four")
	names(t, s, text(one), "two")
	changes(t, s, 0, scope.Object{Name: text(two), Out: true, N: 2})
	imports(t, s, text(three), 1, api.Export{Name: text(four)})
	for _, memory := range [][]byte{one, two, three, four} {
		copy(memory, "xxxxx")
	}
	named(t, s, "one", "two", "three")
	finds(t, s, scope.Object{Name: "one"})
	finds(t, s, scope.Object{Name: "two", Out: true, N: 2})
	finds(t, s, scope.Object{Name: "three", Kind: api.ObjModule, N: 1})
	has(t, s, 1, scope.Object{Name: "four", Module: 1})
	exported(t, s, api.Export{Name: "two", Value: 2})
}

// P2: no two names that go out share their memory.
func TestNamesGoOutAsCopies(t *testing.T) {
	s := scope.New()
	asked := "name"
	declares(t, s, scope.Object{Name: asked, Out: true})
	imports(t, s, "Math", 1, api.Export{Name: asked})
	starts := []*byte{unsafe.StringData(asked)}
	for range 2 {
		found, _ := s.Find(asked)
		member, _ := s.Member(1, asked)
		for _, name := range []string{found.Name, member.Name, s.Names()[0], s.Exports()[0].Name} {
			if name != asked {
				t.Errorf("the name %q", name)
			}
			starts = append(starts, unsafe.StringData(name))
		}
	}
	for n, start := range starts {
		if slices.Contains(starts[:n], start) {
			t.Errorf("the name %d shares its memory", n)
		}
	}
}

// P2: two Scopes have nothing in common.
func TestScopesAreIndependent(t *testing.T) {
	one, other := scope.New(), scope.New()
	names(t, one, "a")
	opens(t, one)
	names(t, one, "b")
	imports(t, one, "M", 1, mathList()...)
	named(t, other)
	lacks(t, other, "a")
	hasNot(t, other, 1, "abs")
	if other.Level() != 0 {
		t.Errorf("the level %d", other.Level())
	}
	opens(t, other)
	imports(t, other, "M", 1, api.Export{Name: "c"})
	closes(t, other)
	named(t, one, "b", "M")
	hasAll(t, one, 1, mathList())
	named(t, scope.New())
}

// model tells what Scopes must answer, in the order of the chapter's sentences.
type model struct {
	open    [][]scope.Object
	modules []map[string]scope.Object
}

func newModel() *model { return &model{open: make([][]scope.Object, 1)} }

func (m *model) level() int { return len(m.open) - 1 }

func (m *model) openOne() api.Errno {
	if m.level() >= 64 {
		return api.ErrNested
	}
	m.open = append(m.open, nil)
	return api.OK
}

func (m *model) closeOne() api.Errno {
	if m.level() == 0 {
		return api.ErrKind
	}
	m.open = m.open[:m.level()]
	return api.OK
}

func (m *model) declare(x scope.Object) api.Errno {
	if len(x.Name) < 1 || len(x.Name) > 32 {
		return api.ErrName
	}
	for _, y := range m.open[m.level()] {
		if y.Name == x.Name {
			return api.ErrTwice
		}
	}
	if len(m.open[m.level()]) >= 4096 {
		return api.ErrCode
	}
	x.Level = m.level()
	m.open[m.level()] = append(m.open[m.level()], x)
	return api.OK
}

func (m *model) find(name string) (scope.Object, api.Errno) {
	found, e := scope.Object{}, api.ErrUnknown
	for _, list := range m.open {
		for _, x := range list {
			if x.Name == name {
				found, e = x, api.OK
			}
		}
	}
	return found, e
}

func (m *model) change(level int, x scope.Object) api.Errno {
	if level < 0 || level >= len(m.open) {
		return api.ErrUnknown
	}
	for n, y := range m.open[level] {
		if y.Name == x.Name {
			x.Level = level
			m.open[level][n] = x
			return api.OK
		}
	}
	return api.ErrUnknown
}

func (m *model) importOne(name string, list []api.Export) (int, api.Errno) {
	number := len(m.modules) + 1
	if number > 64 {
		return 0, api.ErrModules
	}
	if e := m.declare(scope.Object{Name: name, Kind: api.ObjModule, N: int32(number)}); e != api.OK {
		return 0, e
	}
	objects := map[string]scope.Object{}
	for _, x := range slices.Backward(list) {
		objects[x.Name] = scope.Object{Name: x.Name, Kind: x.Kind, Type: x.Type, N: x.Value, Module: number, Params: x.Params}
	}
	m.modules = append(m.modules, objects)
	return number, api.OK
}

func (m *model) member(module int, name string) (scope.Object, api.Errno) {
	if module >= 1 && module <= len(m.modules) {
		if x, ok := m.modules[module-1][name]; ok {
			return x, api.OK
		}
	}
	return scope.Object{}, api.ErrUnknown
}

func (m *model) exports() []api.Export {
	var list []api.Export
	for _, x := range m.open[0] {
		if x.Out {
			list = append(list, api.Export{Name: x.Name, Kind: x.Kind, Type: x.Type, Value: x.N, Params: x.Params})
		}
	}
	return list
}

func (m *model) names() []string {
	var list []string
	for _, x := range m.open[m.level()] {
		list = append(list, x.Name)
	}
	return list
}

var someNames = []string{"a", "b", "c", "A", "ab", "é", "x1", strings.Repeat("n", 32), "", strings.Repeat("n", 33)}

// object is one that two bytes tell.
func object(a, b byte) scope.Object {
	return scope.Object{
		Name:   someNames[int(a)%len(someNames)],
		Kind:   int(b) % 9,
		Type:   int(b) % 5,
		Level:  int(int8(a)) / 4,
		N:      int32(int8(b)) << (a % 25),
		Module: int(a) % 3,
		Out:    b%2 == 0,
		Params: make([]api.Param, b%4),
	}
}

// exportList is one that two bytes tell, with a name twice now and then.
func exportList(a, b byte) []api.Export {
	var list []api.Export
	for n := range int(b % 5) {
		x := object(a+byte(n)*b, b+byte(n))
		list = append(list, api.Export{Name: x.Name, Kind: x.Kind, Type: x.Type, Value: x.N, Params: x.Params})
	}
	return list
}

// step makes one call, told by three bytes, of Scopes and of their model; false if their answers differ.
func step(s *scope.Scopes, m *model, what, a, b byte) bool {
	name := someNames[int(a)%len(someNames)]
	switch what % 12 {
	case 0, 1:
		return s.Open() == m.openOne()
	case 2:
		return s.Close() == m.closeOne()
	case 3, 4:
		level := int(b) % (m.level() + 3)
		return s.Change(level-1, object(a, b)) == m.change(level-1, object(a, b))
	case 5, 6:
		x, e := s.Import(name, exportList(a, b))
		y, want := m.importOne(name, exportList(a, b))
		return x == y && e == want
	}
	return s.Declare(object(a, b)) == m.declare(object(a, b))
}

// agrees checks all that Scopes answer without being changed.
func agrees(t *testing.T, s *scope.Scopes, m *model) {
	t.Helper()
	if s.Level() != m.level() {
		t.Fatalf("the level %d, not %d", s.Level(), m.level())
	}
	named(t, s, m.names()...)
	exported(t, s, m.exports()...)
	for _, name := range someNames {
		if want, e := m.find(name); e == api.OK {
			finds(t, s, want)
		} else {
			lacks(t, s, name)
		}
		for module := -1; module < len(m.modules)+3; module++ {
			if want, e := m.member(module, name); e == api.OK {
				has(t, s, module, want)
			} else {
				hasNot(t, s, module, name)
			}
		}
	}
}

// isAsModel makes calls, each told by three bytes, checks all that the Scopes answer then, and closes scope after scope.
func isAsModel(t *testing.T, calls []byte) {
	t.Helper()
	s, m := scope.New(), newModel()
	for n := 0; n+3 <= len(calls); n += 3 {
		if !step(s, m, calls[n], calls[n+1], calls[n+2]) {
			t.Fatalf("%v: the call %d returned something else", calls, n/3)
		}
		if n%15 == 0 {
			agrees(t, s, m)
		}
	}
	for {
		agrees(t, s, m)
		e := s.Close()
		if want := m.closeOne(); e != want {
			t.Fatalf("%v: Close: %d, not %d", calls, e, want)
		}
		if e != api.OK {
			return
		}
	}
}

// random returns a fixed row of bytes.
func random() func() byte {
	state := uint32(1)
	return func() byte {
		state = state*1664525 + 1013904223
		return byte(state >> 16)
	}
}

// P11.1 to P11.4: long rows of calls.
func TestLongRuns(t *testing.T) {
	next := random()
	for n := range 1500 {
		var calls []byte
		for range 1 + n%300 {
			calls = append(calls, next(), next(), next())
		}
		isAsModel(t, calls)
	}
}

// P2: a call that returns an error leaves all as it was, also in the outer scopes.
func TestErrorsChangeNothing(t *testing.T) {
	next := random()
	refused := map[api.Errno]int{}
	for n := range 300 {
		s, m := scope.New(), newModel()
		for range n {
			step(s, m, next(), next(), next())
		}
		for _, name := range someNames {
			for level := -1; level < m.level()+2; level++ {
				x := scope.Object{Name: name, N: 12345, Kind: 99, Out: true}
				if _, e := m.find(name); e == api.ErrUnknown || level < 0 || level > m.level() {
					refused[s.Change(level, x)]++
				}
			}
			if slices.Contains(m.names(), name) || name == "" || len(name) > 32 {
				refused[s.Declare(scope.Object{Name: name, N: 12345, Out: true})]++
				_, e := s.Import(name, mathList())
				refused[e]++
			}
		}
		for {
			agrees(t, s, m)
			s.Close()
			if m.closeOne() != api.OK {
				break
			}
		}
	}
	if refused[api.OK] > 0 || refused[api.ErrUnknown] == 0 || refused[api.ErrTwice] == 0 || refused[api.ErrName] == 0 {
		t.Errorf("so many calls returned these errors: %v", refused)
	}
}

// P2: what only asks changes nothing.
func TestQuestionsChangeNothing(t *testing.T) {
	next := random()
	for n := range 100 {
		s, m := scope.New(), newModel()
		for range n {
			step(s, m, next(), next(), next())
			s.Level()
			s.Names()
			s.Exports()
			s.Find(someNames[int(next())%len(someNames)])
			s.Member(int(next())%70-2, someNames[int(next())%len(someNames)])
		}
		agrees(t, s, m)
		agrees(t, s, m)
	}
}

// P1
func TestAnyArguments(t *testing.T) {
	long := strings.Repeat("long", 1<<18)
	texts := []string{"", "a", "\x00\xff", strings.Repeat("a", 32), strings.Repeat("a", 33), long}
	numbers := append([]int{0, 1, 2, 3, 63, 64, 65}, absent...)
	for depth := range 67 {
		s := scope.New()
		for range depth {
			s.Open()
			s.Declare(scope.Object{Name: "a"})
		}
		for _, name := range texts {
			for _, n := range numbers {
				x := scope.Object{Name: name, Kind: n, Type: n, Level: n, N: int32(n), Module: n, Out: true, Params: make([]api.Param, 20)}
				s.Declare(x)
				s.Change(n, x)
				s.Member(n, name)
				s.Import(name+strconv.Itoa(n), []api.Export{{Name: name, Kind: n, Type: n, Value: int32(n)}, {}})
			}
			s.Find(name)
			s.Import(name, nil)
		}
		s.Names()
		s.Exports()
		for range depth + 2 {
			s.Close()
		}
		if s.Level() != 0 {
			t.Errorf("the level %d", s.Level())
		}
	}
}

// P11.1 to P11.4, P1
func FuzzScopes(f *testing.F) {
	f.Add([]byte{})
	f.Add([]byte{7, 0, 0, 0, 0, 0, 7, 0, 1, 3, 0, 1, 2, 0, 0})
	f.Add([]byte{5, 1, 4, 0, 0, 0, 5, 1, 3, 7, 2, 2, 3, 2, 6, 2, 0, 0, 2, 0, 0})
	f.Fuzz(func(t *testing.T, calls []byte) { isAsModel(t, calls[:min(len(calls), 900)]) })
}
