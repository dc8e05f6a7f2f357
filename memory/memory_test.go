package memory_test

import (
	"math"
	"slices"
	"testing"

	"pascaline/api"
	"pascaline/memory"
)

const end = api.MaxImage

var example = memory.Layout{Code: 8, Tables: 16, Data: 32, Heap: 64, Stack: 128}

// layouts are valid ones: with every part filled, with empty parts, with nothing at all, with the greatest end.
var layouts = []memory.Layout{
	example,
	{Code: 4, Tables: 8, Data: 12, Heap: 16, Stack: 20},
	{},
	{Code: 16, Tables: 16, Data: 16, Heap: 16, Stack: 16},
	{Tables: 16, Data: 16, Heap: 16, Stack: 16},
	{Data: 16, Heap: 16, Stack: 16},
	{Heap: 16, Stack: 16},
	{Stack: 16},
	{Code: 8, Tables: 8, Data: 24, Heap: 24, Stack: 40},
	{Tables: 8, Data: 8, Heap: 40, Stack: 40},
	{Code: 8, Tables: 8, Data: 8, Heap: 8, Stack: 32},
	{Code: 4, Tables: 20, Data: 20, Heap: 20, Stack: 20},
}

// great are valid layouts of as many words as there may be.
var great = []memory.Layout{
	{Stack: end},
	{Code: end, Tables: end, Data: end, Heap: end, Stack: end},
	{Code: 1 << 16, Tables: 1 << 17, Data: 1 << 18, Heap: 1 << 19, Stack: end},
	{Code: 4, Tables: 8, Data: 12, Heap: 16, Stack: end},
}

var wrong = []memory.Layout{
	{Code: 12, Tables: 8, Data: 16, Heap: 32, Stack: 64},
	{Code: 4, Tables: 16, Data: 12, Heap: 32, Stack: 64},
	{Code: 4, Tables: 8, Data: 36, Heap: 32, Stack: 64},
	{Code: 4, Tables: 8, Data: 16, Heap: 68, Stack: 64},
	{Code: 4},
	{Heap: 4},
	{Code: 1, Tables: 8, Data: 16, Heap: 32, Stack: 64},
	{Code: 4, Tables: 6, Data: 16, Heap: 32, Stack: 64},
	{Code: 4, Tables: 8, Data: 15, Heap: 32, Stack: 64},
	{Code: 4, Tables: 8, Data: 16, Heap: 30, Stack: 64},
	{Code: 4, Tables: 8, Data: 16, Heap: 32, Stack: 65},
	{Stack: 1},
	{Stack: end + 4},
	{Heap: end + 4, Stack: end + 4},
	{Code: end + 4, Tables: end + 4, Data: end + 4, Heap: end + 4, Stack: end + 4},
	{Stack: end + 1},
	{Stack: end - 1},
	{Stack: 1 << 31},
	{Stack: math.MaxUint32},
	{Stack: math.MaxUint32 - 3},
	{Code: math.MaxUint32 - 3, Tables: 8, Data: 16, Heap: 32, Stack: 64},
}

// farAddresses lie beyond any small memory.
var farAddresses = []uint32{end - 4, end - 1, end, end + 1, end + 4, 1 << 30, 1<<31 - 4, 1 << 31, 1<<31 + 8, math.MaxUint32 - 7, math.MaxUint32 - 3, math.MaxUint32 - 1, math.MaxUint32}

// list returns the ends of a layout in their order.
func list(l memory.Layout) []uint32 { return []uint32{l.Code, l.Tables, l.Data, l.Heap, l.Stack} }

// made returns a memory that must be there.
func made(t *testing.T, l memory.Layout) *memory.Mem {
	t.Helper()
	m, e := memory.New(l)
	if e != api.OK || m == nil {
		t.Fatalf("New(%v): %v %d", l, m, e)
	}
	return m
}

// filled returns a memory whose words are all different from each other and from 0, and the words.
func filled(t *testing.T, l memory.Layout) (*memory.Mem, []uint32) {
	t.Helper()
	words := make([]uint32, l.Stack/4)
	for i := range words {
		words[i] = uint32(i) + 0x80000001
	}
	m := made(t, l)
	if e := m.Fill(0, words...); e != api.OK {
		t.Fatalf("%v: Fill of the whole: %d", l, e)
	}
	return m, words
}

// holds fails unless the memory has just this layout and these words.
func holds(t *testing.T, m *memory.Mem, l memory.Layout, words []uint32) {
	t.Helper()
	if got := m.Layout(); got != l {
		t.Fatalf("Layout: %v, not %v", got, l)
	}
	for i, w := range words {
		if got, e := m.Load(uint32(4 * i)); got != w || e != api.OK {
			t.Fatalf("%v: Load(%d): %#x %d, not %#x", l, 4*i, got, e, w)
		}
	}
	if got, e := m.Load(uint32(4 * len(words))); got != 0 || e != api.ErrPlace {
		t.Fatalf("%v: Load(%d), the end: %#x %d", l, 4*len(words), got, e)
	}
}

// addresses returns all addresses of a small memory and behind it, and far ones.
func addresses(l memory.Layout) []uint32 {
	var all []uint32
	for at := range l.Stack + 20 {
		all = append(all, at)
	}
	return append(all, farAddresses...)
}

// edges returns the addresses around the ends of the parts, and far ones.
func edges(l memory.Layout) []uint32 {
	all := []uint32{0, 1, 2, 3, 4}
	for _, e := range list(l) {
		for d := range uint32(10) {
			all = append(all, e-5+d) // below 0 they become far ones
		}
	}
	return append(all, farAddresses...)
}

func TestParts(t *testing.T) {
	got := []int{memory.Code, memory.Tables, memory.Data, memory.Heap, memory.Stack, memory.Out}
	if !slices.Equal(got, []int{0, 1, 2, 3, 4, 5}) {
		t.Errorf("the parts are %v", got)
	}
}

// P3.1
func TestRight(t *testing.T) {
	for _, l := range slices.Concat(layouts, great) {
		if !memory.Right(l) {
			t.Errorf("Right(%v): false", l)
		}
	}
	for _, l := range wrong {
		if memory.Right(l) {
			t.Errorf("Right(%v): true", l)
		}
	}
}

// valid says of five ends what the chapter says of a layout.
func valid(a, b, c, d, e uint32) bool {
	increasing := a <= b && b <= c && c <= d && d <= e
	whole := (a|b|c|d|e)&3 == 0
	return increasing && whole && max(a, b, c, d, e) <= 1048576
}

// P3.1
func TestRightOfAll(t *testing.T) {
	some := []uint32{0, 1, 2, 4, 7, 8, 1048572, 1048576, 1048578, 1048580, 1 << 31, math.MaxUint32 - 3, math.MaxUint32}
	for _, a := range some {
		for _, b := range some {
			for _, c := range some {
				for _, d := range some {
					for _, e := range some {
						l := memory.Layout{Code: a, Tables: b, Data: c, Heap: d, Stack: e}
						if got, want := memory.Right(l), valid(a, b, c, d, e); got != want {
							t.Fatalf("Right(%v): %v", l, got)
						}
					}
				}
			}
		}
	}
}

// P3.1
func TestNew(t *testing.T) {
	for _, l := range slices.Concat(layouts, great) {
		m := made(t, l)
		holds(t, m, l, make([]uint32, l.Stack/4))
		for part := memory.Code; part <= memory.Stack; part++ {
			if got := m.Used(part); got != 0 {
				t.Errorf("New(%v): %d words of part %d are not 0", l, got, part)
			}
		}
	}
}

// P3.1
func TestNewOfWrong(t *testing.T) {
	for _, l := range wrong {
		if m, e := memory.New(l); m != nil || e != api.ErrLayout {
			t.Errorf("New(%v): %v %d", l, m, e)
		}
	}
}

// P3.1: two memories of one layout are two.
func TestNewIsNew(t *testing.T) {
	a, words := filled(t, example)
	b := made(t, example)
	holds(t, b, example, make([]uint32, 32))
	b.Store(64, 7)
	b.Fill(0, 1, 2, 3)
	holds(t, a, example, words)
}

// P3.1
func TestLayoutStays(t *testing.T) {
	for _, l := range layouts {
		m, _ := filled(t, l)
		kept := m.Layout()
		kept.Code, kept.Stack = 1, 3
		m.Store(l.Stack-4, 9)
		m.Store(l.Stack, 9)
		if got := m.Layout(); got != l {
			t.Errorf("Layout: %v, not %v", got, l)
		}
	}
}

// P3.1
func TestPart(t *testing.T) {
	tests := []struct {
		l    memory.Layout
		at   uint32
		want int
	}{
		{example, 0, memory.Code},
		{example, 3, memory.Code},
		{example, 7, memory.Code},
		{example, 8, memory.Tables},
		{example, 15, memory.Tables},
		{example, 16, memory.Data},
		{example, 31, memory.Data},
		{example, 32, memory.Heap},
		{example, 63, memory.Heap},
		{example, 64, memory.Stack},
		{example, 127, memory.Stack},
		{example, 128, memory.Out},
		{example, 129, memory.Out},
		{example, math.MaxUint32, memory.Out},
		{memory.Layout{}, 0, memory.Out},
		{memory.Layout{}, math.MaxUint32, memory.Out},
		{memory.Layout{Stack: 16}, 0, memory.Stack},
		{memory.Layout{Heap: 16, Stack: 16}, 15, memory.Heap},
		{memory.Layout{Heap: 16, Stack: 16}, 16, memory.Out},
		{memory.Layout{Code: 8, Tables: 8, Data: 24, Heap: 24, Stack: 40}, 8, memory.Data},
		{memory.Layout{Code: 8, Tables: 8, Data: 24, Heap: 24, Stack: 40}, 24, memory.Stack},
		{memory.Layout{Code: 8, Tables: 8, Data: 24, Heap: 24, Stack: 40}, 40, memory.Out},
		{memory.Layout{Code: end, Tables: end, Data: end, Heap: end, Stack: end}, end - 1, memory.Code},
		{memory.Layout{Code: end, Tables: end, Data: end, Heap: end, Stack: end}, end, memory.Out},
	}
	for _, x := range tests {
		if got := made(t, x.l).Part(x.at); got != x.want {
			t.Errorf("%v: Part(%d): %d, not %d", x.l, x.at, got, x.want)
		}
	}
}

// partOf returns what the chapter says of Part.
func partOf(l memory.Layout, at uint32) int {
	part := slices.IndexFunc(list(l), func(e uint32) bool { return e > at })
	if part < 0 {
		return memory.Out
	}
	return part
}

// P3.1
func TestPartOfAll(t *testing.T) {
	for _, l := range slices.Concat(layouts, great) {
		m := made(t, l)
		for _, at := range edges(l) {
			if got, want := m.Part(at), partOf(l, at); got != want {
				t.Errorf("%v: Part(%d): %d, not %d", l, at, got, want)
			}
		}
	}
}

// loadError, storeError and fetchError return what the chapter says of the errors.
func loadError(l memory.Layout, at uint32) api.Errno {
	switch {
	case at%4 != 0:
		return api.ErrAlign
	case at >= l.Stack:
		return api.ErrPlace
	}
	return api.OK
}

func storeError(l memory.Layout, at uint32) api.Errno {
	if e := loadError(l, at); e != api.OK {
		return e
	}
	if at < l.Tables {
		return api.ErrWrite
	}
	return api.OK
}

func fetchError(l memory.Layout, at uint32) api.Errno {
	if e := loadError(l, at); e != api.OK {
		return e
	}
	if at >= l.Code {
		return api.ErrPlace
	}
	return api.OK
}

// P3.2
func TestLoadAndFetch(t *testing.T) {
	for _, l := range layouts {
		m, words := filled(t, l)
		for _, at := range addresses(l) {
			want := uint32(0)
			e := loadError(l, at)
			if e == api.OK {
				want = words[at/4]
			}
			if got, ge := m.Load(at); got != want || ge != e {
				t.Errorf("%v: Load(%d): %#x %d, not %#x %d", l, at, got, ge, want, e)
			}
			if e = fetchError(l, at); e != api.OK {
				want = 0
			}
			if got, ge := m.Fetch(at); got != want || ge != e {
				t.Errorf("%v: Fetch(%d): %#x %d, not %#x %d", l, at, got, ge, want, e)
			}
		}
		holds(t, m, l, words)
	}
}

// P3.2: after each Store the whole memory is looked at.
func TestStore(t *testing.T) {
	for _, l := range layouts {
		m, words := filled(t, l)
		for n, at := range addresses(l) {
			w := uint32(n) * 0x01000193
			e := storeError(l, at)
			if e == api.OK {
				words[at/4] = w
			}
			if got := m.Store(at, w); got != e {
				t.Errorf("%v: Store(%d): %d, not %d", l, at, got, e)
			}
			holds(t, m, l, words)
		}
	}
}

// P3.2: the chapter's examples, and the edges by hand.
func TestExamples(t *testing.T) {
	m := made(t, example)
	stores := []struct {
		at   uint32
		want api.Errno
	}{
		{30, api.ErrAlign},
		{12, api.ErrWrite},
		{0, api.ErrWrite},
		{4, api.ErrWrite},
		{8, api.ErrWrite},
		{16, api.OK},
		{28, api.OK},
		{32, api.OK},
		{64, api.OK},
		{124, api.OK},
		{128, api.ErrPlace},
		{132, api.ErrPlace},
		{1, api.ErrAlign},
		{129, api.ErrAlign},
		{math.MaxUint32, api.ErrAlign},
		{math.MaxUint32 - 3, api.ErrPlace},
	}
	for _, x := range stores {
		if got := m.Store(x.at, 5); got != x.want {
			t.Errorf("Store(%d, 5): %d, not %d", x.at, got, x.want)
		}
	}
	if got := m.Part(64); got != memory.Stack {
		t.Errorf("Part(64): %d", got)
	}
	m = made(t, memory.Layout{Code: 4, Tables: 8, Data: 8, Heap: 8, Stack: 8})
	fetches := []struct {
		at   uint32
		want api.Errno
	}{
		{0, api.OK},
		{1, api.ErrAlign},
		{4, api.ErrPlace},
		{5, api.ErrAlign},
		{8, api.ErrPlace},
		{math.MaxUint32, api.ErrAlign},
		{math.MaxUint32 - 3, api.ErrPlace},
	}
	for _, x := range fetches {
		if w, e := m.Fetch(x.at); w != 0 || e != x.want {
			t.Errorf("Fetch(%d): %#x %d, not %d", x.at, w, e, x.want)
		}
	}
}

// P3.2, P3.3: the edges of a memory of as many bytes as there may be.
func TestGreat(t *testing.T) {
	for _, l := range great {
		m, words := filled(t, l)
		for _, at := range edges(l) {
			want := uint32(0)
			e := loadError(l, at)
			if e == api.OK {
				want = words[at/4]
			}
			if got, ge := m.Load(at); got != want || ge != e {
				t.Errorf("%v: Load(%d): %#x %d, not %#x %d", l, at, got, ge, want, e)
			}
			if _, ge := m.Fetch(at); ge != fetchError(l, at) {
				t.Errorf("%v: Fetch(%d): %d", l, at, ge)
			}
			if got, want := m.Store(at, 1), storeError(l, at); got != want {
				t.Errorf("%v: Store(%d, 1): %d, not %d", l, at, got, want)
			} else if got == api.OK {
				words[at/4] = 1
			}
		}
		if got := m.Fill(end-8, 5, 6); got != api.OK {
			t.Errorf("%v: Fill of the last two words: %d", l, got)
		}
		words[len(words)-2], words[len(words)-1] = 5, 6
		if got := m.Fill(end-8, 7, 8, 9); got != api.ErrPlace {
			t.Errorf("%v: Fill of one word more than the last two: %d", l, got)
		}
		if got := m.Fill(0, make([]uint32, end/4+1)...); got != api.ErrPlace {
			t.Errorf("%v: Fill of one word more than there are: %d", l, got)
		}
		holds(t, m, l, words)
	}
}

// P3.3
func TestFill(t *testing.T) {
	tests := []struct {
		at   uint32
		list []uint32
		want api.Errno
	}{
		{0, nil, api.OK},
		{0, []uint32{}, api.OK},
		{0, []uint32{1}, api.OK},
		{0, []uint32{1, 2, 3, 4, 5, 6}, api.OK},
		{4, []uint32{0, math.MaxUint32, 0}, api.OK},
		{8, []uint32{1, 2}, api.OK},
		{12, []uint32{1}, api.OK},
		{28, []uint32{1, 2}, api.OK},
		{60, []uint32{3, 4, 5}, api.OK},
		{0, make([]uint32, 32), api.OK},
		{4, make([]uint32, 31), api.OK},
		{124, []uint32{1}, api.OK},
		{120, []uint32{1, 2}, api.OK},
		{124, nil, api.OK},
		{128, nil, api.OK},
		{128, []uint32{}, api.OK},
		{128, []uint32{1}, api.ErrPlace},
		{124, []uint32{1, 2}, api.ErrPlace},
		{120, []uint32{1, 2, 3}, api.ErrPlace},
		{0, make([]uint32, 33), api.ErrPlace},
		{4, make([]uint32, 32), api.ErrPlace},
		{0, make([]uint32, 1000), api.ErrPlace},
		{132, nil, api.ErrPlace},
		{132, []uint32{1}, api.ErrPlace},
		{end, nil, api.ErrPlace},
		{1 << 31, nil, api.ErrPlace},
		{1 << 31, []uint32{1}, api.ErrPlace},
		{math.MaxUint32 - 3, nil, api.ErrPlace},
		{math.MaxUint32 - 3, []uint32{1}, api.ErrPlace},
		{math.MaxUint32 - 3, []uint32{1, 2, 3}, api.ErrPlace},
		{1, nil, api.ErrAlign},
		{2, []uint32{1}, api.ErrAlign},
		{127, nil, api.ErrAlign},
		{127, []uint32{1, 2}, api.ErrAlign},
		{129, nil, api.ErrAlign},
		{130, []uint32{1}, api.ErrAlign},
		{math.MaxUint32, nil, api.ErrAlign},
		{math.MaxUint32, []uint32{1, 2}, api.ErrAlign},
	}
	for _, x := range tests {
		m, words := filled(t, example)
		if got := m.Fill(x.at, x.list...); got != x.want {
			t.Errorf("Fill(%d, %v): %d, not %d", x.at, x.list, got, x.want)
		}
		if x.want == api.OK {
			copy(words[x.at/4:], x.list)
		}
		holds(t, m, example, words)
	}
}

// P3.3: every place, and every number of words, of small memories.
func TestFillOfAll(t *testing.T) {
	for _, l := range layouts {
		if l.Stack > 40 {
			continue
		}
		m, words := filled(t, l)
		next := uint32(1)
		for at := range l.Stack + 13 {
			for n := range int(l.Stack/4 + 3) {
				list := make([]uint32, n)
				for i := range list {
					next++
					list[i] = next
				}
				want := api.OK
				switch {
				case at%4 != 0:
					want = api.ErrAlign
				case int(at)+4*n > int(l.Stack):
					want = api.ErrPlace
				default:
					copy(words[at/4:], list)
				}
				if got := m.Fill(at, list...); got != want {
					t.Errorf("%v: Fill(%d) of %d words: %d, not %d", l, at, n, got, want)
				}
				holds(t, m, l, words)
			}
		}
	}
}

// P3.3
func TestClone(t *testing.T) {
	for _, l := range slices.Concat(layouts, great) {
		m, words := filled(t, l)
		other := m.Clone()
		holds(t, other, l, words)
		if at, ok := memory.Differ(m, other); at != 0 || ok {
			t.Errorf("%v: a Clone differs at %d", l, at)
		}
	}
}

// P3.3
func TestCloneIsIndependent(t *testing.T) {
	m, words := filled(t, example)
	other := m.Clone()
	otherWords := slices.Clone(words)

	other.Store(16, 1)
	other.Store(124, 2)
	other.Fill(0, 3, 4, 5)
	otherWords[4], otherWords[31] = 1, 2
	copy(otherWords, []uint32{3, 4, 5})
	holds(t, m, example, words)
	holds(t, other, example, otherWords)

	m.Store(20, 6)
	m.Store(64, 7)
	m.Fill(4, 8, 9)
	words[5], words[16], words[1], words[2] = 6, 7, 8, 9
	holds(t, m, example, words)
	holds(t, other, example, otherWords)

	third := other.Clone()
	third.Store(28, 10)
	holds(t, m, example, words)
	holds(t, other, example, otherWords)
}

// P3.3
func TestDiffer(t *testing.T) {
	for _, l := range layouts {
		a, words := filled(t, l)
		b, _ := filled(t, l)
		if at, ok := memory.Differ(a, a); at != 0 || ok {
			t.Errorf("%v: a memory and itself: Differ: %d %v", l, at, ok)
		}
		if at, ok := memory.Differ(a, b); at != 0 || ok {
			t.Errorf("%v: equal memories: Differ: %d %v", l, at, ok)
		}
		// From the last word down, so that what differs at first is what was changed at last.
		for i := len(words) - 1; i >= 0; i-- {
			b.Fill(uint32(4*i), words[i]^0x80000000)
			for _, pair := range [][2]*memory.Mem{{a, b}, {b, a}} {
				if at, ok := memory.Differ(pair[0], pair[1]); at != uint32(4*i) || !ok {
					t.Errorf("%v: Differ: %d %v, not %d", l, at, ok, 4*i)
				}
			}
		}
	}
}

// P3.3: one word alone differs, in each part.
func TestDifferInEachPart(t *testing.T) {
	for _, at := range []uint32{0, 4, 8, 12, 16, 28, 32, 60, 64, 124} {
		a, _ := filled(t, example)
		b := a.Clone()
		b.Fill(at, 1)
		if got, ok := memory.Differ(a, b); got != at || !ok {
			t.Errorf("Differ: %d %v, not %d", got, ok, at)
		}
		w, _ := a.Load(at)
		b.Fill(at, w)
		if got, ok := memory.Differ(a, b); got != 0 || ok {
			t.Errorf("Differ, when the word at %d is again as it was: %d %v", at, got, ok)
		}
	}
}

// P3.3
func TestDifferOfOtherLayouts(t *testing.T) {
	others := []memory.Layout{
		{Code: 4, Tables: 16, Data: 32, Heap: 64, Stack: 128},
		{Code: 8, Tables: 12, Data: 32, Heap: 64, Stack: 128},
		{Code: 8, Tables: 16, Data: 28, Heap: 64, Stack: 128},
		{Code: 8, Tables: 16, Data: 32, Heap: 60, Stack: 128},
		{Code: 8, Tables: 16, Data: 32, Heap: 64, Stack: 124},
		{Code: 8, Tables: 16, Data: 32, Heap: 64, Stack: 132},
		{Code: 8, Tables: 16, Data: 32, Heap: 64, Stack: end},
		{},
	}
	for _, l := range others {
		for _, word := range []uint32{0, 1} {
			a, b := made(t, example), made(t, l)
			a.Fill(0, word)
			if at, ok := memory.Differ(a, b); at != 0 || ok {
				t.Errorf("Differ of %v and %v: %d %v", example, l, at, ok)
			}
			if at, ok := memory.Differ(b, a); at != 0 || ok {
				t.Errorf("Differ of %v and %v: %d %v", l, example, at, ok)
			}
		}
	}
}

// used fails unless Used returns these numbers for the parts in their order, and 0 for what is no part.
func used(t *testing.T, m *memory.Mem, want ...int) {
	t.Helper()
	for part, n := range want {
		if got := m.Used(part); got != n {
			t.Errorf("%v: Used(%d): %d, not %d", m.Layout(), part, got, n)
		}
	}
	for _, part := range []int{-1, -2, -5, memory.Out, 6, 7, 64, math.MaxInt32, math.MinInt32, math.MaxInt, math.MinInt} {
		if got := m.Used(part); got != 0 {
			t.Errorf("%v: Used(%d), which is no part: %d", m.Layout(), part, got)
		}
	}
}

// P3.3
func TestUsed(t *testing.T) {
	m := made(t, example)
	used(t, m, 0, 0, 0, 0, 0)
	// The first and the last word of each part.
	changes := []struct {
		at   uint32
		want []int
	}{
		{0, []int{1, 0, 0, 0, 0}},
		{4, []int{2, 0, 0, 0, 0}},
		{8, []int{2, 1, 0, 0, 0}},
		{12, []int{2, 2, 0, 0, 0}},
		{16, []int{2, 2, 1, 0, 0}},
		{28, []int{2, 2, 2, 0, 0}},
		{32, []int{2, 2, 2, 1, 0}},
		{60, []int{2, 2, 2, 2, 0}},
		{64, []int{2, 2, 2, 2, 1}},
		{124, []int{2, 2, 2, 2, 2}},
	}
	for _, x := range changes {
		m.Fill(x.at, 0x80000000)
		used(t, m, x.want...)
	}
	m.Store(60, 0)
	used(t, m, 2, 2, 2, 1, 2)
	m.Store(64, 1)
	used(t, m, 2, 2, 2, 1, 2)
}

// P3.3
func TestUsedOfAll(t *testing.T) {
	for _, l := range slices.Concat(layouts, great) {
		m, _ := filled(t, l)
		var want []int
		start := uint32(0)
		for _, e := range list(l) {
			want = append(want, int(e-start)/4)
			start = e
		}
		used(t, m, want...)
	}
}

// random returns a fixed row of numbers.
func random() func(below int) int {
	state := uint32(1)
	return func(below int) int {
		state = state*1664525 + 1013904223
		return int(state>>8) % below
	}
}

// P3.4: what is loaded is what was stored or filled at last, and Store never changes code or tables.
func TestLongRun(t *testing.T) {
	next := random()
	for _, l := range layouts {
		m, words := filled(t, l)
		for range 3000 {
			at, w := uint32(next(int(l.Stack)+12)), uint32(next(1<<20))
			if next(4) > 0 {
				at &^= 3
			}
			if next(20) == 0 {
				if m.Fill(at, w, w+1) == api.OK {
					words[at/4], words[at/4+1] = w, w+1
				}
				continue
			}
			before := m.Clone()
			e := m.Store(at, w)
			got, le := m.Load(at)
			if (e == api.OK || e == api.ErrWrite) != (le == api.OK) {
				t.Fatalf("%v: Store(%d): %d, but Load: %d", l, at, e, le)
			}
			if e == api.OK {
				words[at/4] = w
				if got != w {
					t.Fatalf("%v: Load(%d): %#x, but %#x was stored", l, at, got, w)
				}
			}
			changed, ok := memory.Differ(before, m)
			if ok && (changed < l.Tables || changed != at || e != api.OK) {
				t.Fatalf("%v: Store(%d): %d, and the word at %d is another one", l, at, e, changed)
			}
		}
		holds(t, m, l, words)
	}
}

// P2: Fill neither changes nor keeps its list.
func TestFillLeavesItsList(t *testing.T) {
	m := made(t, example)
	room := []uint32{1, 2, 3, 4, 5, 6}
	before := slices.Clone(room)
	if e := m.Fill(64, room[1:3]...); e != api.OK {
		t.Fatalf("Fill: %d", e)
	}
	m.Store(64, 77)
	m.Store(72, 78)
	if !slices.Equal(room, before) {
		t.Errorf("the list and its spare capacity became %v", room)
	}
	want := make([]uint32, 32)
	want[16], want[17], want[18] = 77, 3, 78
	for i := range room {
		room[i] = 99
	}
	holds(t, m, example, want)
	if e := m.Fill(124, room[:2]...); e != api.ErrPlace {
		t.Errorf("Fill: %d", e)
	}
	if !slices.Equal(room, []uint32{99, 99, 99, 99, 99, 99}) {
		t.Errorf("the list of a Fill that failed became %v", room)
	}
}

// P2: a list that is the whole memory's is not kept either.
func TestFillOfTheWhole(t *testing.T) {
	m := made(t, example)
	list := make([]uint32, 32, 64)
	m.Fill(0, list...)
	list[16] = 5
	m.Store(68, 6)
	if list[17] != 0 {
		t.Error("Store changed the list")
	}
	if w, _ := m.Load(64); w != 0 {
		t.Errorf("Load(64): %d", w)
	}
}

// P2: what only asks changes nothing.
func TestQuestionsChangeNothing(t *testing.T) {
	for _, l := range layouts {
		m, words := filled(t, l)
		other, _ := filled(t, l)
		for range 2 {
			m.Layout()
			for _, at := range edges(l) {
				m.Part(at)
				m.Load(at)
				m.Fetch(at)
			}
			for part := -1; part <= 6; part++ {
				m.Used(part)
			}
			m.Clone()
			memory.Differ(m, other)
		}
		holds(t, m, l, words)
		holds(t, other, l, words)
	}
}

// P1
func TestAnyArguments(t *testing.T) {
	some := append([]uint32{0, 1, 3, 4, 5, 8, 64, 127, 128, 129, 132}, farAddresses...)
	for _, a := range some {
		for _, b := range some {
			for _, l := range []memory.Layout{{Code: a, Stack: b}, {Tables: a, Data: b}, {Heap: a, Stack: b}, {Code: a, Tables: a, Data: a, Heap: b, Stack: b}} {
				m, e := memory.New(l)
				if (e == api.OK) != memory.Right(l) || (m != nil) != (e == api.OK) {
					t.Fatalf("New(%v): %v %d", l, m, e)
				}
				if m == nil {
					continue
				}
				m.Store(a, b)
				m.Fill(a, a, b)
				m.Fill(b)
				for _, at := range []uint32{a, b} {
					m.Load(at)
					m.Fetch(at)
					m.Part(at)
				}
				m.Used(int(a))
				m.Used(-int(b))
				memory.Differ(m, m.Clone())
			}
		}
	}
}
