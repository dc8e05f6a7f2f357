package ranges_test

import (
	"math"
	"math/big"
	"slices"
	"testing"

	"pascaline/api"
	"pascaline/ranges"
)

// far are numbers far from all that can be.
var far = []int{math.MinInt, math.MinInt + 1, math.MinInt32, -1 << 14, -2, -1, 0, 1, 1 << 14, math.MaxInt32, math.MaxUint32, 1<<32 + 1, math.MaxInt - 1, math.MaxInt}

// model tells what a Builder must hold: each call sets the pad of all words from one on.
type model struct {
	calls []api.Segment
}

func (m *model) mark(at, pad int) {
	if list := m.list(); len(list) > 0 {
		at = max(at, list[len(list)-1].Start)
	}
	m.calls = append(m.calls, api.Segment{Start: at, Pad: pad})
}

// pad returns what the last call that reaches a word has set it to.
func (m *model) pad(word int) int {
	for _, s := range slices.Backward(m.calls) {
		if s.Start <= word {
			return s.Pad
		}
	}
	return -1
}

// list returns a segment for the first word, and for each one whose pad is not that of the word ahead.
func (m *model) list() []api.Segment {
	var words []int
	for _, s := range m.calls {
		words = append(words, s.Start)
	}
	slices.Sort(words)
	var list []api.Segment
	for n, word := range slices.Compact(words) {
		if n == 0 || m.pad(word) != list[len(list)-1].Pad {
			list = append(list, api.Segment{Start: word, Pad: m.pad(word)})
		}
	}
	return list
}

// modelRight tells what Right must return.
func modelRight(list []api.Segment, size int) bool {
	if size < 0 || size == 0 && len(list) > 0 {
		return false
	}
	ahead := api.Segment{Start: -1, Pad: -2}
	for _, s := range list {
		if s.Start <= ahead.Start || s.Start >= size || s.Pad == ahead.Pad || s.Pad < -1 || s.Pad >= size {
			return false
		}
		ahead = s
	}
	return size == 0 || len(list) > 0 && list[0].Start == 0
}

// modelFind tells what Find must return for a list whose Starts ascend.
func modelFind(list []api.Segment, at int) int {
	pad := -1
	for _, s := range list {
		if s.Start <= at {
			pad = s.Pad
		}
	}
	return pad
}

// modelCovered tells what Covered must return: it counts by numbers of any size.
func modelCovered(list []api.Segment, size int) int {
	sum := new(big.Int)
	for n, s := range list {
		end := size
		if n < len(list)-1 && list[n+1].Start < size {
			end = list[n+1].Start
		}
		words := new(big.Int).Sub(big.NewInt(int64(end)), big.NewInt(int64(s.Start)))
		if s.Pad != -1 && words.Sign() > 0 {
			sum.Add(sum, words)
		}
	}
	if !sum.IsInt64() {
		return math.MaxInt
	}
	return int(sum.Int64())
}

// modelShift tells what Shift must return.
func modelShift(list []api.Segment, by int) []api.Segment {
	var moved []api.Segment
	for _, s := range list {
		if s.Pad == -1 {
			moved = append(moved, api.Segment{Start: s.Start + by, Pad: -1})
		} else {
			moved = append(moved, api.Segment{Start: s.Start + by, Pad: s.Pad + by})
		}
	}
	return moved
}

// modelJoin tells what Join must return.
func modelJoin(lists ...[]api.Segment) []api.Segment {
	var m model
	for _, s := range slices.Concat(lists...) {
		m.mark(s.Start, s.Pad)
	}
	return m.list()
}

// random returns a fixed row of numbers below 2^16.
func random(seed uint32) func() int {
	state := seed
	return func() int {
		state = state*1664525 + 1013904223
		return int(state >> 16)
	}
}

// segs returns the segments of pairs of a Start and a Pad.
func segs(pairs ...int) []api.Segment {
	var list []api.Segment
	for n := 0; n < len(pairs); n += 2 {
		list = append(list, api.Segment{Start: pairs[n], Pad: pairs[n+1]})
	}
	return list
}

// marked returns the list of a Builder of which pairs of a word and a pad were marked.
func marked(pairs ...int) []api.Segment {
	var b ranges.Builder
	for _, s := range segs(pairs...) {
		b.Mark(s.Start, s.Pad)
	}
	return b.List()
}

// rows calls yield with each list of n numbers from a list; the list is the same one each time.
func rows(n int, from []int, yield func(row []int)) {
	row := make([]int, n)
	var fill func(at int)
	fill = func(at int) {
		if at == n {
			yield(row)
			return
		}
		for _, v := range from {
			row[at] = v
			fill(at + 1)
		}
	}
	fill(0)
}

// numbers returns the numbers from least to most.
func numbers(least, most int) []int {
	var list []int
	for n := least; n <= most; n++ {
		list = append(list, n)
	}
	return list
}

// filled returns a list with spare capacity, which holds something, too.
func filled(list []api.Segment) []api.Segment {
	room := append(slices.Clone(list), segs(77, 78, 79, 80, 81, 82)...)
	return room[:len(list)]
}

// spoil changes all that a list holds, also behind its end.
func spoil(list []api.Segment) {
	list = list[:cap(list)]
	for n := range list {
		list[n] = api.Segment{Start: 1000 + n, Pad: 2000 + n}
	}
}

// isRight fails unless Right returns what is wanted, which the model must want, too.
func isRight(t *testing.T, list []api.Segment, size int, want bool) {
	t.Helper()
	if got := ranges.Right(list, size); got != want || modelRight(list, size) != want {
		t.Fatalf("Right(%v, %d): %v; by the model %v", list, size, got, modelRight(list, size))
	}
}

// finds fails unless Find returns a pad.
func finds(t *testing.T, list []api.Segment, at, want int) {
	t.Helper()
	if got := ranges.Find(list, at); got != want {
		t.Fatalf("Find(%v, %d): %d, not %d", list, at, got, want)
	}
}

// covers fails unless Covered returns a number, which the model must return, too.
func covers(t *testing.T, list []api.Segment, size, want int) {
	t.Helper()
	if got := ranges.Covered(list, size); got != want || modelCovered(list, size) != want {
		t.Fatalf("Covered(%v, %d): %d; by the model %d", list, size, got, modelCovered(list, size))
	}
}

// same fails unless a list has just the segments that are wanted.
func same(t *testing.T, what string, got, want []api.Segment) {
	t.Helper()
	if !slices.Equal(got, want) {
		t.Fatalf("%s: %v, not %v", what, got, want)
	}
}

// P16.1
func TestNone(t *testing.T) {
	const none int = ranges.None
	if none != -1 {
		t.Errorf("None: %d", none)
	}
}

// P16.1: the edges that the chapter names, each alone.
func TestRight(t *testing.T) {
	for _, x := range []struct {
		list []api.Segment
		size int
		want bool
	}{
		// The size.
		{nil, 0, true},
		{[]api.Segment{}, 0, true},
		{segs(0, -1), 0, false},
		{segs(0, 0), 0, false},
		{nil, -1, false},
		{nil, -2, false},
		{segs(0, -1), -1, false},
		{segs(0, -1), math.MinInt, false},
		{segs(0, -1), 1, true},
		{segs(0, 0), 1, true},
		{segs(0, 1), 1, false},
		{segs(0, -1), math.MaxInt, true},
		// No first segment.
		{nil, 1, false},
		{[]api.Segment{}, 1, false},
		{nil, 10, false},
		// The first Start.
		{segs(0, -1, 3, 9, 5, -1), 10, true},
		{segs(1, -1), 10, false},
		{segs(-1, -1), 10, false},
		{segs(-1, 3, 0, -1), 10, false},
		{segs(1, -1, 3, 9, 5, -1), 10, false},
		// The further Starts.
		{segs(0, -1, 0, 3), 10, false},
		{segs(0, -1, 1, 3), 10, true},
		{segs(0, -1, -1, 3), 10, false},
		{segs(0, -1, 9, 3), 10, true},
		{segs(0, -1, 10, 3), 10, false},
		{segs(0, -1, 11, 3), 10, false},
		{segs(0, -1, 4, 3, 4, 2), 10, false},
		{segs(0, -1, 4, 3, 3, 2), 10, false},
		{segs(0, -1, 4, 3, 5, 2), 10, true},
		{segs(0, -1, 4, 3, 9, 2), 10, true},
		{segs(0, -1, 4, 3, 10, 2), 10, false},
		{segs(0, -1, 4, 3, 0, 2), 10, false},
		{segs(0, -1, 4, 3, 2, 2, 5, 1), 10, false},
		{segs(0, -1, 10, 3, 5, 1), 10, false},
		// The Pads.
		{segs(0, -2), 10, false},
		{segs(0, 9), 10, true},
		{segs(0, 10), 10, false},
		{segs(0, -1, 4, -2), 10, false},
		{segs(0, -1, 4, 9), 10, true},
		{segs(0, -1, 4, 10), 10, false},
		{segs(0, -2, 4, 3), 10, false},
		{segs(0, 10, 4, 3), 10, false},
		{segs(0, 4, 4, 0), 10, true},
		// The same Pad again.
		{segs(0, -1, 4, -1), 10, false},
		{segs(0, 3, 4, 3), 10, false},
		{segs(0, 3, 4, 5, 6, 5), 10, false},
		{segs(0, -1, 4, 3, 6, -1), 10, true},
		{segs(0, 3, 4, -1, 6, 3), 10, true},
		{segs(0, 3, 4, 3, 6, 5), 10, false},
	} {
		isRight(t, x.list, x.size, x.want)
	}
}

// P16.1: all lists of up to two segments, and many of three, for all small sizes.
func TestRightOfAllSmallLists(t *testing.T) {
	right := 0
	for size := -2; size <= 4; size++ {
		for n := range 3 {
			rows(2*n, numbers(-2, 5), func(row []int) {
				list := segs(row...)
				isRight(t, list, size, modelRight(list, size))
			})
		}
		rows(6, numbers(-2, 4), func(row []int) {
			if row[0] != 0 && row[2] != 0 {
				return
			}
			list := segs(row...)
			if modelRight(list, size) {
				right++
			}
			isRight(t, list, size, modelRight(list, size))
		})
	}
	if right == 0 {
		t.Error("no list of three is right")
	}
}

// P16.1: one thing that is wrong, at each place of a long list.
func TestRightOfLongLists(t *testing.T) {
	const size = 300
	var list []api.Segment
	for n := range 100 {
		list = append(list, api.Segment{Start: 3 * n, Pad: n%3 - 1})
	}
	isRight(t, list, size, true)
	isRight(t, list, 298, true)
	isRight(t, list, 297, false)
	for n := range list {
		for _, change := range []func(s *api.Segment){
			func(s *api.Segment) { s.Start = size },
			func(s *api.Segment) { s.Start -= 3 },
			func(s *api.Segment) { s.Start = math.MinInt },
			func(s *api.Segment) { s.Start = math.MaxInt },
			func(s *api.Segment) { s.Pad = size },
			func(s *api.Segment) { s.Pad = -2 },
			func(s *api.Segment) { s.Pad = math.MinInt },
			func(s *api.Segment) { s.Pad = math.MaxInt },
		} {
			other := slices.Clone(list)
			change(&other[n])
			isRight(t, other, size, false)
		}
		if n > 0 {
			other := slices.Clone(list)
			other[n].Pad = other[n-1].Pad
			isRight(t, other, size, false)
		}
	}
}

// P16.1: the edges that the chapter names.
func TestFind(t *testing.T) {
	example := segs(0, -1, 3, 9, 5, -1)
	for _, x := range []struct {
		list     []api.Segment
		at, want int
	}{
		{nil, 0, -1},
		{[]api.Segment{}, 0, -1},
		{nil, -1, -1},
		{nil, 5, -1},
		{example, -1, -1},
		{example, 0, -1},
		{example, 2, -1},
		{example, 3, 9},
		{example, 4, 9},
		{example, 5, -1},
		{example, 6, -1},
		{example, math.MaxInt, -1},
		{segs(4, 8), 3, -1},
		{segs(4, 8), math.MinInt, -1},
		{segs(4, 8), 4, 8},
		{segs(4, 8), 5, 8},
		{segs(4, 8), math.MaxInt, 8},
		{segs(0, 2), -1, -1},
		{segs(0, 2), 0, 2},
		{segs(0, 2, 1, 3), 0, 2},
		{segs(0, 2, 1, 3), 1, 3},
		{segs(-5, 7, 5, -3), -6, -1},
		{segs(-5, 7, 5, -3), -5, 7},
		{segs(-5, 7, 5, -3), 4, 7},
		{segs(-5, 7, 5, -3), 5, -3},
		{segs(0, 6, 4, 6, 8, 6), 5, 6},
	} {
		finds(t, x.list, x.at, x.want)
	}
}

// P16.1: each set of Starts of a few words, and each word.
func TestFindInAllSmallLists(t *testing.T) {
	for set := range 1 << 9 {
		var list []api.Segment
		for word := range 9 {
			if set>>word&1 == 1 {
				list = append(list, api.Segment{Start: word - 2, Pad: 100 + word})
			}
		}
		for at := -4; at < 9; at++ {
			finds(t, list, at, modelFind(list, at))
		}
	}
}

// P16.1: a word far off, in segments far off.
func TestFindOfFarNumbers(t *testing.T) {
	for set := range 1 << len(far) {
		var list []api.Segment
		for n, start := range far {
			if set>>n&1 == 1 {
				list = append(list, api.Segment{Start: start, Pad: far[len(far)-1-n]})
			}
		}
		for _, at := range far {
			finds(t, list, at, modelFind(list, at))
		}
	}
}

// P16.2: rows of calls, with what each leaves.
func TestMark(t *testing.T) {
	for _, x := range []struct {
		calls, want []int
	}{
		{nil, nil},
		// The first one, wherever it is.
		{[]int{0, -1}, []int{0, -1}},
		{[]int{7, 3}, []int{7, 3}},
		{[]int{-5, 3}, []int{-5, 3}},
		{[]int{-5, -7}, []int{-5, -7}},
		// Words that rise.
		{[]int{0, -1, 3, 9, 5, -1}, []int{0, -1, 3, 9, 5, -1}},
		{[]int{0, -1, 1, 9}, []int{0, -1, 1, 9}},
		{[]int{-5, 2, -4, 1, -1, 0, 0, 3}, []int{-5, 2, -4, 1, -1, 0, 0, 3}},
		// The same Pad again.
		{[]int{0, -1, 3, -1}, []int{0, -1}},
		{[]int{0, 4, 3, 4, 6, 5}, []int{0, 4, 6, 5}},
		{[]int{0, 4, 3, 5, 6, 5, 8, 4}, []int{0, 4, 3, 5, 8, 4}},
		// The same word again: what was marked there last counts.
		{[]int{0, 4, 0, 5}, []int{0, 5}},
		{[]int{0, 4, 0, 4}, []int{0, 4}},
		{[]int{0, 4, 3, 5, 3, 6}, []int{0, 4, 3, 6}},
		{[]int{0, 4, 3, 5, 3, 5}, []int{0, 4, 3, 5}},
		{[]int{0, 4, 3, 5, 3, 4}, []int{0, 4}},
		{[]int{0, 4, 3, 5, 3, 4, 3, 6}, []int{0, 4, 3, 6}},
		// A word that no segment begins at, as its Pad was the same.
		{[]int{0, 4, 3, 4, 3, 5}, []int{0, 4, 3, 5}},
		{[]int{0, 4, 3, 4, 2, 5}, []int{0, 4, 2, 5}},
		// A word ahead of the last Start: it counts as this one.
		{[]int{5, 4, 3, 6}, []int{5, 6}},
		{[]int{5, 4, -3, 6}, []int{5, 6}},
		{[]int{0, 4, 5, 6, 3, 7}, []int{0, 4, 5, 7}},
		{[]int{0, 4, 5, 6, 0, 7}, []int{0, 4, 5, 7}},
		{[]int{0, 4, 5, 6, -9, 7}, []int{0, 4, 5, 7}},
		{[]int{0, 4, 5, 6, 3, 6}, []int{0, 4, 5, 6}},
		{[]int{0, 4, 5, 6, 3, 4}, []int{0, 4}},
		// Several times one after another: each time one segment, at most, is removed.
		{[]int{0, 4, 5, 6, 3, 4, 4, 7}, []int{0, 4, 4, 7}},
		{[]int{0, 4, 5, 6, 3, 4, 0, 7}, []int{0, 7}},
		{[]int{0, 1, 2, 2, 4, 3, 1, 2}, []int{0, 1, 2, 2}},
		{[]int{0, 1, 2, 2, 4, 3, 1, 2, 1, 1}, []int{0, 1}},
		{[]int{0, 1, 2, 2, 4, 3, 1, 2, 1, 1, 0, 9}, []int{0, 9}},
		{[]int{0, 1, 2, 2, 4, 3, 1, 8, 0, 9}, []int{0, 1, 2, 2, 4, 9}},
		{[]int{0, 1, 2, 2, 4, 3, 6, 4, 0, 3, 0, 2, 0, 1}, []int{0, 1}},
	} {
		same(t, "the List after some calls", marked(x.calls...), segs(x.want...))
		same(t, "the model's list after some calls", modelJoin(segs(x.calls...)), segs(x.want...))
	}
}

// P16.2: all rows of up to four calls with a few words and pads.
func TestMarkInAllShortRows(t *testing.T) {
	for n := range 5 {
		rows(n, numbers(0, 14), func(row []int) {
			var calls []int
			for _, v := range row {
				calls = append(calls, v/3-1, v%3-1)
			}
			same(t, "the List after some calls", marked(calls...), modelJoin(segs(calls...)))
		})
	}
}

// P16.2: long rows of calls, each held against the model.
func TestMarkInLongRows(t *testing.T) {
	next := random(16)
	removed, kept := 0, 0
	for range 300 {
		var b ranges.Builder
		var m model
		at := next()%10 - 5
		for range 40 {
			pad := next()%4 - 1
			before := len(b.List())
			b.Mark(at, pad)
			m.mark(at, pad)
			same(t, "the List after Mark", b.List(), m.list())
			if len(b.List()) < before {
				removed++
			}
			if len(b.List()) == before {
				kept++
			}
			at += next()%8 - 2
		}
	}
	if removed == 0 || kept == 0 {
		t.Errorf("%d calls removed a segment, %d kept their number", removed, kept)
	}
}

// P16.2: words and pads far off.
func TestMarkOfFarNumbers(t *testing.T) {
	for n := range 3 {
		rows(2*n, far, func(row []int) {
			same(t, "the List after some calls", marked(row...), modelJoin(segs(row...)))
		})
	}
	rows(4, []int{math.MinInt, -1, 0, math.MaxInt}, func(words []int) {
		calls := []int{words[0], math.MaxInt, words[1], math.MinInt, words[2], math.MaxInt, words[3], -1}
		same(t, "the List after some calls", marked(calls...), modelJoin(segs(calls...)))
	})
}

// P16.2: List changes nothing, and a List that was returned stays as it is.
func TestList(t *testing.T) {
	var b ranges.Builder
	var lists, wants [][]api.Segment
	for _, s := range segs(0, -1, 3, 9, 5, -1, 5, 9, 4, -1, 2, 6, 8, 7, 8, 6, 9, 1) {
		b.Mark(s.Start, s.Pad)
		b.List()
		lists, wants = append(lists, b.List()), append(wants, slices.Clone(b.List()))
		for n := range lists {
			same(t, "a List after later calls of Mark", lists[n], wants[n])
		}
	}
	if len(b.List()) < 2 {
		t.Errorf("List: %v", b.List())
	}
	var empty ranges.Builder
	if list := empty.List(); len(list) != 0 {
		t.Errorf("List of the zero Builder: %v", list)
	}
	empty.Mark(-3, 8)
	same(t, "List", empty.List(), segs(-3, 8))
}

// P16.2: two Builders know nothing of each other.
func TestBuilders(t *testing.T) {
	var a, b ranges.Builder
	a.Mark(0, 4)
	b.Mark(7, 5)
	a.Mark(2, 5)
	b.Mark(9, 4)
	same(t, "the first List", a.List(), segs(0, 4, 2, 5))
	same(t, "the second List", b.List(), segs(7, 5, 9, 4))
}

// P16.3
func TestShift(t *testing.T) {
	for _, x := range []struct {
		list []api.Segment
		by   int
		want []api.Segment
	}{
		{nil, 0, nil},
		{nil, 5, nil},
		{[]api.Segment{}, -5, nil},
		{segs(0, -1, 3, 9, 5, -1), 0, segs(0, -1, 3, 9, 5, -1)},
		{segs(0, -1, 3, 9, 5, -1), 100, segs(100, -1, 103, 109, 105, -1)},
		{segs(0, -1, 3, 9, 5, -1), 1, segs(1, -1, 4, 10, 6, -1)},
		{segs(0, -1, 3, 9, 5, -1), -2, segs(-2, -1, 1, 7, 3, -1)},
		{segs(0, 0), 1, segs(1, 1)},
		// Only None stays: a Pad below it is moved, and one that is moved to -1 is moved all the same.
		{segs(0, -2), 1, segs(1, -1)},
		{segs(0, -2), 5, segs(5, 3)},
		{segs(0, -3), -1, segs(-1, -4)},
		{segs(0, 0), -1, segs(-1, -1)},
		{segs(7, -1), -7, segs(0, -1)},
		// Starts that do not rise.
		{segs(5, 1, 5, 1, 2, -1), 3, segs(8, 4, 8, 4, 5, -1)},
	} {
		same(t, "Shift", ranges.Shift(x.list, x.by), x.want)
		same(t, "the model's Shift", modelShift(x.list, x.by), x.want)
	}
}

// P16.3: by any number, and there and back.
func TestShiftOfFarNumbers(t *testing.T) {
	rows(3, far, func(row []int) {
		list := segs(row[0], row[1], row[1], -1, row[1], row[0])
		same(t, "Shift", ranges.Shift(list, row[2]), modelShift(list, row[2]))
	})
	for by := -10; by <= 10; by++ {
		rows(2, numbers(-4, 4), func(row []int) {
			list := segs(row[0], row[1], row[1], row[0])
			same(t, "Shift", ranges.Shift(list, by), modelShift(list, by))
		})
		list := segs(0, -1, 3, 20, 15, 30, 16, -1)
		same(t, "Shift there and back", ranges.Shift(ranges.Shift(list, by), -by), list)
	}
}

// P16.3
func TestJoin(t *testing.T) {
	one := segs(0, -1, 3, 9, 5, -1)
	for _, x := range []struct {
		lists [][]api.Segment
		want  []api.Segment
	}{
		{nil, nil},
		{[][]api.Segment{nil}, nil},
		{[][]api.Segment{nil, {}, nil}, nil},
		{[][]api.Segment{one}, one},
		{[][]api.Segment{nil, one, {}, nil}, one},
		{[][]api.Segment{one, nil, segs(10, 12)}, segs(0, -1, 3, 9, 5, -1, 10, 12)},
		// The Pad of one list's end is that of the next one's beginning.
		{[][]api.Segment{one, segs(10, -1, 13, 19)}, segs(0, -1, 3, 9, 5, -1, 13, 19)},
		{[][]api.Segment{one, segs(10, -1), segs(20, -1)}, one},
		{[][]api.Segment{segs(0, 7), segs(4, 8), segs(6, 9)}, segs(0, 7, 4, 8, 6, 9)},
		// Starts that do not rise, within a list and from one to the next.
		{[][]api.Segment{segs(5, 1, 3, 2)}, segs(5, 2)},
		{[][]api.Segment{segs(0, 4, 5, 6), segs(5, 4)}, segs(0, 4)},
		{[][]api.Segment{segs(0, 4, 5, 6), segs(0, 4, 5, 6)}, segs(0, 4, 5, 6)},
		{[][]api.Segment{segs(0, 4, 5, 6), segs(0, 7, 8, 9)}, segs(0, 4, 5, 7, 8, 9)},
		{[][]api.Segment{segs(9, 4), segs(5, 6), segs(-3, 8)}, segs(9, 8)},
		// Lists that are not as Mark leaves them.
		{[][]api.Segment{segs(-2, 4, 1, 4, 2, 4)}, segs(-2, 4)},
		// As a program is linked: word 0, the runtime, and two modules.
		{[][]api.Segment{segs(0, -1), segs(20, 9), ranges.Shift(one, 40), ranges.Shift(one, 50)}, segs(0, -1, 20, 9, 40, -1, 43, 49, 45, -1, 53, 59, 55, -1)},
	} {
		same(t, "Join", ranges.Join(x.lists...), x.want)
		same(t, "the model's Join", modelJoin(x.lists...), x.want)
	}
}

// P16.3: any lists, also those whose Starts do not rise.
func TestJoinOfRandomLists(t *testing.T) {
	next := random(163)
	for range 4000 {
		var lists [][]api.Segment
		at := 0
		for range next() % 4 {
			var list []api.Segment
			for range next() % 5 {
				list = append(list, api.Segment{Start: at, Pad: next()%4 - 1})
				at += next()%7 - 1
			}
			lists = append(lists, list)
		}
		same(t, "Join", ranges.Join(lists...), modelJoin(lists...))
	}
}

// P16.3
func TestCovered(t *testing.T) {
	example := segs(0, -1, 4, 9, 12, -1)
	for _, x := range []struct {
		list       []api.Segment
		size, want int
	}{
		{example, 20, 8},
		// The size below a Start, between two, at one, below 0.
		{example, 12, 8},
		{example, 11, 7},
		{example, 6, 2},
		{example, 5, 1},
		{example, 4, 0},
		{example, 3, 0},
		{example, 0, 0},
		{example, -1, 0},
		{example, math.MinInt, 0},
		{example, math.MaxInt, 8},
		// No segment, and none that counts.
		{nil, 20, 0},
		{[]api.Segment{}, 20, 0},
		{nil, -20, 0},
		{segs(0, -1), 20, 0},
		{segs(0, -1, 3, -1, 9, -1), 20, 0},
		// The last one goes up to the size.
		{segs(0, 3), 20, 20},
		{segs(0, 3), 0, 0},
		{segs(0, 3), 1, 1},
		{segs(0, 3), -1, 0},
		{segs(5, 3), 20, 15},
		{segs(0, -1, 4, 9), 20, 16},
		{segs(0, 2, 4, -1), 20, 4},
		{segs(0, 2, 4, 3), 20, 20},
		{segs(0, 2, 4, 3, 6, -1, 9, 4), 20, 17},
		// A Pad below None is one, too; 0 as well.
		{segs(0, -2, 4, -1), 20, 4},
		{segs(0, 0, 4, -1), 20, 4},
		// Starts that do not rise.
		{segs(0, 2, 0, 3), 20, 20},
		{segs(8, 2, 3, 3), 20, 17},
		{segs(8, 2, 3, -1), 20, 0},
		{segs(8, 2, 3, -1, 9, 5), 20, 11},
		{segs(8, 2, 12, 4, 8, -1), 20, 4},
		{segs(-5, 2, -3, -1), 20, 2},
		{segs(-5, 2), -3, 2},
		{segs(-5, 2), 3, 8},
		{segs(30, 2, 25, 3), 20, 0},
	} {
		covers(t, x.list, x.size, x.want)
	}
}

// P16.3: each word of a list that is right is counted by what Find returns for it.
func TestCoveredCountsWhatFindReturns(t *testing.T) {
	next := random(33)
	for range 2000 {
		var b ranges.Builder
		b.Mark(0, next()%4-1)
		for at := next() % 6; at < 40; at += 1 + next()%6 {
			b.Mark(at, next()%4-1)
		}
		list, size, want := b.List(), next()%50, 0
		for at := range size {
			if ranges.Find(list, at) != ranges.None {
				want++
			}
		}
		covers(t, list, size, want)
	}
}

// P16.3: all small lists, also those whose Starts do not rise.
func TestCoveredOfAllSmallLists(t *testing.T) {
	for n := range 4 {
		rows(n+1, numbers(-2, 4), func(row []int) {
			for pads := range 1 << n {
				var list []api.Segment
				for k, start := range row[1:] {
					list = append(list, api.Segment{Start: start, Pad: 6*(pads>>k&1) - 1})
				}
				covers(t, list, row[0], modelCovered(list, row[0]))
			}
		})
	}
}

// P16.3: from far below 0 to far above it there are more words than an int counts; no sum falls below 0 or becomes too small.
func TestCoveredOfFarNumbers(t *testing.T) {
	covers(t, segs(math.MinInt, 0), math.MaxInt, math.MaxInt)
	covers(t, segs(math.MinInt, 0), -1, math.MaxInt)
	covers(t, segs(math.MinInt, 0), 0, math.MaxInt)
	covers(t, segs(math.MinInt+1, 0), 0, math.MaxInt)
	covers(t, segs(math.MinInt+2, 0), 0, math.MaxInt-1)
	covers(t, segs(0, 0, math.MinInt, 0), math.MaxInt, math.MaxInt)
	covers(t, segs(math.MaxInt, 0, math.MinInt, -1), math.MaxInt, 0)
	covers(t, segs(1, 0, 3, -1, 2, 0), math.MaxInt, math.MaxInt)
	covers(t, segs(1, 0, 2, -1, 2, 0), math.MaxInt, math.MaxInt-1)
	for n := range 4 {
		rows(n+1, far, func(row []int) {
			var list []api.Segment
			for k, start := range row[1:] {
				list = append(list, api.Segment{Start: start, Pad: far[(k*5+row[0]&7)%len(far)]})
			}
			covers(t, list, row[0], modelCovered(list, row[0]))
		})
	}
}

// P16.4, and the chapter's example.
func TestFindReturnsWhatWasMarked(t *testing.T) {
	list := marked(0, -1, 3, 9, 5, -1)
	finds(t, list, 4, 9)
	finds(t, list, 5, -1)
	finds(t, list, 2, -1)
	next := random(164)
	for range 3000 {
		var calls []api.Segment
		var b ranges.Builder
		for at := next()%9 - 4; len(calls) < 12; at += 1 + next()%5 {
			s := api.Segment{Start: at, Pad: next()%4 - 1}
			calls = append(calls, s)
			b.Mark(s.Start, s.Pad)
		}
		list := b.List()
		for at := calls[0].Start - 3; at < calls[11].Start+3; at++ {
			finds(t, list, at, modelFind(calls, at))
		}
		for _, s := range calls {
			finds(t, list, s.Start, s.Pad)
		}
	}
}

// P16.1, P16.2: what is marked from the word 0 on, with words and pads of the code, is right.
func TestWhatIsMarkedIsRight(t *testing.T) {
	next := random(162)
	for range 3000 {
		size := 1 + next()%20
		var b ranges.Builder
		b.Mark(0, next()%(size+1)-1)
		for range next() % 12 {
			b.Mark(next()%(size+3)-3, next()%(size+1)-1)
			list := b.List()
			isRight(t, list, size, list[len(list)-1].Start < size)
		}
		same(t, "Join of what was marked", ranges.Join(b.List()), b.List())
	}
}

// P2: the lists that are given stay as they are, also behind their ends.
func TestArgumentsStay(t *testing.T) {
	for _, list := range [][]api.Segment{nil, {}, segs(0, -1), segs(0, -1, 3, 9, 5, -1), segs(5, 3, 5, 3, 2, -1), segs(0, 4, 5, 6, 3, 4)} {
		given := filled(list)
		want := slices.Clone(given[:cap(given)])
		check := func(what string) {
			t.Helper()
			same(t, "the list that was given to "+what, given[:cap(given)], want)
		}
		ranges.Right(given, 10)
		check("Right")
		ranges.Find(given, 4)
		check("Find")
		ranges.Covered(given, 10)
		check("Covered")
		moved := ranges.Shift(given, 7)
		check("Shift")
		spoil(append(moved, api.Segment{}))
		spoil(moved)
		check("Shift, whose result was changed,")
		lists := [][]api.Segment{given, given, nil}
		joined := ranges.Join(lists...)
		check("Join")
		spoil(append(joined, api.Segment{}))
		spoil(joined)
		check("Join, whose result was changed,")
		if len(lists[0]) != len(given) || len(lists[1]) != len(given) || lists[2] != nil {
			t.Errorf("the lists that were given to Join: %v", lists)
		}
	}
}

// P2: Join changes none of its lists, also where one lies behind the other in memory.
func TestJoinOfPiecesOfOneList(t *testing.T) {
	all := segs(0, -1, 3, 9, 5, -1, 5, 4, 7, 2, 6, -1)
	want := slices.Clone(all)
	for n := range len(all) + 1 {
		joined := ranges.Join(all[:n], all[n:])
		same(t, "Join of two pieces", joined, modelJoin(want))
		spoil(joined)
		same(t, "the list of the pieces", all, want)
	}
	spare := append(make([][]api.Segment, 0, 4), all, all)
	ranges.Join(spare...)
	if rest := spare[:4]; rest[2] != nil || rest[3] != nil {
		t.Errorf("behind the lists: %v", rest)
	}
}

// P2: what is returned is kept nowhere, and is not what was given.
func TestResultsAreNew(t *testing.T) {
	list := filled(segs(0, -1, 3, 9, 5, -1))
	for _, by := range []int{0, 1} {
		first, second := ranges.Shift(list, by), ranges.Shift(list, by)
		want := slices.Clone(second)
		spoil(first)
		same(t, "another result of Shift", second, want)
		spoil(list)
		same(t, "a result of Shift", second, want)
		list = filled(segs(0, -1, 3, 9, 5, -1))
	}
	first, second := ranges.Join(list), ranges.Join(list)
	spoil(first)
	same(t, "another result of Join", second, segs(0, -1, 3, 9, 5, -1))
	spoil(list)
	same(t, "a result of Join", second, segs(0, -1, 3, 9, 5, -1))
	var b ranges.Builder
	for _, s := range segs(0, -1, 3, 9, 5, -1) {
		spoil(append(b.List(), api.Segment{}))
		spoil(b.List())
		b.Mark(s.Start, s.Pad)
	}
	one, two := b.List(), b.List()
	spoil(one)
	same(t, "another result of List", two, segs(0, -1, 3, 9, 5, -1))
	same(t, "the List of a Builder", b.List(), segs(0, -1, 3, 9, 5, -1))
	b.Mark(4, 6)
	same(t, "the List of a Builder", b.List(), segs(0, -1, 3, 9, 5, 6))
	same(t, "an earlier result of List", two, segs(0, -1, 3, 9, 5, -1))
}

// P2: what a call returns depends on nothing that came before it.
func TestCallsAreIndependent(t *testing.T) {
	list := segs(0, -1, 3, 9, 5, -1)
	for range 3 {
		isRight(t, list, 10, true)
		isRight(t, list, 9, false)
		finds(t, list, 4, 9)
		finds(t, list, -4, -1)
		covers(t, list, 10, 2)
		covers(t, list, 4, 1)
		same(t, "Shift", ranges.Shift(list, 1), segs(1, -1, 4, 10, 6, -1))
		same(t, "Join", ranges.Join(list, list), segs(0, -1, 3, 9, 5, -1))
		same(t, "List", marked(0, 1), segs(0, 1))
	}
}

// P1: any arguments; Find, too, of Starts that do not ascend.
func TestAnyArguments(t *testing.T) {
	rows(4, far, func(row []int) {
		list := segs(row...)
		isRight(t, list, row[3], modelRight(list, row[3]))
		ranges.Find(list, row[1])
		ranges.Find(slices.Concat(list, list), row[1])
		same(t, "Shift", ranges.Shift(list, row[0]), modelShift(list, row[0]))
		same(t, "Join", ranges.Join(list, list), modelJoin(list, list))
		covers(t, list, row[2], modelCovered(list, row[2]))
	})
}

// P1: very much is worked through in good time.
func TestMuch(t *testing.T) {
	const most = 1 << 20
	var b ranges.Builder
	for n := range most {
		b.Mark(n, n%2)
	}
	list := b.List()
	if len(list) != most || !ranges.Right(list, most) || ranges.Right(list, most-1) {
		t.Fatalf("%d segments", len(list))
	}
	for n := range most {
		finds(t, list, n, n%2)
	}
	if n := ranges.Covered(list, most+5); n != most+5 {
		t.Errorf("Covered: %d", n)
	}
	if joined := ranges.Join(list, ranges.Shift(list, most)); len(joined) < most || !ranges.Right(joined, 2*most) {
		t.Errorf("Join: %d segments", len(joined))
	}
	for n := range most {
		b.Mark(0, n%2)
	}
	if list := b.List(); len(list) > most {
		t.Errorf("%d segments", len(list))
	}
}
