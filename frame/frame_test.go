package frame_test

import (
	"math"
	"math/big"
	"slices"
	"testing"

	"pascaline/api"
	"pascaline/frame"
)

// far are numbers far from all that can be.
var far = []int{math.MinInt, math.MinInt + 1, math.MinInt + 3, math.MinInt + 16384, math.MinInt32 - 1, math.MinInt32, -1 << 20, 1 << 20, math.MaxInt32, math.MaxUint32, 1 << 32, 1<<32 + 4, 1<<62 - 1, 1 << 62, math.MaxInt - 16384, math.MaxInt - 3, math.MaxInt - 1, math.MaxInt}

// near are the numbers at the edges of what a size can be.
var near = []int{-16385, -16384, -16383, -5, -4, -3, -2, -1, 0, 1, 2, 3, 4, 5, 6, 7, 8, 9, 8191, 8192, 8193, 16375, 16376, 16377, 16378, 16379, 16380, 16381, 16382, 16383, 16384, 16385, 16386, 16387, 16388, 32768}

// random returns a fixed row of numbers below 2^16.
func random(seed uint32) func() int {
	state := seed
	return func() int {
		state = state*1664525 + 1013904223
		return int(state >> 16)
	}
}

// answer is what Local or Global returns, and the Size behind it.
type answer struct {
	place int
	err   api.Errno
	size  int
}

func local(used, size int) answer {
	f := frame.Frame{Size: used}
	place, e := f.Local(size)
	return answer{place, e, f.Size}
}

func global(used, size int) answer {
	d := frame.Data{Size: used}
	place, e := d.Global(size)
	return answer{place, e, d.Size}
}

// rounded counts up to a multiple of 4.
func rounded(size int) int {
	for size%4 != 0 {
		size++
	}
	return size
}

// modelLocal tells what Local must return where used is from 0 to 16384.
func modelLocal(used, size int) answer {
	switch {
	case size < 0 || size > 16384:
		return answer{0, api.ErrSize, used}
	case used+rounded(size) > 16384:
		return answer{0, api.ErrData, used}
	}
	return answer{-(used + rounded(size)), api.OK, used + rounded(size)}
}

// modelGlobal tells what Global must return where used is from 0 to 16384.
func modelGlobal(used, size int) answer {
	a := modelLocal(used, size)
	if a.err == api.OK {
		a.place = used
	}
	return a
}

// exact returns sum + 4 * many as a number of any size.
func exact(sum, many int) *big.Int {
	product := new(big.Int).Mul(big.NewInt(4), big.NewInt(int64(many)))
	return product.Add(product, big.NewInt(int64(sum)))
}

// held returns the number from 0 to most that is nearest to n.
func held(n, most int) int {
	switch {
	case n < 0:
		return 0
	case n > most:
		return most
	}
	return n
}

func TestConstants(t *testing.T) {
	got := []int{frame.Old, frame.Back, frame.Static, frame.First, frame.Reserve}
	if want := []int{0, 4, 8, 12, 64}; !slices.Equal(got, want) {
		t.Errorf("Old, Back, Static, First, Reserve: %v, want %v", got, want)
	}
}

// P18.1
func TestLocalExamples(t *testing.T) {
	var f frame.Frame
	for _, row := range []struct{ size, place int }{{4, -4}, {10, -16}, {0, -16}, {1, -20}, {3, -24}, {5, -32}} {
		if place, e := f.Local(row.size); place != row.place || e != api.OK || f.Size != -row.place {
			t.Errorf("Local(%d): %d, %d, Size %d, want %d", row.size, place, e, f.Size, row.place)
		}
	}
	f = frame.Frame{}
	f.Local(16380)
	if place, e := f.Local(5); place != 0 || e != api.ErrData || f.Size != 16380 {
		t.Errorf("Local(5) after Local(16380): %d, %d, Size %d", place, e, f.Size)
	}
	if place, e := f.Local(1); place != -16384 || e != api.OK || f.Size != 16384 {
		t.Errorf("Local(1) after Local(16380) and Local(5): %d, %d, Size %d", place, e, f.Size)
	}
}

// P18.1
func TestGlobalExamples(t *testing.T) {
	var d frame.Data
	for _, row := range []struct{ size, place, behind int }{{4, 0, 4}, {10, 4, 16}, {0, 16, 16}, {1, 16, 20}, {3, 20, 24}, {5, 24, 32}} {
		if place, e := d.Global(row.size); place != row.place || e != api.OK || d.Size != row.behind {
			t.Errorf("Global(%d): %d, %d, Size %d, want %d and Size %d", row.size, place, e, d.Size, row.place, row.behind)
		}
	}
	d = frame.Data{}
	d.Global(16380)
	if place, e := d.Global(5); place != 0 || e != api.ErrData || d.Size != 16380 {
		t.Errorf("Global(5) after Global(16380): %d, %d, Size %d", place, e, d.Size)
	}
	if place, e := d.Global(1); place != 16380 || e != api.OK || d.Size != 16384 {
		t.Errorf("Global(1) after Global(16380) and Global(5): %d, %d, Size %d", place, e, d.Size)
	}
}

// P18.1: each row tells what is used, the size, the error, and what is used then.
func TestEdges(t *testing.T) {
	for _, row := range []struct {
		used, size int
		err        api.Errno
		behind     int
	}{
		{0, 0, api.OK, 0},
		{0, 1, api.OK, 4},
		{0, 2, api.OK, 4},
		{0, 3, api.OK, 4},
		{0, 4, api.OK, 4},
		{0, 5, api.OK, 8},
		{0, 16380, api.OK, 16380},
		{0, 16381, api.OK, 16384},
		{0, 16383, api.OK, 16384},
		{0, 16384, api.OK, 16384},
		{0, 16385, api.ErrSize, 0},
		{0, -1, api.ErrSize, 0},
		{0, math.MinInt, api.ErrSize, 0},
		{0, math.MaxInt, api.ErrSize, 0},
		{4, 16380, api.OK, 16384},
		{4, 16379, api.OK, 16384},
		{4, 16381, api.ErrData, 4},
		{4, 16384, api.ErrData, 4},
		{4, 16385, api.ErrSize, 4},
		{16376, 4, api.OK, 16380},
		{16376, 7, api.OK, 16384},
		{16376, 8, api.OK, 16384},
		{16376, 9, api.ErrData, 16376},
		{16380, 0, api.OK, 16380},
		{16380, 1, api.OK, 16384},
		{16380, 3, api.OK, 16384},
		{16380, 4, api.OK, 16384},
		{16380, 5, api.ErrData, 16380},
		{16380, 16383, api.ErrData, 16380},
		{16380, -1, api.ErrSize, 16380},
		{16380, 16385, api.ErrSize, 16380},
		{16384, 0, api.OK, 16384},
		{16384, 1, api.ErrData, 16384},
		{16384, 4, api.ErrData, 16384},
		{16384, 16384, api.ErrData, 16384},
		{16384, 16385, api.ErrSize, 16384},
		{16384, -1, api.ErrSize, 16384},
		{16384, math.MinInt, api.ErrSize, 16384},
		{16384, math.MaxInt, api.ErrSize, 16384},
		// A Size that is no multiple of 4 stays as it is: the size alone is rounded.
		{5, 0, api.OK, 5},
		{5, 1, api.OK, 9},
		{5, 4, api.OK, 9},
		{5, 5, api.OK, 13},
		{16377, 4, api.OK, 16381},
		{16379, 4, api.OK, 16383},
		{16379, 8, api.ErrData, 16379},
		{16381, 0, api.OK, 16381},
		{16381, 4, api.ErrData, 16381},
		{16383, 0, api.OK, 16383},
		{16383, 2, api.ErrData, 16383},
		{1, 16380, api.OK, 16381},
		{1, 16384, api.ErrData, 1},
		{3, 16380, api.OK, 16383},
	} {
		want := answer{0, row.err, row.behind}
		if row.err == api.OK {
			want.place = -row.behind
		}
		if got := local(row.used, row.size); got != want {
			t.Errorf("Frame of %d, Local(%d): %v, want %v", row.used, row.size, got, want)
		}
		if row.err == api.OK {
			want.place = row.used
		}
		if got := global(row.used, row.size); got != want {
			t.Errorf("Data of %d, Global(%d): %v, want %v", row.used, row.size, got, want)
		}
	}
}

// P18.1: everything that can be used, with every size near an edge, and the other way round.
func TestAgainstModel(t *testing.T) {
	check := func(used, size int) {
		if got, want := local(used, size), modelLocal(used, size); got != want {
			t.Fatalf("Frame of %d, Local(%d): %v, want %v", used, size, got, want)
		}
		if got, want := global(used, size), modelGlobal(used, size); got != want {
			t.Fatalf("Data of %d, Global(%d): %v, want %v", used, size, got, want)
		}
	}
	for n := range 16385 {
		for _, size := range slices.Concat(near, far) {
			check(n, size)
		}
		for sum := 16376; sum <= 16392; sum++ {
			check(n, sum-n)
		}
		check(0, n)
		check(4, n)
		check(7, n)
		check(16384, n)
	}
}

// P18.1: with an error nothing is used, so that a smaller size still fits.
func TestBehindErrors(t *testing.T) {
	wrong := []int{-1, 16385, math.MinInt, math.MaxInt, 16384, 8193, 4097}
	var f frame.Frame
	var d frame.Data
	f.Local(12288)
	d.Global(12288)
	for _, size := range slices.Concat(wrong, wrong) {
		want := api.ErrSize
		if size >= 0 && size <= 16384 {
			want = api.ErrData
		}
		if place, e := f.Local(size); place != 0 || e != want || f.Size != 12288 {
			t.Errorf("Local(%d): %d, %d, Size %d, want the error %d", size, place, e, f.Size, want)
		}
		if place, e := d.Global(size); place != 0 || e != want || d.Size != 12288 {
			t.Errorf("Global(%d): %d, %d, Size %d, want the error %d", size, place, e, d.Size, want)
		}
	}
	if place, e := f.Local(4096); place != -16384 || e != api.OK {
		t.Errorf("Local(4096) behind errors: %d, %d", place, e)
	}
	if place, e := d.Global(4096); place != 12288 || e != api.OK {
		t.Errorf("Global(4096) behind errors: %d, %d", place, e)
	}
}

// P18.2
func TestParam(t *testing.T) {
	for _, row := range []struct {
		i, many, place int
		err            api.Errno
	}{
		{0, 1, 12, api.OK},
		{0, 2, 16, api.OK},
		{1, 2, 12, api.OK},
		{0, 3, 20, api.OK},
		{1, 3, 16, api.OK},
		{2, 3, 12, api.OK},
		{0, 16, 72, api.OK},
		{15, 16, 12, api.OK},
		{14, 16, 16, api.OK},
		{0, 0, 0, api.ErrParams},
		{-1, 0, 0, api.ErrParams},
		{-2, -1, 0, api.ErrParams},
		{0, -1, 0, api.ErrParams},
		{1, 1, 0, api.ErrParams},
		{-1, 1, 0, api.ErrParams},
		{2, 2, 0, api.ErrParams},
		{16, 16, 0, api.ErrParams},
		{-1, 16, 0, api.ErrParams},
		{0, 17, 0, api.ErrParams},
		{16, 17, 0, api.ErrParams},
		{17, 17, 0, api.ErrParams},
		{math.MinInt, math.MinInt, 0, api.ErrParams},
		{math.MaxInt - 1, math.MaxInt, 0, api.ErrParams},
		{0, math.MaxInt, 0, api.ErrParams},
		{math.MinInt, 16, 0, api.ErrParams},
		{math.MaxInt, 16, 0, api.ErrParams},
	} {
		if place, e := frame.Param(row.i, row.many); place != row.place || e != row.err {
			t.Errorf("Param(%d, %d): %d, %d, want %d, %d", row.i, row.many, place, e, row.place, row.err)
		}
	}
}

// P18.2: all that is near, and all that is far.
func TestParamAgainstModel(t *testing.T) {
	numbers := slices.Clone(far)
	for n := -20; n <= 40; n++ {
		numbers = append(numbers, n)
	}
	for _, many := range numbers {
		for _, i := range numbers {
			want, err := 0, api.ErrParams
			for place, n := 12, many-1; many > 0 && many <= 16 && n >= 0; place, n = place+4, n-1 {
				if n == i {
					want, err = place, api.OK
				}
			}
			if place, e := frame.Param(i, many); place != want || e != err {
				t.Errorf("Param(%d, %d): %d, %d, want %d, %d", i, many, place, e, want, err)
			}
		}
	}
}

// P18.2
func TestGone(t *testing.T) {
	for _, row := range [][2]int{{3, 16}, {0, 4}, {1, 8}, {2, 12}, {15, 64}, {16, 68}, {17, 68}, {18, 68}, {-1, 4}, {-16, 4}, {math.MinInt, 4}, {math.MaxInt, 68}} {
		if got := frame.Gone(row[0]); got != row[1] {
			t.Errorf("Gone(%d): %d, want %d", row[0], got, row[1])
		}
	}
	for n := -100; n <= 100; n++ {
		if got, want := frame.Gone(n), exact(4, held(n, 16)); want.Cmp(big.NewInt(int64(got))) != 0 {
			t.Errorf("Gone(%d): %d, want %d", n, got, want)
		}
	}
	for _, n := range slices.Concat(near, far) {
		if got, want := frame.Gone(n), exact(4, held(n, 16)); want.Cmp(big.NewInt(int64(got))) != 0 {
			t.Errorf("Gone(%d): %d, want %d", n, got, want)
		}
	}
}

// P18.2
func TestNeed(t *testing.T) {
	for _, row := range [][3]int{
		{8, 2, 80},
		{0, 0, 64},
		{1, 0, 65},
		{0, 1, 68},
		{16384, 0, 16448},
		{16385, 0, 16448},
		{0, 16384, 65600},
		{0, 16385, 65600},
		{16384, 16384, 81984},
		{16385, 16385, 81984},
		{16383, 16383, 81979},
		{-1, 0, 64},
		{0, -1, 64},
		{-4, 1, 68},
		{4, -1, 68},
		{math.MinInt, math.MinInt, 64},
		{math.MaxInt, math.MaxInt, 81984},
		{math.MinInt, math.MaxInt, 65600},
		{math.MaxInt, math.MinInt, 16448},
		{5, 32, 197},
	} {
		if got := frame.Need(row[0], row[1]); got != row[2] {
			t.Errorf("Need(%d, %d): %d, want %d", row[0], row[1], got, row[2])
		}
	}
	numbers := slices.Concat(near, far)
	next := random(1)
	for range 100 {
		numbers = append(numbers, next()-8192)
	}
	for _, size := range numbers {
		for _, waits := range numbers {
			want := exact(held(size, 16384)+64, held(waits, 16384))
			if got := frame.Need(size, waits); want.Cmp(big.NewInt(int64(got))) != 0 {
				t.Errorf("Need(%d, %d): %d, want %d", size, waits, got, want)
			}
		}
	}
}

// taken tells which bytes have a variable, by their distances.
type taken map[int]bool

// put fails where a variable stands on another one, or beyond what there is from low to behind.
func (b taken) put(t *testing.T, place, size, low, behind int) {
	t.Helper()
	if size > 0 && (place < low || place+size > behind) {
		t.Fatalf("a variable of %d bytes at %d is not from %d to %d", size, place, low, behind)
	}
	for n := range size {
		if b[place+n] {
			t.Fatalf("a variable of %d bytes at %d overlaps with one ahead of it", size, place)
		}
		b[place+n] = true
	}
}

// sizes returns a row of sizes, some of which can't be, and some of which find no room.
func sizes(seed uint32, most int) []int {
	next := random(seed)
	var row []int
	for range 50 + next()%200 {
		switch next() % 10 {
		case 0:
			row = append(row, far[next()%len(far)])
		case 1:
			row = append(row, near[next()%len(near)])
		case 2:
			row = append(row, -next()%20)
		default:
			row = append(row, next()%most)
		}
	}
	return append(row, 0, 7, 4, 3, 2, 1, 1, 1)
}

// P18.3, and P18.1 by rows of calls: variables of a frame, the parameters, and what else the frame has.
func TestFramesOverlapNothing(t *testing.T) {
	for seed := range uint32(300) {
		bytes := taken{}
		many := int(seed % 17)
		bytes.put(t, frame.Old, 4, 0, 12)
		bytes.put(t, frame.Back, 4, 0, 12)
		bytes.put(t, frame.Static, 4, 0, 12)
		for i := range many {
			place, e := frame.Param(i, many)
			if e != api.OK {
				t.Fatalf("Param(%d, %d): %d", i, many, e)
			}
			bytes.put(t, place, 4, frame.First, frame.Static+frame.Gone(many))
		}
		var f frame.Frame
		used := 0
		for _, size := range sizes(seed, 2+int(seed)%300) {
			want := modelLocal(used, size)
			place, e := f.Local(size)
			if got := (answer{place, e, f.Size}); got != want {
				t.Fatalf("seed %d, Frame of %d, Local(%d): %v, want %v", seed, used, size, got, want)
			}
			if e == api.OK {
				bytes.put(t, place, size, -16384, -used)
			}
			used = want.size
		}
	}
}

// P18.3, and P18.1 by rows of calls: variables of a module.
func TestDataOverlapsNothing(t *testing.T) {
	for seed := range uint32(300) {
		bytes := taken{}
		var d frame.Data
		used := 0
		for _, size := range sizes(seed+1000, 2+int(seed)%300) {
			want := modelGlobal(used, size)
			place, e := d.Global(size)
			if got := (answer{place, e, d.Size}); got != want {
				t.Fatalf("seed %d, Data of %d, Global(%d): %v, want %v", seed, used, size, got, want)
			}
			if e == api.OK {
				bytes.put(t, place, size, used, 16384)
			}
			used = want.size
		}
	}
}

// P18.3: each parameter stands 4 bytes below the one ahead of it, down to First.
func TestParamsOverlapNothing(t *testing.T) {
	for many := 1; many <= 16; many++ {
		place, e := frame.Param(0, many)
		if e != api.OK || place+4 != frame.Static+frame.Gone(many) {
			t.Errorf("Param(0, %d): %d, %d", many, place, e)
		}
		for i := 1; i < many; i++ {
			below, e := frame.Param(i, many)
			if e != api.OK || below != place-4 {
				t.Errorf("Param(%d, %d): %d, %d, behind %d", i, many, below, e, place)
			}
			place = below
		}
		if place != frame.First {
			t.Errorf("the last one of %d: %d", many, place)
		}
	}
}

// P18.3: all small rows of sizes.
func TestSmallRows(t *testing.T) {
	list := []int{-1, 0, 1, 3, 4, 5, 8191, 8192, 16380, 16384, 16385}
	for n := range len(list) * len(list) * len(list) * len(list) {
		below, above := taken{}, taken{}
		var f frame.Frame
		var d frame.Data
		used := 0
		for rest, k := n, 0; k < 4; rest, k = rest/len(list), k+1 {
			size := list[rest%len(list)]
			want := modelLocal(used, size)
			place, e := f.Local(size)
			at, err := d.Global(size)
			if place != want.place || e != want.err || err != want.err || f.Size != want.size || d.Size != want.size {
				t.Fatalf("row %d, call %d: %d, %d, %d, %d, want %v", n, k, place, e, at, err, want)
			}
			if size >= 0 && size <= 5 && e == api.OK {
				below.put(t, place, size, -16384, -used)
				above.put(t, at, size, used, 16384)
			}
			used = want.size
		}
	}
}

// P18.3: a full frame and full data have 4096 variables of one word or less.
func TestMuch(t *testing.T) {
	var f frame.Frame
	var d frame.Data
	for n := range 4096 {
		size := n%4 + 1
		if place, e := f.Local(size); place != -4*(n+1) || e != api.OK {
			t.Fatalf("Local %d: %d, %d", n, place, e)
		}
		if place, e := d.Global(size); place != 4*n || e != api.OK {
			t.Fatalf("Global %d: %d, %d", n, place, e)
		}
	}
	for n := range 100000 {
		if place, e := f.Local(n%16384 + 1); place != 0 || e != api.ErrData || f.Size != 16384 {
			t.Fatalf("Local of a full frame: %d, %d, Size %d", place, e, f.Size)
		}
		if place, e := d.Global(n%16384 + 1); place != 0 || e != api.ErrData || d.Size != 16384 {
			t.Fatalf("Global of full data: %d, %d, Size %d", place, e, d.Size)
		}
		if place, e := f.Local(0); place != -16384 || e != api.OK {
			t.Fatalf("Local(0) of a full frame: %d, %d", place, e)
		}
		if place, e := d.Global(0); place != 16384 || e != api.OK {
			t.Fatalf("Global(0) of full data: %d, %d", place, e)
		}
	}
}

// P2: what one object was asked for does not show at another one, also not at a copy.
func TestObjectsAreApart(t *testing.T) {
	var f, g frame.Frame
	var d, c frame.Data
	f.Local(100)
	d.Global(200)
	copied, moved := f, d
	if place, e := g.Local(4); place != -4 || e != api.OK {
		t.Errorf("Local of another frame: %d, %d", place, e)
	}
	if place, e := c.Global(4); place != 0 || e != api.OK || c.Size != 4 {
		t.Errorf("Global of other data: %d, %d, Size %d", place, e, c.Size)
	}
	copied.Local(50)
	moved.Global(50)
	if place, e := f.Local(4); place != -104 || e != api.OK {
		t.Errorf("Local of a frame that was copied: %d, %d", place, e)
	}
	if place, e := d.Global(4); place != 200 || e != api.OK {
		t.Errorf("Global of data that was copied: %d, %d", place, e)
	}
	f.Size = 8
	d.Size = 8
	if place, e := f.Local(4); place != -12 || e != api.OK {
		t.Errorf("Local of a frame whose Size was set: %d, %d", place, e)
	}
	if place, e := d.Global(4); place != 8 || e != api.OK {
		t.Errorf("Global of data whose Size was set: %d, %d", place, e)
	}
}

// P1, P2: a Size that can't be gives no place, whatever size is asked for, and stays as it is.
func TestSizesThatCannotBe(t *testing.T) {
	for _, used := range slices.Concat(near, far) {
		if used >= 0 && used <= 16384 {
			continue
		}
		for _, size := range slices.Concat(near, far) {
			want := answer{0, api.ErrData, used}
			if size < 0 || size > 16384 {
				want.err = api.ErrSize
			}
			if got := local(used, size); got != want {
				t.Errorf("Frame of %d, Local(%d): %v, want %v", used, size, got, want)
			}
			if got := global(used, size); got != want {
				t.Errorf("Data of %d, Global(%d): %v, want %v", used, size, got, want)
			}
		}
	}
}
