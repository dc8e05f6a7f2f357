package word_test

import (
	"bytes"
	"math"
	"math/big"
	"slices"
	"strconv"
	"testing"

	"pascaline/word"
)

// numbers returns the edges of 32 bits and of shorter numbers, and a fixed row of others between them.
func numbers() []int32 {
	list := []int32{0, 1, 2, 3, 7, 9, 10, 11, 99, 100, word.Most, word.Most - 1}
	for bits := 2; bits < 32; bits += 3 {
		list = append(list, 1<<bits-1, 1<<bits, 1<<bits+1)
	}
	state := uint32(1)
	for range 40 {
		state = state*1664525 + 1013904223
		list = append(list, int32(state), int32(state>>16))
	}
	for _, n := range list {
		list = append(list, -n)
	}
	return append(list, word.Least, word.Least+1)
}

// wrapped reduces a whole number of any size modulo 2^32 to the range from Least to Most.
func wrapped(n *big.Int) int32 {
	size := big.NewInt(1 << 32)
	rest := new(big.Int).Mod(n, size)
	if rest.Cmp(big.NewInt(word.Most)) > 0 {
		rest.Sub(rest, size)
	}
	return int32(rest.Int64())
}

func wide(n int32) *big.Int { return big.NewInt(int64(n)) }

func TestLimits(t *testing.T) {
	if word.Most != math.MaxInt32 || word.Least != math.MinInt32 {
		t.Errorf("Most %d, Least %d", word.Most, word.Least)
	}
}

// P1.1
func TestSum(t *testing.T) {
	tests := []struct {
		list []int32
		want int32
	}{
		{nil, 0},
		{[]int32{}, 0},
		{[]int32{5}, 5},
		{[]int32{-5}, -5},
		{[]int32{2, 3}, 5},
		{[]int32{1, -2, 3, -4}, -2},
		{[]int32{word.Most, 1}, word.Least},
		{[]int32{word.Least, -1}, word.Most},
		{[]int32{word.Most, word.Most}, -2},
		{[]int32{word.Least, word.Least}, 0},
		{[]int32{word.Most, word.Least}, -1},
		{[]int32{word.Most, 1, -1}, word.Most},
		{[]int32{word.Least, word.Least, word.Least}, word.Least},
	}
	for _, x := range tests {
		if got := word.Sum(x.list...); got != x.want {
			t.Errorf("Sum(%v): %d, not %d", x.list, got, x.want)
		}
	}
	if got := word.Sum(); got != 0 {
		t.Errorf("Sum(): %d, not 0", got)
	}
}

// P1.1
func TestMinus(t *testing.T) {
	tests := []struct{ a, b, want int32 }{
		{0, 0, 0},
		{5, 3, 2},
		{3, 5, -2},
		{-3, -5, 2},
		{word.Least, 1, word.Most},
		{word.Most, -1, word.Least},
		{0, word.Least, word.Least},
		{-1, word.Least, word.Most},
		{word.Most, word.Least, -1},
		{word.Least, word.Most, 1},
		{word.Least, word.Least, 0},
	}
	for _, x := range tests {
		if got := word.Minus(x.a, x.b); got != x.want {
			t.Errorf("Minus(%d, %d): %d, not %d", x.a, x.b, got, x.want)
		}
	}
}

// P1.1
func TestTimes(t *testing.T) {
	tests := []struct {
		list []int32
		want int32
	}{
		{nil, 1},
		{[]int32{}, 1},
		{[]int32{5}, 5},
		{[]int32{0}, 0},
		{[]int32{2, -3}, -6},
		{[]int32{2, 3, 7}, 42},
		{[]int32{65536, 65536}, 0},
		{[]int32{65536, 32768}, word.Least},
		{[]int32{65536, 65537}, 65536},
		{[]int32{46341, 46341}, -2147479015},
		{[]int32{word.Least, -1}, word.Least},
		{[]int32{word.Most, word.Most}, 1},
		{[]int32{word.Most, 2}, -2},
		{[]int32{word.Least, 2}, 0},
		{[]int32{word.Least, 3, -1}, word.Least},
	}
	for _, x := range tests {
		if got := word.Times(x.list...); got != x.want {
			t.Errorf("Times(%v): %d, not %d", x.list, got, x.want)
		}
	}
	if got := word.Times(); got != 1 {
		t.Errorf("Times(): %d, not 1", got)
	}
}

// P1.1
func TestWrappedAround(t *testing.T) {
	for _, a := range numbers() {
		for _, b := range numbers() {
			if got, want := word.Sum(a, b), wrapped(new(big.Int).Add(wide(a), wide(b))); got != want {
				t.Fatalf("Sum(%d, %d): %d, not %d", a, b, got, want)
			}
			if got, want := word.Minus(a, b), wrapped(new(big.Int).Sub(wide(a), wide(b))); got != want {
				t.Fatalf("Minus(%d, %d): %d, not %d", a, b, got, want)
			}
			if got, want := word.Times(a, b), wrapped(new(big.Int).Mul(wide(a), wide(b))); got != want {
				t.Fatalf("Times(%d, %d): %d, not %d", a, b, got, want)
			}
		}
	}
}

// P1.1
func TestManyNumbers(t *testing.T) {
	list := numbers()
	sum, product := big.NewInt(0), big.NewInt(1)
	for i := range list {
		list[i] |= 1 // the product of all of them would be 0
		sum.Add(sum, wide(list[i]))
		product.Mul(product, wide(list[i]))
	}
	if got, want := word.Sum(list...), wrapped(sum); got != want {
		t.Errorf("Sum of %d numbers: %d, not %d", len(list), got, want)
	}
	if got, want := word.Times(list...), wrapped(product); got != want {
		t.Errorf("Times of %d numbers: %d, not %d", len(list), got, want)
	}
}

// P1.1
func TestDivMod(t *testing.T) {
	tests := []struct{ a, b, div, mod int32 }{
		{7, 2, 3, 1},
		{-7, 2, -4, 1},
		{7, -2, -4, -1},
		{-7, -2, 3, -1},
		{6, 2, 3, 0},
		{-6, 2, -3, 0},
		{6, -2, -3, 0},
		{-6, -2, 3, 0},
		{0, 5, 0, 0},
		{0, -5, 0, 0},
		{1, 5, 0, 1},
		{-1, 5, -1, 4},
		{1, -5, -1, -4},
		{-1, -5, 0, -1},
		{word.Least, -1, word.Least, 0},
		{word.Least, 1, word.Least, 0},
		{word.Most, 1, word.Most, 0},
		{word.Most, -1, -word.Most, 0},
		{word.Least, word.Least, 1, 0},
		{word.Most, word.Most, 1, 0},
		{word.Least, word.Most, -2, word.Most - 1},
		{word.Most, word.Least, -1, -1},
		{1, word.Least, -1, word.Least + 1},
		{-1, word.Least, 0, -1},
		{-1, word.Most, -1, word.Most - 1},
		{0, word.Least, 0, 0},
	}
	for _, x := range tests {
		if got, ok := word.Div(x.a, x.b); got != x.div || !ok {
			t.Errorf("Div(%d, %d): %d %v, not %d", x.a, x.b, got, ok, x.div)
		}
		if got, ok := word.Mod(x.a, x.b); got != x.mod || !ok {
			t.Errorf("Mod(%d, %d): %d %v, not %d", x.a, x.b, got, ok, x.mod)
		}
	}
}

// P1.1
func TestDivModByZero(t *testing.T) {
	for _, a := range numbers() {
		if got, ok := word.Div(a, 0); got != 0 || ok {
			t.Errorf("Div(%d, 0): %d %v", a, got, ok)
		}
		if got, ok := word.Mod(a, 0); got != 0 || ok {
			t.Errorf("Mod(%d, 0): %d %v", a, got, ok)
		}
	}
}

// roundedDown returns the greatest whole number q for which q times the absolute value of b does not exceed a with the sign of b.
func roundedDown(a, b int32) *big.Int {
	x, y := wide(a), wide(b)
	if b < 0 {
		x.Neg(x)
		y.Neg(y)
	}
	// The remainder of big's Div is never negative, so with y > 0 it rounds down.
	return x.Div(x, y)
}

// P1.1, P1.5
func TestDivModOfAll(t *testing.T) {
	for _, a := range numbers() {
		for _, b := range numbers() {
			if b == 0 {
				continue
			}
			q, okDiv := word.Div(a, b)
			r, okMod := word.Mod(a, b)
			if !okDiv || !okMod {
				t.Fatalf("%d by %d: %v %v", a, b, okDiv, okMod)
			}
			if want := wrapped(roundedDown(a, b)); q != want {
				t.Fatalf("Div(%d, %d): %d, not %d", a, b, q, want)
			}
			back := new(big.Int).Mul(wide(b), wide(q))
			if got := wrapped(back.Add(back, wide(r))); got != a {
				t.Fatalf("%d by %d: %d times the quotient and the remainder are %d", a, b, b, got)
			}
			if r != 0 && (r < 0) != (b < 0) {
				t.Fatalf("Mod(%d, %d): %d has not the sign of %d", a, b, r, b)
			}
			if wide(r).CmpAbs(wide(b)) >= 0 {
				t.Fatalf("Mod(%d, %d): %d is too great", a, b, r)
			}
		}
	}
}

// P1.2
func TestSext(t *testing.T) {
	tests := []struct {
		w    uint32
		bits int
		want int32
	}{
		{0x8000, 16, -32768},
		{0x7fff, 16, 32767},
		{0xffff, 16, -1},
		{0x12348000, 16, -32768},
		{0xffff7fff, 16, 32767},
		{1, 1, -1},
		{2, 1, 0},
		{3, 2, -1},
		{2, 2, -2},
		{0xffffff, 24, -1},
		{0x800000, 24, -8388608},
		{0x7fffffff, 31, -1},
		{0x3fffffff, 31, 1<<30 - 1},
		{0xffffffff, 32, -1},
		{0x80000000, 32, word.Least},
		{0x7fffffff, 32, word.Most},
		{0x80000000, 33, word.Least},
		{0xfffffffe, 40, -2},
		{0xfffffffe, 41, -2},
		{0xfffffffe, 64, -2},
		{0xfffffffe, 65, -2},
		{0x80000001, math.MaxInt, word.Least + 1},
		{0xffffffff, 0, 0},
		{0xffffffff, -1, 0},
		{0xffffffff, -32, 0},
		{0xffffffff, math.MinInt, 0},
	}
	for _, x := range tests {
		if got := word.Sext(x.w, x.bits); got != x.want {
			t.Errorf("Sext(%#x, %d): %d, not %d", x.w, x.bits, got, x.want)
		}
	}
}

// P1.2
func TestSextOfAll(t *testing.T) {
	for bits := 1; bits <= 32; bits++ {
		size := int64(1) << bits
		for _, n := range numbers() {
			w := uint32(n)
			want := int64(w) % size
			if want >= size/2 {
				want -= size
			}
			if got := word.Sext(w, bits); int64(got) != want {
				t.Fatalf("Sext(%#x, %d): %d, not %d", w, bits, got, want)
			}
		}
	}
}

// P1.2
func TestFits(t *testing.T) {
	for bits := 1; bits <= 70; bits++ {
		half := 1 << (min(bits, 40) - 1)
		for n, want := range map[int]bool{-half - 1: false, -half: true, half - 1: true, half: false, 0: true, -1: true, math.MaxInt: false, math.MinInt: false} {
			if got := word.Fits(n, bits); got != want {
				t.Errorf("Fits(%d, %d): %v", n, bits, got)
			}
		}
	}
	for _, bits := range []int{0, -1, -40, math.MinInt} {
		for _, n := range []int{0, 1, -1, word.Least, math.MaxInt, math.MinInt} {
			if word.Fits(n, bits) {
				t.Errorf("Fits(%d, %d)", n, bits)
			}
		}
	}
	if !word.Fits(1<<39-1, math.MaxInt) || word.Fits(1<<39, math.MaxInt) || !word.Fits(-1<<39, math.MaxInt) || word.Fits(-1<<39-1, math.MaxInt) {
		t.Error("Fits: many bits do not count as 40")
	}
}

// P1.2
func TestWithin(t *testing.T) {
	for bits := 0; bits <= 70; bits++ {
		size := 1 << min(bits, 40)
		for n, want := range map[int]bool{-1: false, 0: true, size - 1: true, size: false, -size: false, math.MaxInt: false, math.MinInt: false} {
			if got := word.Within(n, bits); got != want {
				t.Errorf("Within(%d, %d): %v", n, bits, got)
			}
		}
	}
	for _, bits := range []int{-1, -2, -40, math.MinInt} {
		for _, n := range []int{0, 1, -1, word.Least, math.MaxInt, math.MinInt} {
			if word.Within(n, bits) {
				t.Errorf("Within(%d, %d)", n, bits)
			}
		}
	}
	if !word.Within(1<<40-1, math.MaxInt) || word.Within(1<<40, math.MaxInt) {
		t.Error("Within: many bits do not count as 40")
	}
}

// P1.3
func TestPut(t *testing.T) {
	tests := []struct {
		out  []byte
		w    uint32
		want []byte
	}{
		{nil, 0x04030201, []byte{1, 2, 3, 4}},
		{[]byte{}, 0, []byte{0, 0, 0, 0}},
		{[]byte{9}, 0x01020304, []byte{9, 4, 3, 2, 1}},
		{[]byte{1, 2, 3, 4, 5}, 0xff000080, []byte{1, 2, 3, 4, 5, 0x80, 0, 0, 0xff}},
		{nil, 0xffffffff, []byte{255, 255, 255, 255}},
	}
	for _, x := range tests {
		if got := word.Put(x.out, x.w); !bytes.Equal(got, x.want) {
			t.Errorf("Put(%v, %#x): %v, not %v", x.out, x.w, got, x.want)
		}
	}
}

// P1.3
func TestGet(t *testing.T) {
	tests := []struct {
		data []byte
		want uint32
		ok   bool
	}{
		{[]byte{1, 2, 3, 4}, 0x04030201, true},
		{[]byte{0, 0, 0, 0}, 0, true},
		{[]byte{0x80, 0, 0, 0xff}, 0xff000080, true},
		{[]byte{255, 255, 255, 255}, 0xffffffff, true},
		{nil, 0, false},
		{[]byte{}, 0, false},
		{[]byte{1}, 0, false},
		{[]byte{1, 2, 3}, 0, false},
		{[]byte{1, 2, 3, 4, 5}, 0, false},
		{[]byte{1, 2, 3, 4, 5, 6, 7, 8}, 0, false},
		{[]byte{1, 2, 3, 4, 5}[:3], 0, false},
	}
	for _, x := range tests {
		if got, ok := word.Get(x.data); got != x.want || ok != x.ok {
			t.Errorf("Get(%v): %#x %v, not %#x %v", x.data, got, ok, x.want, x.ok)
		}
	}
}

// P1.4
func TestText(t *testing.T) {
	tests := []struct {
		n    int
		want string
	}{
		{0, "0"},
		{1, "1"},
		{-1, "-1"},
		{9, "9"},
		{10, "10"},
		{-10, "-10"},
		{-120, "-120"},
		{1000000, "1000000"},
		{word.Most, "2147483647"},
		{word.Least, "-2147483648"},
		{word.Most + 1, "2147483648"},
		{word.Least - 1, "-2147483649"},
		{math.MaxInt64, "9223372036854775807"},
		{math.MinInt64, "-9223372036854775808"},
	}
	for _, x := range tests {
		if got := word.Text(x.n); got != x.want {
			t.Errorf("Text(%d): %q, not %q", x.n, got, x.want)
		}
	}
	for _, n := range numbers() {
		for _, wider := range []int{int(n), int(n) * word.Most} {
			if got := word.Text(wider); got != strconv.Itoa(wider) {
				t.Errorf("Text(%d): %q", wider, got)
			}
		}
	}
}

// P1.4
func TestParse(t *testing.T) {
	tests := map[string]int32{
		"0": 0, "1": 1, "-1": -1, "9": 9, "10": 10, "-10": -10, "-120": -120, "100": 100,
		"2147483646": word.Most - 1, "2147483647": word.Most, "-2147483647": word.Least + 1, "-2147483648": word.Least,
	}
	for s, want := range tests {
		if got, ok := word.Parse(s); got != want || !ok {
			t.Errorf("Parse(%q): %d %v, not %d", s, got, ok, want)
		}
	}
}

// P1.4
func TestParseOfNoText(t *testing.T) {
	tests := []string{
		"", "-", "--", "--1", "-0", "-00", "00", "01", "007", "-01", "+", "+0", "+1", "+-1", "-+1",
		" ", " 1", "1 ", "- 1", "1 2", "\t1", "1\n", "\x001", "1\x00",
		"2147483648", "-2147483649", "2147483650", "3000000000", "4294967295", "4294967296", "4294967297", "-4294967297", "9999999999",
		"9223372036854775807", "9223372036854775808", "18446744073709551615", "18446744073709551616", "18446744073709551617", "-18446744073709551617",
		"340282366920938463463374607431768211457", "00000000001", "02147483647",
		"a", "1a", "f", "0x1", "1.0", "1e3", "1_000", "1,000", "1-", "1-1", "12/", "12:", "/", ":", "٣", "१", "\xff", "−1", "٢1",
	}
	for _, s := range tests {
		if got, ok := word.Parse(s); got != 0 || ok {
			t.Errorf("Parse(%q): %d %v", s, got, ok)
		}
	}
}

// shortTexts returns all texts of at most that many of the signs.
func shortTexts(signs string, most int) []string {
	list := []string{""}
	for first := 0; most > 0; most-- {
		size := len(list)
		for _, s := range list[first:size] {
			for _, sign := range signs {
				list = append(list, s+string(sign))
			}
		}
		first = size
	}
	return list
}

// P1.4: of all short texts, just those are read that are Text of what is read.
func TestParseOfShortTexts(t *testing.T) {
	for _, s := range shortTexts("-+ 0129ax", 5) {
		want, err := strconv.ParseInt(s, 10, 32)
		isText := err == nil && strconv.FormatInt(want, 10) == s
		if !isText {
			want = 0
		}
		if got, ok := word.Parse(s); int64(got) != want || ok != isText {
			t.Fatalf("Parse(%q): %d %v, not %d %v", s, got, ok, want, isText)
		}
	}
}

// P1.4
func TestHex(t *testing.T) {
	tests := map[uint32]string{
		0: "00000000", 1: "00000001", 9: "00000009", 10: "0000000a", 15: "0000000f", 16: "00000010", 255: "000000ff",
		0x12345678: "12345678", 0x9abcdef0: "9abcdef0", 0x16ffffff: "16ffffff", 0x80000000: "80000000", 0xffffffff: "ffffffff",
	}
	for w, want := range tests {
		if got := word.Hex(w); got != want {
			t.Errorf("Hex(%d): %q, not %q", w, got, want)
		}
		if got, ok := word.ParseHex(want); got != w || !ok {
			t.Errorf("ParseHex(%q): %#x %v, not %#x", want, got, ok, w)
		}
	}
}

// P1.4
func TestParseHexOfNoHex(t *testing.T) {
	tests := []string{
		"", "0", "ff", "1234567", "123456789", "00000000ff", "000000000",
		"0000000A", "000000FF", "ABCDEF01", "0000000F", "0000000g", "g0000000", "0000000G",
		"0x0000ff", "0X0000ff", "-0000001", "+0000001", " 0000001", "0000001 ", "0000 001", "0000001\n", "0000_001", "000000ff ",
		"0000000/", "0000000:", "0000000@", "0000000`", "0000000\x00", "0000000\xff", "000000é", "٣٣٣٣",
	}
	for _, s := range tests {
		if got, ok := word.ParseHex(s); got != 0 || ok {
			t.Errorf("ParseHex(%q): %#x %v", s, got, ok)
		}
	}
}

// P1.6
func TestInverses(t *testing.T) {
	for _, n := range numbers() {
		w := uint32(n)
		if got, ok := word.Parse(word.Text(int(n))); got != n || !ok {
			t.Errorf("Parse of Text(%d): %d %v", n, got, ok)
		}
		if got, ok := word.ParseHex(word.Hex(w)); got != w || !ok {
			t.Errorf("ParseHex of Hex(%#x): %#x %v", w, got, ok)
		}
		if got, ok := word.Get(word.Put(nil, w)); got != w || !ok {
			t.Errorf("Get of Put(%#x): %#x %v", w, got, ok)
		}
	}
	// One bit, byte or digit alone shows where two are exchanged.
	for bit := range 32 {
		w := uint32(1) << bit
		if got, ok := word.Get(word.Put([]byte{7}, w)[1:]); got != w || !ok {
			t.Errorf("Get of Put(%#x): %#x %v", w, got, ok)
		}
		if got, ok := word.ParseHex(word.Hex(w)); got != w || !ok {
			t.Errorf("ParseHex of Hex(%#x): %#x %v", w, got, ok)
		}
	}
}

// P2: lists are not changed.
func TestArgumentsStay(t *testing.T) {
	list := numbers()
	before := slices.Clone(list)
	word.Sum(list...)
	word.Times(list...)
	if !slices.Equal(list, before) {
		t.Error("Sum or Times changed its list")
	}
	data := []byte{1, 2, 3, 4}
	word.Get(data)
	if !bytes.Equal(data, []byte{1, 2, 3, 4}) {
		t.Errorf("Get changed its list to %v", data)
	}
}

// P2: Put neither writes into the spare capacity of its list, nor shares memory with it or with another result.
func TestPutIsNewMemory(t *testing.T) {
	room := []byte{1, 2, 3, 4, 5, 6, 7, 8, 9, 10}
	before := slices.Clone(room)
	for size := range len(room) + 1 {
		first := word.Put(room[:size], 0xaaaaaaaa)
		second := word.Put(room[:size], 0xbbbbbbbb)
		if !bytes.Equal(room, before) {
			t.Fatalf("Put behind %d bytes: the room is %v", size, room)
		}
		if !bytes.Equal(first, append(slices.Clone(before[:size]), 0xaa, 0xaa, 0xaa, 0xaa)) {
			t.Fatalf("Put behind %d bytes: %v", size, first)
		}
		for i := range second {
			second[i] = 0
		}
		if first[size] != 0xaa || !bytes.Equal(room, before) {
			t.Fatalf("Put behind %d bytes shares memory", size)
		}
	}
}
