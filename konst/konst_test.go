package konst_test

import (
	"math"
	"math/big"
	"slices"
	"strconv"
	"strings"
	"sync"
	"testing"
	"unsafe"

	"pascaline/api"
	"pascaline/konst"
)

// binary and unary are all operators.
var (
	binary = []string{"+", "-", "*", "DIV", "MOD", "AND", "OR", "=", "#", "<", "<=", ">", ">="}
	unary  = []string{"-", "NOT", "ODD", "ORD", "CHR"}
)

// noSigns are operators of neither kind: keywords, names, marks, and what merely resembles an operator.
var noSigns = []string{
	"", " ", "++", "--", "+ ", " +", "+\x00", "\x00", "**", "/", "%", "&", "~", "!", "!=", "<>", "==", "=<", "=>", ":=", "(", ")", "^", "|",
	"div", "Div", "mod", "and", "And", "or", "not", "Not", "odd", "ord", "chr", "DIVX", "DI", "MO", "ANDOR", "O", "NO", "OD", "CH",
	"IF", "TRUE", "FALSE", "NIL", "NEW", "OF", "RAISE", "LEN", "XOR", "ABS", "x", "1", "\xff", "\u2212", "\u2264", strings.Repeat("+", 1000), strings.Repeat("DIV", 30000),
}

// kinds are the four types of values, and numbers of types that no valid value has.
var (
	valid   = []int{api.Int, api.Bool, api.Char, api.Nil}
	invalid = []int{api.None, -1, -4, 5, 6, 7, 260, math.MinInt32, math.MaxInt32, math.MinInt, math.MaxInt, 1<<32 + api.Int, 1<<32 + api.Bool}
	kinds   = slices.Concat(valid, invalid)
)

// numbers are the edges of the types, of bytes, of 32 bits, and others between them.
var numbers = []int32{
	math.MinInt32, math.MinInt32 + 1, -65536, -46341, -257, -256, -255, -128, -7, -3, -2, -1, 0, 1, 2, 3, 7, 31, 32, 33, 39, 65, 92, 126, 127, 128, 255, 256, 257,
	46341, 65535, 65536, 1 << 24, 1<<24 + 1, 1 << 30, math.MaxInt32 - 1, math.MaxInt32,
}

func number(n int32) konst.Value { return konst.Value{Type: api.Int, N: n} }

func char(n int32) konst.Value { return konst.Value{Type: api.Char, N: n} }

// boolean can be a value that is not valid.
func boolean(n int32) konst.Value { return konst.Value{Type: api.Bool, N: n} }

func none(n int32) konst.Value { return konst.Value{Type: api.Nil, N: n} }

func truth(is bool) konst.Value {
	if is {
		return boolean(1)
	}
	return boolean(0)
}

// values returns all pairs of a type and a number.
func values() []konst.Value {
	var list []konst.Value
	for _, kind := range kinds {
		for _, n := range numbers {
			list = append(list, konst.Value{Type: kind, N: n})
		}
	}
	return list
}

// wantRight is what P10.1 says of Right, type by type.
func wantRight(v konst.Value) bool {
	return v.Type == 1 ||
		v.Type == 2 && slices.Contains([]int32{0, 1}, v.N) ||
		v.Type == 3 && int32(uint8(v.N)) == v.N ||
		v.Type == 4 && v.N == 0
}

// isTwo fails unless Two has one result.
func isTwo(t *testing.T, sign string, a, b, want konst.Value, e api.Errno) {
	t.Helper()
	if got, err := konst.Two(sign, a, b); got != want || err != e {
		t.Errorf("Two(%.20q, %v, %v): %v %d, not %v %d", sign, a, b, got, err, want, e)
	}
}

func refusesTwo(t *testing.T, sign string, a, b konst.Value, e api.Errno) {
	t.Helper()
	isTwo(t, sign, a, b, konst.Value{}, e)
}

// isOne fails unless One has one result.
func isOne(t *testing.T, sign string, a, want konst.Value, e api.Errno) {
	t.Helper()
	if got, err := konst.One(sign, a); got != want || err != e {
		t.Errorf("One(%.20q, %v): %v %d, not %v %d", sign, a, got, err, want, e)
	}
}

func refusesOne(t *testing.T, sign string, a konst.Value, e api.Errno) {
	t.Helper()
	isOne(t, sign, a, konst.Value{}, e)
}

func isText(t *testing.T, v konst.Value, want string) {
	t.Helper()
	if got := konst.Text(v); got != want {
		t.Errorf("Text(%v): %q, not %q", v, got, want)
	}
}

// P10.1
func TestRight(t *testing.T) {
	tests := []struct {
		v    konst.Value
		want bool
	}{
		{number(0), true},
		{number(-1), true},
		{number(math.MinInt32), true},
		{number(math.MaxInt32), true},
		{boolean(0), true},
		{boolean(1), true},
		{boolean(2), false},
		{boolean(-1), false},
		{boolean(256), false},
		{boolean(math.MinInt32), false},
		{boolean(math.MaxInt32), false},
		{char(0), true},
		{char(31), true},
		{char(65), true},
		{char(127), true},
		{char(128), true},
		{char(255), true},
		{char(-1), false},
		{char(256), false},
		{char(-256), false},
		{char(math.MinInt32), false},
		{char(math.MaxInt32), false},
		{none(0), true},
		{none(1), false},
		{none(-1), false},
		{none(math.MinInt32), false},
		{none(math.MaxInt32), false},
		{konst.Value{}, false},
		{konst.Value{Type: -1}, false},
		{konst.Value{Type: -1, N: 1}, false},
		{konst.Value{Type: 5}, false},
		{konst.Value{Type: 5, N: 1}, false},
		{konst.Value{Type: 1<<32 + api.Int}, false},
		{konst.Value{Type: math.MinInt}, false},
		{konst.Value{Type: math.MaxInt}, false},
	}
	for _, x := range tests {
		if got := konst.Right(x.v); got != x.want {
			t.Errorf("Right(%v): %v", x.v, got)
		}
	}
	for _, v := range values() {
		if got := konst.Right(v); got != wantRight(v) {
			t.Errorf("Right(%v): %v", v, got)
		}
	}
}

// P10.1: the examples.
func TestTwoExamples(t *testing.T) {
	isTwo(t, "<", char('a'), char('b'), boolean(1), api.OK)
	refusesTwo(t, "+", char('a'), char('b'), api.ErrType)
	isTwo(t, "DIV", number(-7), number(2), number(-4), api.OK)
}

// P10.1
func TestTwoOfNumbers(t *testing.T) {
	const least, most = math.MinInt32, math.MaxInt32
	tests := []struct {
		sign       string
		a, b, want int32
	}{
		{"+", 2, 3, 5},
		{"+", -2, -3, -5},
		{"+", most, 1, least},
		{"+", least, -1, most},
		{"+", most, most, -2},
		{"+", least, least, 0},
		{"-", 2, 3, -1},
		{"-", 3, 2, 1},
		{"-", least, 1, most},
		{"-", most, -1, least},
		{"-", 0, least, least},
		{"-", -1, least, most},
		{"*", 6, -7, -42},
		{"*", 0, least, 0},
		{"*", 65536, 65536, 0},
		{"*", 65536, 32768, least},
		{"*", 46341, 46341, -2147479015},
		{"*", least, -1, least},
		{"*", most, most, 1},
		{"DIV", 7, 2, 3},
		{"DIV", -7, 2, -4},
		{"DIV", 7, -2, -4},
		{"DIV", -7, -2, 3},
		{"DIV", 6, -2, -3},
		{"DIV", 0, 5, 0},
		{"DIV", 5, -1, -5},
		{"DIV", least, -1, least},
		{"DIV", least, 1, least},
		{"DIV", most, -1, -most},
		{"DIV", least, least, 1},
		{"DIV", most, least, -1},
		{"MOD", 7, 2, 1},
		{"MOD", -7, 2, 1},
		{"MOD", 7, -2, -1},
		{"MOD", -7, -2, -1},
		{"MOD", 6, 2, 0},
		{"MOD", -1, 5, 4},
		{"MOD", 5, -1, 0},
		{"MOD", least, -1, 0},
		{"MOD", least, most, most - 1},
		{"MOD", most, least, -1},
	}
	for _, x := range tests {
		isTwo(t, x.sign, number(x.a), number(x.b), number(x.want), api.OK)
	}
}

// P10.1
func TestTwoByZero(t *testing.T) {
	for _, sign := range []string{"DIV", "MOD"} {
		for _, n := range numbers {
			refusesTwo(t, sign, number(n), number(0), api.ErrZero)
		}
		// The types are checked first.
		for _, kind := range kinds {
			if kind != api.Int {
				refusesTwo(t, sign, konst.Value{Type: kind}, number(0), api.ErrType)
				refusesTwo(t, sign, number(1), konst.Value{Type: kind}, api.ErrType)
				refusesTwo(t, sign, konst.Value{Type: kind, N: 1}, konst.Value{Type: kind}, api.ErrType)
			}
		}
	}
	for _, sign := range []string{"+", "-", "*"} {
		if _, e := konst.Two(sign, number(1), number(0)); e != api.OK {
			t.Errorf("1 %s 0: %d", sign, e)
		}
	}
}

// P10.1
func TestTwoOfTruths(t *testing.T) {
	for _, x := range []struct{ a, b, and, or int32 }{
		{0, 0, 0, 0},
		{0, 1, 0, 1},
		{1, 0, 0, 1},
		{1, 1, 1, 1},
		// Every other number counts as true, and the result is 0 or 1 all the same.
		{2, 0, 0, 1},
		{0, 2, 0, 1},
		{2, 1, 1, 1},
		{1, 2, 1, 1},
		{2, 4, 1, 1},
		{-1, -1, 1, 1},
		{-1, 0, 0, 1},
		{256, 0, 0, 1},
		{256, 256, 1, 1},
		{math.MinInt32, math.MaxInt32, 1, 1},
		{0, math.MinInt32, 0, 1},
	} {
		isTwo(t, "AND", boolean(x.a), boolean(x.b), boolean(x.and), api.OK)
		isTwo(t, "OR", boolean(x.a), boolean(x.b), boolean(x.or), api.OK)
	}
	for _, sign := range []string{"AND", "OR"} {
		for _, n := range []int32{0, 1, 3} {
			refusesTwo(t, sign, number(n), number(n), api.ErrType)
			refusesTwo(t, sign, char(n), char(n), api.ErrType)
			refusesTwo(t, sign, none(n), none(n), api.ErrType)
			refusesTwo(t, sign, boolean(n), number(n), api.ErrType)
			refusesTwo(t, sign, number(n), boolean(n), api.ErrType)
		}
	}
}

// P10.1
func TestComparisons(t *testing.T) {
	type results struct{ equal, less bool }
	tests := []struct {
		a, b int32
		want results
	}{
		{1, 1, results{true, false}},
		{1, 2, results{false, true}},
		{2, 1, results{false, false}},
		{-1, 1, results{false, true}},
		{1, -1, results{false, false}},
		{0, 0, results{true, false}},
		{math.MinInt32, math.MaxInt32, results{false, true}},
		{math.MaxInt32, math.MinInt32, results{false, false}},
		{math.MinInt32, math.MinInt32, results{true, false}},
		{math.MinInt32, 0, results{false, true}},
		{0, 1 << 24, results{false, true}},
		{97, 98, results{false, true}},
		{255, 0, results{false, false}},
		{0, 255, results{false, true}},
		{128, 127, results{false, false}},
	}
	for _, of := range []func(n int32) konst.Value{number, char} {
		for _, x := range tests {
			a, b := of(x.a), of(x.b)
			if !wantRight(a) {
				continue
			}
			isTwo(t, "=", a, b, truth(x.want.equal), api.OK)
			isTwo(t, "#", a, b, truth(!x.want.equal), api.OK)
			isTwo(t, "<", a, b, truth(x.want.less), api.OK)
			isTwo(t, "<=", a, b, truth(x.want.less || x.want.equal), api.OK)
			isTwo(t, ">", a, b, truth(!x.want.less && !x.want.equal), api.OK)
			isTwo(t, ">=", a, b, truth(!x.want.less), api.OK)
		}
	}
}

// P10.1: truth values and NIL can be equal, but not less than others.
func TestComparisonsWithoutOrder(t *testing.T) {
	pairs := [][2]konst.Value{
		{boolean(0), boolean(0)}, {boolean(0), boolean(1)}, {boolean(1), boolean(0)}, {boolean(1), boolean(1)}, {none(0), none(0)},
	}
	for _, x := range pairs {
		isTwo(t, "=", x[0], x[1], truth(x[0] == x[1]), api.OK)
		isTwo(t, "#", x[0], x[1], truth(x[0] != x[1]), api.OK)
		for _, sign := range []string{"<", "<=", ">", ">="} {
			refusesTwo(t, sign, x[0], x[1], api.ErrType)
		}
	}
}

// P10.1: the left value must be valid; of the right one the type alone counts.
func TestComparisonsOfWhatIsNotValid(t *testing.T) {
	tests := []struct{ wrong, right konst.Value }{
		{boolean(2), boolean(1)},
		{boolean(-1), boolean(0)},
		{boolean(256), boolean(0)},
		{char(256), char(255)},
		{char(-1), char(0)},
		{char(math.MinInt32), char(1)},
		{char(math.MaxInt32), char(255)},
		{none(1), none(0)},
		{none(-1), none(0)},
	}
	for _, x := range tests {
		for _, sign := range []string{"=", "#", "<", "<=", ">", ">="} {
			refusesTwo(t, sign, x.wrong, x.right, api.ErrType)
			refusesTwo(t, sign, x.wrong, x.wrong, api.ErrType)
		}
		isTwo(t, "=", x.right, x.wrong, boolean(0), api.OK)
		isTwo(t, "#", x.right, x.wrong, boolean(1), api.OK)
	}
	isTwo(t, "<", char(255), char(256), boolean(1), api.OK)
	isTwo(t, "<=", char(255), char(-1), boolean(0), api.OK)
	isTwo(t, ">", char(0), char(-1), boolean(1), api.OK)
	isTwo(t, ">=", char(0), char(math.MaxInt32), boolean(0), api.OK)
	for _, sign := range []string{"<", "<=", ">", ">="} {
		refusesTwo(t, sign, boolean(1), boolean(2), api.ErrType)
		refusesTwo(t, sign, none(0), none(1), api.ErrType)
	}
}

// P10.1: which pairs of types each operator takes.
func TestTwoTypes(t *testing.T) {
	permitted := map[string][]int{
		"+": {api.Int}, "-": {api.Int}, "*": {api.Int}, "DIV": {api.Int}, "MOD": {api.Int},
		"AND": {api.Bool}, "OR": {api.Bool},
		"=": valid, "#": valid,
		"<": {api.Int, api.Char}, "<=": {api.Int, api.Char}, ">": {api.Int, api.Char}, ">=": {api.Int, api.Char},
	}
	for _, sign := range binary {
		result := api.Bool
		if slices.Equal(permitted[sign], []int{api.Int}) {
			result = api.Int
		}
		for _, left := range kinds {
			for _, right := range kinds {
				// A valid left number of each type, and one that no division refuses on the right.
				a, b := konst.Value{Type: left}, konst.Value{Type: right, N: 1}
				if left != right || !slices.Contains(permitted[sign], left) {
					refusesTwo(t, sign, a, b, api.ErrType)
				} else if got, e := konst.Two(sign, a, b); got.Type != result || e != api.OK {
					t.Errorf("Two(%q, %v, %v): %v %d", sign, a, b, got, e)
				}
			}
		}
	}
}

// P10.1: what is no binary operator is not known, whatever else is wrong.
func TestTwoOfUnknownSigns(t *testing.T) {
	for _, sign := range slices.Concat(noSigns, []string{"NOT", "ODD", "ORD", "CHR"}) {
		for _, left := range kinds {
			for _, right := range kinds {
				refusesTwo(t, sign, konst.Value{Type: left, N: 1}, konst.Value{Type: right}, api.ErrUnknown)
			}
		}
		refusesTwo(t, sign, boolean(2), char(256), api.ErrUnknown)
	}
}

// wrapped reduces a whole number of any size to 32 bits.
func wrapped(n *big.Int) int32 {
	return int32(uint32(new(big.Int).Mod(n, big.NewInt(1<<32)).Uint64()))
}

// modelNumbers is what + - * DIV MOD return for two numbers; false if they divide by 0.
func modelNumbers(sign string, a, b int32) (int32, bool) {
	x, y := big.NewInt(int64(a)), big.NewInt(int64(b))
	switch sign {
	case "+":
		return wrapped(x.Add(x, y)), true
	case "-":
		return wrapped(x.Sub(x, y)), true
	case "*":
		return wrapped(x.Mul(x, y)), true
	}
	if b == 0 {
		return 0, false
	}
	// big's quotient belongs to a remainder that is never below 0: it is rounded up where the divisor is below 0 and something is left.
	q, r := new(big.Int).DivMod(x, y, new(big.Int))
	if r.Sign() != 0 && b < 0 {
		q.Sub(q, big.NewInt(1))
		r.Add(r, y)
	}
	if sign == "DIV" {
		return wrapped(q), true
	}
	return wrapped(r), true
}

// modelTwo is P10.1 in other words.
func modelTwo(sign string, a, b konst.Value) (konst.Value, api.Errno) {
	at := slices.Index(binary, sign)
	zero := konst.Value{}
	both := func(kind int) bool { return a.Type == kind && b.Type == kind }
	switch {
	case at < 0:
		return zero, api.ErrUnknown
	case at < 5 && !both(api.Int), at >= 5 && at < 7 && !both(api.Bool):
		return zero, api.ErrType
	case at < 5:
		n, ok := modelNumbers(sign, a.N, b.N)
		if !ok {
			return zero, api.ErrZero
		}
		return number(n), api.OK
	case sign == "AND":
		return truth(a.N != 0 && b.N != 0), api.OK
	case sign == "OR":
		return truth(!(a.N == 0 && b.N == 0)), api.OK
	case a.Type != b.Type || !wantRight(a), at >= 9 && !both(api.Int) && !both(api.Char):
		return zero, api.ErrType
	}
	difference := int64(a.N) - int64(b.N)
	return truth(map[string]bool{
		"=": difference == 0, "#": difference != 0, "<": difference < 0, "<=": difference <= 0, ">": difference > 0, ">=": difference >= 0,
	}[sign]), api.OK
}

// P10.1
func TestTwo(t *testing.T) {
	all := values()
	for _, sign := range binary {
		for _, kind := range kinds {
			for _, m := range numbers {
				for _, n := range numbers {
					a, b := konst.Value{Type: kind, N: m}, konst.Value{Type: kind, N: n}
					want, e := modelTwo(sign, a, b)
					isTwo(t, sign, a, b, want, e)
				}
			}
		}
		for n, a := range all {
			b := all[(n*251+17)%len(all)]
			want, e := modelTwo(sign, a, b)
			isTwo(t, sign, a, b, want, e)
		}
	}
}

// P10.2: the example.
func TestOneExample(t *testing.T) {
	isOne(t, "CHR", number(65), char('A'), api.OK)
	isText(t, char(65), "'A'")
}

// P10.2
func TestOne(t *testing.T) {
	const least, most = math.MinInt32, math.MaxInt32
	tests := []struct {
		sign    string
		a, want konst.Value
	}{
		{"-", number(0), number(0)},
		{"-", number(5), number(-5)},
		{"-", number(-5), number(5)},
		{"-", number(most), number(-most)},
		{"-", number(-most), number(most)},
		{"-", number(least), number(least)},
		{"NOT", boolean(0), boolean(1)},
		{"NOT", boolean(1), boolean(0)},
		{"NOT", boolean(2), boolean(0)},
		{"NOT", boolean(-1), boolean(0)},
		{"NOT", boolean(256), boolean(0)},
		{"NOT", boolean(least), boolean(0)},
		{"ODD", number(0), boolean(0)},
		{"ODD", number(1), boolean(1)},
		{"ODD", number(2), boolean(0)},
		{"ODD", number(7), boolean(1)},
		{"ODD", number(-1), boolean(1)},
		{"ODD", number(-2), boolean(0)},
		{"ODD", number(-7), boolean(1)},
		{"ODD", number(most), boolean(1)},
		{"ODD", number(least), boolean(0)},
		{"ORD", char(0), number(0)},
		{"ORD", char(65), number(65)},
		{"ORD", char(255), number(255)},
		{"ORD", boolean(0), number(0)},
		{"ORD", boolean(1), number(1)},
		// The document asks for the type alone.
		{"ORD", char(256), number(256)},
		{"ORD", char(-1), number(-1)},
		{"ORD", char(least), number(least)},
		{"ORD", boolean(2), number(2)},
		{"ORD", boolean(most), number(most)},
		{"CHR", number(0), char(0)},
		{"CHR", number(1), char(1)},
		{"CHR", number(39), char(39)},
		{"CHR", number(127), char(127)},
		{"CHR", number(128), char(128)},
		{"CHR", number(254), char(254)},
		{"CHR", number(255), char(255)},
	}
	for _, x := range tests {
		isOne(t, x.sign, x.a, x.want, api.OK)
	}
}

// P10.2
func TestChrOutOfRange(t *testing.T) {
	for _, n := range []int32{-1, 256, -2, 257, -256, 512, 65536, math.MinInt32, math.MaxInt32, math.MinInt32 + 65} {
		refusesOne(t, "CHR", number(n), api.ErrSize)
		// The type is checked first.
		for _, kind := range kinds {
			if kind != api.Int {
				refusesOne(t, "CHR", konst.Value{Type: kind, N: n}, api.ErrType)
			}
		}
	}
	for n := int32(-300); n <= 600; n++ {
		if n >= 0 && n <= 255 {
			isOne(t, "CHR", number(n), char(n), api.OK)
		} else {
			refusesOne(t, "CHR", number(n), api.ErrSize)
		}
	}
}

// P10.2: which types each operator takes, and what it returns for each number.
func TestOneTypes(t *testing.T) {
	permitted := map[string][]int{
		"-": {api.Int}, "NOT": {api.Bool}, "ODD": {api.Int}, "ORD": {api.Char, api.Bool}, "CHR": {api.Int},
	}
	for _, sign := range unary {
		for _, a := range values() {
			if !slices.Contains(permitted[sign], a.Type) {
				refusesOne(t, sign, a, api.ErrType)
				continue
			}
			switch sign {
			case "-":
				isOne(t, sign, a, number(int32(-int64(a.N))), api.OK)
			case "NOT":
				isOne(t, sign, a, truth(a.N == 0), api.OK)
			case "ODD":
				isOne(t, sign, a, truth(strings.ContainsAny(lastDigit(a.N), "13579")), api.OK)
			case "ORD":
				isOne(t, sign, a, number(a.N), api.OK)
			case "CHR":
				if wantRight(char(a.N)) {
					isOne(t, sign, a, char(a.N), api.OK)
				} else {
					refusesOne(t, sign, a, api.ErrSize)
				}
			}
		}
	}
}

// lastDigit returns the last decimal digit of a number.
func lastDigit(n int32) string {
	s := strconv.Itoa(int(n))
	return s[len(s)-1:]
}

// P10.2: what is no unary operator is not known, whatever else is wrong.
func TestOneOfUnknownSigns(t *testing.T) {
	for _, sign := range slices.Concat(noSigns, binary) {
		if sign == "-" {
			continue
		}
		for _, kind := range kinds {
			refusesOne(t, sign, konst.Value{Type: kind}, api.ErrUnknown)
			refusesOne(t, sign, konst.Value{Type: kind, N: 256}, api.ErrUnknown)
		}
	}
}

// P10.3
func TestText(t *testing.T) {
	tests := []struct {
		v    konst.Value
		want string
	}{
		{number(0), "0"},
		{number(7), "7"},
		{number(-120), "-120"},
		{number(math.MinInt32), "-2147483648"},
		{number(math.MaxInt32), "2147483647"},
		{boolean(0), "FALSE"},
		{boolean(1), "TRUE"},
		{none(0), "NIL"},
		{char('A'), "'A'"},
		{char('a'), "'a'"},
		{char('0'), "'0'"},
		{char('"'), "'\"'"},
		{char(0), "CHR(0)"},
		{char(10), "CHR(10)"},
		{char(31), "CHR(31)"},
		{char(32), "' '"},
		{char(39), "'''"},
		{char(92), `'\'`},
		{char(126), "'~'"},
		{char(127), "CHR(127)"},
		{char(128), "CHR(128)"},
		{char(233), "CHR(233)"},
		{char(255), "CHR(255)"},
	}
	for _, x := range tests {
		isText(t, x.v, x.want)
	}
	for n := range int32(256) {
		want := "CHR(" + strconv.Itoa(int(n)) + ")"
		if n >= 32 && n <= 126 {
			want = "'" + string([]byte{byte(n)}) + "'"
		}
		isText(t, char(n), want)
	}
	for _, n := range numbers {
		isText(t, number(n), strconv.Itoa(int(n)))
	}
}

// P10.3
func TestTextOfWhatIsNotValid(t *testing.T) {
	for _, v := range []konst.Value{boolean(2), boolean(-1), char(-1), char(256), char(math.MinInt32), none(1), none(-1), {}, {Type: -1}, {Type: 5}, {Type: 5, N: 65}, {Type: math.MaxInt}, {Type: math.MinInt}} {
		isText(t, v, "?")
	}
	for _, v := range values() {
		if got := konst.Text(v); (got == "?") == wantRight(v) {
			t.Errorf("Text(%v): %q", v, got)
		}
	}
}

// P10.4
func TestResultsOfValidValues(t *testing.T) {
	list := slices.DeleteFunc(values(), func(v konst.Value) bool { return !wantRight(v) })
	for n := range int32(256) {
		list = append(list, char(n))
	}
	check := func(sign string, v konst.Value, e api.Errno) {
		t.Helper()
		switch {
		case e == api.OK && (!konst.Right(v) || !wantRight(v)):
			t.Errorf("%q: %v", sign, v)
		case e != api.OK && v != (konst.Value{}):
			t.Errorf("%q: %v and the error %d", sign, v, e)
		}
	}
	for _, a := range list {
		for _, sign := range unary {
			v, e := konst.One(sign, a)
			check(sign, v, e)
		}
		for _, b := range list {
			for _, sign := range binary {
				v, e := konst.Two(sign, a, b)
				check(sign, v, e)
			}
		}
	}
}

// P10.4: CHR and ORD, NOT and NOT, - and - lead back.
func TestOneAndBack(t *testing.T) {
	for n := range int32(256) {
		v, _ := konst.One("ORD", char(n))
		isOne(t, "CHR", v, char(n), api.OK)
	}
	for _, a := range []konst.Value{boolean(0), boolean(1)} {
		v, _ := konst.One("NOT", a)
		isOne(t, "NOT", v, a, api.OK)
	}
	for _, n := range numbers {
		v, _ := konst.One("-", number(n))
		isOne(t, "-", v, number(n), api.OK)
		isTwo(t, "-", number(0), number(n), v, api.OK)
	}
}

// P2: the text of an operator is neither changed nor kept, and nothing is kept from call to call.
func TestArguments(t *testing.T) {
	for _, sign := range slices.Concat(binary, unary, noSigns) {
		memory := []byte(sign)
		text := unsafe.String(unsafe.SliceData(memory), len(memory))
		a, b := number(65), number(7)
		two, e2 := konst.Two(text, a, b)
		one, e1 := konst.One(text, a)
		if string(memory) != sign {
			t.Errorf("%.20q has become %.20q", sign, memory)
		}
		for n := range memory {
			memory[n] = '?'
		}
		konst.Two("AND", boolean(1), boolean(0))
		konst.One("NOT", boolean(1))
		isTwo(t, sign, a, b, two, e2)
		isOne(t, sign, a, one, e1)
		if a != number(65) || b != number(7) {
			t.Errorf("the values have become %v and %v", a, b)
		}
	}
}

// P2: calls at one time don't disturb each other.
func TestCallsAtOneTime(t *testing.T) {
	var group sync.WaitGroup
	for n := range int32(8) {
		group.Go(func() {
			for m := range int32(500) {
				isTwo(t, "+", number(n), number(m), number(n+m), api.OK)
				isOne(t, "-", number(m), number(-m), api.OK)
				isText(t, number(m), strconv.Itoa(int(m)))
				refusesTwo(t, "DIV", number(m), number(0), api.ErrZero)
			}
		})
	}
	group.Wait()
}

// P1, P10.1 to P10.4
func FuzzValues(f *testing.F) {
	for n, sign := range slices.Concat(binary, unary, noSigns) {
		f.Add(sign, 1+n%4, int32(n), 1+n%3, numbers[n%len(numbers)])
	}
	f.Fuzz(func(t *testing.T, sign string, left int, m int32, right int, n int32) {
		a, b := konst.Value{Type: left, N: m}, konst.Value{Type: right, N: n}
		want, e := modelTwo(sign, a, b)
		isTwo(t, sign, a, b, want, e)
		v, e := konst.One(sign, a)
		if e != api.OK && v != (konst.Value{}) || (e == api.ErrUnknown) != !slices.Contains(unary, sign) || e == api.OK && wantRight(a) && !wantRight(v) {
			t.Errorf("One(%q, %v): %v %d", sign, a, v, e)
		}
		if got := konst.Right(a); got != wantRight(a) || got == (konst.Text(a) == "?") {
			t.Errorf("%v: %v, %q", a, got, konst.Text(a))
		}
	})
}
