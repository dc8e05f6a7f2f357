package scan_test

import (
	"math"
	"regexp"
	"slices"
	"strconv"
	"strings"
	"testing"
	"unsafe"

	"pascaline/api"
	"pascaline/scan"
)

const keywords = "AND ARRAY BEGIN CONST DIV DO ELSE ELSIF END EXCEPT EXCEPTION FALSE FINALLY IF IMPORT MOD MODULE NEW NIL NOT OF OR PROCEDURE RAISE READ RECORD REPEAT RETURN THEN TRUE TRY TYPE UNTIL VAR WHILE WRITE"

const allMarks = ":= <= >= + - * = # < > ( ) [ ] . , ; : ^ |"

// read is what one call of Next returns.
type read struct {
	sign scan.Sign
	err  api.Errno
}

// good is a token without a number.
func good(kind, from, to int, text string) read {
	return read{scan.Sign{Kind: kind, From: from, To: to, Text: text}, api.OK}
}

// counted is a token with a number.
func counted(kind, from, to int, text string, n int32) read {
	return read{scan.Sign{Kind: kind, From: from, To: to, Text: text, N: n}, api.OK}
}

// bad is what is no token.
func bad(from, to int, e api.Errno) read {
	return read{scan.Sign{Kind: scan.Unknown, From: from, To: to}, e}
}

// end is the token at the end of a text.
func end(at int) read { return good(scan.End, at, at, "") }

// readAll calls Next till the end of a text is reached, and a few times more than could be needed if it is not.
func readAll(text string) []read {
	s := scan.New(text)
	var list []read
	for range len(text) + 3 {
		sign, e := s.Next()
		list = append(list, read{sign, e})
		if sign.Kind == scan.End {
			break
		}
	}
	return list
}

// reads checks what Next returns, call by call, up to the end of a text, which is returned ever again.
func reads(t *testing.T, text string, want ...read) {
	t.Helper()
	s := scan.New(text)
	for range 3 {
		want = append(want, end(len(text)))
	}
	for n, x := range want {
		if sign, e := s.Next(); sign != x.sign || e != x.err {
			t.Errorf("%q, call %d: %+v %d, not %+v %d", text, n+1, sign, e, x.sign, x.err)
			return
		}
	}
}

// alone checks that a text is a single token.
func alone(t *testing.T, text string, kind int, n int32) {
	t.Helper()
	reads(t, text, counted(kind, 0, len(text), text, n))
}

// P8.1: each keyword, and nothing that is almost one.
func TestIsKey(t *testing.T) {
	list := strings.Fields(keywords)
	if len(list) != 36 {
		t.Fatalf("%d keywords", len(list))
	}
	for _, key := range list {
		if !scan.IsKey(key) {
			t.Errorf("%s is a keyword", key)
		}
		for n := range len(key) {
			for _, other := range []string{key[:n], key[n+1:], key[:n] + strings.ToLower(key[n:n+1]) + key[n+1:], key[:n] + " " + key[n:], key[:n] + "X" + key[n+1:]} {
				if !slices.Contains(list, other) && scan.IsKey(other) {
					t.Errorf("%q is no keyword", other)
				}
			}
		}
		for _, other := range []string{strings.ToLower(key), key + " ", key + "\n", key + "S", key + "0", key + "\x00", key + key} {
			if scan.IsKey(other) {
				t.Errorf("%q is no keyword", other)
			}
		}
	}
	for _, other := range []string{"", " ", ":=", "INTEGER", "BOOLEAN", "CHAR", "ORD", "CHR", "ODD", "LEN", "INDEX", "FOR", "TO", "CASE", "LOOP", "EXIT", "WITH", "POINTER", "x", "\xff", keywords, strings.Repeat("A", 1<<16)} {
		if scan.IsKey(other) {
			t.Errorf("%q is no keyword", other)
		}
	}
}

// P8.1: of all texts of one, two and three capital letters, just the keywords among them.
func TestIsKeyOfShortTexts(t *testing.T) {
	short := []string{""}
	for range 3 {
		var longer []string
		for _, s := range short {
			for c := 'A'; c <= 'Z'; c++ {
				longer = append(longer, s+string(c))
			}
		}
		for _, s := range longer {
			if got, want := scan.IsKey(s), slices.Contains(strings.Fields(keywords), s); got != want {
				t.Errorf("IsKey(%q): %t", s, got)
			}
		}
		short = longer
	}
}

// P8.1: the chapter's examples.
func TestExamples(t *testing.T) {
	reads(t, "x := $FF",
		good(scan.Name, 0, 1, "x"),
		good(scan.Mark, 2, 4, ":="),
		counted(scan.Number, 5, 8, "$FF", 255))
	reads(t, `IF a<=3 (* (* *) *) THEN "x" END`,
		good(scan.Key, 0, 2, "IF"),
		good(scan.Name, 3, 4, "a"),
		good(scan.Mark, 4, 6, "<="),
		counted(scan.Number, 6, 7, "3", 3),
		good(scan.Key, 20, 24, "THEN"),
		good(scan.Text, 25, 28, "x"),
		good(scan.Key, 29, 32, "END"))
	reads(t, "  (* never", bad(0, 10, api.ErrComment))
}

// P8.1: what is skipped, and what is not.
func TestBlanks(t *testing.T) {
	reads(t, "")
	for _, text := range []string{" ", "\t", "\n", "\r", " \t\r\n \n", "(**)", "(***)", "(****)", "(* *)", " (* x *)\n(*\n*)\r", "(*(**)*)", "(*(*(**)(* *)*)*)(**)", "(*)*)", "(*()*)", "(*(*)*)*)", "(*\x00\xff\"'$*)", "(* \" *)", "(*'*)"} {
		reads(t, text)
		reads(t, text+"a", good(scan.Name, len(text), len(text)+1, "a"))
		reads(t, "a"+text, good(scan.Name, 0, 1, "a"))
		reads(t, "a"+text+"b", good(scan.Name, 0, 1, "a"), good(scan.Name, len(text)+1, len(text)+2, "b"))
	}
	for _, text := range []string{"\x00", "\v", "\f", "\b", "\x1f", "\x7f", "\x85", "\xa0"} {
		reads(t, " "+text+" ", bad(1, 2, api.ErrSign))
	}
	// What ends no comment, and what begins none.
	reads(t, "*)", good(scan.Mark, 0, 1, "*"), good(scan.Mark, 1, 2, ")"))
	reads(t, "(**)*)", good(scan.Mark, 4, 5, "*"), good(scan.Mark, 5, 6, ")"))
	reads(t, "( *)", good(scan.Mark, 0, 1, "("), good(scan.Mark, 2, 3, "*"), good(scan.Mark, 3, 4, ")"))
	reads(t, "((**))", good(scan.Mark, 0, 1, "("), good(scan.Mark, 5, 6, ")"))
	reads(t, `"(*"`, good(scan.Text, 0, 4, "(*"))
}

// P8.1: a comment that is not closed begins where the call did, and ends with the text.
func TestOpenComments(t *testing.T) {
	for _, text := range []string{"(*", "(*)", "(* ", "(**", "(* *", "(* )", "(*(", "(*(*", "(*(**)", "(*(*)*)", "(*(* *) ", "(*(*(**)*)", "(**)(*", "(**) (* END", "(*\x00\xff", "(* \"*", " (*", "\t\n\r (*)", " (**)\n(*a*)(*"} {
		reads(t, text, bad(0, len(text), api.ErrComment))
		reads(t, "a"+text, good(scan.Name, 0, 1, "a"), bad(1, len(text)+1, api.ErrComment))
		reads(t, "? \n"+text, bad(0, 1, api.ErrSign), bad(1, len(text)+3, api.ErrComment))
	}
}

// P8.1: letters and digits as far as they go, up to 32 of them.
func TestNames(t *testing.T) {
	for _, text := range []string{"a", "z", "A", "Z", "x1", "a0b9", "Zz", "aBcD", "F", "if", "If", "iF", "module", "ENDE", "EN", "END1", "ENDEND", "aEND", "INTEGER", "NEWLINE"} {
		alone(t, text, scan.Name, 0)
	}
	for _, key := range strings.Fields(keywords) {
		alone(t, key, scan.Key, 0)
		alone(t, strings.ToLower(key), scan.Name, 0)
		alone(t, key+"0", scan.Name, 0)
		alone(t, "x"+key, scan.Name, 0)
		reads(t, key+"("+key, good(scan.Key, 0, len(key), key), good(scan.Mark, len(key), len(key)+1, "("), good(scan.Key, len(key)+1, 2*len(key)+1, key))
	}
	// What stops a name.
	for _, stop := range []string{"@", "[", "`", "{", "/", ":", "_", "$", "\xc3", "\xe9", "\x00", "'", "\""} {
		if got, want := readAll("ab" + stop + "c")[0], good(scan.Name, 0, 2, "ab"); got != want {
			t.Errorf("ab before %q: %+v", stop, got)
		}
	}
	reads(t, "a_b", good(scan.Name, 0, 1, "a"), bad(1, 2, api.ErrSign), good(scan.Name, 2, 3, "b"))
	for _, name := range []string{strings.Repeat("a", 32), "Z" + strings.Repeat("9", 31), strings.Repeat("END", 10) + "xy"} {
		alone(t, name, scan.Name, 0)
		reads(t, name+" "+name, good(scan.Name, 0, 32, name), good(scan.Name, 33, 65, name))
		reads(t, name+"b", bad(0, 33, api.ErrName))
		reads(t, " "+name+"1+END", bad(1, 34, api.ErrName), good(scan.Mark, 34, 35, "+"), good(scan.Key, 35, 38, "END"))
	}
	reads(t, strings.Repeat("END", 11), bad(0, 33, api.ErrName))
	reads(t, strings.Repeat("x", 70)+"\n.", bad(0, 70, api.ErrName), good(scan.Mark, 71, 72, "."))
}

// P8.1: digits, zeros ahead of them among them, up to the greatest number.
func TestNumbers(t *testing.T) {
	tests := []struct {
		text string
		n    int32
	}{
		{"0", 0}, {"1", 1}, {"9", 9}, {"10", 10}, {"255", 255}, {"1234567890", 1234567890},
		{"00", 0}, {"007", 7}, {"0000000000000000000000000000000000000000", 0}, {"0000000000000000000000000000000000000012", 12},
		{"2147483646", math.MaxInt32 - 1}, {"2147483647", math.MaxInt32}, {"00002147483647", math.MaxInt32},
	}
	for _, x := range tests {
		size := len(x.text)
		alone(t, x.text, scan.Number, x.n)
		reads(t, x.text+"a1", counted(scan.Number, 0, size, x.text, x.n), good(scan.Name, size, size+2, "a1"))
		reads(t, "-"+x.text+".", good(scan.Mark, 0, 1, "-"), counted(scan.Number, 1, size+1, x.text, x.n), good(scan.Mark, size+1, size+2, "."))
	}
	for _, text := range []string{"2147483648", "2147483650", "3000000000", "4294967295", "4294967296", "4294967297", "10000000000", "002147483648", "9223372036854775808", "18446744073709551616", "18446744073709551617", strings.Repeat("9", 1000), "1" + strings.Repeat("0", 64)} {
		size := len(text)
		reads(t, text, bad(0, size, api.ErrNumber))
		reads(t, " "+text+"x", bad(1, size+1, api.ErrNumber), good(scan.Name, size+1, size+2, "x"))
		reads(t, text+"\n5", bad(0, size, api.ErrNumber), counted(scan.Number, size+1, size+2, "5", 5))
	}
	reads(t, "1..2", counted(scan.Number, 0, 1, "1", 1), good(scan.Mark, 1, 2, "."), good(scan.Mark, 2, 3, "."), counted(scan.Number, 3, 4, "2", 2))
	reads(t, "0FFH", counted(scan.Number, 0, 1, "0", 0), good(scan.Name, 1, 4, "FFH"))
}

// P8.1: a dollar sign and digits of a word.
func TestWords(t *testing.T) {
	tests := []struct {
		text string
		n    int32
	}{
		{"$0", 0}, {"$9", 9}, {"$A", 10}, {"$F", 15}, {"$10", 16}, {"$FF", 255}, {"$0FF", 255}, {"$00000001", 1}, {"$00000000", 0},
		{"$1234567", 0x1234567}, {"$12345678", 0x12345678}, {"$9ABCDEF", 0x9abcdef}, {"$7FFFFFFF", math.MaxInt32}, {"$80000000", math.MinInt32}, {"$80000001", math.MinInt32 + 1}, {"$FFFFFFFF", -1}, {"$FFFFFFFE", -2}, {"$89ABCDEF", -0x76543211},
	}
	for _, x := range tests {
		size := len(x.text)
		alone(t, x.text, scan.Number, x.n)
		reads(t, x.text+"a", counted(scan.Number, 0, size, x.text, x.n), good(scan.Name, size, size+1, "a"))
		reads(t, x.text+"G1", counted(scan.Number, 0, size, x.text, x.n), good(scan.Name, size, size+2, "G1"))
		reads(t, x.text+x.text, counted(scan.Number, 0, size, x.text, x.n), counted(scan.Number, size, 2*size, x.text, x.n))
	}
	reads(t, "$", bad(0, 1, api.ErrNumber))
	reads(t, "$$", bad(0, 1, api.ErrNumber), bad(1, 2, api.ErrNumber))
	reads(t, "$ 1", bad(0, 1, api.ErrNumber), counted(scan.Number, 2, 3, "1", 1))
	reads(t, "$-1", bad(0, 1, api.ErrNumber), good(scan.Mark, 1, 2, "-"), counted(scan.Number, 2, 3, "1", 1))
	reads(t, "$ff", bad(0, 1, api.ErrNumber), good(scan.Name, 1, 3, "ff"))
	reads(t, "$G", bad(0, 1, api.ErrNumber), good(scan.Name, 1, 2, "G"))
	reads(t, "$Aa", counted(scan.Number, 0, 2, "$A", 10), good(scan.Name, 2, 3, "a"))
	reads(t, "$1END", counted(scan.Number, 0, 3, "$1E", 30), good(scan.Name, 3, 5, "ND"))
	for _, digits := range []string{"000000000", "000000001", "123456789", "FFFFFFFFF", "0000000000000", strings.Repeat("A", 1000)} {
		to := len(digits) + 1
		reads(t, "$"+digits, bad(0, to, api.ErrNumber))
		reads(t, "+$"+digits+"b $1", good(scan.Mark, 0, 1, "+"), bad(1, to+1, api.ErrNumber), good(scan.Name, to+1, to+2, "b"), counted(scan.Number, to+3, to+5, "$1", 1))
	}
}

// P8.1: a byte between quotation marks, each byte tried.
func TestLetters(t *testing.T) {
	for n := range 256 {
		text := "'" + string([]byte{byte(n)}) + "'"
		if 32 <= n && n <= 126 {
			alone(t, text, scan.Letter, int32(n))
			reads(t, "a"+text+"1", good(scan.Name, 0, 1, "a"), counted(scan.Letter, 1, 4, text, int32(n)), counted(scan.Number, 4, 5, "1", 1))
			continue
		}
		if got, want := readAll(text)[0], bad(0, 1, api.ErrString); got != want {
			t.Errorf("%q: %+v, not %+v", text, got, want)
		}
	}
	wrong := func(at int) read { return bad(at, at+1, api.ErrString) }
	a := good(scan.Name, 1, 2, "a")
	reads(t, "'", wrong(0))
	reads(t, "x'", good(scan.Name, 0, 1, "x"), wrong(1))
	reads(t, "''", wrong(0), wrong(1))
	reads(t, "'a", wrong(0), a)
	reads(t, "'a ", wrong(0), a)
	reads(t, "'ab'", wrong(0), good(scan.Name, 1, 3, "ab"), wrong(3))
	reads(t, "'a\"", wrong(0), a, bad(2, 3, api.ErrString))
	reads(t, "'\x1f'", wrong(0), bad(1, 2, api.ErrSign), wrong(2))
	reads(t, "'\x7f'", wrong(0), bad(1, 2, api.ErrSign), wrong(2))
	reads(t, "'\n'", wrong(0), wrong(2))
	reads(t, "'\t'a", wrong(0), wrong(2), good(scan.Name, 3, 4, "a"))
	reads(t, "''''", counted(scan.Letter, 0, 3, "'''", '\''), wrong(3))
	reads(t, "''a'", wrong(0), counted(scan.Letter, 1, 4, "'a'", 'a'))
	reads(t, "'a''b'", counted(scan.Letter, 0, 3, "'a'", 'a'), counted(scan.Letter, 3, 6, "'b'", 'b'))
	reads(t, "'('*)", counted(scan.Letter, 0, 3, "'('", '('), good(scan.Mark, 3, 4, "*"), good(scan.Mark, 4, 5, ")"))
	reads(t, "'\u00e4'", wrong(0), bad(1, 2, api.ErrSign), bad(2, 3, api.ErrSign), wrong(3))
}

// P8.1: bytes between double quotation marks, each byte tried.
func TestTexts(t *testing.T) {
	for _, inner := range []string{"", " ", "a", "END", "it's", "(* no comment *)", "a\\n", "!#$~", strings.Repeat("x", 1000)} {
		text := `"` + inner + `"`
		reads(t, text, good(scan.Text, 0, len(text), inner))
		reads(t, "1"+text+text, counted(scan.Number, 0, 1, "1", 1), good(scan.Text, 1, len(text)+1, inner), good(scan.Text, len(text)+1, 2*len(text)+1, inner))
	}
	for n := range 256 {
		inner := string([]byte{byte(n)})
		got := readAll(`"a` + inner + `b"`)[0]
		want := good(scan.Text, 0, 5, "a"+inner+"b")
		switch {
		case n == '"':
			want = good(scan.Text, 0, 3, "a")
		case n < 32 || n > 126:
			want = bad(0, 2, api.ErrString)
		}
		if got != want {
			t.Errorf("a text with the byte %d: %+v, not %+v", n, got, want)
		}
	}
	reads(t, `"`, bad(0, 1, api.ErrString))
	reads(t, `"abc`, bad(0, 4, api.ErrString))
	reads(t, ` "abc `, bad(1, 6, api.ErrString))
	reads(t, `"""`, good(scan.Text, 0, 2, ""), bad(2, 3, api.ErrString))
	reads(t, "\"\n\"", bad(0, 1, api.ErrString), bad(2, 3, api.ErrString))
	reads(t, "\"a\nb\"", bad(0, 2, api.ErrString), good(scan.Name, 3, 4, "b"), bad(4, 5, api.ErrString))
	reads(t, "\"a\tb", bad(0, 2, api.ErrString), good(scan.Name, 3, 4, "b"))
	reads(t, "\"a\x7fb", bad(0, 2, api.ErrString), bad(2, 3, api.ErrSign), good(scan.Name, 3, 4, "b"))
	reads(t, "\"a\u00e4\"", bad(0, 2, api.ErrString), bad(2, 3, api.ErrSign), bad(3, 4, api.ErrSign), bad(4, 5, api.ErrString))
}

// P8.1: each mark alone, and each two of them, one behind the other.
func TestMarks(t *testing.T) {
	list := strings.Fields(allMarks)
	if len(list) != 20 {
		t.Fatalf("%d marks", len(list))
	}
	for _, mark := range list {
		size := len(mark)
		alone(t, mark, scan.Mark, 0)
		reads(t, "a"+mark+"1", good(scan.Name, 0, 1, "a"), good(scan.Mark, 1, size+1, mark), counted(scan.Number, size+1, size+2, "1", 1))
		for _, other := range list {
			both := size + len(other)
			switch {
			case mark+other == "(*":
				reads(t, "(*", bad(0, 2, api.ErrComment))
			case slices.Contains(list, mark+other):
				alone(t, mark+other, scan.Mark, 0)
			case size == 1 && slices.Contains(list, mark+other[:1]):
				reads(t, mark+other, good(scan.Mark, 0, 2, mark+other[:1]), good(scan.Mark, 2, both, other[1:]))
			default:
				reads(t, mark+other, good(scan.Mark, 0, size, mark), good(scan.Mark, size, both, other))
			}
		}
	}
	reads(t, "<>", good(scan.Mark, 0, 1, "<"), good(scan.Mark, 1, 2, ">"))
	reads(t, "< =", good(scan.Mark, 0, 1, "<"), good(scan.Mark, 2, 3, "="))
	reads(t, ":(**)=", good(scan.Mark, 0, 1, ":"), good(scan.Mark, 5, 6, "="))
	reads(t, "=:==", good(scan.Mark, 0, 1, "="), good(scan.Mark, 1, 3, ":="), good(scan.Mark, 3, 4, "="))
	reads(t, "<=>=", good(scan.Mark, 0, 2, "<="), good(scan.Mark, 2, 4, ">="))
}

// P8.1: each byte alone, and between two names.
func TestBytes(t *testing.T) {
	others := map[byte]api.Errno{'$': api.ErrNumber, '\'': api.ErrString, '"': api.ErrString}
	for n := range 256 {
		c := byte(n)
		text := string([]byte{c})
		var want read
		switch {
		case strings.Contains(" \t\r\n", text):
			reads(t, text)
			reads(t, "a"+text+"b", good(scan.Name, 0, 1, "a"), good(scan.Name, 2, 3, "b"))
			continue
		case '0' <= c && c <= '9':
			want = counted(scan.Number, 0, 1, text, int32(c-'0'))
		case 'a' <= c && c <= 'z' || 'A' <= c && c <= 'Z':
			want = good(scan.Name, 0, 1, text)
		case slices.Contains(strings.Fields(allMarks), text):
			want = good(scan.Mark, 0, 1, text)
		case others[c] != api.OK:
			want = bad(0, 1, others[c])
		default:
			want = bad(0, 1, api.ErrSign)
			reads(t, "a"+text+"b", good(scan.Name, 0, 1, "a"), bad(1, 2, api.ErrSign), good(scan.Name, 2, 3, "b"))
			reads(t, text+text, want, bad(1, 2, api.ErrSign))
		}
		reads(t, text, want)
	}
	reads(t, "\u20ac", bad(0, 1, api.ErrSign), bad(1, 2, api.ErrSign), bad(2, 3, api.ErrSign))
}

// P8.2: the chapter's examples, and texts of one token.
func TestAll(t *testing.T) {
	list, at, e := scan.All(`IF a<=3 (* (* *) *) THEN "x" END`)
	if len(list) != 8 || list[7] != (scan.Sign{From: 32, To: 32}) || at != 0 || e != api.OK {
		t.Errorf("%+v %d %d", list, at, e)
	}
	for _, text := range []string{"", " ", "(**)\n", "\t (* (* *) *) "} {
		if list, at, e := scan.All(text); !slices.Equal(list, []scan.Sign{end(len(text)).sign}) || at != 0 || e != api.OK {
			t.Errorf("All(%q): %+v %d %d", text, list, at, e)
		}
	}
}

// P8.2: the first error, where it is, and no tokens.
func TestAllOfWrongTexts(t *testing.T) {
	tests := []struct {
		text string
		at   int
		err  api.Errno
	}{
		{"  (* never", 0, api.ErrComment},
		{"(*)", 0, api.ErrComment},
		{"a  (* never", 1, api.ErrComment},
		{"a (**) b (* (* *)", 8, api.ErrComment},
		{"a := " + strings.Repeat("b", 33) + " ?", 5, api.ErrName},
		{"a := 2147483648 ?", 5, api.ErrNumber},
		{"a := $ ?", 5, api.ErrNumber},
		{"a := $123456789 ?", 5, api.ErrNumber},
		{"a := '' ?", 5, api.ErrString},
		{"a := \"b\n ?", 5, api.ErrString},
		{"a := ? $", 5, api.ErrSign},
		{"? (*", 0, api.ErrSign},
		{"a\x00", 1, api.ErrSign},
		{"\n\n'", 2, api.ErrString},
	}
	for _, x := range tests {
		if list, at, e := scan.All(x.text); len(list) != 0 || at != x.at || e != x.err {
			t.Errorf("All(%q): %+v %d %d, not %d %d", x.text, list, at, e, x.at, x.err)
		}
	}
}

// P8.2: texts of 65536 bytes, and of one more.
func TestAllOfLongTexts(t *testing.T) {
	const most = 65536
	for _, piece := range []string{" ", "a ", "END\n", "(**)", ";", "1.", "\"\"", "x := $FF+'a'\n (*"} {
		text := strings.Repeat(piece, most/len(piece))
		var want []scan.Sign
		for _, x := range readAll(text) {
			if x.err == api.OK {
				want = append(want, x.sign)
			}
		}
		wanted := api.OK
		if strings.HasSuffix(piece, "(*") {
			want, wanted = nil, api.ErrComment
		}
		list, at, e := scan.All(text)
		if wanted == api.OK && at != 0 || !slices.Equal(list, want) || e != wanted {
			t.Errorf("%q up to 65536 bytes: %d tokens, %d %d", piece, len(list), at, e)
		}
		if list, at, e := scan.All(text + " "); len(list) != 0 || at != 0 || e != api.ErrCode {
			t.Errorf("%q and a byte more: %d tokens, %d %d", piece, len(list), at, e)
		}
	}
	blanks := strings.Repeat("\n", most-1)
	if list, at, e := scan.All(blanks + "?"); len(list) != 0 || at != most-1 || e != api.ErrSign {
		t.Errorf("an error at the last byte: %d tokens, %d %d", len(list), at, e)
	}
	// That a text is too long comes first.
	for _, text := range []string{"?" + blanks + " ", blanks + " ?", blanks + "(*", strings.Repeat("x", most+1), strings.Repeat("x", 1<<20)} {
		if list, at, e := scan.All(text); len(list) != 0 || at != 0 || e != api.ErrCode {
			t.Errorf("a text of %d bytes: %d tokens, %d %d", len(text), len(list), at, e)
		}
	}
}

// slowComment returns the offset behind a comment that begins at an offset; false if it is not closed.
func slowComment(text string, at int) (int, bool) {
	for at += 2; at+2 <= len(text); {
		switch text[at : at+2] {
		case "*)":
			return at + 2, true
		case "(*":
			inner, ok := slowComment(text, at)
			if !ok {
				return 0, false
			}
			at = inner
		default:
			at++
		}
	}
	return 0, false
}

// slowSkip returns the offset behind blanks and comments; false if a comment is not closed.
func slowSkip(text string, at int) (int, bool) {
	for {
		at = len(text) - len(strings.TrimLeft(text[at:], " \t\n\r"))
		if !strings.HasPrefix(text[at:], "(*") {
			return at, true
		}
		behind, ok := slowComment(text, at)
		if !ok {
			return 0, false
		}
		at = behind
	}
}

var (
	nameForm   = regexp.MustCompile(`^[A-Za-z][A-Za-z0-9]*`)
	numberForm = regexp.MustCompile(`^[0-9]+`)
	wordForm   = regexp.MustCompile(`^\$[0-9A-F]*`)
	letterForm = regexp.MustCompile(`^'[ -~]'`)
	textForm   = regexp.MustCompile(`^"[ !#-~]*"`)
	openForm   = regexp.MustCompile(`^"[ !#-~]*`)
	markForm   = regexp.MustCompile(`^(:=|<=|>=|[-+*=#<>()\[\].,;:^|])`)
)

// slowNext works out the token that follows an offset by the forms of the chapter's table.
func slowNext(text string, at int) read {
	from, ok := slowSkip(text, at)
	if !ok {
		return bad(at, len(text), api.ErrComment)
	}
	rest := text[from:]
	if rest == "" {
		return end(from)
	}
	if s := nameForm.FindString(rest); s != "" {
		switch {
		case len(s) > 32:
			return bad(from, from+len(s), api.ErrName)
		case slices.Contains(strings.Fields(keywords), s):
			return good(scan.Key, from, from+len(s), s)
		}
		return good(scan.Name, from, from+len(s), s)
	}
	if s := numberForm.FindString(rest); s != "" {
		n, err := strconv.ParseInt(s, 10, 32)
		if err != nil {
			return bad(from, from+len(s), api.ErrNumber)
		}
		return counted(scan.Number, from, from+len(s), s, int32(n))
	}
	if s := wordForm.FindString(rest); s != "" {
		n, err := strconv.ParseUint(s[1:], 16, 32)
		if err != nil || len(s) > 9 {
			return bad(from, from+len(s), api.ErrNumber)
		}
		return counted(scan.Number, from, from+len(s), s, int32(uint32(n)))
	}
	return slowQuoted(rest, from)
}

// slowQuoted goes on for what is no name and no number.
func slowQuoted(rest string, from int) read {
	if s := letterForm.FindString(rest); s != "" {
		return counted(scan.Letter, from, from+3, s, int32(s[1]))
	}
	if rest[0] == '\'' {
		return bad(from, from+1, api.ErrString)
	}
	if s := textForm.FindString(rest); s != "" {
		return good(scan.Text, from, from+len(s), strings.Trim(s, `"`))
	}
	if s := openForm.FindString(rest); s != "" {
		return bad(from, from+len(s), api.ErrString)
	}
	if s := markForm.FindString(rest); s != "" {
		return good(scan.Mark, from, from+len(s), s)
	}
	return bad(from, from+1, api.ErrSign)
}

// isAsSlow checks everything that Next and All return of a text.
func isAsSlow(t *testing.T, text string) {
	t.Helper()
	s := scan.New(text)
	var list []scan.Sign
	first, firstError := 0, api.OK
	for at := 0; ; {
		want := slowNext(text, at)
		sign, e := s.Next()
		if sign != want.sign || e != want.err {
			t.Errorf("%q from %d on: %+v %d, not %+v %d", text, at, sign, e, want.sign, want.err)
			return
		}
		if e != api.OK && firstError == api.OK {
			first, firstError = sign.From, e
		}
		list = append(list, sign)
		at = sign.To
		if sign.Kind == scan.End {
			break
		}
	}
	if firstError != api.OK {
		list = nil
	}
	if len(text) > api.MaxSource {
		list, first, firstError = nil, 0, api.ErrCode
	}
	if got, at, e := scan.All(text); !slices.Equal(got, list) || at != first || e != firstError {
		t.Errorf("All(%q): %+v %d %d, not %+v %d %d", text, got, at, e, list, first, firstError)
	}
}

// forShort calls f for all texts of at most size of some bytes.
func forShort(bytes string, size int, f func(text string)) {
	short := []string{""}
	for n := 0; ; n++ {
		for _, s := range short {
			f(s)
		}
		if n == size {
			return
		}
		var longer []string
		for _, s := range short {
			for i := range len(bytes) {
				longer = append(longer, s+bytes[i:i+1])
			}
		}
		short = longer
	}
}

// P8.1, P8.2: all short texts of some bytes, by a slower way of reading them.
func TestAllShortTexts(t *testing.T) {
	check := func(text string) { isAsSlow(t, text) }
	forShort("(*)", 8, check)
	forShort("(*)a'\":=<$F1 \n!\xff", 4, check)
	forShort("'\"a\n", 6, check)
	forShort("DOR0", 6, check)
}

// texts that hold several kinds of what is right and wrong.
var texts = []string{
	"",
	"x := $FF",
	`IF a<=3 (* (* *) *) THEN "x" END`,
	"MODULE M;\nIMPORT N;\nVAR v*: ARRAY 6 OF INTEGER;\nBEGIN\n\tTRY v[6] := N.f('a', $7F) EXCEPT INDEX DO WRITE(\"no\") FINALLY WRITE(1) END\nEND M.\n",
	"(* a (* b *) c *)\r\nPROCEDURE p(x: CHAR; VAR y: BOOLEAN): r^ = BEGIN RETURN NOT (x # ' ') END p; | (* ",
	"a:=b<=c<>d>=e..f(**)g 12x $1x $x 2147483647 2147483648 $80000000 $123456789",
	"'a' '' ''' '\n' \"\" \"a\" \"a\n\" \"\xff\" _ ~ @ \x00 \x7f \u00e4 (*)",
	strings.Repeat("a", 32) + " " + strings.Repeat("b", 33) + "\t" + strings.Repeat("9", 40),
}

// innerText returns what the Text of a token has to be.
func innerText(text string, sign scan.Sign) string {
	switch sign.Kind {
	case scan.Unknown:
		return ""
	case scan.Text:
		return text[sign.From+1 : sign.To-1]
	}
	return text[sign.From:sign.To]
}

// P8.1, P8.3: between a token and the next, and behind the last, there are only blanks; each but the last has bytes, and these are its Text.
func TestTokensFollow(t *testing.T) {
	check := func(text string) {
		at := 0
		for _, x := range readAll(text) {
			from, to := x.sign.From, x.sign.To
			if from < at || to < from || to > len(text) || (to == from) != (x.sign.Kind == scan.End) {
				t.Fatalf("%q: from %d to %d behind %d", text, from, to, at)
			}
			if behind, ok := slowSkip(text[:from], at); behind != from || !ok {
				t.Errorf("%q: not only blanks from %d to %d", text, at, from)
			}
			if inner := innerText(text, x.sign); x.sign.Text != inner {
				t.Errorf("%q from %d to %d: the text is %q", text, from, to, x.sign.Text)
			}
			at = to
		}
		if at != len(text) {
			t.Errorf("%q: the last token ends at %d", text, at)
		}
	}
	for _, text := range texts {
		check(text)
		// Without its blanks at the end, a text has the same tokens up to the end.
		for n := range len(text) {
			check(text[:n])
			check(text[n:])
		}
	}
	forShort("(*)a'\"= ", 5, check)
}

// P8.3: what stands between blanks instead of touching is the same tokens, as long as none of them is cut.
func TestBlanksChangeNothing(t *testing.T) {
	for _, text := range texts {
		list, _, e := scan.All(text)
		if e != api.OK {
			continue
		}
		var spread strings.Builder
		for _, sign := range list {
			spread.WriteString("(* *)\n" + text[sign.From:sign.To] + " ")
		}
		other, _, e := scan.All(spread.String())
		same := func(a, b scan.Sign) bool { return a.Kind == b.Kind && a.Text == b.Text && a.N == b.N }
		if e != api.OK || !slices.EqualFunc(list, other, same) {
			t.Errorf("%q: %+v, with blanks %+v %d", text, list, other, e)
		}
	}
}

// P1: long texts, tokens and comments, and comments far within each other.
func TestLongTexts(t *testing.T) {
	const count = 1 << 20
	for _, piece := range []string{"a", "0", "9", "$", "$0", "'", "''", "\"", "\xff", "\x00", ":", " ", "(*", "*)", "(**)", "a ", "\"\n"} {
		text := strings.Repeat(piece, count)
		s := scan.New(text)
		at := 0
		for calls := 0; ; calls++ {
			sign, _ := s.Next()
			if sign.Kind == scan.End {
				break
			}
			if calls > len(text) || sign.From < at || sign.To <= sign.From {
				t.Fatalf("%q again and again: %+v behind %d", piece, sign, at)
			}
			at = sign.To
		}
	}
	deep := strings.Repeat("(*", count) + strings.Repeat("*)", count)
	reads(t, deep+"a", good(scan.Name, len(deep), len(deep)+1, "a"))
	reads(t, deep[:len(deep)-2], bad(0, len(deep)-2, api.ErrComment))
	long := strings.Repeat("x", count)
	reads(t, long+" 1", bad(0, count, api.ErrName), counted(scan.Number, count+1, count+2, "1", 1))
	reads(t, `"`+long+`"`, good(scan.Text, 0, count+2, long))
	reads(t, strings.Repeat("0", count)+"7", counted(scan.Number, 0, count+1, strings.Repeat("0", count)+"7", 7))
}

// P2: the text stays; a scanner stays what it is whatever becomes of the text, and whatever another one reads.
func TestTextStays(t *testing.T) {
	for _, before := range texts {
		want := readAll(before)
		// A text that lies in memory where a change would show.
		memory := []byte(before)
		text := unsafe.String(unsafe.SliceData(memory), len(memory))
		s := scan.New(text)
		list, _, _ := scan.All(text)
		if got := readAll(text); !slices.Equal(got, want) || string(memory) != before {
			t.Errorf("%q has become %q", before, memory)
		}
		for n := range memory {
			memory[n] = '?'
		}
		other := scan.New("another (* text")
		for n, x := range want {
			other.Next()
			if sign, e := s.Next(); sign != x.sign || e != x.err {
				t.Errorf("%q, after the text was changed: %+v %d, not %+v %d", before, sign, e, x.sign, x.err)
			}
			if list != nil && list[n] != x.sign {
				t.Errorf("%q, after the text was changed, in All: %+v, not %+v", before, list[n], x.sign)
			}
		}
	}
}

// P2
func TestResultsAreNew(t *testing.T) {
	const text = `x1 IF 12 $FF 'a' "text" :=`
	one, _, _ := scan.All(text)
	other, _, _ := scan.All(text)
	if len(one) != 8 || !slices.Equal(one, other) {
		t.Fatalf("%+v and %+v", one, other)
	}
	start := uintptr(unsafe.Pointer(unsafe.StringData(text)))
	for n := range one[:7] {
		a, b := unsafe.StringData(one[n].Text), unsafe.StringData(other[n].Text)
		if a == b {
			t.Errorf("%q shares memory with that of another result", one[n].Text)
		}
		if p := uintptr(unsafe.Pointer(a)); start <= p && p < start+uintptr(len(text)) {
			t.Errorf("%q shares memory with the text", one[n].Text)
		}
	}
	// New memory of 32 bytes begins nowhere just 33 bytes behind other such memory, as pieces of one text would.
	long := strings.Repeat("x", 32)
	reader := scan.New(long + " " + long)
	first, _ := reader.Next()
	second, _ := reader.Next()
	if uintptr(unsafe.Pointer(unsafe.StringData(second.Text)))-uintptr(unsafe.Pointer(unsafe.StringData(first.Text))) == 33 {
		t.Errorf("two tokens share their memory with the scanner")
	}
	one[0].Text = "y"
	if other[0].Text != "x1" {
		t.Errorf("two lists share their memory")
	}
}

// P8.1 to P8.3, P1
func FuzzScan(f *testing.F) {
	for _, text := range texts {
		f.Add(text)
	}
	f.Fuzz(func(t *testing.T, text string) { isAsSlow(t, text) })
}
