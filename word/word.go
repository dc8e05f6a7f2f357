// Package word is layer 1: arithmetic on signed 32-bit integers, and their bytes and texts. See shared/doc/01-word.md.
package word

import "strings"

// Most and Least are the greatest and the least number of 32 bits.
const (
	Most  = 1<<31 - 1
	Least = -1 << 31
)

const (
	wordBits  = 32
	wordBytes = 4
	hexDigits = 8  // of a word
	widest    = 40 // what counts for Fits and Within where more bits are asked for
	mostText  = 20 // bytes of the longest text of a number: a sign and 19 digits
)

const digitSigns = "0123456789abcdef"

// Sum adds up its arguments and wraps around.
func Sum(list ...int32) int32 {
	var total int32
	for _, n := range list {
		total += n
	}
	return total
}

// Minus returns a - b and wraps around.
func Minus(a, b int32) int32 { return a - b }

// Times multiplies its arguments and wraps around.
func Times(list ...int32) int32 {
	product := int32(1)
	for _, n := range list {
		product *= n
	}
	return product
}

// Div returns the quotient, rounded down and wrapped around; false if b is 0.
func Div(a, b int32) (int32, bool) {
	if b == 0 {
		return 0, false
	}
	// Go rounds toward 0, which is one too many where the signs differ and something is left.
	q := a / b
	if a%b != 0 && (a < 0) != (b < 0) {
		q--
	}
	return q, true
}

// Mod returns what Div leaves of a; false if b is 0.
func Mod(a, b int32) (int32, bool) {
	q, ok := Div(a, b)
	if !ok {
		return 0, false
	}
	return Minus(a, Times(b, q)), true
}

// Sext returns the number that the lowest bits of w represent in two's complement.
func Sext(w uint32, bits int) int32 {
	if bits < 1 {
		return 0
	}
	unused := wordBits - min(bits, wordBits)
	return int32(w<<unused) >> unused
}

// Fits reports whether n is a number of that many bits in two's complement.
func Fits(n, bits int) bool {
	if bits < 1 {
		return false
	}
	half := int64(1) << (min(bits, widest) - 1)
	return -half <= int64(n) && int64(n) < half
}

// Within reports whether n is a number of that many bits without a sign.
func Within(n, bits int) bool {
	if bits < 0 {
		return false
	}
	return 0 <= n && int64(n) < int64(1)<<min(bits, widest)
}

// Put returns out followed by the bytes of w, the least significant one first.
func Put(out []byte, w uint32) []byte {
	// A new list, since append could write into out's spare capacity.
	longer := make([]byte, 0, len(out)+wordBytes)
	longer = append(longer, out...)
	return append(longer, byte(w), byte(w>>8), byte(w>>16), byte(w>>24))
}

// Get returns the word of four bytes; false if data has more or fewer.
func Get(data []byte) (uint32, bool) {
	if len(data) != wordBytes {
		return 0, false
	}
	return uint32(data[0]) | uint32(data[1])<<8 | uint32(data[2])<<16 | uint32(data[3])<<24, true
}

// Text returns n in decimal.
func Text(n int) string {
	var digits [mostText]byte
	// Without a sign, since the least int has no positive counterpart.
	rest := uint64(n)
	if n < 0 {
		rest = -rest
	}
	at := len(digits)
	for {
		at--
		digits[at] = digitSigns[rest%10]
		rest /= 10
		if rest == 0 {
			break
		}
	}
	if n < 0 {
		at--
		digits[at] = '-'
	}
	return string(digits[at:])
}

// Hex returns w as eight hexadecimal digits.
func Hex(w uint32) string {
	var digits [hexDigits]byte
	for i := range digits {
		digits[i] = digitSigns[w>>(wordBits-4*(i+1))&15]
	}
	return string(digits[:])
}

// Parse returns the number whose Text is s; false if there is none.
func Parse(s string) (int32, bool) {
	digits, negative := strings.CutPrefix(s, "-")
	n := int64(0)
	for i := range len(digits) {
		d := digitOf(digits[i])
		if d < 0 || d > 9 {
			return 0, false
		}
		n = 10*n + int64(d)
		if n > -Least {
			return 0, false
		}
	}
	if negative {
		n = -n
	}
	// What is no Text although its digits are right (no digit at all, leading zeros, -0) differs from the Text of its number.
	if n > Most || Text(int(n)) != s {
		return 0, false
	}
	return int32(n), true
}

// ParseHex returns the word whose Hex is s; false if there is none.
func ParseHex(s string) (uint32, bool) {
	if len(s) != hexDigits {
		return 0, false
	}
	w := uint32(0)
	for i := range len(s) {
		d := digitOf(s[i])
		if d < 0 {
			return 0, false
		}
		w = w<<4 | uint32(d)
	}
	return w, true
}

// digitOf returns the value of a digit of a text, or -1.
func digitOf(c byte) int { return strings.IndexByte(digitSigns, c) }
