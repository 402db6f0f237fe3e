// Package num has whole numbers of 64 bits whose sums are checked, their texts, and places in lists.
package num

import (
	"math"
	"strconv"

	"placket/api"
)

// signBit turns the numbers' order into that of their bytes: what is below 0 comes ahead.
const signBit = 1 << 63

// width is how many bytes a number has.
const width = 8

// Add is a and b together.
func Add(a, b int64) (int64, api.Errno) {
	sum := a + b
	// A sum that was wrapped round has neither number's sign.
	if (a^sum)&(b^sum) < 0 {
		return 0, api.ErrRange
	}
	return sum, api.OK
}

// Sub is a less b.
func Sub(a, b int64) (int64, api.Errno) {
	less := a - b
	// A difference can leave the range only if the signs are unlike, and then it loses a's.
	if (a^b)&(a^less) < 0 {
		return 0, api.ErrRange
	}
	return less, api.OK
}

// Mul is a times b.
func Mul(a, b int64) (int64, api.Errno) {
	if b == 0 {
		return 0, api.OK
	}
	product := a * b
	// The quotient gives a back just if nothing was wrapped round, but for the one that is itself out of range.
	if pastMost(a, b) || product/b != a {
		return 0, api.ErrRange
	}
	return product, api.OK
}

// Div is the quotient of a and b, rounded down.
func Div(a, b int64) (int64, api.Errno) {
	if b == 0 {
		return 0, api.ErrZero
	}
	if pastMost(a, b) {
		return 0, api.ErrRange
	}
	quotient := a / b
	if unlikeSigns(a%b, b) {
		quotient-- // Go rounds towards 0
	}
	return quotient, api.OK
}

// Mod is what Div leaves of a.
func Mod(a, b int64) (int64, api.Errno) {
	if b == 0 {
		return 0, api.ErrZero
	}
	left := a % b
	if unlikeSigns(left, b) {
		left += b
	}
	return left, api.OK
}

// pastMost tells of the one quotient, and of the product like it, that is just above the greatest number.
func pastMost(a, b int64) bool {
	return a == math.MinInt64 && b == -1
}

// unlikeSigns tells whether one is below 0, and the other one above; 0 has no sign.
func unlikeSigns(a, b int64) bool {
	return a < 0 && b > 0 || a > 0 && b < 0
}

// Digits is n in decimal digits.
func Digits(n int64) string {
	return strconv.FormatInt(n, 10)
}

// Parse reads what Digits writes, and nothing else.
func Parse(s string) (int64, api.Errno) {
	if s == "" {
		return 0, api.ErrForm
	}
	digits := s
	switch s[0] {
	case '-':
		digits = s[1:]
		if digits == "0" { // 0 is not below 0
			return 0, api.ErrForm
		}
		fallthrough
	case '0', '1', '2', '3', '4', '5', '6', '7', '8', '9':
		if !plain(digits) {
			return 0, api.ErrForm
		}
		return signed(digits, s[0] == '-')
	}
	return 0, api.ErrForm
}

// plain tells whether s is one digit or more, without noughts in front.
func plain(s string) bool {
	if s == "" || s[0] == '0' && len(s) > 1 {
		return false
	}
	for i := range len(s) {
		if s[i] < '0' || s[i] > '9' {
			return false
		}
	}
	return true
}

// signed is the number of these digits, below 0 if negative.
func signed(digits string, negative bool) (int64, api.Errno) {
	n, err := below(digits)
	if err != api.OK || negative {
		return n, err
	}
	return Sub(0, n)
}

// below is 0 less the number of these digits: there is one more number below 0 than above, so all are read there.
func below(digits string) (int64, api.Errno) {
	n := int64(0)
	for i := range len(digits) {
		tens, err := Mul(n, 10)
		if err != api.OK {
			return 0, err
		}
		n, err = Sub(tens, int64(digits[i]-'0'))
		if err != api.OK {
			return 0, err
		}
	}
	return n, api.OK
}

// Bytes is n and 2^63 together, as eight bytes, the highest one first.
func Bytes(n int64) string {
	word := uint64(n) + signBit
	b := make([]byte, width)
	for i := range b {
		b[i] = byte(word >> (8 * (width - 1 - i)))
	}
	return string(b)
}

// Unbytes is the number of which s is Bytes.
func Unbytes(s string) (int64, api.Errno) {
	if len(s) != width {
		return 0, api.ErrForm
	}
	word := uint64(0)
	for i := range len(s) {
		word = word<<8 | uint64(s[i])
	}
	return int64(word - signBit), api.OK
}

// Place is the place of i in a list of n, where one below 0 counts from the end.
func Place(i, n int) (int, bool) {
	switch {
	case i >= 0 && i < n:
		return i, true
	case i < 0 && n > 0 && i >= -n:
		return n + i, true
	}
	return 0, false
}

// Cut is where the piece from lo up to hi begins and ends in a list of n.
func Cut(lo, hi, n int) (int, int) {
	n = max(n, 0)
	begin := bound(lo, n)
	return begin, max(begin, bound(hi, n))
}

// bound is i as an end of a piece of a list of n, n being 0 or more.
func bound(i, n int) int {
	if i < 0 {
		return max(n+i, 0)
	}
	return min(i, n)
}
