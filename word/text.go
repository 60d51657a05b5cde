package word

import (
	"strconv"
	"strings"

	"bailiwick/api"
)

// A part of 64 bits holds any number of as many decimal digits.
const (
	groupDigits = 19
	groupSize   = 10_000_000_000_000_000_000
)

// maxDigits is how many digits 2^256 has.
const maxDigits = 78

// Decimal is a in decimal digits.
func Decimal(a api.Word) string {
	out := ""
	for {
		quotient, rest := divide(widen(a), Of(groupSize))
		digits := strconv.FormatUint(rest[0], 10)
		a = narrow(quotient)
		if a == (api.Word{}) {
			return digits + out
		}
		out = strings.Repeat("0", groupDigits-len(digits)) + digits + out
	}
}

// Parse reads what Decimal tells.
func Parse(s string) (api.Word, api.Errno) {
	if !isDecimal(s) {
		return api.Word{}, api.ErrForm
	}
	var sum api.Word
	for i := range len(s) {
		fits := appendDigit(&sum, s[i]-'0')
		if !fits {
			return api.Word{}, api.ErrLong
		}
	}
	return sum, api.OK
}

// isDecimal tells whether s is digits, not too many, without a nought ahead.
func isDecimal(s string) bool {
	if s == "" || len(s) > maxDigits || s[0] == '0' && s != "0" {
		return false
	}
	for i := range len(s) {
		if s[i] < '0' || s[i] > '9' {
			return false
		}
	}
	return true
}

// appendDigit makes a ten times as much and the digit, and tells whether that fits in.
func appendDigit(a *api.Word, digit byte) bool {
	carry := uint64(digit)
	for i, x := range a {
		a[i], carry = mulAdd(x, 10, 0, carry)
	}
	return carry == 0
}
