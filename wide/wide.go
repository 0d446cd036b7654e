// Package wide reckons with numbers of 128 bits: see ../../shared/DOC.md and doc/01-wide.md.
package wide

import (
	"math/bits"
	"strconv"
	"strings"

	"plimsoll/api"
)

// A part of a text is as many digits as any number of 64 bits can be told by: partUnit is 10, partDigits times.
const (
	partUnit   = 10_000_000_000_000_000_000
	partDigits = 19
)

// Of is n as a wide number.
func Of(n uint64) api.Wide {
	return api.Wide{Lo: n}
}

// Add is a and b together.
func Add(a, b api.Wide) (api.Wide, api.Errno) {
	lo, carry := bits.Add64(a.Lo, b.Lo, 0)
	hi, over := bits.Add64(a.Hi, b.Hi, carry)
	if over != 0 {
		return api.Wide{}, api.ErrRange
	}
	return api.Wide{Hi: hi, Lo: lo}, api.OK
}

// Sub is a less b.
func Sub(a, b api.Wide) (api.Wide, api.Errno) {
	lo, borrow := bits.Sub64(a.Lo, b.Lo, 0)
	hi, under := bits.Sub64(a.Hi, b.Hi, borrow)
	if under != 0 {
		return api.Wide{}, api.ErrRange
	}
	return api.Wide{Hi: hi, Lo: lo}, api.OK
}

// Less tells whether a is less than b.
func Less(a, b api.Wide) bool {
	return a.Hi < b.Hi || a.Hi == b.Hi && a.Lo < b.Lo
}

// Times is a, n times.
func Times(a api.Wide, n uint64) (api.Wide, api.Errno) {
	fromLo, lo := bits.Mul64(a.Lo, n)
	over, fromHi := bits.Mul64(a.Hi, n)
	hi, carry := bits.Add64(fromLo, fromHi, 0)
	if over != 0 || carry != 0 {
		return api.Wide{}, api.ErrRange
	}
	return api.Wide{Hi: hi, Lo: lo}, api.OK
}

// Div is how often n goes into a, and what is left.
func Div(a api.Wide, n uint64) (api.Wide, uint64, api.Errno) {
	if n == 0 {
		return api.Wide{}, 0, api.ErrRange
	}
	// What is left of the high half is less than n: bits.Div64 panics, if it is not.
	hi, left := a.Hi/n, a.Hi%n
	lo, left := bits.Div64(left, a.Lo, n)
	return api.Wide{Hi: hi, Lo: lo}, left, api.OK
}

// Sum is all of l together.
func Sum(l ...api.Wide) (api.Wide, api.Errno) {
	var all api.Wide
	for _, a := range l {
		more, err := Add(all, a)
		if err != api.OK {
			return api.Wide{}, err
		}
		all = more
	}
	return all, api.OK
}

// Text is a's decimal digits.
func Text(a api.Wide) string {
	front, back, _ := Div(a, partUnit)
	digits := strconv.FormatUint(back, 10)
	if front == (api.Wide{}) {
		return digits
	}
	// Behind other digits a part's noughts are needed.
	return Text(front) + strings.Repeat("0", partDigits-len(digits)) + digits
}

// Parse is the number whose text s is.
func Parse(s string) (api.Wide, api.Errno) {
	if s == "" || s[0] == '0' && s != "0" {
		return api.Wide{}, api.ErrCode
	}
	var a api.Wide
	for i := range len(s) {
		if s[i] < '0' || s[i] > '9' {
			return api.Wide{}, api.ErrCode
		}
		tenfold, tooMuch := Times(a, 10)
		more, tooMuchThen := Add(tenfold, Of(uint64(s[i]-'0')))
		// A number that is too great has no text, so it is not ErrRange here.
		if tooMuch != api.OK || tooMuchThen != api.OK {
			return api.Wide{}, api.ErrCode
		}
		a = more
	}
	return a, api.OK
}
