// Package ratio has fractions: see ../../shared/DOC.md and doc/02-ratio.md.
package ratio

import (
	"math/bits"

	"plimsoll/api"
	"plimsoll/wide"
)

// second is how many milliseconds a second has: rates are told a second, times in milliseconds.
const second = 1000

// Gcd is the greatest number that goes into both a and b.
func Gcd(a, b api.Wide) api.Wide {
	for b != (api.Wide{}) {
		_, left := divide(a, b)
		a, b = b, left
	}
	return a
}

// Reduce is the reduced fraction that is num over den.
func Reduce(num, den api.Wide) (api.Fraction, api.Errno) {
	if den == (api.Wide{}) {
		return api.Fraction{}, api.ErrRange
	}
	both := Gcd(num, den)
	n, _ := divide(num, both)
	d, _ := divide(den, both)
	return api.Fraction{Num: n, Den: d}, api.OK
}

// Check tells whether f is reduced.
func Check(f api.Fraction) api.Errno {
	reduced, err := Reduce(f.Num, f.Den)
	if err != api.OK || reduced != f {
		return api.ErrForm
	}
	return api.OK
}

// Less tells whether a is less than b.
func Less(a, b api.Fraction) (bool, api.Errno) {
	if Check(a) != api.OK || Check(b) != api.OK {
		return false, api.ErrForm
	}
	left, err := times(a.Num, b.Den)
	if err != api.OK {
		return false, err
	}
	right, err := times(b.Num, a.Den)
	if err != api.OK {
		return false, err
	}
	return wide.Less(left, right), api.OK
}

// Floor is how often f's Den goes into its Num; f need not be reduced.
func Floor(f api.Fraction) (api.Wide, api.Errno) {
	if f.Den == (api.Wide{}) {
		return api.Wide{}, api.ErrForm
	}
	often, _ := divide(f.Num, f.Den)
	return often, api.OK
}

// Rate is inc in so many milliseconds, a second.
func Rate(inc api.Wide, ms uint64) (api.Fraction, api.Errno) {
	if ms == 0 {
		return api.Fraction{}, api.ErrNoRate
	}
	all, err := wide.Times(inc, second)
	if err != api.OK {
		return api.Fraction{}, err
	}
	return Reduce(all, wide.Of(ms))
}

// Text is f's Num over its Den; f need not be reduced.
func Text(f api.Fraction) string {
	return wide.Text(f.Num) + "/" + wide.Text(f.Den)
}

// times is a, b times: wide.Times has only 64 bits for one of them.
func times(a, b api.Wide) (api.Wide, api.Errno) {
	if a.Hi != 0 && b.Hi != 0 {
		return api.Wide{}, api.ErrRange
	}
	if b.Hi != 0 {
		a, b = b, a
	}
	return wide.Times(a, b.Lo)
}

// divide is how often b, which is not 0, goes into a, and what is left: wide.Div has only 64 bits for b.
func divide(a, b api.Wide) (api.Wide, api.Wide) {
	if b.Hi == 0 {
		often, left, _ := wide.Div(a, b.Lo)
		return often, wide.Of(left)
	}
	var often uint64
	// The first part has as many bits as a, so neither it nor a later one is too much.
	for shift := bits.Len64(a.Hi) - bits.Len64(b.Hi); shift >= 0; shift-- {
		part, _ := wide.Times(b, 1<<shift)
		left, err := wide.Sub(a, part)
		if err == api.OK {
			a = left
			often |= 1 << shift
		}
	}
	return wide.Of(often), a
}
