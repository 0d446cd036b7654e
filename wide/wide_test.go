package wide_test

import (
	"math/big"
	"math/rand/v2"
	"slices"
	"strings"
	"testing"

	"plimsoll/api"
	"plimsoll/wide"
)

const most = 1<<64 - 1

// bound is 2^128: what is as great is no number.
var bound = new(big.Int).Lsh(big.NewInt(1), 128)

func toBig(a api.Wide) *big.Int {
	b := new(big.Int).SetUint64(a.Hi)
	b.Lsh(b, 64)
	return b.Add(b, new(big.Int).SetUint64(a.Lo))
}

// parts are numbers of 64 bits: the edges, and one of each length.
func parts() []uint64 {
	l := []uint64{0, 1, 2, 3, 7, 9, 10, 11, 1000, 1<<32 - 1, 1 << 32, 1<<63 - 1, 1 << 63, 1<<63 + 1,
		9_999_999_999_999_999_999, 10_000_000_000_000_000_000, 10_000_000_000_000_000_001, most - 1, most}
	source := rand.New(rand.NewPCG(1, 2))
	for length := range 64 {
		l = append(l, source.Uint64()>>length)
	}
	return l
}

// numbers are numbers of 128 bits: the edges, and some of each length.
func numbers() []api.Wide {
	var l []api.Wide
	edges := []uint64{0, 1, 2, 1 << 63, most - 1, most}
	for _, hi := range edges {
		for _, lo := range edges {
			l = append(l, api.Wide{Hi: hi, Lo: lo})
		}
	}
	for _, s := range []string{"9", "10", "9999999999999999999", "10000000000000000000", "99999999999999999999999999999999999999", "100000000000000000000000000000000000000"} {
		b, _ := new(big.Int).SetString(s, 10)
		l = append(l, api.Wide{Hi: new(big.Int).Rsh(b, 64).Uint64(), Lo: new(big.Int).And(b, new(big.Int).SetUint64(most)).Uint64()})
	}
	source := rand.New(rand.NewPCG(3, 4))
	for length := range 64 {
		l = append(l, api.Wide{Hi: source.Uint64() >> length, Lo: source.Uint64()}, api.Wide{Lo: source.Uint64() >> length})
	}
	return l
}

// is ends a test, if a call did not answer want, or ErrRange and 0 where want is no number.
func is(t *testing.T, call string, got api.Wide, err api.Errno, want *big.Int) {
	t.Helper()
	if want.Sign() < 0 || want.Cmp(bound) >= 0 {
		if err != api.ErrRange || got != (api.Wide{}) {
			t.Fatalf("%s: %v, %d; want 0 and ErrRange", call, got, err)
		}
		return
	}
	if err != api.OK || toBig(got).Cmp(want) != 0 {
		t.Fatalf("%s: %v, %d; want %v", call, got, err, want)
	}
}

// 1.1
func TestOf(t *testing.T) {
	for _, n := range parts() {
		if got := wide.Of(n); got != (api.Wide{Lo: n}) {
			t.Fatalf("Of(%d): %v", n, got)
		}
	}
}

// 1.1
func TestPairs(t *testing.T) {
	for _, a := range numbers() {
		for _, b := range numbers() {
			x, y := toBig(a), toBig(b)
			sum, err := wide.Add(a, b)
			is(t, "Add", sum, err, new(big.Int).Add(x, y))
			rest, err := wide.Sub(a, b)
			is(t, "Sub", rest, err, new(big.Int).Sub(x, y))
			if wide.Less(a, b) != (x.Cmp(y) < 0) {
				t.Fatalf("Less(%v, %v): %v", a, b, wide.Less(a, b))
			}
		}
	}
}

// 1.1
func TestTimesAndDiv(t *testing.T) {
	for _, a := range numbers() {
		for _, n := range parts() {
			x, y := toBig(a), new(big.Int).SetUint64(n)
			product, err := wide.Times(a, n)
			is(t, "Times", product, err, new(big.Int).Mul(x, y))
			often, left, err := wide.Div(a, n)
			if n == 0 {
				if often != (api.Wide{}) || left != 0 || err != api.ErrRange {
					t.Fatalf("Div(%v, 0): %v, %d, %d", a, often, left, err)
				}
				continue
			}
			q, r := new(big.Int).QuoRem(x, y, new(big.Int))
			is(t, "Div", often, err, q)
			if left != r.Uint64() {
				t.Fatalf("Div(%v, %d) leaves %d", a, n, left)
			}
		}
	}
}

// 1.1
func TestEdges(t *testing.T) {
	greatest := api.Wide{Hi: most, Lo: most}
	a, err := wide.Add(api.Wide{Hi: most, Lo: most - 1}, wide.Of(1))
	if a != greatest || err != api.OK {
		t.Errorf("Add up to 2^128 less 1: %v, %d", a, err)
	}
	a, err = wide.Add(greatest, wide.Of(1))
	if a != (api.Wide{}) || err != api.ErrRange {
		t.Errorf("Add up to 2^128: %v, %d", a, err)
	}
	a, err = wide.Sub(greatest, greatest)
	if a != (api.Wide{}) || err != api.OK {
		t.Errorf("Sub of itself: %v, %d", a, err)
	}
	a, err = wide.Times(api.Wide{Hi: 1 << 63}, 2)
	if a != (api.Wide{}) || err != api.ErrRange {
		t.Errorf("Times up to 2^128: %v, %d", a, err)
	}
	a, err = wide.Times(api.Wide{Hi: 1, Lo: 1}, most)
	if a != greatest || err != api.OK {
		t.Errorf("Times up to 2^128 less 1: %v, %d", a, err)
	}
	// The high half fits, but not what is carried into it.
	a, err = wide.Times(api.Wide{Hi: 1, Lo: 2}, most)
	if a != (api.Wide{}) || err != api.ErrRange {
		t.Errorf("Times with a carry: %v, %d", a, err)
	}
}

// 1.1
func TestSum(t *testing.T) {
	greatest := api.Wide{Hi: most, Lo: most}
	for _, c := range []struct {
		name string
		l    []api.Wide
		want api.Wide
		err  api.Errno
	}{
		{"none", nil, api.Wide{}, api.OK},
		{"one", []api.Wide{{Hi: 3, Lo: 4}}, api.Wide{Hi: 3, Lo: 4}, api.OK},
		{"several", []api.Wide{wide.Of(1), wide.Of(2), wide.Of(4)}, wide.Of(7), api.OK},
		{"carried", []api.Wide{wide.Of(most), wide.Of(most), wide.Of(2)}, api.Wide{Hi: 2}, api.OK},
		{"the greatest", []api.Wide{{Hi: most}, {Lo: most}, {}}, greatest, api.OK},
		{"too much at the end", []api.Wide{{Hi: most}, {Lo: most}, {Lo: 1}}, api.Wide{}, api.ErrRange},
		{"too much, and nothing more", []api.Wide{greatest, {Lo: 1}, {}}, api.Wide{}, api.ErrRange},
		{"too much, and then more", []api.Wide{greatest, {Lo: 1}, {Lo: 5}}, api.Wide{}, api.ErrRange},
	} {
		before := slices.Clone(c.l)
		got, err := wide.Sum(c.l...)
		if got != c.want || err != c.err {
			t.Errorf("%s: %v, %d; want %v, %d", c.name, got, err, c.want, c.err)
		}
		if !slices.Equal(before, c.l) {
			t.Errorf("%s: what was handed in is %v", c.name, c.l)
		}
	}
}

// 1.1
func TestSumOfMany(t *testing.T) {
	for from := range numbers() {
		want := new(big.Int)
		l := numbers()[from:]
		for _, a := range l {
			want.Add(want, toBig(a))
		}
		got, err := wide.Sum(l...)
		is(t, "Sum", got, err, want)
	}
}

// 1.2
func TestText(t *testing.T) {
	for want, a := range map[string]api.Wide{
		"0":                    {},
		"7":                    {Lo: 7},
		"18446744073709551615": {Lo: most},
		"18446744073709551616": {Hi: 1},
		"9999999999999999999":  {Lo: 9_999_999_999_999_999_999},
		"10000000000000000000": {Lo: 10_000_000_000_000_000_000},
		"10000000000000000001": {Lo: 10_000_000_000_000_000_001},
		"340282366920938463463374607431768211455": {Hi: most, Lo: most},
		"100000000000000000000000000000000000000": {Hi: 5421010862427522170, Lo: 687399551400673280},
		"100000000000000000000000000000000000005": {Hi: 5421010862427522170, Lo: 687399551400673285},
	} {
		if got := wide.Text(a); got != want {
			t.Errorf("Text(%v): %s, want %s", a, got, want)
		}
		if got, err := wide.Parse(want); got != a || err != api.OK {
			t.Errorf("Parse(%s): %v, %d", want, got, err)
		}
	}
	for _, a := range numbers() {
		if got := wide.Text(a); got != toBig(a).String() {
			t.Errorf("Text(%v): %s", a, got)
		}
	}
}

// 1.2
func TestParseWrong(t *testing.T) {
	for _, s := range []string{
		"", "00", "01", "007", "-0", "-1", "+0", "+1", " 1", "1 ", "1\n", "\t1", "1_000", "1,000", "0x10", "0b1", "1.0", "1e3",
		"a", "1a", "a1", "/", ":", "1/", "1:", "\x00", "1\x00", "\xff", "٣", "１", "½", "NaN",
		"340282366920938463463374607431768211456",
		"340282366920938463463374607431768211460",
		"400000000000000000000000000000000000000",
		"1000000000000000000000000000000000000000",
		"3402823669209384634633746074317682114550",
		strings.Repeat("9", 100000),
		strings.Repeat("0", 100000),
	} {
		if got, err := wide.Parse(s); got != (api.Wide{}) || err != api.ErrCode {
			t.Errorf("Parse(%.60q): %v, %d; want 0 and ErrCode", s, got, err)
		}
	}
	for c := range 256 {
		if c >= '0' && c <= '9' {
			continue
		}
		for _, s := range []string{string([]byte{byte(c)}), string([]byte{'1', byte(c)}), string([]byte{byte(c), '1'})} {
			if got, err := wide.Parse(s); got != (api.Wide{}) || err != api.ErrCode {
				t.Errorf("Parse(%q): %v, %d; want 0 and ErrCode", s, got, err)
			}
		}
	}
}

// 1.3
func TestThereAndBack(t *testing.T) {
	for _, a := range numbers() {
		for _, b := range numbers() {
			sum, err := wide.Add(a, b)
			if err != api.OK {
				continue
			}
			if back, err := wide.Sub(sum, b); back != a || err != api.OK {
				t.Fatalf("%v, and %v put to it and taken from it: %v, %d", a, b, back, err)
			}
		}
		for _, n := range parts() {
			often, left, err := wide.Div(a, n)
			if err != api.OK {
				continue
			}
			product, _ := wide.Times(often, n)
			if back, err := wide.Add(product, wide.Of(left)); back != a || err != api.OK || left >= n {
				t.Fatalf("%v by %d: %v, and %d is left", a, n, often, left)
			}
		}
		if back, err := wide.Parse(wide.Text(a)); back != a || err != api.OK {
			t.Fatalf("%v read from its text: %v, %d", a, back, err)
		}
	}
}
