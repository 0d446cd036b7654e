package ratio_test

import (
	"math/big"
	"math/rand/v2"
	"testing"

	"plimsoll/api"
	"plimsoll/ratio"
	"plimsoll/wide"
)

const most = 1<<64 - 1

var greatest = api.Wide{Hi: most, Lo: most}

func toBig(a api.Wide) *big.Int {
	b := new(big.Int).SetUint64(a.Hi)
	b.Lsh(b, 64)
	return b.Add(b, new(big.Int).SetUint64(a.Lo))
}

func ofBig(b *big.Int) api.Wide {
	low := new(big.Int).And(b, new(big.Int).SetUint64(most))
	return api.Wide{Hi: new(big.Int).Rsh(b, 64).Uint64(), Lo: low.Uint64()}
}

func fraction(num, den uint64) api.Fraction {
	return api.Fraction{Num: wide.Of(num), Den: wide.Of(den)}
}

// numbers are numbers with many divisors and with few, edges, and some of any length.
func numbers() []api.Wide {
	var l []api.Wide
	for _, n := range []uint64{0, 1, 2, 3, 4, 6, 7, 12, 18, 30, 1000, 1 << 32, 1 << 63, most - 58, most - 1, most} {
		l = append(l, api.Wide{Lo: n}, api.Wide{Hi: n}, api.Wide{Hi: n, Lo: n}, api.Wide{Hi: n, Lo: 1})
	}
	l = append(l, greatest, api.Wide{Hi: most, Lo: most - 1})
	// Neighbours of Fibonacci's row take Euclid's way the longest.
	a, b := big.NewInt(1), big.NewInt(1)
	for b.BitLen() <= 128 {
		a, b = b, new(big.Int).Add(a, b)
		if b.BitLen() > 120 && b.BitLen() <= 128 {
			l = append(l, ofBig(b))
		}
	}
	source := rand.New(rand.NewPCG(5, 6))
	for length := 0; length < 64; length += 5 {
		l = append(l, api.Wide{Hi: source.Uint64() >> length, Lo: source.Uint64()}, api.Wide{Lo: source.Uint64() >> length})
	}
	return l
}

// reduced are all fractions out of some numbers, reduced by another's reckoning.
func reduced() []api.Fraction {
	source := rand.New(rand.NewPCG(7, 8))
	l := []api.Fraction{fraction(0, 1), fraction(1, 1), fraction(1, 2), fraction(2, 1), fraction(2, 3),
		{Num: greatest, Den: wide.Of(1)}, {Num: wide.Of(1), Den: greatest}, {Num: greatest, Den: api.Wide{Hi: most, Lo: most - 1}},
		{Num: wide.Of(1), Den: api.Wide{Hi: 1}}, {Num: api.Wide{Hi: 1}, Den: wide.Of(1)}, {Num: wide.Of(most), Den: wide.Of(most - 1)}}
	for length := 0; length < 128; length += 3 {
		num := new(big.Int).Rsh(toBig(api.Wide{Hi: source.Uint64(), Lo: source.Uint64()}), uint(length))
		den := new(big.Int).Rsh(toBig(api.Wide{Hi: source.Uint64() | 1<<63, Lo: source.Uint64()}), uint(127-length))
		r := new(big.Rat).SetFrac(num, den)
		l = append(l, api.Fraction{Num: ofBig(r.Num()), Den: ofBig(r.Denom())})
	}
	return l
}

// 2.1
func TestGcd(t *testing.T) {
	for _, c := range []struct{ a, b, want api.Wide }{
		{wide.Of(12), wide.Of(18), wide.Of(6)},
		{api.Wide{}, api.Wide{}, api.Wide{}},
		{api.Wide{}, wide.Of(5), wide.Of(5)},
		{wide.Of(5), api.Wide{}, wide.Of(5)},
		{api.Wide{}, greatest, greatest},
		{greatest, api.Wide{}, greatest},
		{greatest, greatest, greatest},
		{greatest, wide.Of(1), wide.Of(1)},
		{greatest, api.Wide{Hi: most, Lo: most - 1}, wide.Of(1)},
		{api.Wide{Hi: 1 << 63}, api.Wide{Hi: 3}, api.Wide{Hi: 1}},
		{api.Wide{Hi: 6, Lo: 12}, api.Wide{Hi: 4, Lo: 8}, api.Wide{Hi: 2, Lo: 4}},
	} {
		if got := ratio.Gcd(c.a, c.b); got != c.want {
			t.Errorf("Gcd(%v, %v): %v, want %v", c.a, c.b, got, c.want)
		}
	}
	for _, a := range numbers() {
		for _, b := range numbers() {
			want := new(big.Int).GCD(nil, nil, toBig(a), toBig(b))
			if got := ratio.Gcd(a, b); toBig(got).Cmp(want) != 0 {
				t.Fatalf("Gcd(%v, %v): %v, want %v", a, b, got, want)
			}
		}
	}
}

// 2.1
func TestReduce(t *testing.T) {
	for _, num := range numbers() {
		for _, den := range numbers() {
			got, err := ratio.Reduce(num, den)
			if den == (api.Wide{}) {
				if got != (api.Fraction{}) || err != api.ErrRange {
					t.Fatalf("Reduce(%v, 0): %v, %d", num, got, err)
				}
				continue
			}
			r := new(big.Rat).SetFrac(toBig(num), toBig(den))
			want := api.Fraction{Num: ofBig(r.Num()), Den: ofBig(r.Denom())}
			if got != want || err != api.OK {
				t.Fatalf("Reduce(%v, %v): %v, %d; want %v", num, den, got, err, want)
			}
		}
	}
	if got, err := ratio.Reduce(api.Wide{}, greatest); got != fraction(0, 1) || err != api.OK {
		t.Errorf("Reduce(0, 2^128 less 1): %v, %d", got, err)
	}
}

// 2.1
func TestCheck(t *testing.T) {
	for _, f := range reduced() {
		if err := ratio.Check(f); err != api.OK {
			t.Errorf("Check(%v): %d", f, err)
		}
	}
	for _, f := range []api.Fraction{
		{}, fraction(1, 0), fraction(7, 0), fraction(0, 2), fraction(0, most), fraction(2, 2), fraction(2, 4), fraction(4, 2), fraction(9, 3),
		{Num: greatest}, {Den: greatest}, {Num: greatest, Den: greatest},
		{Num: api.Wide{Hi: 3}, Den: api.Wide{Hi: 2}}, {Num: api.Wide{Hi: 1}, Den: wide.Of(2)}, {Num: wide.Of(2), Den: api.Wide{Hi: 1}},
	} {
		if err := ratio.Check(f); err != api.ErrForm {
			t.Errorf("Check(%v): %d, want ErrForm", f, err)
		}
	}
}

// 2.1
func TestFloor(t *testing.T) {
	for _, num := range numbers() {
		for _, den := range numbers() {
			got, err := ratio.Floor(api.Fraction{Num: num, Den: den})
			if den == (api.Wide{}) {
				if got != (api.Wide{}) || err != api.ErrForm {
					t.Fatalf("Floor(%v over 0): %v, %d", num, got, err)
				}
				continue
			}
			want := new(big.Int).Quo(toBig(num), toBig(den))
			if toBig(got).Cmp(want) != 0 || err != api.OK {
				t.Fatalf("Floor(%v over %v): %v, %d; want %v", num, den, got, err, want)
			}
		}
	}
	// Not reduced, and right all the same.
	if got, err := ratio.Floor(fraction(14, 4)); got != wide.Of(3) || err != api.OK {
		t.Errorf("Floor(14/4): %v, %d", got, err)
	}
}

// 2.2
func TestLess(t *testing.T) {
	for _, a := range reduced() {
		for _, b := range reduced() {
			left := new(big.Int).Mul(toBig(a.Num), toBig(b.Den))
			right := new(big.Int).Mul(toBig(b.Num), toBig(a.Den))
			got, err := ratio.Less(a, b)
			if left.BitLen() > 128 || right.BitLen() > 128 {
				if got || err != api.ErrRange {
					t.Fatalf("Less(%v, %v): %v, %d; want ErrRange", a, b, got, err)
				}
				continue
			}
			if got != (left.Cmp(right) < 0) || err != api.OK {
				t.Fatalf("Less(%v, %v): %v, %d", a, b, got, err)
			}
		}
	}
}

// 2.2
func TestLessEdges(t *testing.T) {
	twoTo64 := api.Fraction{Num: api.Wide{Hi: 1}, Den: wide.Of(1)}
	oneOver := func(den api.Wide) api.Fraction { return api.Fraction{Num: wide.Of(1), Den: den} }
	for _, c := range []struct {
		name string
		a, b api.Fraction
		want bool
		err  api.Errno
	}{
		{"less", fraction(1, 3), fraction(1, 2), true, api.OK},
		{"greater", fraction(1, 2), fraction(1, 3), false, api.OK},
		{"alike", fraction(2, 3), fraction(2, 3), false, api.OK},
		{"0", fraction(0, 1), oneOver(greatest), true, api.OK},
		{"the greatest", api.Fraction{Num: greatest, Den: wide.Of(1)}, api.Fraction{Num: greatest, Den: wide.Of(1)}, false, api.OK},
		{"just 2^128 less 2^64", twoTo64, oneOver(wide.Of(most)), false, api.OK},
		{"left is 2^128", twoTo64, oneOver(api.Wide{Hi: 1}), false, api.ErrRange},
		{"right is 2^128", oneOver(api.Wide{Hi: 1}), twoTo64, false, api.ErrRange},
		{"a has no Den", api.Fraction{}, fraction(1, 1), false, api.ErrForm},
		{"b has no Den", fraction(1, 1), fraction(1, 0), false, api.ErrForm},
		{"a is not reduced", fraction(2, 4), fraction(1, 1), false, api.ErrForm},
		{"b is not reduced", fraction(0, 1), fraction(2, 4), false, api.ErrForm},
		{"b is not reduced, and it is too much", twoTo64, api.Fraction{Num: wide.Of(2), Den: api.Wide{Hi: 2}}, false, api.ErrForm},
	} {
		if got, err := ratio.Less(c.a, c.b); got != c.want || err != c.err {
			t.Errorf("%s: %v, %d; want %v, %d", c.name, got, err, c.want, c.err)
		}
	}
}

// 2.2
func TestRate(t *testing.T) {
	// 2^128 less 1, divided by 1000, rounded down: the greatest one that can be told.
	top, _, _ := wide.Div(greatest, 1000)
	above, _ := wide.Add(top, wide.Of(1))
	all, _ := wide.Times(top, 1000)
	for _, c := range []struct {
		name string
		inc  api.Wide
		ms   uint64
		want api.Fraction
		err  api.Errno
	}{
		{"2 a second", wide.Of(3), 1500, fraction(2, 1), api.OK},
		{"a part of one", wide.Of(1), 3000, fraction(1, 3), api.OK},
		{"a millisecond", wide.Of(7), 1, fraction(7000, 1), api.OK},
		{"nothing", api.Wide{}, 1500, fraction(0, 1), api.OK},
		{"very long", wide.Of(1), most, fraction(200, most/5), api.OK},
		{"the greatest", top, 1, api.Fraction{Num: all, Den: wide.Of(1)}, api.OK},
		{"too great", above, 1, api.Fraction{}, api.ErrRange},
		{"too great, however long", greatest, most, api.Fraction{}, api.ErrRange},
		{"no time", wide.Of(3), 0, api.Fraction{}, api.ErrNoRate},
		{"nothing in no time", api.Wide{}, 0, api.Fraction{}, api.ErrNoRate},
		{"too great in no time", greatest, 0, api.Fraction{}, api.ErrNoRate},
	} {
		if got, err := ratio.Rate(c.inc, c.ms); got != c.want || err != c.err {
			t.Errorf("%s: %v, %d; want %v, %d", c.name, got, err, c.want, c.err)
		}
	}
}

// 2.2
func TestText(t *testing.T) {
	for want, f := range map[string]api.Fraction{
		"0/1":                    fraction(0, 1),
		"2/3":                    fraction(2, 3),
		"18446744073709551616/7": {Num: api.Wide{Hi: 1}, Den: wide.Of(7)},
		"1/340282366920938463463374607431768211455": {Num: wide.Of(1), Den: greatest},
		"4/6": fraction(4, 6),
		"0/0": {},
	} {
		if got := ratio.Text(f); got != want {
			t.Errorf("Text(%v): %s, want %s", f, got, want)
		}
	}
}

// 2.3
func TestTheSameValue(t *testing.T) {
	for _, f := range reduced() {
		// As often as both still have room.
		for _, n := range []uint64{1, 2, 3, 1000, most} {
			num, tooMuch := wide.Times(f.Num, n)
			den, tooMuchThen := wide.Times(f.Den, n)
			if tooMuch != api.OK || tooMuchThen != api.OK {
				continue
			}
			if got, err := ratio.Reduce(num, den); got != f || err != api.OK {
				t.Fatalf("%v, both %d times, is reduced to %v, %d", f, n, got, err)
			}
		}
		if again, err := ratio.Reduce(f.Num, f.Den); again != f || err != api.OK {
			t.Fatalf("%v is reduced to %v, %d", f, again, err)
		}
	}
	for _, num := range numbers() {
		for _, den := range numbers() {
			f, err := ratio.Reduce(num, den)
			if err != api.OK {
				continue
			}
			left := new(big.Int).Mul(toBig(f.Num), toBig(den))
			right := new(big.Int).Mul(toBig(num), toBig(f.Den))
			if left.Cmp(right) != 0 || ratio.Check(f) != api.OK {
				t.Fatalf("%v over %v is reduced to %v", num, den, f)
			}
		}
	}
	for _, a := range reduced() {
		for _, b := range reduced() {
			left := new(big.Int).Mul(toBig(a.Num), toBig(b.Den))
			right := new(big.Int).Mul(toBig(b.Num), toBig(a.Den))
			if (a == b) != (left.Cmp(right) == 0) {
				t.Fatalf("%v and %v", a, b)
			}
		}
	}
}

// 2.2: what README.md says.
func TestReadme(t *testing.T) {
	rate, err := ratio.Rate(wide.Of(10), 4000)
	if err != api.OK || ratio.Text(rate) != "5/2" {
		t.Errorf("10 in 4 seconds: %s, %d", ratio.Text(rate), err)
	}
}
