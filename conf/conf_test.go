package conf_test

import (
	"math"
	"math/big"
	"math/rand/v2"
	"strings"
	"testing"

	"plimsoll/api"
	"plimsoll/conf"
)

// least and most are the smallest right configuration, and one that has the most of all but factors.
var (
	least = api.Config{Raw: 1, W: widths{1, 1, 1}, N: counts{1, 1, 1}, Cap: 1, Log: 6}
	usual = api.Config{Raw: 100, W: widths{1000, 60000, 3600000}, N: counts{60, 60, 24}, Cap: 10, Log: 200}
	most  = api.Config{Raw: api.MaxRaw, W: widths{api.MaxWidth >> 24, api.MaxWidth >> 12, api.MaxWidth}, N: counts{api.MaxSlots, api.MaxSlots, api.MaxSlots}, Cap: api.MaxCap, Log: api.MaxLog}
)

type widths = [3]int64
type counts = [3]int

// with is c, changed.
func with(c api.Config, change func(c *api.Config)) api.Config {
	change(&c)
	return c
}

func right() []api.Config {
	return []api.Config{
		least, usual, most,
		with(usual, func(c *api.Config) { c.Raw = api.MaxRaw; c.Log = 1000 }),
		with(usual, func(c *api.Config) { c.W = widths{7, 7, 7} }),
		with(usual, func(c *api.Config) { c.W = widths{api.MaxWidth, api.MaxWidth, api.MaxWidth} }),
		with(usual, func(c *api.Config) { c.W = widths{1, 60, 3600}; c.N = counts{60, 60, 1} }),
		with(usual, func(c *api.Config) { c.W = widths{1, 4096, 4096}; c.N = counts{4096, 1, 1}; c.Log = 1050 }),
		with(usual, func(c *api.Config) { c.W = widths{3, 3, 4096 * 3}; c.N = counts{1, 4096, 1}; c.Log = 1050 }),
		with(usual, func(c *api.Config) { c.N = counts{60, 60, 4096}; c.Log = 1100 }),
		with(usual, func(c *api.Config) { c.Cap = api.MaxCap }),
		with(usual, func(c *api.Config) { c.Log = 45 }),
		with(usual, func(c *api.Config) { c.Log = api.MaxLog }),
	}
}

// wrong are configurations that are not right, each for one cause.
func wrong() []api.Config {
	l := []api.Config{
		{},
		with(usual, func(c *api.Config) { c.W = widths{1001, 60000, 3600000} }),
		with(usual, func(c *api.Config) { c.W = widths{1000, 59999, 3600000} }),
		with(usual, func(c *api.Config) { c.W = widths{1000, 60001, 3600060} }),
		with(usual, func(c *api.Config) { c.W = widths{1000, 60000, 3599999} }),
		with(usual, func(c *api.Config) { c.W = widths{1000, 60000, 3601000} }),
		with(usual, func(c *api.Config) { c.W = widths{2000, 1000, 1000} }),
		with(usual, func(c *api.Config) { c.W = widths{1000, 2000, 1000} }),
		with(usual, func(c *api.Config) { c.W = widths{-1000, -60000, -3600000} }),
		with(usual, func(c *api.Config) { c.W = widths{-1000, 60000, 3600000} }),
		with(usual, func(c *api.Config) { c.W = widths{0, 60000, 3600000} }),
		with(usual, func(c *api.Config) { c.W = widths{1000, 0, 3600000} }),
		with(usual, func(c *api.Config) { c.W = widths{1000, 60000, 0} }),
		with(usual, func(c *api.Config) { c.W = widths{0, 0, 0} }),
		with(usual, func(c *api.Config) { c.W = widths{api.MaxWidth, api.MaxWidth, 2 * api.MaxWidth} }),
		with(usual, func(c *api.Config) { c.W = widths{api.MaxWidth + 1, api.MaxWidth + 1, api.MaxWidth + 1} }),
		with(usual, func(c *api.Config) { c.N = counts{59, 60, 24} }),
		with(usual, func(c *api.Config) { c.N = counts{60, 59, 24} }),
		with(usual, func(c *api.Config) { c.W[2] = 61 * 60000 }),
		with(usual, func(c *api.Config) { c.Log = 44 }),
		with(usual, func(c *api.Config) { c.N[2] = 25; c.Log = 45 }),
		with(least, func(c *api.Config) { c.Log = 5 }),
		with(most, func(c *api.Config) { c.W[0]-- }),
	}
	for _, n := range []int{math.MinInt, -1, 0, math.MaxInt} {
		l = append(l,
			with(usual, func(c *api.Config) { c.Raw = n }),
			with(usual, func(c *api.Config) { c.Cap = n }),
			with(usual, func(c *api.Config) { c.Log = n }),
			with(usual, func(c *api.Config) { c.N[0] = n }),
			with(usual, func(c *api.Config) { c.N[1] = n }),
			with(usual, func(c *api.Config) { c.N[2] = n }),
			with(usual, func(c *api.Config) { c.W[0] = int64(n) }),
			with(usual, func(c *api.Config) { c.W[1] = int64(n) }),
			with(usual, func(c *api.Config) { c.W[2] = int64(n) }),
		)
	}
	for tier := range 3 {
		l = append(l, with(usual, func(c *api.Config) { c.N[tier] = api.MaxSlots + 1; c.Log = 8000 }))
	}
	return append(l,
		with(usual, func(c *api.Config) { c.Raw = api.MaxRaw + 1; c.Log = 8000 }),
		with(usual, func(c *api.Config) { c.Cap = api.MaxCap + 1 }),
		with(usual, func(c *api.Config) { c.Log = api.MaxLog + 1 }),
	)
}

// some is a configuration that is right more often than not.
func some(source *rand.Rand) api.Config {
	c := api.Config{Raw: 1 + source.IntN(100), Cap: 1 + source.IntN(20)}
	factor := [2]int64{1 + source.Int64N(40), 1 + source.Int64N(40)}
	c.W[0] = 1 + source.Int64N(100000)
	c.W[1] = c.W[0] * factor[0]
	c.W[2] = c.W[1] * factor[1]
	for tier := range c.N {
		c.N[tier] = 1 + source.IntN(60)
		if tier < 2 {
			c.N[tier] += int(factor[tier]) - 1
		}
	}
	c.Log = placeOf(c) + 1 + source.IntN(1000)
	switch source.IntN(12) {
	case 0:
		c.Log = placeOf(c)
	case 1:
		c.W[source.IntN(3)] += source.Int64N(3) - 1
	case 2:
		c.N[source.IntN(2)] -= 1 + source.IntN(10)
	case 3:
		c.Log--
	}
	return c
}

// needed counts sectors one by one.
func needed(n, each int) int {
	all := 0
	for ; n > 0; n -= each {
		all++
	}
	return all
}

func placeOf(c api.Config) int {
	return 1 + needed(c.Raw, 16) + needed(c.N[0], 4) + needed(c.N[1], 4) + needed(c.N[2], 4)
}

func isRight(c api.Config) bool {
	for tier := range 3 {
		if c.W[tier] < 1 || c.W[tier] > api.MaxWidth || c.N[tier] < 1 || c.N[tier] > api.MaxSlots {
			return false
		}
	}
	if c.Raw < 1 || c.Raw > api.MaxRaw || c.Cap < 1 || c.Cap > api.MaxCap || c.W[1]%c.W[0] != 0 || c.W[2]%c.W[1] != 0 {
		return false
	}
	return int64(c.N[0]) >= c.W[1]/c.W[0] && int64(c.N[1]) >= c.W[2]/c.W[1] && c.Log >= placeOf(c)+1 && c.Log <= api.MaxLog
}

// bytesOf puts c's bytes together by numbers of any size.
func bytesOf(c api.Config) string {
	var b strings.Builder
	for _, n := range []struct {
		n    int64
		size int
	}{{int64(c.Raw), 4}, {c.W[0], 8}, {c.W[1], 8}, {c.W[2], 8}, {int64(c.N[0]), 4}, {int64(c.N[1]), 4}, {int64(c.N[2]), 4}, {int64(c.Cap), 4}, {int64(c.Log), 4}, {0, 8}} {
		b.Write(big.NewInt(n.n).FillBytes(make([]byte, n.size)))
	}
	return b.String()
}

// 10.1
func TestCheck(t *testing.T) {
	for _, c := range right() {
		if err := conf.Check(c); err != api.OK {
			t.Errorf("%v is right, but Check answers %d", c, err)
		}
	}
	for _, c := range wrong() {
		if err := conf.Check(c); err != api.ErrForm {
			t.Errorf("%v is not right, but Check answers %d", c, err)
		}
	}
}

// 10.1, 10.2: all others answer 0, or what is said, of one that is not right.
func TestWrongHasNothing(t *testing.T) {
	for _, c := range wrong() {
		for tier := -1; tier <= 3; tier++ {
			if n := conf.Factor(c, tier); n != 0 {
				t.Errorf("Factor(%v, %d) is %d", c, tier, n)
			}
		}
		if conf.Index(c) != 0 || conf.Home(c) != 0 || conf.Place(c) != 0 || conf.Retention(c) != 0 || conf.Bytes(c) != "" {
			t.Errorf("something is told of %v: %d, %d, %d, %d, %q", c, conf.Index(c), conf.Home(c), conf.Place(c), conf.Retention(c), conf.Bytes(c))
		}
		if size, err := conf.Size(c); size != 0 || err != api.ErrForm {
			t.Errorf("Size(%v) is %d, %d", c, size, err)
		}
	}
}

// 10.1
func TestFactor(t *testing.T) {
	for tier, factor := range map[int]int64{math.MinInt: 0, -1: 0, 0: 0, 1: 60, 2: 60, 3: 0, 4: 0, math.MaxInt: 0} {
		if n := conf.Factor(usual, tier); n != factor {
			t.Errorf("Factor(usual, %d) is %d, not %d", tier, n, factor)
		}
	}
	c := with(usual, func(c *api.Config) { c.W = widths{5, 10, 30} })
	if conf.Factor(c, 0) != 0 || conf.Factor(c, 1) != 2 || conf.Factor(c, 2) != 3 {
		t.Errorf("the factors of %v are %d, %d, %d", c, conf.Factor(c, 0), conf.Factor(c, 1), conf.Factor(c, 2))
	}
	if conf.Factor(least, 0) != 0 || conf.Factor(least, 1) != 1 || conf.Factor(most, 2) != 4096 {
		t.Errorf("the factors of the least and the most are %d, %d, %d", conf.Factor(least, 0), conf.Factor(least, 1), conf.Factor(most, 2))
	}
}

// 10.1
func TestSectors(t *testing.T) {
	for _, c := range []struct {
		c                        api.Config
		index, home, place, size int
		err                      api.Errno
	}{
		{least, 1, 8, 5, 14, api.OK},
		{usual, 2, 203, 44, 644, api.OK},
		{most, 69, 8262, 3329, 0, api.ErrRange},
		{with(usual, func(c *api.Config) { c.Log = 120 }), 1, 122, 44, 563, api.OK},
		{with(usual, func(c *api.Config) { c.Log = 121 }), 2, 124, 44, 565, api.OK},
		{with(usual, func(c *api.Config) { c.Log = 240 }), 2, 243, 44, 684, api.OK},
		{with(usual, func(c *api.Config) { c.Log = 241 }), 3, 245, 44, 686, api.OK},
		{with(usual, func(c *api.Config) { c.Raw = 96 }), 2, 203, 43, 634, api.OK},
		{with(usual, func(c *api.Config) { c.Raw = 97 }), 2, 203, 44, 644, api.OK},
		{with(usual, func(c *api.Config) { c.Raw = 112 }), 2, 203, 44, 644, api.OK},
		{with(usual, func(c *api.Config) { c.Raw = 113 }), 2, 203, 45, 654, api.OK},
		{with(usual, func(c *api.Config) { c.N[0] = 61 }), 2, 203, 45, 654, api.OK},
		{with(usual, func(c *api.Config) { c.N[1] = 64 }), 2, 203, 45, 654, api.OK},
		{with(usual, func(c *api.Config) { c.N[1] = 65 }), 2, 203, 46, 664, api.OK},
		{with(usual, func(c *api.Config) { c.N = counts{61, 61, 21} }), 2, 203, 46, 664, api.OK},
	} {
		size, err := conf.Size(c.c)
		if conf.Index(c.c) != c.index || conf.Home(c.c) != c.home || conf.Place(c.c) != c.place || size != c.size || err != c.err {
			t.Errorf("%v has %d, %d, %d, %d, %d, not %d, %d, %d, %d, %d", c.c, conf.Index(c.c), conf.Home(c.c), conf.Place(c.c), size, err, c.index, c.home, c.place, c.size, c.err)
		}
	}
}

// 10.1: the greatest disk is allowed, and none above it.
func TestGreatestSize(t *testing.T) {
	c := api.Config{Raw: 16, W: widths{1, 1, 1}, N: counts{4068, 4, 4}, Cap: 16431, Log: 1153}
	if size, err := conf.Size(c); size != api.MaxDisk || err != api.OK {
		t.Errorf("Size(%v) is %d, %d, not MaxDisk", c, size, err)
	}
	for _, c := range []api.Config{with(c, func(c *api.Config) { c.Log++ }), with(c, func(c *api.Config) { c.Cap++ })} {
		if size, err := conf.Size(c); size != 0 || err != api.ErrRange || conf.Check(c) != api.OK {
			t.Errorf("Size(%v) is %d, %d, above MaxDisk", c, size, err)
		}
		if back, err := conf.Read(conf.Bytes(c)); back != c || err != api.OK {
			t.Errorf("%v is read as %v, %d", c, back, err)
		}
	}
}

// 10.1
func TestRetention(t *testing.T) {
	for _, c := range []struct {
		c    api.Config
		long int64
	}{
		{least, 1},
		{usual, 24 * 3600000},
		{most, api.MaxWidth * api.MaxSlots},
		{with(usual, func(c *api.Config) { c.W = widths{9, 9, 9}; c.N = counts{7, 3, 5} }), 63},
		{with(usual, func(c *api.Config) { c.W = widths{9, 9, 9}; c.N = counts{3, 7, 5} }), 63},
		{with(usual, func(c *api.Config) { c.W = widths{9, 18, 18}; c.N = counts{30, 7, 5} }), 270},
		{with(usual, func(c *api.Config) { c.W = widths{9, 18, 36}; c.N = counts{3, 7, 3} }), 126},
	} {
		if long := conf.Retention(c.c); long != c.long {
			t.Errorf("Retention(%v) is %d, not %d", c.c, long, c.long)
		}
	}
}

// 10.2
func TestBytes(t *testing.T) {
	want := "\x00\x00\x00\x64" +
		"\x00\x00\x00\x00\x00\x00\x03\xe8" + "\x00\x00\x00\x00\x00\x00\xea\x60" + "\x00\x00\x00\x00\x00\x36\xee\x80" +
		"\x00\x00\x00\x3c" + "\x00\x00\x00\x3c" + "\x00\x00\x00\x18" +
		"\x00\x00\x00\x0a" + "\x00\x00\x00\xc8" +
		"\x00\x00\x00\x00\x00\x00\x00\x00"
	if s := conf.Bytes(usual); s != want {
		t.Errorf("Bytes(usual) is %x, not %x", s, want)
	}
	for _, c := range right() {
		if s := conf.Bytes(c); s != bytesOf(c) || len(s) != 56 {
			t.Errorf("Bytes(%v) is %x, not %x", c, s, bytesOf(c))
		}
	}
}

// 10.2
func TestReadWrong(t *testing.T) {
	s := conf.Bytes(usual)
	l := []string{"", "\x00", s[:55], s + "\x00", s + s, s[1:], " " + s, strings.Repeat("\x00", 56), strings.Repeat("\xff", 56), strings.Repeat("\x01", 56)}
	for place := range len(s) {
		l = append(l, s[:place])
		if place >= 48 {
			l = append(l, s[:place]+"\x01"+s[place+1:], s[:place]+"\x80"+s[place+1:])
		}
	}
	for _, c := range wrong() {
		// Only numbers that have room in their bytes can be written.
		if c.Raw >= 0 && c.Raw < 1<<32 && c.Cap >= 0 && c.Cap < 1<<32 && c.Log >= 0 && c.Log < 1<<32 && min(c.N[0], c.N[1], c.N[2]) >= 0 && max(c.N[0], c.N[1], c.N[2]) < 1<<32 && min(c.W[0], c.W[1], c.W[2]) >= 0 {
			l = append(l, bytesOf(c))
		}
	}
	for _, s := range l {
		if c, err := conf.Read(s); err != api.ErrCode || c != (api.Config{}) {
			t.Errorf("Read(%x) is %v, %d", s, c, err)
		}
	}
}

// 10.3: a right configuration is read from its bytes; of bytes that are changed another one is read, if any.
func TestThereAndBack(t *testing.T) {
	source := rand.New(rand.NewPCG(10, 3))
	l := right()
	for range 3000 {
		l = append(l, some(source))
	}
	rights := 0
	for _, c := range l {
		if (conf.Check(c) == api.OK) != isRight(c) {
			t.Fatalf("Check(%v) answers %d", c, conf.Check(c))
		}
		if !isRight(c) {
			continue
		}
		rights++
		s := conf.Bytes(c)
		if back, err := conf.Read(s); back != c || err != api.OK {
			t.Fatalf("%v is read as %v, %d", c, back, err)
		}
		b := []byte(s)
		b[source.IntN(len(b))] ^= 1 << source.IntN(8)
		back, err := conf.Read(string(b))
		if err == api.OK && (!isRight(back) || bytesOf(back) != string(b)) || err != api.OK && (err != api.ErrCode || back != api.Config{}) {
			t.Fatalf("%x is read as %v, %d", b, back, err)
		}
	}
	if rights < 1000 {
		t.Fatalf("just %d of %d were right", rights, len(l))
	}
}

// 10.1, 10.3: sizes by the words; a store of more series, or of more windows, is no smaller.
func TestMoreIsNoSmaller(t *testing.T) {
	source := rand.New(rand.NewPCG(10, 4))
	for range 3000 {
		c := some(source)
		if !isRight(c) {
			continue
		}
		size, err := conf.Size(c)
		home := 1 + needed(c.Log, 120) + c.Log
		if conf.Place(c) != placeOf(c) || conf.Home(c) != home || size != home+1+c.Cap*placeOf(c) || err != api.OK {
			t.Fatalf("%v has %d, %d, %d, %d", c, conf.Home(c), conf.Place(c), size, err)
		}
		more := c
		if source.IntN(2) == 0 {
			more.Cap++
		} else {
			more.N[source.IntN(3)]++
		}
		larger, err := conf.Size(more)
		if isRight(more) && (larger < size || err != api.OK) || !isRight(more) && err != api.ErrForm {
			t.Fatalf("%v has %d sectors, %v has %d, %d", c, size, more, larger, err)
		}
	}
}
