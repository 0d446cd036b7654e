package window_test

import (
	"math"
	"math/rand/v2"
	"testing"

	"plimsoll/api"
	"plimsoll/window"
)

const lately = api.MaxTime - 1

// far are numbers at the edges of what may be, and past them.
func far() []int64 {
	return []int64{math.MinInt64, math.MinInt64 + 1, -api.MaxTime, -2, -1, 0, 1, 2, 7, 4095, 4096, 4097, api.MaxWidth - 1, api.MaxWidth, api.MaxWidth + 1, lately, api.MaxTime, api.MaxTime + 1, math.MaxInt64 - 1, math.MaxInt64}
}

func isTime(t int64) bool {
	return t >= 0 && t < api.MaxTime
}

func isWidth(w int64) bool {
	return w >= 1 && w <= api.MaxWidth
}

// somewhere is a time or a width, or past them, of any size.
func somewhere(source *rand.Rand) int64 {
	return int64(source.Uint64()>>source.IntN(64)) - source.Int64N(3)
}

// 9.1
func TestOf(t *testing.T) {
	for _, c := range []struct {
		t, w, i int64
		err     api.Errno
	}{
		{0, 1, 0, api.OK},
		{59, 60, 0, api.OK},
		{60, 60, 1, api.OK},
		{119, 60, 1, api.OK},
		{120, 60, 2, api.OK},
		{lately, 1, lately, api.OK},
		{lately, api.MaxWidth, 31, api.OK},
		{0, api.MaxWidth, 0, api.OK},
		{-1, 60, 0, api.ErrRange},
		{api.MaxTime, 60, 0, api.ErrRange},
		{math.MinInt64, 60, 0, api.ErrRange},
		{math.MaxInt64, 60, 0, api.ErrRange},
		{60, 0, 0, api.ErrRange},
		{60, -1, 0, api.ErrRange},
		{60, api.MaxWidth + 1, 0, api.ErrRange},
		{math.MinInt64, -1, 0, api.ErrRange},
	} {
		if i, err := window.Of(c.t, c.w); i != c.i || err != c.err {
			t.Errorf("Of(%d, %d) is %d, %d, not %d, %d", c.t, c.w, i, err, c.i, c.err)
		}
	}
}

// 9.1
func TestBegin(t *testing.T) {
	for _, c := range []struct {
		i, w, t int64
		err     api.Errno
	}{
		{0, 60, 0, api.OK},
		{1, 60, 60, api.OK},
		{2, 60, 120, api.OK},
		{lately, 1, lately, api.OK},
		{api.MaxTime, 1, api.MaxTime, api.OK},
		{api.MaxTime + 1, 1, 0, api.ErrRange},
		{32, api.MaxWidth, api.MaxTime, api.OK},
		{33, api.MaxWidth, 0, api.ErrRange},
		{api.MaxTime / 3, 3, api.MaxTime - 2, api.OK},
		{api.MaxTime/3 + 1, 3, 0, api.ErrRange},
		{-1, 60, 0, api.ErrRange},
		{math.MinInt64, 2, 0, api.ErrRange},
		{math.MaxInt64, 2, 0, api.ErrRange},
		{1 << 62, 4, 0, api.ErrRange},
		{1 << 24, 1 << 40, 0, api.ErrRange},
		{1, 0, 0, api.ErrRange},
		{0, 0, 0, api.ErrRange},
		{1, -1, 0, api.ErrRange},
		{0, api.MaxWidth + 1, 0, api.ErrRange},
	} {
		if begin, err := window.Begin(c.i, c.w); begin != c.t || err != c.err {
			t.Errorf("Begin(%d, %d) is %d, %d, not %d, %d", c.i, c.w, begin, err, c.t, c.err)
		}
	}
}

// 9.1
func TestOldest(t *testing.T) {
	for _, c := range []struct {
		now, w int64
		n      int
		i      int64
		err    api.Errno
	}{
		{0, 60, 1, 0, api.OK},
		{0, 60, api.MaxSlots, 0, api.OK},
		{599, 60, 1, 9, api.OK},
		{600, 60, 1, 10, api.OK},
		{600, 60, 2, 9, api.OK},
		{600, 60, 10, 1, api.OK},
		{600, 60, 11, 0, api.OK},
		{600, 60, 12, 0, api.OK},
		{lately, 1, api.MaxSlots, api.MaxTime - api.MaxSlots, api.OK},
		{lately, api.MaxWidth, 3, 29, api.OK},
		{600, 60, 0, 0, api.ErrRange},
		{600, 60, -1, 0, api.ErrRange},
		{600, 60, math.MinInt, 0, api.ErrRange},
		{600, 60, api.MaxSlots + 1, 0, api.ErrRange},
		{600, 60, math.MaxInt, 0, api.ErrRange},
		{-1, 60, 1, 0, api.ErrRange},
		{api.MaxTime, 60, 1, 0, api.ErrRange},
		{600, 0, 1, 0, api.ErrRange},
		{600, -60, 1, 0, api.ErrRange},
		{600, api.MaxWidth + 1, 1, 0, api.ErrRange},
	} {
		if i, err := window.Oldest(c.now, c.w, c.n); i != c.i || err != c.err {
			t.Errorf("Oldest(%d, %d, %d) is %d, %d, not %d, %d", c.now, c.w, c.n, i, err, c.i, c.err)
		}
	}
}

// 9.2
func TestSpan(t *testing.T) {
	for _, c := range []struct {
		a, b, w     int64
		first, past int64
		err         api.Errno
	}{
		{0, 60, 60, 0, 1, api.OK},
		{60, 240, 60, 1, 4, api.OK},
		{0, api.MaxTime, 1, 0, api.MaxTime, api.OK},
		{0, api.MaxTime, api.MaxWidth, 0, 32, api.OK},
		{lately, api.MaxTime, 1, lately, api.MaxTime, api.OK},
		{61, 120, 60, 0, 0, api.ErrUnaligned},
		{60, 119, 60, 0, 0, api.ErrUnaligned},
		{61, 119, 60, 0, 0, api.ErrUnaligned},
		{61, 121, 60, 0, 0, api.ErrUnaligned},
		{0, api.MaxTime, 60, 0, 0, api.ErrUnaligned},
		{0, 59, 60, 0, 0, api.ErrUnaligned},
		{1, 2, api.MaxWidth, 0, 0, api.ErrUnaligned},
		{60, 60, 60, 0, 0, api.ErrRange},
		{0, 0, 60, 0, 0, api.ErrRange},
		{61, 61, 60, 0, 0, api.ErrRange},
		{120, 60, 60, 0, 0, api.ErrRange},
		{-60, 60, 60, 0, 0, api.ErrRange},
		{-1, 60, 60, 0, 0, api.ErrRange},
		{-120, -60, 60, 0, 0, api.ErrRange},
		{0, -60, 60, 0, 0, api.ErrRange},
		{math.MaxInt64, math.MinInt64, 1, 0, 0, api.ErrRange},
		{0, math.MinInt64, 1, 0, 0, api.ErrRange},
		{0, api.MaxTime + 1, 1, 0, 0, api.ErrRange},
		{0, 2 * api.MaxWidth, 2 * api.MaxWidth, 0, 0, api.ErrRange},
		{0, api.MaxTime + 60, 60, 0, 0, api.ErrRange},
		{api.MaxTime, api.MaxTime, 1, 0, 0, api.ErrRange},
		{0, 60, 0, 0, 0, api.ErrRange},
		{0, 60, -60, 0, 0, api.ErrRange},
		{1, 60, -60, 0, 0, api.ErrRange},
	} {
		if first, past, err := window.Span(c.a, c.b, c.w); first != c.first || past != c.past || err != c.err {
			t.Errorf("Span(%d, %d, %d) is %d, %d, %d, not %d, %d, %d", c.a, c.b, c.w, first, past, err, c.first, c.past, c.err)
		}
	}
}

// 9.2
func TestSlot(t *testing.T) {
	for _, c := range []struct {
		i     int64
		n     int
		place int
	}{
		{0, 1, 0}, {7, 1, 0}, {0, 5, 0}, {4, 5, 4}, {5, 5, 0}, {13, 5, 3}, {3, 5, 3},
		{lately, api.MaxSlots, api.MaxSlots - 1}, {api.MaxTime, api.MaxSlots, 0},
		{math.MaxInt64, 10, 7}, {9, api.MaxSlots + 1, 9}, {9, math.MaxInt, 9}, {math.MaxInt64, math.MaxInt, 0},
		{-1, 5, 0}, {-7, 5, 0}, {math.MinInt64, 7, 0}, {7, 0, 0}, {7, -5, 0}, {7, math.MinInt, 0}, {-7, -5, 0}, {math.MinInt64, -1, 0},
	} {
		if place := window.Slot(c.i, c.n); place != c.place {
			t.Errorf("Slot(%d, %d) is %d, not %d", c.i, c.n, place, c.place)
		}
	}
}

// 9.2
func TestGone(t *testing.T) {
	for _, c := range []struct {
		t, now, w int64
		n         int
		is        bool
	}{
		{0, 0, 60, 1, false},
		{0, 59, 60, 1, false},
		{0, 60, 60, 1, true},
		{59, 60, 60, 1, true},
		{60, 60, 60, 1, false},
		{59, 119, 60, 2, false},
		{59, 120, 60, 2, true},
		{60, 120, 60, 2, false},
		{600, 60, 60, 1, false},
		{lately, 0, 1, 1, false},
		{0, lately, api.MaxWidth, 31, true},
		{0, lately, api.MaxWidth, 32, false},
		{0, lately, 1, api.MaxSlots, true},
		{api.MaxTime - api.MaxSlots, lately, 1, api.MaxSlots, false},
		{api.MaxTime - api.MaxSlots - 1, lately, 1, api.MaxSlots, true},
		{-1, 600, 60, 1, false},
		{math.MinInt64, 600, 60, 1, false},
		{api.MaxTime, 600, 60, 1, false},
		{0, -1, 60, 1, false},
		{0, api.MaxTime, 60, 1, false},
		{0, 600, 0, 1, false},
		{0, 600, -60, 1, false},
		{0, lately, api.MaxWidth + 1, 1, false},
		{0, 600, 60, 0, false},
		{0, 600, 60, -1, false},
		{0, lately, 60, api.MaxSlots + 1, false},
	} {
		if is := window.Gone(c.t, c.now, c.w, c.n); is != c.is {
			t.Errorf("Gone(%d, %d, %d, %d) is %t, not %t", c.t, c.now, c.w, c.n, is, c.is)
		}
	}
}

// 9.1, 9.2: each pair of numbers at the edges is an error just where the words say so.
func TestEdges(t *testing.T) {
	for _, a := range far() {
		for _, b := range far() {
			ofErr, beginErr := api.OK, api.OK
			if !isTime(a) || !isWidth(b) {
				ofErr = api.ErrRange
			}
			if a < 0 || !isWidth(b) || a > api.MaxTime || a*b > api.MaxTime || b > 0 && a > math.MaxInt64/b {
				beginErr = api.ErrRange
			}
			if i, err := window.Of(a, b); err != ofErr || err != api.OK && i != 0 {
				t.Errorf("Of(%d, %d) is %d, %d", a, b, i, err)
			}
			if begin, err := window.Begin(a, b); err != beginErr || err != api.OK && begin != 0 {
				t.Errorf("Begin(%d, %d) is %d, %d", a, b, begin, err)
			}
			if place := window.Slot(a, int(b)); place < 0 || int64(place) >= max(b, 1) {
				t.Errorf("Slot(%d, %d) is %d", a, b, place)
			}
			for _, w := range far() {
				spanErr := api.OK
				if !isWidth(w) || a < 0 || b > api.MaxTime || a >= b {
					spanErr = api.ErrRange
				} else if a%w != 0 || b%w != 0 {
					spanErr = api.ErrUnaligned
				}
				if first, past, err := window.Span(a, b, w); err != spanErr || err != api.OK && (first != 0 || past != 0) {
					t.Errorf("Span(%d, %d, %d) is %d, %d, %d", a, b, w, first, past, err)
				}
				gone, kept := window.Gone(a, b, w, 3), isTime(a) && isTime(b) && isWidth(w) && a/w < b/w-2
				if gone != kept {
					t.Errorf("Gone(%d, %d, %d, 3) is %t", a, b, w, gone)
				}
			}
		}
	}
}

// 9.3: a time lies from where its window begins to where the next one does.
func TestTimesLieInTheirWindows(t *testing.T) {
	source := rand.New(rand.NewPCG(9, 3))
	for range 20000 {
		now, w := somewhere(source), somewhere(source)
		i, err := window.Of(now, w)
		if (err == api.OK) != (isTime(now) && isWidth(w)) {
			t.Fatalf("Of(%d, %d) answers %d", now, w, err)
		}
		if err != api.OK {
			continue
		}
		from, err := window.Begin(i, w)
		if err != api.OK || from > now {
			t.Fatalf("%d's window of %d begins at %d, %d", now, w, from, err)
		}
		to, err := window.Begin(i+1, w)
		// The last window may end behind all times.
		if err == api.OK && (to <= now || to != from+w) || err != api.OK && from+w <= api.MaxTime {
			t.Fatalf("the window behind %d's of %d begins at %d, %d", now, w, to, err)
		}
		if err == api.OK {
			first, past, err := window.Span(from, to, w)
			if first != i || past != i+1 || err != api.OK {
				t.Fatalf("Span(%d, %d, %d) is %d, %d, %d", from, to, w, first, past, err)
			}
		}
	}
}

// 9.3: of windows that are not gone no two have one slot.
func TestKeptWindowsHaveSlotsOfTheirOwn(t *testing.T) {
	source := rand.New(rand.NewPCG(9, 4))
	for range 300 {
		now, w, n := source.Int64N(api.MaxTime), 1+source.Int64N(api.MaxWidth)>>source.IntN(40), 1+source.IntN(api.MaxSlots)>>source.IntN(12)
		now >>= source.IntN(45)
		oldest, err := window.Oldest(now, w, n)
		if err != api.OK {
			t.Fatalf("Oldest(%d, %d, %d) answers %d", now, w, n, err)
		}
		if oldest > 0 && !window.Gone(oldest*w-1, now, w, n) {
			t.Fatalf("at %d the window ahead of %d, of %d, is not gone, with %d kept", now, oldest, w, n)
		}
		seen := map[int]int64{}
		for i := oldest; i <= now/w; i++ {
			if window.Gone(i*w, now, w, n) || window.Gone(min(i*w+w-1, lately), now, w, n) {
				t.Fatalf("at %d the window %d of %d is gone, with %d kept", now, i, w, n)
			}
			place := window.Slot(i, n)
			if other, is := seen[place]; is || place < 0 || place >= n {
				t.Fatalf("of %d slots the windows %d and %d have %d", n, i, other, place)
			}
			seen[place] = i
		}
	}
}
