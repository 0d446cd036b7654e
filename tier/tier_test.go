package tier_test

import (
	"math"
	"math/rand/v2"
	"slices"
	"testing"

	"plimsoll/api"
	"plimsoll/cell"
	"plimsoll/tier"
)

const lately = api.MaxTime - 1

type slots = []api.Slot

func at(t int64, v uint64) api.Event {
	return api.Event{T: t, V: v}
}

// of is the cell of events that follow.
func of(t *testing.T, l ...api.Event) api.Cell {
	t.Helper()
	c, err := cell.Of(l...)
	if err != api.OK {
		t.Fatalf("the cell of %v is told with %d", l, err)
	}
	return c
}

// one is the cell of a single event.
func one(t int64) api.Cell {
	return api.Cell{Count: 1, First: at(t, 7), Last: at(t, 7)}
}

// from is the cell of two events.
func from(a, b int64) api.Cell {
	return api.Cell{Count: 2, First: at(a, 7), Last: at(b, 9), Inc: api.Wide{Lo: 2}, Seen: b - a}
}

func slot(i int64, c api.Cell) api.Slot {
	return api.Slot{Window: i, Cell: c}
}

// tens are as many slots as n tells, of the width 10, with these windows, the last one in its place.
func tens(n int, windows ...int64) slots {
	l := make(slots, n)
	for _, i := range windows {
		l[i%int64(n)] = slot(i, from(10*i+1, 10*i+8))
	}
	return l
}

// wrongCells are cells that are not right, each for one cause, though each tells of events of the window 0, of the width 10.
func wrongCells() []api.Cell {
	l := []api.Cell{
		{Count: -1}, {Seen: 1}, {Inc: api.Wide{Lo: 1}}, {First: at(1, 0)}, {First: at(1, 0), Last: at(2, 0)},
		{Count: 1, First: at(1, 0), Last: at(2, 0)}, {Count: 2, First: at(2, 0), Last: at(2, 0)}, {Count: 2, First: at(3, 0), Last: at(2, 0)}, {Count: 3, First: at(1, 0), Last: at(2, 0)},
	}
	for _, change := range []func(c *api.Cell){
		func(c *api.Cell) { c.Resets = 2 },
		func(c *api.Cell) { c.Gaps = -1 },
		func(c *api.Cell) { c.Seen = 8 },
		func(c *api.Cell) { c.Inc.Hi = 1 },
		func(c *api.Cell) { c.First.C = c.First.T + 1 },
		func(c *api.Cell) { c.Last.Stale = true },
	} {
		c := from(1, 8)
		change(&c)
		l = append(l, c)
	}
	return l
}

func farNumbers() []int {
	return []int{math.MinInt, math.MinInt + 1, -api.MaxSlots, -1, 0, api.MaxSlots + 1, 2 * api.MaxSlots, math.MaxInt}
}

func farWidths() []int64 {
	return []int64{math.MinInt64, -api.MaxWidth, -10, -1, 0, api.MaxWidth + 1, math.MaxInt64}
}

// tiers are slots of which somebody says for which width they are.
type tiers struct {
	l slots
	w int64
}

// right are tiers that are right: the edges.
func right() []tiers {
	return []tiers{
		{make(slots, 1), 1},
		{make(slots, 1), api.MaxWidth},
		{make(slots, api.MaxSlots), 10},
		{slots{slot(0, one(0))}, 1},
		{slots{slot(0, one(0)), {}}, 10},
		{slots{slot(0, from(0, 9))}, 10},
		{slots{slot(7, from(70, 79))}, 10},
		{slots{slot(lately, one(lately))}, 1},
		{slots{slot(lately/10, one(lately))}, 10},
		{slots{slot(31, from(31*api.MaxWidth, lately)), {}, {}}[:1], api.MaxWidth},
		{slots{slot(0, one(0)), slot(1, one(1)), slot(2, one(2))}, 1},
		{tens(3, 4, 5, 6), 10},
		{tens(3, 4, 6), 10},
		{tens(3, 5), 10},
		{tens(3, 0, 100, 2000), 10},
		{tens(4, 1000, 1, 2, 3), 10},
		{tens(api.MaxSlots, 0, 4095, 4097, 4098), 10},
		{slots{{}, slot(1, api.Cell{Count: 2, First: api.Event{T: 10, V: math.MaxUint64, C: 10}, Last: api.Event{T: 19, Stale: true}})}, 10},
	}
}

// wrong are tiers that are not right, each for one cause.
func wrong() []tiers {
	l := []tiers{
		{nil, 10},
		{slots{}, 10},
		{make(slots, api.MaxSlots+1), 10},
		{slots{{Window: 5}}, 10},
		{slots{{}, {Window: 1}}, 10},
		{slots{{Window: -1}}, 10},
		{slots{slot(-1, one(0))}, 10},
		{slots{slot(-1, one(5))}, 10},
		{slots{slot(math.MinInt64, one(5))}, 10},
		{slots{slot(math.MaxInt64, one(5))}, 10},
		{slots{slot(0, one(10))}, 10},
		{slots{slot(1, one(9))}, 10},
		{slots{slot(1, one(20))}, 10},
		{slots{slot(1, from(9, 10))}, 10},
		{slots{slot(1, from(19, 20))}, 10},
		{slots{slot(1, from(9, 20))}, 10},
		{slots{slot(0, from(0, 9))}, 9},
		{slots{slot(0, one(0)), slot(0, one(1))}, 10},
		{slots{{}, slot(0, one(1))}, 10},
		{slots{slot(1, one(11)), {}}, 10},
		{slots{slot(4, one(41)), slot(5, one(51)), slot(6, one(61))}, 10},
		{append(tens(3, 3, 4), slot(3, one(31))), 10},
		{append(tens(3, 3, 4), slot(4, one(41))), 10},
	}
	for _, c := range wrongCells() {
		l = append(l, tiers{slots{slot(0, c)}, 10}, tiers{slots{slot(3, from(30, 31)), {}, slot(0, c)}, 10})
	}
	for _, w := range farWidths() {
		l = append(l, tiers{make(slots, 3), w}, tiers{tens(3, 0), w})
	}
	return l
}

// 13.1
func TestNew(t *testing.T) {
	for _, n := range []int{1, 2, 3, 4095, api.MaxSlots} {
		l := tier.New(n)
		if len(l) != n {
			t.Fatalf("New(%d) has %d slots", n, len(l))
		}
		for place, s := range l {
			if s != (api.Slot{}) {
				t.Fatalf("the slot %d of New(%d) is %v", place, n, s)
			}
		}
	}
	for _, n := range farNumbers() {
		if l := tier.New(n); len(l) != 0 {
			t.Errorf("New(%d) has %d slots", n, len(l))
		}
	}
	one, other := tier.New(2), tier.New(2)
	one[0].Window = 5
	if other[0].Window != 0 || tier.New(2)[0].Window != 0 {
		t.Error("two new tiers share their slots")
	}
}

// 13.1
func TestFits(t *testing.T) {
	for _, c := range []struct {
		c    api.Cell
		w, i int64
		fits bool
	}{
		{one(0), 10, 0, true},
		{one(9), 10, 0, true},
		{one(10), 10, 0, false},
		{one(10), 10, 1, true},
		{one(9), 10, 1, false},
		{one(0), 10, -1, false},
		{one(9), 10, -1, false},
		{one(10), 10, math.MinInt64, false},
		{one(10), 10, math.MaxInt64, false},
		{from(10, 19), 10, 1, true},
		{from(10, 20), 10, 1, false},
		{from(9, 19), 10, 1, false},
		{from(9, 20), 10, 1, false},
		{from(10, 20), 10, 2, false},
		{from(9, 19), 10, 0, false},
		{from(10, 19), 20, 0, true},
		{from(10, 19), 5, 2, false},
		{from(10, 19), 5, 3, false},
		{one(7), 1, 7, true},
		{one(7), 1, 6, false},
		{one(7), 1, 8, false},
		{from(7, 8), 1, 7, false},
		{from(0, api.MaxWidth-1), api.MaxWidth, 0, true},
		{from(0, api.MaxWidth), api.MaxWidth, 0, false},
		{from(31*api.MaxWidth, lately), api.MaxWidth, 31, true},
		{one(lately), 1, lately, true},
		{one(lately), 1, lately + 1, false},
		{one(api.MaxTime), 1, api.MaxTime, false},
		{api.Cell{Count: 1, First: api.Event{T: 15, Stale: true}, Last: api.Event{T: 15, Stale: true}}, 10, 1, true},
		{api.Cell{Count: 1}, 10, 0, true},
		{api.Cell{}, 10, 0, false},
		{api.Cell{}, 10, 1, false},
	} {
		if tier.Fits(c.c, c.w, c.i) != c.fits {
			t.Errorf("Fits(%v, %d, %d) is %v", c.c, c.w, c.i, !c.fits)
		}
	}
	for _, w := range farWidths() {
		for _, i := range []int64{-1, 0, 1} {
			if tier.Fits(one(0), w, i) {
				t.Errorf("a cell fits the window %d of the width %d", i, w)
			}
		}
	}
	for _, c := range wrongCells() {
		if tier.Fits(c, 10, 0) {
			t.Errorf("%v fits, though it is not right", c)
		}
	}
}

// 13.1
func TestCheck(t *testing.T) {
	for _, x := range right() {
		if err := tier.Check(x.l, x.w); err != api.OK {
			t.Errorf("Check(%v, %d) is %d", x.l, x.w, err)
		}
	}
	for _, x := range wrong() {
		if err := tier.Check(x.l, x.w); err != api.ErrForm {
			t.Errorf("Check(%v, %d) is %d", x.l, x.w, err)
		}
	}
}

// 13.1
func TestGet(t *testing.T) {
	l := tens(3, 4, 6)
	for i := int64(-9); i < 20; i++ {
		var want api.Cell
		if i == 4 || i == 6 {
			want = from(10*i+1, 10*i+8)
		}
		if c := tier.Get(l, i); c != want {
			t.Errorf("Get(%d) of %v is %v", i, l, c)
		}
	}
	for _, i := range []int64{math.MinInt64, math.MinInt64 + 1, -api.MaxTime, math.MaxInt64 - 1, math.MaxInt64} {
		if c := tier.Get(l, i); c != (api.Cell{}) {
			t.Errorf("Get(%d) of %v is %v", i, l, c)
		}
	}
	if c := tier.Get(tens(1, 0), 0); c != from(1, 8) {
		t.Errorf("the window 0 is %v", c)
	}
	if c := tier.Get(tens(api.MaxSlots, 4095+4096), 4095+4096); c != from(81911, 81918) {
		t.Errorf("the last slot's window is %v", c)
	}
	for _, l := range []slots{nil, {}, make(slots, 3), {{Window: 3}, {Window: 4}}} {
		for i := int64(-4); i < 8; i++ {
			if c := tier.Get(l, i); c != (api.Cell{}) {
				t.Errorf("Get(%d) of %v is %v", i, l, c)
			}
		}
	}
}

// 13.1: of tiers that are not right just the slot at the window's place is asked.
func TestGetOfWrong(t *testing.T) {
	l := slots{slot(-3, one(1)), slot(0, one(2)), slot(5, one(3)), slot(-1, one(4)), slot(4, one(5))}
	for i := int64(-9); i < 30; i++ {
		var want api.Cell
		if i == 4 {
			want = one(5)
		}
		if c := tier.Get(l, i); c != want {
			t.Errorf("Get(%d) of %v is %v", i, l, c)
		}
	}
}

// puts ends a test, if Put does not answer so, or changes what is handed in, or answers what shares with it.
func puts(t *testing.T, l slots, w, i int64, c api.Cell, want slots, err api.Errno) slots {
	t.Helper()
	before := slices.Clone(l)
	got, told := tier.Put(l, w, i, c)
	if !slices.Equal(got, want) || told != err {
		t.Fatalf("Put(%v, %d, %d, %v) is %v, %d, not %v, %d", l, w, i, c, got, told, want, err)
	}
	if !slices.Equal(l, before) {
		t.Fatalf("what was handed in is %v, and was %v", l, before)
	}
	spoiled := slices.Clone(got)
	for place := range spoiled {
		got[place].Window = -7
	}
	if !slices.Equal(l, before) {
		t.Fatal("the answer shares its slots with what was handed in")
	}
	return spoiled
}

// 13.2, 13.3
func TestPut(t *testing.T) {
	l := puts(t, make(slots, 3), 10, 4, one(45), slots{{}, slot(4, one(45)), {}}, api.OK)
	l = puts(t, l, 10, 5, from(50, 59), slots{{}, slot(4, one(45)), slot(5, from(50, 59))}, api.OK)
	l = puts(t, l, 10, 6, one(60), slots{slot(6, one(60)), slot(4, one(45)), slot(5, from(50, 59))}, api.OK)
	l = puts(t, l, 10, 7, one(79), slots{slot(6, one(60)), slot(7, one(79)), slot(5, from(50, 59))}, api.OK)
	l = puts(t, l, 10, 7, one(78), slots{slot(6, one(60)), slot(7, one(78)), slot(5, from(50, 59))}, api.OK)
	l = puts(t, l, 10, 2, one(20), slots{slot(6, one(60)), slot(7, one(78)), slot(2, one(20))}, api.OK)
	puts(t, l, 10, 300, one(3000), slots{slot(300, one(3000)), slot(7, one(78)), slot(2, one(20))}, api.OK)
	puts(t, l, 10, 0, one(0), slots{slot(0, one(0)), slot(7, one(78)), slot(2, one(20))}, api.OK)
	puts(t, make(slots, 1), 1, lately, one(lately), slots{slot(lately, one(lately))}, api.OK)
	puts(t, make(slots, 1), api.MaxWidth, 31, one(lately), slots{slot(31, one(lately))}, api.OK)
}

// 13.2
func TestPutWrong(t *testing.T) {
	for _, x := range wrong() {
		puts(t, x.l, x.w, 0, one(0), nil, api.ErrForm)
	}
	for _, l := range []slots{make(slots, 3), tens(3, 1, 2, 3)} {
		for _, c := range append(wrongCells(), api.Cell{}, from(9, 10), one(10), one(-1), one(api.MaxTime)) {
			puts(t, l, 10, 0, c, nil, api.ErrForm)
		}
		for _, i := range []int64{math.MinInt64, -3, -1, 1, 3, math.MaxInt64} {
			puts(t, l, 10, i, one(5), nil, api.ErrForm)
		}
		for _, w := range append(farWidths(), 5) {
			puts(t, l, w, 0, one(5), nil, api.ErrForm)
		}
	}
}

// folds ends a test, if Fold does not answer so.
func folds(t *testing.T, l slots, i, k int64, want api.Cell, err api.Errno) {
	t.Helper()
	before := slices.Clone(l)
	c, told := tier.Fold(l, i, k)
	if c != want || told != err {
		t.Fatalf("Fold(%v, %d, %d) is %v, %d, not %v, %d", l, i, k, c, told, want, err)
	}
	if !slices.Equal(l, before) {
		t.Fatalf("what was handed in is %v, and was %v", l, before)
	}
}

// 13.2
func TestFold(t *testing.T) {
	four, five, six := of(t, at(41, 5), at(43, 9)), of(t, at(50, 2), at(59, 3)), of(t, at(65, 10))
	l := slots{slot(6, six), slot(4, four), slot(5, five)}
	all := of(t, at(41, 5), at(43, 9), at(50, 2), at(59, 3), at(65, 10))
	front := of(t, at(41, 5), at(43, 9), at(50, 2), at(59, 3))
	back := of(t, at(50, 2), at(59, 3), at(65, 10))
	folds(t, l, 4, 7, all, api.OK)
	folds(t, l, 0, 100, all, api.OK)
	folds(t, l, 0, math.MaxInt64, all, api.OK)
	folds(t, l, 4, 6, front, api.OK)
	folds(t, l, 0, 6, front, api.OK)
	folds(t, l, 5, 7, back, api.OK)
	folds(t, l, 5, math.MaxInt64, back, api.OK)
	folds(t, l, 4, 5, four, api.OK)
	folds(t, l, 5, 6, five, api.OK)
	folds(t, l, 6, 7, six, api.OK)
	for _, r := range [][2]int64{{0, 0}, {0, 4}, {4, 4}, {5, 5}, {6, 6}, {7, 7}, {7, 100}, {math.MaxInt64, math.MaxInt64}} {
		folds(t, l, r[0], r[1], api.Cell{}, api.OK)
	}
	for _, r := range [][2]int64{{-1, 7}, {-1, -1}, {math.MinInt64, math.MaxInt64}, {math.MinInt64, math.MinInt64}, {5, 4}, {1, 0}, {0, -1}, {6, math.MinInt64}, {math.MaxInt64, 0}} {
		folds(t, l, r[0], r[1], api.Cell{}, api.ErrRange)
		folds(t, nil, r[0], r[1], api.Cell{}, api.ErrRange)
	}
	folds(t, slots{slot(6, six), {}, slot(8, one(80))}, 6, 9, of(t, at(65, 10), at(80, 7)), api.OK)
	for _, l := range []slots{nil, {}, make(slots, 3)} {
		folds(t, l, 0, math.MaxInt64, api.Cell{}, api.OK)
	}
	folds(t, slots{slot(0, one(5)), {}}, 0, 1, one(5), api.OK)
	folds(t, slots{slot(0, one(5)), {}}, 1, 2, api.Cell{}, api.OK)
}

// 13.2: what the cells of tiers that are not right do not merge to, just where they are asked.
func TestFoldWrong(t *testing.T) {
	for _, c := range wrongCells() {
		l := slots{slot(3, one(30)), slot(0, c), slot(5, one(50))}
		folds(t, l, 0, 4, api.Cell{}, api.ErrForm)
		folds(t, l, 0, 1, api.Cell{}, api.ErrForm)
		folds(t, l, 1, 4, one(30), api.OK)
	}
	folds(t, slots{slot(3, one(30)), slot(4, one(30))}, 0, 9, api.Cell{}, api.ErrTime)
	folds(t, slots{slot(4, one(30)), slot(3, one(31))}, 0, 9, api.Cell{}, api.ErrTime)
	folds(t, slots{slot(4, one(30)), slot(3, one(31))}, 4, 9, one(30), api.OK)
	folds(t, slots{slot(2, one(30)), slot(3, from(30, 35)), slot(4, wrongCells()[0])}, 0, 9, api.Cell{}, api.ErrTime)
	folds(t, slots{slot(2, one(30)), slot(3, wrongCells()[0]), slot(4, one(30))}, 0, 9, api.Cell{}, api.ErrForm)
}

// 13.2: slots of tiers that are not right are windows too, wherever they stand.
func TestFoldMisplaced(t *testing.T) {
	l := slots{slot(4, one(41)), {Window: 6}, slot(3, one(31)), slot(4, one(45)), slot(-2, one(5))}
	folds(t, l, 3, 5, of(t, at(31, 7), at(41, 7), at(45, 7)), api.OK)
	folds(t, l, 0, 4, one(31), api.OK)
	folds(t, l, 5, 9, api.Cell{}, api.OK)
}

// tells ends a test, if All does not answer so, or changes what is handed in, or answers what shares with it.
func tells(t *testing.T, l slots, want ...api.Slot) {
	t.Helper()
	before := slices.Clone(l)
	all := tier.All(l)
	if !slices.Equal(all, want) {
		t.Fatalf("All(%v) is %v, not %v", before, all, want)
	}
	for place := range all {
		all[place].Window = -7
	}
	_ = append(all, slot(-8, one(1)))
	if !slices.Equal(l, before) {
		t.Fatalf("what was handed in is %v, and was %v", l, before)
	}
}

// 13.2, 13.3
func TestAll(t *testing.T) {
	tells(t, nil)
	tells(t, slots{})
	tells(t, make(slots, 3))
	tells(t, tens(1, 0), tens(1, 0)...)
	tells(t, tens(3, 4, 5, 6), slot(4, from(41, 48)), slot(5, from(51, 58)), slot(6, from(61, 68)))
	tells(t, tens(3, 7, 5), slot(5, from(51, 58)), slot(7, from(71, 78)))
	tells(t, tens(api.MaxSlots, 4096, 1, 9000, 4095), slot(1, from(11, 18)), slot(4095, from(40951, 40958)), slot(4096, from(40961, 40968)), slot(9000, from(90001, 90008)))
	tells(t, slots{slot(0, one(5)), {}}, slot(0, one(5)))
}

// 13.2: of tiers that are not right, too; those of one window in the order of their places.
func TestAllOfWrong(t *testing.T) {
	tells(t, slots{{Window: 3}, {}, {Window: -1}}, api.Slot{Window: -1}, api.Slot{Window: 3})
	tells(t, slots{slot(math.MaxInt64, one(1)), {}, slot(math.MinInt64, one(2)), slot(0, one(3))}, slot(math.MinInt64, one(2)), slot(0, one(3)), slot(math.MaxInt64, one(1)))
	var l, want slots
	for n := range int64(300) {
		l = append(l, slot(n%3, one(1000-n)))
	}
	for i := range int64(3) {
		for n := range int64(100) {
			want = append(want, slot(i, one(1000-3*n-i)))
		}
	}
	tells(t, l, want...)
}

// 13.4
func TestLastOnes(t *testing.T) {
	source := rand.New(rand.NewPCG(13, 4))
	for range 200 {
		n := 1 + source.IntN(8)
		l := tier.New(n)
		put := map[int64]api.Cell{}
		i := source.Int64N(4)
		for range 60 {
			c := one(10*i + source.Int64N(10))
			next, err := tier.Put(l, 10, i, c)
			if err != api.OK || tier.Check(next, 10) != api.OK {
				t.Fatalf("Put(%v, 10, %d, %v) is %v, %d", l, i, c, next, err)
			}
			l, put[i] = next, c
			for last := max(0, i-int64(n)+1); last <= i; last++ {
				if tier.Get(l, last) != put[last] {
					t.Fatalf("at %d the window %d of %v is %v, not %v", i, last, l, tier.Get(l, last), put[last])
				}
			}
			if c := tier.Get(l, i-int64(n)); c != (api.Cell{}) {
				t.Fatalf("at %d the window %d of %v is %v", i, i-int64(n), l, c)
			}
			i += source.Int64N(3)
			if source.IntN(10) == 0 {
				i += source.Int64N(20)
			}
		}
	}
}

// 13.1, 13.2: whatever is put, a tier has what a list of its places has.
func TestAsPlaces(t *testing.T) {
	source := rand.New(rand.NewPCG(13, 2))
	for range 300 {
		n := 1 + source.Int64N(7)
		l := tier.New(int(n))
		places := map[int64]int64{}
		for range 30 {
			i := source.Int64N(25)
			next, err := tier.Put(l, 10, i, one(10*i))
			if err != api.OK {
				t.Fatalf("Put is %d", err)
			}
			l = next
			places[i%n] = i
			var want slots
			for x := range int64(25) {
				there, ok := places[x%n]
				is := ok && there == x
				if is {
					want = append(want, slot(x, one(10*x)))
				}
				if (tier.Get(l, x) == one(10*x)) != is || !is && tier.Get(l, x) != (api.Cell{}) {
					t.Fatalf("the window %d of %v is %v", x, l, tier.Get(l, x))
				}
			}
			if all := tier.All(l); !slices.Equal(all, want) {
				t.Fatalf("All(%v) is %v, not %v", l, all, want)
			}
			a, b := source.Int64N(25), source.Int64N(26)
			var whole []api.Event
			for _, s := range want {
				if a <= s.Window && s.Window < b {
					whole = append(whole, s.Cell.First)
				}
			}
			c, err := tier.Fold(l, a, b)
			if b < a {
				if err != api.ErrRange {
					t.Fatalf("Fold(%d, %d) is %d", a, b, err)
				}
				continue
			}
			if c != of(t, whole...) || err != api.OK {
				t.Fatalf("Fold(%v, %d, %d) is %v, %d", l, a, b, c, err)
			}
		}
	}
}
