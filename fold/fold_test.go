package fold_test

import (
	"math"
	"math/rand/v2"
	"slices"
	"testing"

	"plimsoll/api"
	"plimsoll/cell"
	"plimsoll/conf"
	"plimsoll/fold"
	"plimsoll/tier"
)

const lately = api.MaxTime - 1

type slots = []api.Slot
type stack = [3][]api.Slot
type widths = [3]int64
type counts = [3]int

func at(t int64, v uint64) api.Event {
	return api.Event{T: t, V: v}
}

// of is the cell of events that follow.
func of(t *testing.T, l ...api.Event) api.Cell {
	t.Helper()
	c, err := cell.Of(l...)
	if err != api.OK {
		t.Fatalf("the cell of %v is told with %d", l, err)
	}
	return c
}

// one is the cell of a single event.
func one(t int64) api.Cell {
	return api.Cell{Count: 1, First: at(t, 7), Last: at(t, 7)}
}

func slot(i int64, c api.Cell) api.Slot {
	return api.Slot{Window: i, Cell: c}
}

// of these widths, and so many windows, is a configuration.
func config(w widths, n counts) api.Config {
	return api.Config{Raw: 20, W: w, N: n, Cap: 3, Log: api.MaxLog}
}

// usual has windows of 10, 20 and 60 milliseconds.
func usual() api.Config {
	return config(widths{10, 20, 60}, counts{4, 5, 6})
}

// configs are right: the edges.
func configs() []api.Config {
	return []api.Config{
		usual(),
		config(widths{1, 1, 1}, counts{1, 1, 1}),
		config(widths{7, 7, 7}, counts{1, 2, 3}),
		config(widths{5, 5, 15}, counts{1, 3, 1}),
		config(widths{3, 12, 12}, counts{4, 1, 2}),
		config(widths{1, 2, 4}, counts{2, 2, 1}),
		config(widths{1, 4096, 1 << 24}, counts{4096, 4096, 4096}),
		config(widths{api.MaxWidth >> 2, api.MaxWidth >> 1, api.MaxWidth}, counts{2, 2, 40}),
	}
}

// wrongConfigs are not right, each for one cause.
func wrongConfigs() []api.Config {
	l := []api.Config{
		{},
		config(widths{10, 25, 100}, counts{4, 5, 6}),
		config(widths{10, 20, 50}, counts{4, 5, 6}),
		config(widths{0, 0, 0}, counts{4, 5, 6}),
		config(widths{10, 20, 60}, counts{1, 5, 6}),
		config(widths{10, 20, 60}, counts{4, 2, 6}),
		config(widths{10, 20, 60}, counts{4, 5, 0}),
		config(widths{10, 20, 60}, counts{4, 5, api.MaxSlots + 1}),
		config(widths{10, 20, 60}, counts{4, 5, -1}),
		config(widths{10, 20, 2 * api.MaxWidth}, counts{4, api.MaxSlots, 6}),
	}
	for _, change := range []func(c *api.Config){
		func(c *api.Config) { c.Raw = 0 },
		func(c *api.Config) { c.Cap = 0 },
		func(c *api.Config) { c.Log = 7 },
		func(c *api.Config) { c.Log = api.MaxLog + 1 },
	} {
		c := usual()
		change(&c)
		l = append(l, c)
	}
	return l
}

// with is s with cells put into the tier k, each into the window in which it lies.
func with(t *testing.T, c api.Config, s stack, k int, cells ...api.Cell) stack {
	t.Helper()
	for _, x := range cells {
		l, err := tier.Put(s[k], c.W[k], x.First.T/c.W[k], x)
		if err != api.OK {
			t.Fatalf("%v is not put into the tier %d: %d", x, k, err)
		}
		s[k] = l
	}
	return s
}

// copied is s in memory of its own.
func copied(s stack) stack {
	for k := range s {
		s[k] = slices.Clone(s[k])
	}
	return s
}

func same(a, b stack) bool {
	return slices.Equal(a[0], b[0]) && slices.Equal(a[1], b[1]) && slices.Equal(a[2], b[2])
}

// wrongFor are stacks that are not right for usual, each for one cause.
func wrongFor(t *testing.T) []stack {
	c := usual()
	l := []stack{{}, fold.Empty(config(widths{10, 20, 60}, counts{4, 5, 7}))}
	for k := range 3 {
		less, more, none, windowless, misplaced, strange, wrong := fold.Empty(c), fold.Empty(c), fold.Empty(c), fold.Empty(c), fold.Empty(c), fold.Empty(c), fold.Empty(c)
		less[k] = less[k][1:]
		more[k] = append(more[k], api.Slot{})
		none[k] = nil
		windowless[k][1].Window = 1
		misplaced[k][2] = slot(1, one(c.W[k]))
		strange[k][0] = slot(0, one(c.W[k]))
		wrong[k][0] = slot(0, api.Cell{Count: 2, First: at(5, 0), Last: at(5, 0)})
		l = append(l, less, more, none, windowless, misplaced, strange, wrong)
	}
	l = append(l, with(t, config(widths{20, 20, 60}, c.N), fold.Empty(c), 0, of(t, at(5, 1), at(15, 2))))
	return append(l, with(t, config(widths{10, 60, 60}, c.N), fold.Empty(c), 1, of(t, at(15, 1), at(25, 2))))
}

// 14.1
func TestEmpty(t *testing.T) {
	for _, c := range configs() {
		s := fold.Empty(c)
		for k, l := range s {
			if len(l) != c.N[k] || slices.ContainsFunc(l, func(x api.Slot) bool { return x != api.Slot{} }) {
				t.Errorf("the tier %d of Empty(%v) has %d slots", k, c, len(l))
			}
		}
		other := fold.Empty(c)
		for k := range s {
			s[k][0].Window = int64(5 + k)
		}
		for k := range s {
			if other[k][0].Window != 0 || s[k][0].Window != int64(5+k) {
				t.Errorf("the tiers of Empty(%v) share their slots", c)
			}
		}
	}
	for _, c := range wrongConfigs() {
		if s := fold.Empty(c); len(s[0])+len(s[1])+len(s[2]) != 0 {
			t.Errorf("Empty(%v) is %v", c, s)
		}
	}
}

// 14.1
func TestCheck(t *testing.T) {
	for _, c := range configs() {
		s := fold.Empty(c)
		if err := fold.Check(c, s); err != api.OK {
			t.Errorf("Check(%v) of an empty stack is %d", c, err)
		}
		for k := range s {
			s = with(t, c, s, k, one(0), one(5*c.W[k]), one(c.W[k]*(lately/c.W[k])))
		}
		if err := fold.Check(c, s); err != api.OK {
			t.Errorf("Check(%v, %v) is %d", c, s, err)
		}
	}
	for _, s := range wrongFor(t) {
		if err := fold.Check(usual(), s); err != api.ErrForm {
			t.Errorf("Check of %v is %d", s, err)
		}
	}
	for _, c := range wrongConfigs() {
		for _, s := range []stack{{}, fold.Empty(usual()), fold.Empty(c)} {
			if err := fold.Check(c, s); err != api.ErrForm {
				t.Errorf("Check(%v, %v) is %d", c, s, err)
			}
		}
	}
}

// makes ends a test, if Made does not answer so, or changes what is handed in.
func makes(t *testing.T, c api.Config, s stack, k int, i int64, want api.Cell, err api.Errno) {
	t.Helper()
	before := copied(s)
	got, told := fold.Made(c, s, k, i)
	if got != want || told != err {
		t.Fatalf("Made(%v, %v, %d, %d) is %v, %d, not %v, %d", c, s, k, i, got, told, want, err)
	}
	if !same(s, before) {
		t.Fatalf("what was handed in is %v, and was %v", s, before)
	}
}

// 14.1
func TestMade(t *testing.T) {
	c := usual()
	s := with(t, c, fold.Empty(c), 0, of(t, at(41, 5), at(49, 8)), of(t, at(50, 2)), of(t, at(61, 6), at(62, 1)), of(t, at(79, 9)))
	s = with(t, c, s, 1, of(t, at(60, 1), at(79, 4)), of(t, at(85, 6)), of(t, at(119, 2)), of(t, at(120, 3)), of(t, at(59, 100)))
	makes(t, c, s, 1, 2, of(t, at(41, 5), at(49, 8), at(50, 2)), api.OK)
	makes(t, c, s, 1, 3, of(t, at(61, 6), at(62, 1), at(79, 9)), api.OK)
	makes(t, c, s, 2, 0, of(t, at(59, 100)), api.OK)
	makes(t, c, s, 2, 1, of(t, at(60, 1), at(79, 4), at(85, 6), at(119, 2)), api.OK)
	makes(t, c, s, 2, 2, of(t, at(120, 3)), api.OK)
	for _, i := range []int64{0, 1, 4, 5, 100, lately / 20} {
		makes(t, c, s, 1, i, api.Cell{}, api.OK)
	}
	for _, i := range []int64{3, 4, lately / 60} {
		makes(t, c, s, 2, i, api.Cell{}, api.OK)
	}
	for _, k := range []int{math.MinInt, -1, 0, 3, 4, math.MaxInt} {
		makes(t, c, s, k, 2, api.Cell{}, api.ErrRange)
	}
	for k, w := range c.W {
		for _, i := range []int64{math.MinInt64, -1, lately/w + 1, api.MaxTime, math.MaxInt64/w + 1, math.MaxInt64} {
			makes(t, c, s, k, i, api.Cell{}, api.ErrRange)
		}
	}
}

// 14.1: what is not right is told first, and changes nothing.
func TestMadeWrong(t *testing.T) {
	for _, s := range wrongFor(t) {
		makes(t, usual(), s, 1, 0, api.Cell{}, api.ErrForm)
		makes(t, usual(), s, 9, -1, api.Cell{}, api.ErrForm)
	}
	for _, c := range wrongConfigs() {
		makes(t, c, fold.Empty(usual()), 1, 0, api.Cell{}, api.ErrForm)
		makes(t, c, stack{}, 0, -1, api.Cell{}, api.ErrForm)
	}
}

// 14.1: the last window that there may be begins at a time, though MaxTime itself is none.
func TestMadeLast(t *testing.T) {
	for _, c := range configs() {
		for k := 1; k < 3; k++ {
			last := lately / c.W[k]
			s := with(t, c, fold.Empty(c), k-1, one(lately))
			makes(t, c, s, k, last, one(lately), api.OK)
			makes(t, c, s, k, last+1, api.Cell{}, api.ErrRange)
			makes(t, c, s, k, 0, api.Cell{}, api.OK)
		}
	}
}

// goesUp ends a test, if Up does not answer so, or changes what is handed in.
func goesUp(t *testing.T, c api.Config, s stack, i, j int64, want stack, err api.Errno) {
	t.Helper()
	before := copied(s)
	got, told := fold.Up(c, s, i, j)
	if !same(got, want) || told != err {
		t.Fatalf("Up(%v, %v, %d, %d) is %v, %d, not %v, %d", c, s, i, j, got, told, want, err)
	}
	if !same(s, before) {
		t.Fatalf("what was handed in is %v, and was %v", s, before)
	}
}

// 14.2
func TestUp(t *testing.T) {
	c := usual()
	s := with(t, c, fold.Empty(c), 0, one(5), one(15), of(t, at(21, 5), at(29, 9)), of(t, at(34, 6)))
	for i := range int64(4) {
		goesUp(t, c, s, i, i, s, api.OK)
	}
	goesUp(t, c, s, 0, 1, s, api.OK)
	goesUp(t, c, s, 2, 3, s, api.OK)
	first := with(t, c, s, 1, of(t, at(5, 7), at(15, 7)))
	goesUp(t, c, s, 0, 2, first, api.OK)
	goesUp(t, c, s, 1, 2, first, api.OK)
	goesUp(t, c, s, 1, 5, first, api.OK)
	both := with(t, c, first, 1, of(t, at(21, 5), at(29, 9), at(34, 6)))
	goesUp(t, c, first, 2, 4, both, api.OK)
	goesUp(t, c, first, 3, 5, both, api.OK)
	all := with(t, c, both, 2, of(t, at(5, 7), at(15, 7), at(21, 5), at(29, 9), at(34, 6)))
	goesUp(t, c, first, 2, 6, all, api.OK)
	goesUp(t, c, first, 3, lately/10, all, api.OK)
	goesUp(t, c, both, 4, 5, both, api.OK)
	goesUp(t, c, both, 5, 6, with(t, c, both, 2, all[2][0].Cell), api.OK)
	goesUp(t, c, s, 1, 7, with(t, c, first, 2, of(t, at(5, 7), at(15, 7))), api.OK)
}

// 14.2: a window that is made of nothing is not put: what was at its place stays.
func TestUpOfNothing(t *testing.T) {
	c := usual()
	s := fold.Empty(c)
	goesUp(t, c, s, 0, lately/10, s, api.OK)
	goesUp(t, c, s, lately/10, lately/10, s, api.OK)
	s = with(t, c, s, 1, one(25))
	s = with(t, c, s, 2, one(65), one(125))
	goesUp(t, c, s, 2, 4, s, api.OK)
	goesUp(t, c, s, 7, 20, s, api.OK)
	goesUp(t, c, s, 2, 6, with(t, c, s, 2, one(25)), api.OK)
}

// 14.2: what is made takes the place of what was there, newer or not.
func TestUpOverOthers(t *testing.T) {
	c := usual()
	s := with(t, c, fold.Empty(c), 0, one(35))
	s = with(t, c, s, 1, one(125))
	s = with(t, c, s, 2, one(365))
	want := with(t, c, s, 1, one(35))
	goesUp(t, c, s, 3, 5, want, api.OK)
	goesUp(t, c, s, 3, 9, with(t, c, want, 2, one(35)), api.OK)
}

// 14.2
func TestUpWrong(t *testing.T) {
	c := usual()
	s := with(t, c, fold.Empty(c), 0, one(5))
	for _, r := range [][2]int64{
		{-1, 4}, {-1, -1}, {math.MinInt64, 4}, {math.MinInt64, math.MinInt64}, {4, 3}, {1, 0}, {1, -1}, {0, math.MinInt64},
		{0, lately/10 + 1}, {lately/10 + 1, lately/10 + 1}, {0, api.MaxTime}, {0, math.MaxInt64}, {math.MaxInt64, math.MaxInt64}, {0, math.MaxInt64/10 + 1},
	} {
		goesUp(t, c, s, r[0], r[1], stack{}, api.ErrRange)
		for _, other := range wrongFor(t) {
			goesUp(t, c, other, r[0], r[1], stack{}, api.ErrForm)
		}
	}
	for _, other := range wrongFor(t) {
		goesUp(t, c, other, 0, 4, stack{}, api.ErrForm)
		goesUp(t, c, other, 0, 0, stack{}, api.ErrForm)
	}
	for _, other := range wrongConfigs() {
		goesUp(t, other, s, 0, 4, stack{}, api.ErrForm)
		goesUp(t, other, stack{}, 0, 4, stack{}, api.ErrForm)
	}
}

// 14.2: the last windows that there may be.
func TestUpToLast(t *testing.T) {
	for _, c := range configs() {
		last := lately / c.W[0]
		s := with(t, c, fold.Empty(c), 0, one(5))
		i := 5 / c.W[0]
		want := s
		for k := 1; k < 3; k++ {
			want = with(t, c, want, k, one(5))
		}
		goesUp(t, c, s, i, last, want, api.OK)
		goesUp(t, c, s, last, last, s, api.OK)
		goesUp(t, c, s, i, last+1, stack{}, api.ErrRange)
		goesUp(t, c, s, last+1, last+1, stack{}, api.ErrRange)
	}
}

// closes ends a test, if Close does not answer so, or changes what is handed in.
func closes(t *testing.T, c api.Config, s stack, open api.Slot, j int64, want stack, err api.Errno) {
	t.Helper()
	before := copied(s)
	got, told := fold.Close(c, s, open, j)
	if !same(got, want) || told != err {
		t.Fatalf("Close(%v, %v, %v, %d) is %v, %d, not %v, %d", c, s, open, j, got, told, want, err)
	}
	if !same(s, before) {
		t.Fatalf("what was handed in is %v, and was %v", s, before)
	}
}

// 14.2
func TestClose(t *testing.T) {
	c := usual()
	s := with(t, c, fold.Empty(c), 0, one(45))
	s = with(t, c, s, 1, one(5), one(25))
	open := slot(5, of(t, at(51, 9), at(59, 20)))
	closes(t, c, s, open, 5, s, api.OK)
	in := with(t, c, s, 0, open.Cell)
	in = with(t, c, in, 1, of(t, at(45, 7), at(51, 9), at(59, 20)))
	in = with(t, c, in, 2, of(t, at(5, 7), at(25, 7), at(45, 7), at(51, 9), at(59, 20)))
	for _, j := range []int64{6, 7, 100, lately / 10} {
		closes(t, c, s, open, j, in, api.OK)
	}
	closes(t, c, s, slot(6, one(65)), 7, with(t, c, s, 0, one(65)), api.OK)
	closes(t, c, s, slot(6, one(65)), 8, with(t, c, with(t, c, s, 0, one(65)), 1, one(65)), api.OK)
	closes(t, c, s, slot(8, one(85)), 10, with(t, c, with(t, c, s, 0, one(85)), 1, one(85)), api.OK)
	closes(t, c, fold.Empty(c), slot(0, one(0)), 1, with(t, c, fold.Empty(c), 0, one(0)), api.OK)
}

// 14.2: where nothing is open, or it goes on, the stack stays, whatever j is.
func TestCloseNothing(t *testing.T) {
	c := usual()
	s := with(t, c, fold.Empty(c), 0, one(5))
	for _, j := range []int64{math.MinInt64, -1, 0, 1, 100, lately / 10, lately/10 + 1, math.MaxInt64} {
		closes(t, c, s, api.Slot{}, j, s, api.OK)
	}
	for _, i := range []int64{0, 1, 7, lately / 10} {
		closes(t, c, s, slot(i, one(10*i)), i, s, api.OK)
	}
}

// 14.2
func TestCloseWrong(t *testing.T) {
	c := usual()
	s := with(t, c, fold.Empty(c), 0, one(5))
	for _, j := range []int64{math.MinInt64, -1, 0, 4, lately/10 + 1, api.MaxTime, math.MaxInt64} {
		closes(t, c, s, slot(5, one(55)), j, stack{}, api.ErrRange)
	}
	for _, open := range []api.Slot{
		{Window: 5}, {Window: -1}, {Window: math.MinInt64}, {Window: math.MaxInt64}, slot(-1, one(5)), slot(5, one(49)), slot(5, one(60)), slot(0, one(10)), slot(0, one(-1)),
		slot(5, of(t, at(49, 1), at(50, 2))), slot(5, of(t, at(59, 1), at(60, 2))), slot(lately/10+1, one(lately)), slot(lately/10+1, one(api.MaxTime)),
		slot(0, api.Cell{Seen: 1}), slot(0, api.Cell{Count: 2, First: at(5, 0), Last: at(5, 0)}), slot(0, api.Cell{Count: 2, First: at(5, 0), Last: at(6, 0), Seen: 2}),
	} {
		for _, j := range []int64{math.MinInt64, -1, 0, open.Window, 5, 6, lately / 10, lately/10 + 1, math.MaxInt64} {
			closes(t, c, s, open, j, stack{}, api.ErrForm)
		}
	}
	for _, open := range []api.Slot{{}, slot(0, one(5)), slot(5, one(55)), {Window: 5}} {
		for _, j := range []int64{-1, 0, 5, 6, math.MaxInt64} {
			for _, other := range wrongFor(t) {
				closes(t, c, other, open, j, stack{}, api.ErrForm)
			}
			for _, other := range wrongConfigs() {
				closes(t, other, s, open, j, stack{}, api.ErrForm)
				closes(t, other, stack{}, open, j, stack{}, api.ErrForm)
			}
		}
	}
}

// 14.2: the last window may be closed by no other one.
func TestCloseLast(t *testing.T) {
	for _, c := range configs() {
		s, last := fold.Empty(c), lately/c.W[0]
		closes(t, c, s, slot(last, one(lately)), last, s, api.OK)
		closes(t, c, s, slot(last, one(lately)), last+1, stack{}, api.ErrRange)
		closes(t, c, s, slot(last, one(lately)), last-1, stack{}, api.ErrRange)
	}
}

// 14.3: what changed is new memory, also where the tiers that are handed in are one list.
func TestNewMemory(t *testing.T) {
	c := config(widths{10, 10, 10}, counts{2, 2, 2})
	l := slots{slot(4, one(45)), slot(3, one(35))}
	want := slots{slot(4, one(45)), slot(5, one(55))}
	before, after := slices.Clone(l), slices.Clone(want)
	for _, call := range []func() (stack, api.Errno){
		func() (stack, api.Errno) { return fold.Close(c, stack{l, l, l}, slot(5, one(55)), 6) },
		func() (stack, api.Errno) { return fold.Up(c, stack{slices.Clone(want), l, l}, 5, 6) },
	} {
		all, err := call()
		if !same(all, stack{want, want, want}) || err != api.OK {
			t.Fatalf("it is %v, %d", all, err)
		}
		for k := range all {
			all[k][0].Window = int64(-7 - k)
		}
		for k := range all {
			if all[k][0].Window != int64(-7-k) {
				t.Error("the tiers of an answer share their slots")
			}
		}
		if !slices.Equal(l, before) || !slices.Equal(want, after) {
			t.Fatalf("what was handed in is %v, and was %v", l, before)
		}
	}
}

// some is an event of the time t.
func some(source *rand.Rand, t int64) api.Event {
	switch source.IntN(6) {
	case 0:
		return api.Event{T: t, Stale: true}
	case 1:
		return api.Event{T: t, V: source.Uint64N(9), C: source.Int64N(t + 1)}
	case 2:
		return at(t, math.MaxUint64-source.Uint64N(9))
	}
	return at(t, source.Uint64N(9))
}

// someConfig is a configuration whose tiers keep few windows.
func someConfig(source *rand.Rand) api.Config {
	first, second, third := 1+source.Int64N(12), 1+source.Int64N(4), 1+source.Int64N(4)
	return config(widths{first, first * second, first * second * third}, counts{int(second) + source.IntN(3), int(third) + source.IntN(3), 1 + source.IntN(4)})
}

// within are those of l whose time lies in the window i, of the width w.
func within(l []api.Event, w, i int64) []api.Event {
	return slices.DeleteFunc(slices.Clone(l), func(e api.Event) bool { return e.T/w != i })
}

// hold ends a test, if a closed window, that is kept at the time now, has not the cell of those of l that lie in it.
func hold(t *testing.T, c api.Config, s stack, l []api.Event, now int64) {
	t.Helper()
	if err := fold.Check(c, s); err != api.OK {
		t.Fatalf("Check(%v, %v) is %d", c, s, err)
	}
	for k, w := range c.W {
		for i := max(0, now/w-int64(c.N[k])+1); i < now/w; i++ {
			if got, want := tier.Get(s[k], i), of(t, within(l, w, i)...); got != want {
				t.Fatalf("of %v, at %d, the window %d of the tier %d is %v, not %v", c, now, i, k, got, want)
			}
		}
		if got := tier.Get(s[k], now/w); got != (api.Cell{}) {
			t.Fatalf("of %v, at %d, the open window of the tier %d is %v", c, now, k, got)
		}
	}
}

// 14.4
func TestTierByTier(t *testing.T) {
	source := rand.New(rand.NewPCG(14, 4))
	for range 300 {
		c := someConfig(source)
		if err := conf.Check(c); err != api.OK {
			t.Fatalf("%v is not right", c)
		}
		s := fold.Empty(c)
		var open api.Slot
		var l []api.Event
		now := source.Int64N(3 * c.W[2])
		for range 80 {
			i := now / c.W[0]
			closed, err := fold.Close(c, s, open, i)
			if err != api.OK {
				t.Fatalf("Close(%v, %v, %v, %d) is %d", c, s, open, i, err)
			}
			s = closed
			if open.Window != i {
				open = api.Slot{Window: i}
			}
			hold(t, c, s, l, now)
			e := some(source, now)
			more, err := cell.Add(open.Cell, e)
			if err != api.OK {
				t.Fatalf("Add is %d", err)
			}
			open, l = slot(i, more), append(l, e)
			now += 1 + source.Int64N(1+c.W[source.IntN(3)])
			if source.IntN(15) == 0 {
				now += source.Int64N(5 * c.W[2])
			}
		}
	}
}

// 14.1, 14.4: a window that has just ended is what is made of the tier below, as that has all of it yet.
func TestMadeAsClosed(t *testing.T) {
	source := rand.New(rand.NewPCG(14, 1))
	for range 100 {
		c := someConfig(source)
		s := fold.Empty(c)
		var l []api.Event
		for i := range int64(40) {
			e := some(source, i*c.W[0]+source.Int64N(c.W[0]))
			closed, err := fold.Close(c, s, slot(i, of(t, e)), i+1)
			if err != api.OK {
				t.Fatalf("Close is %d", err)
			}
			s, l = closed, append(l, e)
			for k := 1; k < 3; k++ {
				if (i+1)*c.W[0]%c.W[k] == 0 {
					ended := i * c.W[0] / c.W[k]
					makes(t, c, s, k, ended, of(t, within(l, c.W[k], ended)...), api.OK)
				}
			}
		}
	}
}
