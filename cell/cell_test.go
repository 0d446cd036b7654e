package cell_test

import (
	"math"
	"math/big"
	"math/rand/v2"
	"slices"
	"testing"

	"plimsoll/api"
	"plimsoll/cell"
	"plimsoll/event"
)

const (
	most   = math.MaxUint64
	lately = api.MaxTime - 1
)

type events = []api.Event
type cells = []api.Cell

func at(t int64, v uint64) api.Event {
	return api.Event{T: t, V: v}
}

// made is an event that tells when its series was created.
func made(t int64, v uint64, c int64) api.Event {
	return api.Event{T: t, V: v, C: c}
}

func stale(t int64) api.Event {
	return api.Event{T: t, Stale: true}
}

// wrongEvents are events that are not right, each for one cause.
func wrongEvents() events {
	return events{at(-1, 0), at(api.MaxTime, 0), made(9, 1, 10), made(9, 1, -1), {T: 9, V: 1, Stale: true}, {T: 9, C: 1, Stale: true}}
}

// wrongCells are cells that are not right, each for one cause.
func wrongCells() cells {
	l := cells{
		{Count: -1}, {Inc: api.Wide{Lo: 1}}, {Inc: api.Wide{Hi: 1}}, {Resets: 1}, {Gaps: 1}, {Seen: 1}, {First: at(1, 0)}, {Last: at(1, 0)},
		{First: at(1, 0), Last: at(1, 0)}, {First: stale(0), Last: stale(0)}, {Count: 1, First: at(1, 0), Last: at(1, 1)},
	}
	for _, e := range wrongEvents() {
		l = append(l, api.Cell{Count: 1, First: e, Last: e})
	}
	return l
}

// some is events that follow, of all kinds.
func some(source *rand.Rand, longest int) events {
	var l events
	t := source.Int64N(5)
	for range source.IntN(longest + 1) {
		e := at(t, source.Uint64N(4))
		switch source.IntN(6) {
		case 0:
			e = stale(t)
		case 1:
			e.C = source.Int64N(t + 1)
		case 2:
			e.V = most - e.V
		case 3:
			e.C = max(0, t-source.Int64N(3))
		}
		l = append(l, e)
		t += 1 + source.Int64N(4)
	}
	return l
}

// of tells by the document's words what the cell of events is that follow.
func of(l events) api.Cell {
	if len(l) == 0 {
		return api.Cell{}
	}
	c := api.Cell{Count: int64(len(l)), First: l[0], Last: l[len(l)-1]}
	inc := new(big.Int)
	for place := 1; place < len(l); place++ {
		step, _ := event.Between(l[place-1], l[place])
		inc.Add(inc, new(big.Int).SetUint64(step.Inc.Lo))
		c.Resets += step.Resets
		c.Gaps += step.Gaps
		c.Seen += step.Seen
	}
	c.Inc.Hi = new(big.Int).Rsh(inc, 64).Uint64()
	c.Inc.Lo = new(big.Int).And(inc, new(big.Int).SetUint64(most)).Uint64()
	return c
}

// right tells by the document's words whether c is right.
func right(c api.Cell) bool {
	if c == (api.Cell{}) {
		return true
	}
	if c.Count < 1 || event.Check(c.First) != api.OK || event.Check(c.Last) != api.OK {
		return false
	}
	long := c.Last.T - c.First.T
	if c.Count > long+1 || c.Count == 1 && c.First != c.Last || c.Count > 1 && long <= 0 {
		return false
	}
	steps := big.NewInt(c.Count - 1)
	both := new(big.Int).Add(big.NewInt(c.Resets), big.NewInt(c.Gaps))
	if c.Resets < 0 || c.Gaps < 0 || both.Cmp(steps) > 0 || c.Seen < 0 || c.Seen > long {
		return false
	}
	inc := new(big.Int).SetUint64(c.Inc.Hi)
	inc.Lsh(inc, 64).Add(inc, new(big.Int).SetUint64(c.Inc.Lo))
	return inc.Cmp(steps.Mul(steps, new(big.Int).SetUint64(most))) <= 0
}

// is ends a test, if a call did not answer want and err.
func is(t *testing.T, call string, got api.Cell, told api.Errno, want api.Cell, err api.Errno) {
	t.Helper()
	if got != want || told != err {
		t.Fatalf("%s: %v, %d; want %v, %d", call, got, told, want, err)
	}
}

// 8.1
func TestCheck(t *testing.T) {
	edge := api.Cell{Count: 3, First: at(10, 1), Last: at(12, 5), Inc: api.Wide{Hi: 1, Lo: most - 1}, Resets: 1, Gaps: 1, Seen: 2}
	with := func(change func(c *api.Cell)) api.Cell {
		c := edge
		change(&c)
		return c
	}
	for _, c := range (cells{
		{},
		edge,
		{Count: 1},
		{Count: 1, First: at(5, 7), Last: at(5, 7)},
		{Count: 1, First: made(lately, most, lately), Last: made(lately, most, lately)},
		{Count: 1, First: stale(0), Last: stale(0)},
		{Count: 2, First: at(0, 0), Last: stale(lately), Seen: lately, Resets: 1, Inc: api.Wide{Lo: most}},
		{Count: api.MaxTime, Last: at(lately, 0), Inc: api.Wide{Hi: lately - 1, Lo: 1<<64 - lately}, Resets: lately, Seen: lately},
		{Count: api.MaxTime, Last: at(lately, 0), Gaps: lately},
		with(func(c *api.Cell) { c.Resets = 2; c.Gaps = 0 }),
		with(func(c *api.Cell) { c.Resets = 0; c.Gaps = 2 }),
		with(func(c *api.Cell) { c.Resets = 0; c.Gaps = 0; c.Seen = 0; c.Inc = api.Wide{} }),
		with(func(c *api.Cell) { c.Count = 2; c.Gaps = 0; c.Inc = api.Wide{Lo: most} }),
	}) {
		if err := cell.Check(c); err != api.OK {
			t.Errorf("Check(%v): %d", c, err)
		}
	}
	for _, c := range append(wrongCells(),
		with(func(c *api.Cell) { c.Count = 4 }),
		with(func(c *api.Cell) { c.Count = math.MaxInt64 }),
		with(func(c *api.Cell) { c.Count = 2 }),
		with(func(c *api.Cell) { c.Count = 0 }),
		with(func(c *api.Cell) { c.Count = -3 }),
		with(func(c *api.Cell) { c.Count = math.MinInt64 }),
		with(func(c *api.Cell) { c.Resets = 2 }),
		with(func(c *api.Cell) { c.Gaps = 2 }),
		with(func(c *api.Cell) { c.Resets = -1 }),
		with(func(c *api.Cell) { c.Gaps = -1 }),
		with(func(c *api.Cell) { c.Resets = math.MinInt64; c.Gaps = math.MinInt64 }),
		with(func(c *api.Cell) { c.Resets = math.MaxInt64; c.Gaps = math.MaxInt64 }),
		with(func(c *api.Cell) { c.Resets = math.MaxInt64 }),
		with(func(c *api.Cell) { c.Gaps = math.MaxInt64 }),
		with(func(c *api.Cell) { c.Seen = 3 }),
		with(func(c *api.Cell) { c.Seen = -1 }),
		with(func(c *api.Cell) { c.Inc.Lo = most }),
		with(func(c *api.Cell) { c.Inc.Hi = 2 }),
		with(func(c *api.Cell) { c.Inc = api.Wide{Hi: most, Lo: most} }),
		with(func(c *api.Cell) { c.First = at(13, 1) }),
		with(func(c *api.Cell) { c.First = at(12, 5) }),
		with(func(c *api.Cell) { c.First.C = 11 }),
		with(func(c *api.Cell) { c.First.T = -1 }),
		with(func(c *api.Cell) { c.Last.T = api.MaxTime }),
		with(func(c *api.Cell) { c.Last.Stale = true }),
		with(func(c *api.Cell) { c.First, c.Last = c.Last, c.First }),
		api.Cell{Count: 1, Inc: api.Wide{Lo: 1}},
		api.Cell{Count: 1, Resets: 1},
		api.Cell{Count: 1, Gaps: 1},
		api.Cell{Count: 1, Seen: 1},
		api.Cell{Count: 1, First: at(5, 7), Last: at(6, 7)},
		api.Cell{Count: 1, First: at(5, 7), Last: at(5, 8)},
		api.Cell{Count: 1, First: at(5, 7), Last: made(5, 7, 1)},
		api.Cell{Count: 1, First: at(5, 0), Last: stale(5)},
		api.Cell{Count: 2, First: at(5, 7), Last: at(5, 7)},
		api.Cell{Count: api.MaxTime, Last: at(lately, 0), Inc: api.Wide{Hi: lately - 1, Lo: 1<<64 - lately + 1}},
		api.Cell{Count: api.MaxTime + 1, Last: at(lately, 0)},
		api.Cell{Count: 1, First: at(math.MinInt64, 0), Last: at(math.MaxInt64, 0)},
		api.Cell{Count: 2, First: at(math.MaxInt64, 0), Last: at(math.MinInt64, 0)},
	) {
		if err := cell.Check(c); err != api.ErrForm {
			t.Errorf("Check(%v): %d", c, err)
		}
	}
}

// 8.1
func TestCheckEachEdge(t *testing.T) {
	numbers := []int64{math.MinInt64, -1, 0, 1, 2, 3, math.MaxInt64}
	ends := events{{}, at(2, 1), at(3, 1), stale(3), made(9, 1, 10)}
	rises := []api.Wide{{}, {Lo: 1}, {Lo: most}, {Hi: 1}, {Hi: 1, Lo: most - 1}, {Hi: 1, Lo: most}, {Hi: most, Lo: most}}
	for _, count := range append(numbers, 4, 5) {
		for _, first := range ends {
			for _, last := range ends {
				for _, inc := range rises {
					for _, resets := range numbers {
						for _, gaps := range numbers {
							for _, seen := range numbers {
								c := api.Cell{Count: count, First: first, Last: last, Inc: inc, Resets: resets, Gaps: gaps, Seen: seen}
								if err := cell.Check(c); (err == api.OK) != right(c) || err != api.OK && err != api.ErrForm {
									t.Fatalf("Check(%v): %d", c, err)
								}
							}
						}
					}
				}
			}
		}
	}
}

// 8.1
func TestOf(t *testing.T) {
	for _, one := range []struct {
		name string
		l    events
		want api.Cell
		err  api.Errno
	}{
		{"none", nil, api.Cell{}, api.OK},
		{"the first there can be", events{at(0, 0)}, api.Cell{Count: 1}, api.OK},
		{"one", events{made(5, 7, 5)}, api.Cell{Count: 1, First: made(5, 7, 5), Last: made(5, 7, 5)}, api.OK},
		{"a stale one", events{stale(lately)}, api.Cell{Count: 1, First: stale(lately), Last: stale(lately)}, api.OK},
		{"two", events{at(5, 7), at(9, 17)}, api.Cell{Count: 2, First: at(5, 7), Last: at(9, 17), Inc: api.Wide{Lo: 10}, Seen: 4}, api.OK},
		{"several", events{at(5, 7), at(9, 17), at(10, 3), stale(12), at(13, 100), at(20, 100), stale(21), made(30, 8, 25), made(31, 9, 25)},
			api.Cell{Count: 9, First: at(5, 7), Last: made(31, 9, 25), Inc: api.Wide{Lo: 10 + 3 + 8 + 1}, Resets: 2, Gaps: 1, Seen: 4 + 1 + 7 + 5 + 1}, api.OK},
		{"more than 64 bits", events{at(0, 0), at(1, most), at(2, most-1), made(3, 3, 3)}, api.Cell{Count: 4, Last: made(3, 3, 3), Inc: api.Wide{Hi: 2}, Resets: 2, Seen: 2}, api.OK},
		{"one has the same time", events{at(5, 7), at(9, 17), at(9, 17)}, api.Cell{}, api.ErrTime},
		{"one is ahead", events{at(5, 7), at(9, 17), at(8, 17), at(10, 1)}, api.Cell{}, api.ErrTime},
		{"the first is behind", events{at(6, 7), at(5, 7)}, api.Cell{}, api.ErrTime},
		{"it follows the first, but not its neighbour", events{at(5, 7), at(9, 17), at(6, 17)}, api.Cell{}, api.ErrTime},
		{"one is ahead, then one is wrong", events{at(5, 7), at(4, 7), {T: 9, C: 10}}, api.Cell{}, api.ErrForm},
		{"one is wrong, then one is ahead", events{{T: 9, C: 10}, at(5, 7), at(4, 7)}, api.Cell{}, api.ErrForm},
	} {
		before := slices.Clone(one.l)
		got, err := cell.Of(one.l...)
		is(t, one.name, got, err, one.want, one.err)
		if !slices.Equal(before, one.l) {
			t.Errorf("%s: what was handed in is %v", one.name, one.l)
		}
	}
	for _, wrong := range wrongEvents() {
		for place := range 4 {
			got, err := cell.Of(slices.Insert(events{at(5, 7), at(6, 7), at(7, 7)}, place, wrong)...)
			is(t, "Of with a wrong one", got, err, api.Cell{}, api.ErrForm)
		}
	}
}

// 8.1
func TestOfMany(t *testing.T) {
	source := rand.New(rand.NewPCG(8, 1))
	for range 20000 {
		l := some(source, 9)
		got, err := cell.Of(l...)
		is(t, "Of", got, err, of(l), api.OK)
		if len(l) > 1 {
			i, j := source.IntN(len(l)), source.IntN(len(l))
			l[i], l[j] = l[j], l[i]
			if i != j {
				got, err = cell.Of(l...)
				is(t, "Of with two that changed places", got, err, api.Cell{}, api.ErrTime)
			}
		}
	}
}

// 8.2
func TestMerge(t *testing.T) {
	a := api.Cell{Count: 3, First: at(10, 1), Last: at(20, 50), Inc: api.Wide{Lo: 55}, Resets: 1, Gaps: 0, Seen: 9}
	b := api.Cell{Count: 4, First: at(21, 60), Last: stale(40), Inc: api.Wide{Hi: 1, Lo: 7}, Resets: 0, Gaps: 2, Seen: 3}
	both := api.Cell{Count: 7, First: at(10, 1), Last: stale(40), Inc: api.Wide{Hi: 1, Lo: 55 + 10 + 7}, Resets: 1, Gaps: 2, Seen: 9 + 1 + 3}
	first := func(e api.Event) api.Cell {
		c := b
		c.First = e
		return c
	}
	anew := both
	anew.Inc.Lo, anew.Resets, anew.Seen = 55+49+7, 2, 9+1+3
	fresh := both
	fresh.Inc.Lo, fresh.Resets, fresh.Seen = 55+60+7, 2, 9+0+3
	gone := both
	gone.Inc.Lo, gone.Seen = 55+7, 9+3
	after := a
	after.Last = stale(20)
	unknown := gone
	unknown.Gaps = 3
	full := api.Cell{Count: 2, First: at(1, 0), Last: at(2, most), Inc: api.Wide{Lo: most}, Seen: 1}
	carried := api.Cell{Count: 4, First: at(1, 0), Last: at(4, most), Inc: api.Wide{Hi: 1, Lo: most - 1}, Resets: 1, Seen: 3}
	then := api.Cell{Count: 2, First: at(3, 0), Last: at(4, most), Inc: api.Wide{Lo: most}, Seen: 1}
	for _, one := range []struct {
		name string
		a, b api.Cell
		want api.Cell
		err  api.Errno
	}{
		{"both", a, b, both, api.OK},
		{"it fell between", a, first(at(21, 49)), anew, api.OK},
		{"it was created between", a, first(made(21, 60, 21)), fresh, api.OK},
		{"it was stale then", a, first(stale(21)), gone, api.OK},
		{"it was stale ahead", after, b, unknown, api.OK},
		{"a carry", full, then, carried, api.OK},
		{"zeros", api.Cell{}, api.Cell{}, api.Cell{}, api.OK},
		{"a zero one ahead", api.Cell{}, b, b, api.OK},
		{"a zero one behind", a, api.Cell{}, a, api.OK},
		{"the one of nothing at 0 is not zero", api.Cell{Count: 1}, api.Cell{Count: 1}, api.Cell{}, api.ErrTime},
		{"at one time", a, first(at(20, 60)), api.Cell{}, api.ErrTime},
		{"they lie across", a, first(at(15, 60)), api.Cell{}, api.ErrTime},
		{"the wrong way round", b, a, api.Cell{}, api.ErrTime},
		{"with itself", a, a, api.Cell{}, api.ErrTime},
	} {
		got, err := cell.Merge(one.a, one.b)
		is(t, one.name, got, err, one.want, one.err)
	}
	for _, wrong := range wrongCells() {
		for _, c := range (cells{{}, a, b, wrong}) {
			got, err := cell.Merge(wrong, c)
			is(t, "Merge of a wrong one", got, err, api.Cell{}, api.ErrForm)
			got, err = cell.Merge(c, wrong)
			is(t, "Merge with a wrong one", got, err, api.Cell{}, api.ErrForm)
		}
	}
}

// 8.2
func TestMergeOfTheGreatest(t *testing.T) {
	const half = api.MaxTime / 2
	a := api.Cell{Count: half, First: at(0, 0), Last: at(half-1, 9), Inc: api.Wide{Hi: half - 2, Lo: 1<<64 - half + 1}, Resets: half - 1, Seen: half - 1}
	b := api.Cell{Count: half, First: at(half, 8), Last: at(lately, 9), Inc: a.Inc, Gaps: half - 1}
	want := api.Cell{Count: 2 * half, First: a.First, Last: b.Last, Inc: api.Wide{Hi: 2*half - 3, Lo: 1<<64 - 2*half + 10}, Resets: half, Gaps: half - 1, Seen: half}
	got, err := cell.Merge(a, b)
	is(t, "Merge", got, err, want, api.OK)
	if err := cell.Check(got); err != api.OK {
		t.Errorf("it is not right: %d", err)
	}
}

// 8.2
func TestAdd(t *testing.T) {
	c := api.Cell{Count: 3, First: at(10, 1), Last: at(20, 50), Inc: api.Wide{Lo: 55}, Resets: 1, Seen: 9}
	got, err := cell.Add(c, at(23, 52))
	is(t, "Add", got, err, api.Cell{Count: 4, First: at(10, 1), Last: at(23, 52), Inc: api.Wide{Lo: 57}, Resets: 1, Seen: 12}, api.OK)
	got, err = cell.Add(c, made(23, 52, 21))
	is(t, "Add of one that was created", got, err, api.Cell{Count: 4, First: at(10, 1), Last: made(23, 52, 21), Inc: api.Wide{Lo: 107}, Resets: 2, Seen: 11}, api.OK)
	got, err = cell.Add(c, stale(21))
	is(t, "Add of a stale one", got, err, api.Cell{Count: 4, First: at(10, 1), Last: stale(21), Inc: api.Wide{Lo: 55}, Resets: 1, Seen: 9}, api.OK)
	got, err = cell.Add(api.Cell{}, at(0, 0))
	is(t, "Add to a zero one", got, err, api.Cell{Count: 1}, api.OK)
	got, err = cell.Add(api.Cell{}, stale(4))
	is(t, "Add of a stale one to a zero one", got, err, api.Cell{Count: 1, First: stale(4), Last: stale(4)}, api.OK)
	for _, e := range (events{at(20, 50), at(20, 51), at(19, 1), at(0, 0), stale(20), made(20, 60, 20)}) {
		got, err = cell.Add(c, e)
		is(t, "Add of one that does not follow", got, err, api.Cell{}, api.ErrTime)
	}
	for _, wrong := range wrongEvents() {
		for _, c := range append(wrongCells(), c, api.Cell{}) {
			got, err = cell.Add(c, wrong)
			is(t, "Add of a wrong one", got, err, api.Cell{}, api.ErrForm)
		}
	}
	for _, wrong := range wrongCells() {
		for _, e := range (events{at(0, 0), at(9, 0), at(lately, 0)}) {
			got, err = cell.Add(wrong, e)
			is(t, "Add to a wrong one", got, err, api.Cell{}, api.ErrForm)
		}
	}
}

// 8.2
func TestAll(t *testing.T) {
	a, b, c := of(events{at(1, 1), at(2, 5)}), of(events{at(3, 7)}), of(events{at(6, 2), at(8, 3)})
	zero, wrong := api.Cell{}, api.Cell{Count: 1, Seen: 1}
	for _, one := range []struct {
		name string
		l    cells
		want api.Cell
		err  api.Errno
	}{
		{"none", nil, zero, api.OK},
		{"a zero one", cells{zero}, zero, api.OK},
		{"zero ones", cells{zero, zero, zero}, zero, api.OK},
		{"one", cells{a}, a, api.OK},
		{"several", cells{a, b, c}, of(events{at(1, 1), at(2, 5), at(3, 7), at(6, 2), at(8, 3)}), api.OK},
		{"several, and zero ones", cells{zero, a, zero, zero, c, zero}, of(events{at(1, 1), at(2, 5), at(6, 2), at(8, 3)}), api.OK},
		{"a wrong one", cells{wrong}, zero, api.ErrForm},
		{"the last one is wrong", cells{a, b, wrong}, zero, api.ErrForm},
		{"the first one is wrong", cells{wrong, a, b}, zero, api.ErrForm},
		{"one is ahead", cells{a, c, b}, zero, api.ErrTime},
		{"one is ahead of zero ones", cells{c, zero, zero, b}, zero, api.ErrTime},
		{"twice", cells{a, a}, zero, api.ErrTime},
		{"one is ahead, then one is wrong", cells{b, a, wrong}, zero, api.ErrTime},
		{"one is wrong, then one is ahead", cells{wrong, b, a}, zero, api.ErrForm},
		{"one is wrong and ahead", cells{b, {Count: 1, Seen: 1}, a}, zero, api.ErrForm},
	} {
		before := slices.Clone(one.l)
		got, err := cell.All(one.l...)
		is(t, one.name, got, err, one.want, one.err)
		if !slices.Equal(before, one.l) {
			t.Errorf("%s: what was handed in is %v", one.name, one.l)
		}
	}
}

// 8.3
func TestPartByPart(t *testing.T) {
	source := rand.New(rand.NewPCG(8, 3))
	for range 5000 {
		l := some(source, 12)
		whole, err := cell.Of(l...)
		is(t, "Of", whole, err, of(l), api.OK)
		var parts cells
		for rest := l; len(rest) > 0; {
			long := source.IntN(len(rest) + 1)
			part, _ := cell.Of(rest[:long]...)
			parts = append(parts, part)
			rest = rest[long:]
		}
		got, err := cell.All(parts...)
		is(t, "All of its parts", got, err, whole, api.OK)
		for cut := range len(l) + 1 {
			front, _ := cell.Of(l[:cut]...)
			back, _ := cell.Of(l[cut:]...)
			got, err := cell.Merge(front, back)
			is(t, "Merge of two parts", got, err, whole, api.OK)
		}
	}
}

// chance is a cell that is right, not of known events, from a time on.
func chance(source *rand.Rand, from int64) api.Cell {
	long := source.Int64N(6)
	first, last := at(from, source.Uint64()), at(from+long, source.Uint64())
	if source.IntN(4) == 0 {
		first = stale(from)
	}
	if source.IntN(4) == 0 {
		first.V, first.C, first.Stale = 1, source.Int64N(from+1), false
	}
	if source.IntN(4) == 0 {
		last = stale(from + long)
	}
	if long == 0 {
		return api.Cell{Count: 1, First: first, Last: first}
	}
	steps := 1 + source.Int64N(long)
	resets := source.Int64N(steps + 1)
	return api.Cell{Count: steps + 1, First: first, Last: last, Inc: api.Wide{Hi: source.Uint64N(uint64(steps)), Lo: source.Uint64() >> 5},
		Resets: resets, Gaps: source.Int64N(steps - resets + 1), Seen: source.Int64N(long + 1)}
}

// 8.3
func TestWhicheverAreFirst(t *testing.T) {
	source := rand.New(rand.NewPCG(8, 33))
	for range 50000 {
		var l cells
		from := int64(0)
		for range 3 {
			c := chance(source, from)
			from = c.Last.T + 1 + source.Int64N(3)
			if source.IntN(8) == 0 {
				c = api.Cell{}
			}
			if err := cell.Check(c); err != api.OK {
				t.Fatalf("Check(%v): %d", c, err)
			}
			l = append(l, c)
		}
		front, err := cell.Merge(l[0], l[1])
		if err != api.OK || cell.Check(front) != api.OK {
			t.Fatalf("Merge(%v, %v): %v, %d", l[0], l[1], front, err)
		}
		back, err := cell.Merge(l[1], l[2])
		if err != api.OK || cell.Check(back) != api.OK {
			t.Fatalf("Merge(%v, %v): %v, %d", l[1], l[2], back, err)
		}
		one, err := cell.Merge(front, l[2])
		other, then := cell.Merge(l[0], back)
		if one != other || err != api.OK || then != api.OK || cell.Check(one) != api.OK {
			t.Fatalf("Merge of %v: %v, %d; and %v, %d", l, one, err, other, then)
		}
	}
}
