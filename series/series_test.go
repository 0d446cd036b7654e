package series_test

import (
	"math"
	"math/rand/v2"
	"slices"
	"strings"
	"testing"

	"plimsoll/api"
	"plimsoll/cell"
	"plimsoll/conf"
	"plimsoll/series"
)

const (
	lately   = api.MaxTime - 1
	mostLost = 1 << 46
)

type widths = [3]int64
type counts = [3]int

func at(t int64, v uint64) api.Event {
	return api.Event{T: t, V: v}
}

// of is the cell of events that follow.
func of(t *testing.T, l ...api.Event) api.Cell {
	t.Helper()
	c, err := cell.Of(l...)
	if err != api.OK {
		t.Fatalf("the cell of %v is told with %d", l, err)
	}
	return c
}

// one is the cell of a single event.
func one(t int64) api.Cell {
	return api.Cell{Count: 1, First: at(t, 7), Last: at(t, 7)}
}

func slot(i int64, c api.Cell) api.Slot {
	return api.Slot{Window: i, Cell: c}
}

func labels() []api.Label {
	return []api.Label{{Name: "__name__", Value: "requests"}, {Name: "path", Value: "/"}}
}

// config keeps so many events, and so many windows of these widths.
func config(events int, w widths, n counts) api.Config {
	return api.Config{Raw: events, W: w, N: n, Cap: 3, Log: api.MaxLog}
}

// usual has windows of 10, 20 and 60 milliseconds.
func usual() api.Config {
	return config(3, widths{10, 20, 60}, counts{4, 5, 6})
}

// configs are right: the edges.
func configs() []api.Config {
	return []api.Config{
		usual(),
		config(1, widths{1, 1, 1}, counts{1, 1, 1}),
		config(2, widths{7, 7, 7}, counts{1, 2, 3}),
		config(5, widths{5, 5, 15}, counts{1, 3, 1}),
		config(1, widths{3, 12, 12}, counts{4, 1, 2}),
		config(api.MaxRaw, widths{1, 4096, 1 << 24}, counts{4096, 4096, 4096}),
		config(4, widths{api.MaxWidth >> 2, api.MaxWidth >> 1, api.MaxWidth}, counts{2, 2, 40}),
	}
}

// wrongConfigs are not right, each for one cause.
func wrongConfigs() []api.Config {
	l := []api.Config{
		{},
		config(0, widths{10, 20, 60}, counts{4, 5, 6}),
		config(api.MaxRaw+1, widths{10, 20, 60}, counts{4, 5, 6}),
		config(3, widths{10, 25, 100}, counts{4, 5, 6}),
		config(3, widths{10, 20, 50}, counts{4, 5, 6}),
		config(3, widths{10, 20, 60}, counts{1, 5, 6}),
		config(3, widths{10, 20, 60}, counts{4, 2, 6}),
		config(3, widths{10, 20, 60}, counts{4, 5, 0}),
		config(3, widths{0, 0, 0}, counts{4, 5, 6}),
	}
	for _, change := range []func(c *api.Config){
		func(c *api.Config) { c.Cap = 0 },
		func(c *api.Config) { c.Log = 1 },
		func(c *api.Config) { c.Log = api.MaxLog + 1 },
	} {
		c := usual()
		change(&c)
		l = append(l, c)
	}
	return l
}

// wrongLabels are not right, each for one cause.
func wrongLabels() [][]api.Label {
	var many []api.Label
	for i := range api.MaxLabels + 1 {
		many = append(many, api.Label{Name: strings.Repeat("a", 1+i)})
	}
	return [][]api.Label{
		nil, {}, many,
		{{Name: "", Value: "x"}}, {{Name: "9a"}}, {{Name: "a-b"}}, {{Name: strings.Repeat("a", api.MaxLabel+1)}},
		{{Name: "a", Value: strings.Repeat("x", api.MaxValue+1)}},
		{{Name: "b"}, {Name: "a"}}, {{Name: "a"}, {Name: "a"}},
		{{Name: "a", Value: strings.Repeat("x", api.MaxValue)}, {Name: "b", Value: strings.Repeat("x", api.MaxValue-1)}},
	}
}

// wrongEvents are not right, each for one cause.
func wrongEvents() []api.Event {
	return []api.Event{
		at(-1, 5), at(math.MinInt64, 5), at(api.MaxTime, 5), at(math.MaxInt64, 5),
		{T: 100, C: 101}, {T: 100, C: -1}, {T: 100, V: 1, Stale: true}, {T: 100, C: 1, Stale: true}, {T: 5, C: 6}, {T: 69, C: 70},
	}
}

// within are those of l whose time lies in the window i, of the width w.
func within(l []api.Event, w, i int64) []api.Event {
	return slices.DeleteFunc(slices.Clone(l), func(e api.Event) bool { return e.T/w != i })
}

// empty are tiers for c.
func empty(c api.Config) [3][]api.Slot {
	var tiers [3][]api.Slot
	for k, n := range c.N {
		tiers[k] = make([]api.Slot, n)
	}
	return tiers
}

// told is the series to which l happened, as the chapter's words tell it, with nothing put.
func told(t *testing.T, c api.Config, l ...api.Event) api.Series {
	t.Helper()
	s := api.Series{Labels: labels(), Last: -1, Tiers: empty(c)}
	if len(l) == 0 {
		return s
	}
	s.Last = l[len(l)-1].T
	lost := max(0, len(l)-c.Raw)
	s.Raw = api.Raw{Lost: int64(lost), L: slices.Clone(l[lost:])}
	if lost > 0 {
		s.Raw.Mark = l[lost-1].T
	}
	newest := s.Last / c.W[0]
	s.Open = slot(newest, of(t, within(l, c.W[0], newest)...))
	for k, w := range c.W {
		for _, e := range l {
			// The window of each event is closed but the newest; of those of one place the last one stays.
			if i := e.T / w; i < s.Last/w {
				s.Tiers[k][i%int64(c.N[k])] = slot(i, of(t, within(l, w, i)...))
			}
		}
	}
	return s
}

// story is what happened to a series of the usual configuration: in the first tier there are three windows, and the open one, in the second one two, in the third one one.
func story() []api.Event {
	return []api.Event{at(5, 7), at(15, 9), at(31, 2), at(38, 4), at(65, 6), at(68, 9), at(69, 1)}
}

// copied is s in memory of its own.
func copied(s api.Series) api.Series {
	s.Labels = slices.Clone(s.Labels)
	s.Raw.L = slices.Clone(s.Raw.L)
	for k := range s.Tiers {
		s.Tiers[k] = slices.Clone(s.Tiers[k])
	}
	return s
}

// same asks field by field, so that the tests do not lean on series.Same.
func same(a, b api.Series) bool {
	for k := range a.Tiers {
		if !slices.Equal(a.Tiers[k], b.Tiers[k]) {
			return false
		}
	}
	if a.Raw.Lost != b.Raw.Lost || a.Raw.Mark != b.Raw.Mark || !slices.Equal(a.Raw.L, b.Raw.L) {
		return false
	}
	return slices.Equal(a.Labels, b.Labels) && a.Last == b.Last && a.Open == b.Open
}

// changed are copies of s, each with one change.
func changed(s api.Series, changes ...func(s *api.Series)) []api.Series {
	var l []api.Series
	for _, change := range changes {
		other := copied(s)
		change(&other)
		l = append(l, other)
	}
	return l
}

// right are series that are right for the usual configuration.
func right(t *testing.T) []api.Series {
	c := usual()
	l := []api.Series{told(t, c)}
	for n := range story() {
		l = append(l, told(t, c, story()[:n+1]...))
	}
	l = append(l, told(t, c, at(0, 1)), told(t, c, at(lately, 1)), told(t, c, api.Event{T: 9, Stale: true}), told(t, c, at(0, 1), at(lately, 1)))
	l = append(l, changed(told(t, c), func(s *api.Series) { s.Raw.L = []api.Event{} })...)
	// The words ask of no more than the times; what the parts tell of one thing may be unlike.
	return append(l, changed(told(t, c, story()...),
		func(s *api.Series) { s.Labels = s.Labels[:1] },
		func(s *api.Series) { s.Open.Cell = of(t, at(62, 8), at(69, 200)) },
		func(s *api.Series) { s.Open.Cell = one(69) },
		func(s *api.Series) { s.Raw = api.Raw{L: []api.Event{at(69, 77)}} },
		func(s *api.Series) { s.Raw.Lost = mostLost },
		func(s *api.Series) { s.Tiers = empty(c) },
		func(s *api.Series) { s.Tiers[0][1] = slot(5, one(59)) },
		func(s *api.Series) { s.Tiers[1][2] = slot(2, one(59)) },
		func(s *api.Series) { s.Tiers[2][0] = slot(0, one(59)) },
	)...)
}

// wrong are series that are not right for the usual configuration, each for one cause.
func wrong(t *testing.T) []api.Series {
	c := usual()
	l := []api.Series{{}, {Last: -1}, {Labels: labels(), Last: -1}}
	for _, names := range wrongLabels() {
		l = append(l, changed(told(t, c, story()...), func(s *api.Series) { s.Labels = names })...)
		l = append(l, changed(told(t, c), func(s *api.Series) { s.Labels = names })...)
	}
	for _, last := range []int64{math.MinInt64, -2, -1, 0, 1, 68, 70, lately, api.MaxTime, math.MaxInt64} {
		l = append(l, changed(told(t, c, story()...), func(s *api.Series) { s.Last = last })...)
	}
	for _, last := range []int64{math.MinInt64, -2, 0, 1, lately, api.MaxTime, math.MaxInt64} {
		l = append(l, changed(told(t, c), func(s *api.Series) { s.Last = last })...)
	}
	l = append(l, wrongParts(t)...)
	l = append(l, wrongTiers(t)...)
	return append(l, notEmpty(t)...)
}

// wrongParts are series whose events, or whose open window, are not right.
func wrongParts(t *testing.T) []api.Series {
	return changed(told(t, usual(), story()...),
		func(s *api.Series) { s.Raw = api.Raw{} },
		func(s *api.Series) { s.Raw.Lost = -1 },
		func(s *api.Series) { s.Raw.Lost = 0 },
		func(s *api.Series) { s.Raw.Lost = mostLost + 1 },
		func(s *api.Series) { s.Raw.Mark = 65 },
		func(s *api.Series) { s.Raw.Mark = -1 },
		func(s *api.Series) { s.Raw = api.Raw{Mark: 1, L: []api.Event{at(69, 1)}} },
		func(s *api.Series) { s.Raw.L = s.Raw.L[1:] },
		func(s *api.Series) { s.Raw = api.Raw{L: []api.Event{at(65, 6), at(68, 9)}} },
		func(s *api.Series) { s.Raw = api.Raw{L: []api.Event{at(69, 6), at(70, 9)}} },
		func(s *api.Series) { s.Raw = api.Raw{L: []api.Event{at(1, 1), at(2, 1), at(3, 1), at(69, 1)}} },
		func(s *api.Series) { s.Raw.L[1].T = 65 },
		func(s *api.Series) { s.Raw.L[1].C = 69 },
		func(s *api.Series) { s.Open = api.Slot{} },
		func(s *api.Series) { s.Open = api.Slot{Window: 6} },
		func(s *api.Series) { s.Open.Window = 5 },
		func(s *api.Series) { s.Open.Window = 7 },
		func(s *api.Series) { s.Open.Window = -1 },
		func(s *api.Series) { s.Open.Cell = of(t, at(65, 6), at(68, 9)) },
		func(s *api.Series) { s.Open.Cell = of(t, at(59, 6), at(69, 9)) },
		func(s *api.Series) { s.Open = slot(5, one(55)) },
		func(s *api.Series) { s.Open = slot(6, one(60)) },
		func(s *api.Series) { s.Open.Cell.Count = 1 },
		func(s *api.Series) { s.Open.Cell.Seen = 5 },
		func(s *api.Series) { s.Open.Cell.Last.Stale = true },
	)
}

// wrongTiers are series whose tiers are not right, or have windows that can't be closed.
func wrongTiers(t *testing.T) []api.Series {
	var l []api.Series
	for k, i := range map[int]int64{0: 6, 1: 3, 2: 1} {
		w, n := usual().W[k], int64(usual().N[k])
		for _, j := range []int64{i, i + 1, i + n, lately / w} {
			l = append(l, changed(told(t, usual(), story()...), func(s *api.Series) { s.Tiers[k][j%n] = slot(j, one(j*w)) })...)
		}
		l = append(l, changed(told(t, usual(), story()...),
			func(s *api.Series) { s.Tiers[k] = nil },
			func(s *api.Series) { s.Tiers[k] = s.Tiers[k][1:] },
			func(s *api.Series) { s.Tiers[k] = append(s.Tiers[k], api.Slot{}) },
			func(s *api.Series) { s.Tiers[k][0].Window++ },
			func(s *api.Series) { s.Tiers[k][0].Cell = api.Cell{Seen: 1} },
			func(s *api.Series) { s.Tiers[k][0].Cell = one(w) },
			func(s *api.Series) { s.Tiers[k][0] = api.Slot{Window: n} },
			func(s *api.Series) { s.Tiers[k][0], s.Tiers[k][2] = s.Tiers[k][2], s.Tiers[k][0] },
		)...)
	}
	return l
}

// notEmpty are series to which nothing happened, and that have something all the same.
func notEmpty(t *testing.T) []api.Series {
	l := changed(told(t, usual()),
		func(s *api.Series) { s.Raw.L = []api.Event{at(5, 1)} },
		func(s *api.Series) { s.Raw.Lost = 1 },
		func(s *api.Series) { s.Raw.Mark = 1 },
		func(s *api.Series) { s.Raw = told(t, usual(), story()...).Raw },
		func(s *api.Series) { s.Open = slot(0, one(5)) },
		func(s *api.Series) { s.Open.Window = -1 },
		func(s *api.Series) { s.Open.Window = 1 },
		func(s *api.Series) { s.Open.Cell.Count = 1 },
	)
	for k := range 3 {
		l = append(l, changed(told(t, usual()),
			func(s *api.Series) { s.Tiers[k][0] = slot(0, one(5)) },
			func(s *api.Series) { s.Tiers[k][1] = slot(1, one(usual().W[k])) },
			func(s *api.Series) { s.Tiers[k] = nil },
		)...)
	}
	return l
}

// 15.1
func TestNew(t *testing.T) {
	for _, c := range configs() {
		for _, l := range [][]api.Label{labels(), {{Name: "a"}}, {{Name: "a", Value: strings.Repeat("x", api.MaxValue)}}} {
			got, err := series.New(c, l)
			want := told(t, c)
			want.Labels = l
			if !same(got, want) || err != api.OK {
				t.Errorf("New(%v, %v) is %v, %d", c, l, got, err)
			}
			if err := series.Check(c, got); err != api.OK {
				t.Errorf("Check of New(%v, %v) is %d", c, l, err)
			}
		}
		for _, l := range wrongLabels() {
			if got, err := series.New(c, l); !same(got, api.Series{}) || err != api.ErrLabels {
				t.Errorf("New(%v, %v) is %v, %d", c, l, got, err)
			}
		}
	}
	for _, c := range wrongConfigs() {
		for _, l := range append(wrongLabels(), labels()) {
			if got, err := series.New(c, l); !same(got, api.Series{}) || err != api.ErrForm {
				t.Errorf("New(%v, %v) is %v, %d", c, l, got, err)
			}
		}
	}
}

// 15.4: a new series shares nothing with the labels, and its tiers share nothing with one another.
func TestNewMemory(t *testing.T) {
	c := config(2, widths{7, 7, 7}, counts{2, 2, 2})
	l := labels()
	s, _ := series.New(c, l)
	other, _ := series.New(c, l)
	l[0].Value = "other"
	for k := range s.Tiers {
		s.Tiers[k][0].Window = int64(5 + k)
	}
	if s.Labels[0].Value != "requests" || !same(other, told(t, c)) {
		t.Errorf("New shares what it was given: %v, %v", s, other)
	}
	for k := range s.Tiers {
		if s.Tiers[k][0].Window != int64(5+k) {
			t.Errorf("the tiers of New share their slots: %v", s)
		}
	}
}

// 15.1
func TestCheck(t *testing.T) {
	for _, s := range right(t) {
		if err := series.Check(usual(), s); err != api.OK {
			t.Errorf("Check(%v) is %d", s, err)
		}
		for _, c := range wrongConfigs() {
			if err := series.Check(c, s); err != api.ErrForm {
				t.Errorf("Check(%v, %v) is %d", c, s, err)
			}
		}
	}
	for _, s := range wrong(t) {
		if err := series.Check(usual(), s); err != api.ErrForm {
			t.Errorf("Check(%v) is %d", s, err)
		}
	}
}

// 15.1: a series is right for a configuration, not by itself.
func TestCheckForOthers(t *testing.T) {
	s := told(t, usual(), story()...)
	for _, c := range []api.Config{
		config(2, widths{10, 20, 60}, counts{4, 5, 6}),
		config(4, widths{10, 20, 60}, counts{4, 5, 6}),
		config(3, widths{10, 20, 60}, counts{5, 5, 6}),
		config(3, widths{10, 20, 60}, counts{4, 4, 6}),
		config(3, widths{10, 20, 60}, counts{4, 5, 7}),
		config(3, widths{5, 20, 60}, counts{4, 5, 6}),
		config(3, widths{20, 20, 60}, counts{4, 5, 6}),
		config(3, widths{10, 10, 60}, counts{4, 6, 6}),
		config(3, widths{10, 20, 20}, counts{4, 5, 6}),
	} {
		if err := series.Check(c, s); err != api.ErrForm {
			t.Errorf("Check(%v, %v) is %d", c, s, err)
		}
	}
	for _, c := range configs() {
		if err := series.Check(c, told(t, c, story()...)); err != api.OK {
			t.Errorf("Check(%v) is %d", c, err)
		}
	}
}

// 15.1
func TestSame(t *testing.T) {
	all := append(right(t), wrong(t)...)
	for i, a := range all {
		if !series.Same(a, copied(a)) {
			t.Errorf("%v is not the same as itself", a)
		}
		for _, b := range all[:i] {
			if got, want := series.Same(a, b), same(a, b); got != want || series.Same(b, a) != want {
				t.Errorf("Same(%v, %v) is %v", a, b, got)
			}
		}
	}
	s := told(t, usual(), story()...)
	for _, other := range changed(s,
		func(s *api.Series) { s.Labels[1].Value = "/a" },
		func(s *api.Series) { s.Labels = s.Labels[:1] },
		func(s *api.Series) { s.Last++ },
		func(s *api.Series) { s.Raw.Lost++ },
		func(s *api.Series) { s.Raw.Mark++ },
		func(s *api.Series) { s.Raw.L[0].V++ },
		func(s *api.Series) { s.Tiers[0][3].Cell.Inc.Hi++ },
		func(s *api.Series) { s.Tiers[1][4].Window++ },
		func(s *api.Series) { s.Tiers[2] = s.Tiers[2][:5] },
		func(s *api.Series) { s.Open.Window++ },
		func(s *api.Series) { s.Open.Cell.Last.C++ },
	) {
		if series.Same(s, other) || series.Same(other, s) {
			t.Errorf("%v is the same as %v", s, other)
		}
	}
}

// 15.1
func TestDead(t *testing.T) {
	long := config(3, widths{10, 20, 60}, counts{100, 30, 1})
	middle := config(3, widths{10, 20, 60}, counts{4, 40, 1})
	for _, x := range []struct {
		c         api.Config
		last, now int64
		want      bool
	}{
		{usual(), 5, 359, false}, {usual(), 5, 360, true}, {usual(), 59, 359, false}, {usual(), 59, 360, true},
		{usual(), 60, 360, false}, {usual(), 60, 419, false}, {usual(), 60, 420, true}, {usual(), 0, lately, true},
		{long, 5, 999, false}, {long, 5, 1000, true}, {long, 9, 1000, true}, {long, 10, 1000, false}, {long, 10, 1010, true},
		{middle, 5, 799, false}, {middle, 5, 800, true}, {middle, 20, 819, false}, {middle, 20, 820, true},
		{usual(), -1, lately, false}, {usual(), math.MinInt64, lately, false}, {usual(), api.MaxTime, lately, false}, {usual(), math.MaxInt64, lately, false},
		{usual(), 5, -1, false}, {usual(), 5, api.MaxTime, false}, {usual(), 5, math.MaxInt64, false}, {usual(), 5, math.MinInt64, false},
		{usual(), 500, 5, false}, {usual(), lately, lately, false}, {usual(), lately, 0, false}, {usual(), 0, 0, false},
	} {
		if got := series.Dead(x.c, x.last, x.now); got != x.want {
			t.Errorf("Dead(%v, %d, %d) is %v", x.c, x.last, x.now, got)
		}
	}
	for _, c := range wrongConfigs() {
		if series.Dead(c, 0, lately) {
			t.Errorf("Dead(%v) holds", c)
		}
	}
}

// puts ends a test, if Put does not answer so, or changes what is handed in.
func puts(t *testing.T, c api.Config, s api.Series, e api.Event, want api.Series, err api.Errno) api.Series {
	t.Helper()
	before := copied(s)
	got, told := series.Put(c, s, e)
	if !same(got, want) || told != err {
		t.Fatalf("Put(%v, %v, %v) is %v, %d, not %v, %d", c, s, e, got, told, want, err)
	}
	if !same(s, before) {
		t.Fatalf("what was handed in is %v, and was %v", s, before)
	}
	return got
}

// 15.2
func TestPut(t *testing.T) {
	c := usual()
	s := told(t, c)
	for n, e := range story() {
		s = puts(t, c, s, e, told(t, c, story()[:n+1]...), api.OK)
	}
	if s.Raw.Lost != 4 || s.Raw.Mark != 38 || s.Open != slot(6, of(t, story()[4:]...)) || s.Last != 69 {
		t.Errorf("it is %v", s)
	}
	if s.Tiers[0][3] != slot(3, of(t, at(31, 2), at(38, 4))) || s.Tiers[1][0] != slot(0, of(t, at(5, 7), at(15, 9))) || s.Tiers[2][0] != slot(0, of(t, story()[:4]...)) {
		t.Errorf("its tiers are %v", s.Tiers)
	}
	// Each time from the next one on may be put: in the open window, in the next one, and wherever nothing is left.
	for _, next := range []int64{70, 79, 80, 119, 120, 130, 300, 4000, lately} {
		puts(t, c, s, at(next, 3), told(t, c, append(story(), at(next, 3))...), api.OK)
	}
}

// 15.2: the first event, whenever it is.
func TestPutFirst(t *testing.T) {
	for _, c := range configs() {
		for _, e := range []api.Event{at(0, 0), at(0, 9), at(1, math.MaxUint64), at(9, 1), at(10, 1), at(lately, 1), {T: 50, Stale: true}, {T: 50, V: 3, C: 50}} {
			s := puts(t, c, told(t, c), e, told(t, c, e), api.OK)
			if err := series.Check(c, s); err != api.OK {
				t.Errorf("Check(%v, %v) is %d", c, s, err)
			}
		}
	}
}

// 15.2
func TestPutWrong(t *testing.T) {
	c := usual()
	s := told(t, c, story()...)
	for _, e := range wrongEvents() {
		puts(t, c, s, e, api.Series{}, api.ErrForm)
		puts(t, c, told(t, c), e, api.Series{}, api.ErrForm)
	}
	for _, e := range []api.Event{at(69, 1), at(68, 1), at(60, 1), at(59, 1), at(5, 1), at(0, 1), {T: 69, Stale: true}, {T: 69, V: 9, C: 69}} {
		puts(t, c, s, e, api.Series{}, api.ErrTime)
	}
	puts(t, c, told(t, c, at(0, 1)), at(0, 1), api.Series{}, api.ErrTime)
	puts(t, c, told(t, c, at(lately, 1)), at(lately, 1), api.Series{}, api.ErrTime)
	for _, e := range append(wrongEvents(), at(0, 1), at(69, 1), at(70, 1), at(lately, 1)) {
		for _, other := range wrong(t) {
			puts(t, c, other, e, api.Series{}, api.ErrForm)
		}
		for _, other := range wrongConfigs() {
			puts(t, other, s, e, api.Series{}, api.ErrForm)
		}
	}
}

// 15.2: no more events can be lost than may be.
func TestPutLost(t *testing.T) {
	c := usual()
	s := told(t, c, story()...)
	s.Raw.Lost = mostLost
	for _, next := range []int64{70, 79, 80, 120, lately} {
		puts(t, c, s, at(next, 1), api.Series{}, api.ErrRange)
		before := s
		before.Raw.Lost--
		want := told(t, c, append(story(), at(next, 1))...)
		want.Raw.Lost = mostLost
		puts(t, c, before, at(next, 1), want, api.OK)
	}
	puts(t, c, s, at(69, 1), api.Series{}, api.ErrTime)
	puts(t, c, s, at(-1, 1), api.Series{}, api.ErrForm)
}

// 15.4: what an answer has otherwise is not what was handed in, and two that go on from one series do not meet.
func TestPutMemory(t *testing.T) {
	c := usual()
	s := told(t, c, story()...)
	before := copied(s)
	a := puts(t, c, s, at(125, 3), told(t, c, append(story(), at(125, 3))...), api.OK)
	b := puts(t, c, s, at(131, 4), told(t, c, append(story(), at(131, 4))...), api.OK)
	for i := range a.Raw.L {
		a.Raw.L[i].V = 99
	}
	for k := range a.Tiers {
		clear(a.Tiers[k])
	}
	if !same(s, before) || !same(b, told(t, c, append(story(), at(131, 4))...)) {
		t.Errorf("what Put answers shares what changed: %v, %v", s, b)
	}
	short := told(t, c, at(5, 7))
	short.Raw.L = slices.Grow(short.Raw.L, 9)
	x := puts(t, c, short, at(6, 1), told(t, c, at(5, 7), at(6, 1)), api.OK)
	puts(t, c, short, at(7, 2), told(t, c, at(5, 7), at(7, 2)), api.OK)
	if !same(x, told(t, c, at(5, 7), at(6, 1))) {
		t.Errorf("what Put answers shares its events: %v", x)
	}
}

// isCell ends a test, if Cell does not answer so, or changes what is handed in.
func isCell(t *testing.T, c api.Config, s api.Series, k int, i int64, want api.Cell, err api.Errno) {
	t.Helper()
	before := copied(s)
	got, told := series.Cell(c, s, k, i)
	if got != want || told != err {
		t.Fatalf("Cell(%v, %v, %d, %d) is %v, %d, not %v, %d", c, s, k, i, got, told, want, err)
	}
	if !same(s, before) {
		t.Fatalf("what was handed in is %v, and was %v", s, before)
	}
}

// 15.3
func TestCell(t *testing.T) {
	c, l := usual(), story()
	s := told(t, c, l...)
	for k, want := range [][]api.Cell{
		{of(t, l[0]), of(t, l[1]), {}, of(t, l[2], l[3]), {}, {}, of(t, l[4:]...), {}, {}, {}},
		{of(t, l[:2]...), of(t, l[2], l[3]), {}, of(t, l[4:]...), {}, {}},
		{of(t, l[:4]...), of(t, l[4:]...), {}, {}},
	} {
		for i, x := range want {
			isCell(t, c, s, k, int64(i), x, api.OK)
		}
		for _, i := range []int64{100, lately / c.W[k], lately, api.MaxTime, math.MaxInt64} {
			isCell(t, c, s, k, i, api.Cell{}, api.OK)
			isCell(t, c, told(t, c), k, i, api.Cell{}, api.OK)
		}
		isCell(t, c, told(t, c), k, 0, api.Cell{}, api.OK)
		for _, i := range []int64{-1, -6, math.MinInt64} {
			isCell(t, c, s, k, i, api.Cell{}, api.ErrRange)
			isCell(t, c, told(t, c), k, i, api.Cell{}, api.ErrRange)
		}
	}
}

// 15.3: a window that is open in an upper tier is of what is closed in the tier below, and of what is open there.
func TestCellOpen(t *testing.T) {
	c := usual()
	l := []api.Event{at(59, 1), at(65, 6), at(75, 9), at(88, 1), at(93, 4), at(97, 6), at(101, 8), at(118, 3)}
	for n := 1; n < len(l); n++ {
		s := told(t, c, l[:n+1]...)
		last := l[n].T
		isCell(t, c, s, 0, last/10, of(t, within(l[:n+1], 10, last/10)...), api.OK)
		isCell(t, c, s, 1, last/20, of(t, within(l[:n+1], 20, last/20)...), api.OK)
		isCell(t, c, s, 2, 1, of(t, l[1:n+1]...), api.OK)
		isCell(t, c, s, 2, 0, of(t, l[0]), api.OK)
	}
	// What is open in the third tier is told of the second one, and that just of windows behind those that are closed there.
	s := told(t, c, l...)
	s.Tiers[0][0] = slot(8, one(85))
	isCell(t, c, s, 2, 1, of(t, l[1:]...), api.OK)
	s.Tiers[1][4] = slot(4, one(85))
	isCell(t, c, s, 2, 1, of(t, append([]api.Event{l[1], l[2], at(85, 7)}, l[6:]...)...), api.OK)
}

// 15.3: windows that are gone, and were not put over, are told, too.
func TestCellGone(t *testing.T) {
	c := usual()
	l := append(story(), at(905, 1))
	s := told(t, c, l...)
	isCell(t, c, s, 0, 0, of(t, l[0]), api.OK)
	isCell(t, c, s, 1, 3, of(t, l[4:7]...), api.OK)
	isCell(t, c, s, 2, 0, of(t, l[:4]...), api.OK)
	isCell(t, c, s, 2, 15, of(t, l[7]), api.OK)
	l = append(l, at(1000, 1))
	s = told(t, c, l...)
	isCell(t, c, s, 0, 90, of(t, l[7]), api.OK)
	isCell(t, c, s, 0, 6, api.Cell{}, api.OK)
	isCell(t, c, s, 0, 2, api.Cell{}, api.OK)
}

// 15.3
func TestCellWrong(t *testing.T) {
	c := usual()
	s := told(t, c, story()...)
	for _, k := range []int{math.MinInt, -1, 3, 4, math.MaxInt} {
		for _, i := range []int64{-1, 0, 6, math.MaxInt64} {
			isCell(t, c, s, k, i, api.Cell{}, api.ErrRange)
			isCell(t, c, told(t, c), k, i, api.Cell{}, api.ErrRange)
		}
	}
	for _, k := range []int{-1, 0, 1, 2, 3} {
		for _, i := range []int64{-1, 0, 6, math.MaxInt64} {
			for _, other := range wrong(t) {
				isCell(t, c, other, k, i, api.Cell{}, api.ErrForm)
			}
			for _, other := range wrongConfigs() {
				isCell(t, other, s, k, i, api.Cell{}, api.ErrForm)
			}
		}
	}
}

// isRange ends a test, if Range does not answer so, or changes what is handed in.
func isRange(t *testing.T, c api.Config, s api.Series, k int, i, j int64, want api.Cell, err api.Errno) {
	t.Helper()
	before := copied(s)
	got, told := series.Range(c, s, k, i, j)
	if got != want || told != err {
		t.Fatalf("Range(%v, %v, %d, %d, %d) is %v, %d, not %v, %d", c, s, k, i, j, got, told, want, err)
	}
	if !same(s, before) {
		t.Fatalf("what was handed in is %v, and was %v", s, before)
	}
}

// 15.3
func TestRange(t *testing.T) {
	c, l := usual(), story()
	s := told(t, c, l...)
	for k, w := range c.W {
		for i := range int64(9) {
			for j := i; j < 10; j++ {
				in := slices.DeleteFunc(slices.Clone(l), func(e api.Event) bool { return e.T/w < i || e.T/w >= j })
				isRange(t, c, s, k, i, j, of(t, in...), api.OK)
				isRange(t, c, told(t, c), k, i, j, api.Cell{}, api.OK)
			}
		}
		for _, far := range []int64{100, lately / w, api.MaxTime, math.MaxInt64} {
			isRange(t, c, s, k, 0, far, of(t, l...), api.OK)
			isRange(t, c, s, k, far, far, api.Cell{}, api.OK)
			isRange(t, c, s, k, far, math.MaxInt64, api.Cell{}, api.OK)
			isRange(t, c, told(t, c), k, 0, far, api.Cell{}, api.OK)
		}
	}
}

// 15.3: a range is of all windows that are told, one by one.
func TestRangeOfCells(t *testing.T) {
	c := usual()
	for _, s := range right(t) {
		for k := range 3 {
			for i := range int64(9) {
				var all []api.Cell
				for j := i; j < 10; j++ {
					want, err := cell.All(all...)
					if err != api.OK {
						t.Fatalf("All(%v) is %d", all, err)
					}
					isRange(t, c, s, k, i, j, want, api.OK)
					x, _ := series.Cell(c, s, k, j)
					all = append(all, x)
				}
			}
		}
	}
}

// 15.3
func TestRangeWrong(t *testing.T) {
	c := usual()
	s := told(t, c, story()...)
	for _, k := range []int{math.MinInt, -1, 3, math.MaxInt} {
		isRange(t, c, s, k, 0, 1, api.Cell{}, api.ErrRange)
		isRange(t, c, s, k, 0, 0, api.Cell{}, api.ErrRange)
	}
	far := [][2]int64{{-1, 5}, {-1, -1}, {math.MinInt64, math.MaxInt64}, {1, 0}, {0, -1}, {5, 4}, {math.MaxInt64, 0}, {math.MaxInt64, math.MinInt64}}
	for k := range 3 {
		for _, r := range far {
			isRange(t, c, s, k, r[0], r[1], api.Cell{}, api.ErrRange)
			isRange(t, c, told(t, c), k, r[0], r[1], api.Cell{}, api.ErrRange)
		}
	}
	for _, k := range []int{-1, 0, 2, 3} {
		for _, r := range append(far, [2]int64{0, 9}) {
			for _, other := range wrong(t) {
				isRange(t, c, other, k, r[0], r[1], api.Cell{}, api.ErrForm)
			}
			for _, other := range wrongConfigs() {
				isRange(t, other, s, k, r[0], r[1], api.Cell{}, api.ErrForm)
			}
		}
	}
}

// some is an event of the time t.
func some(source *rand.Rand, t int64) api.Event {
	switch source.IntN(6) {
	case 0:
		return api.Event{T: t, Stale: true}
	case 1:
		return api.Event{T: t, V: source.Uint64N(9), C: source.Int64N(t + 1)}
	case 2:
		return at(t, math.MaxUint64-source.Uint64N(9))
	}
	return at(t, source.Uint64N(9))
}

// someConfig is a configuration that keeps few events, and few windows.
func someConfig(source *rand.Rand) api.Config {
	first, second, third := 1+source.Int64N(12), 1+source.Int64N(4), 1+source.Int64N(4)
	return config(1+source.IntN(6), widths{first, first * second, first * second * third}, counts{int(second) + source.IntN(3), int(third) + source.IntN(3), 1 + source.IntN(4)})
}

// exact ends a test, if a window that is kept when the last event happened has another cell than its events, or if tiers that have a range tell of it otherwise.
func exact(t *testing.T, source *rand.Rand, c api.Config, s api.Series, l []api.Event) {
	t.Helper()
	for k, w := range c.W {
		newest := s.Last / w
		oldest := max(0, newest-int64(c.N[k])+1)
		for i := oldest; i <= newest+1; i++ {
			isCell(t, c, s, k, i, of(t, within(l, w, i)...), api.OK)
		}
		i := oldest + source.Int64N(newest-oldest+2)
		j := i + source.Int64N(newest-oldest+3)
		in := slices.DeleteFunc(slices.Clone(l), func(e api.Event) bool { return e.T < i*w || e.T >= j*w })
		isRange(t, c, s, k, i, j, of(t, in...), api.OK)
		// The same times, in windows of the tiers below, told of those that have all of them.
		for below := range k {
			each := w / c.W[below]
			if i*each >= max(0, s.Last/c.W[below]-int64(c.N[below])+1) {
				isRange(t, c, s, below, i*each, j*each, of(t, in...), api.OK)
			}
		}
	}
}

// 15.2, 15.5
func TestExact(t *testing.T) {
	source := rand.New(rand.NewPCG(15, 5))
	for range 200 {
		c := someConfig(source)
		if err := conf.Check(c); err != api.OK {
			t.Fatalf("%v is not right", c)
		}
		s, err := series.New(c, labels())
		if err != api.OK {
			t.Fatalf("New(%v) is %d", c, err)
		}
		var l []api.Event
		now := source.Int64N(3 * c.W[2])
		for range 60 {
			e := some(source, now)
			l = append(l, e)
			s = puts(t, c, s, e, told(t, c, l...), api.OK)
			if err := series.Check(c, s); err != api.OK {
				t.Fatalf("Check(%v, %v) is %d", c, s, err)
			}
			exact(t, source, c, s, l)
			now += 1 + source.Int64N(1+c.W[source.IntN(3)])
			if source.IntN(15) == 0 {
				now += source.Int64N(5 * c.W[2])
			}
		}
	}
}

// 15.5: at the end of time, with the greatest values, and the widest windows.
func TestExactLately(t *testing.T) {
	for _, c := range configs() {
		s := told(t, c)
		var l []api.Event
		for n := range int64(40) {
			e := at(lately-39*c.W[0]/40+n*c.W[0]/40, math.MaxUint64*uint64(n%2))
			if len(l) > 0 && e.T <= s.Last {
				continue
			}
			l = append(l, e)
			s = puts(t, c, s, e, told(t, c, l...), api.OK)
		}
		for k, w := range c.W {
			isCell(t, c, s, k, s.Last/w, of(t, within(l, w, s.Last/w)...), api.OK)
			isCell(t, c, s, k, s.Last/w+1, api.Cell{}, api.OK)
		}
	}
}
