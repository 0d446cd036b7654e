package state_test

import (
	"math"
	"math/rand/v2"
	"slices"
	"strconv"
	"strings"
	"testing"

	"plimsoll/api"
	"plimsoll/series"
	"plimsoll/state"
)

const lately = api.MaxTime - 1

type widths = [3]int64
type counts = [3]int

func at(t int64, v uint64) api.Event {
	return api.Event{T: t, V: v}
}

func name(s string) []api.Label {
	return []api.Label{{Name: "__name__", Value: s}}
}

// config keeps so many windows of these widths, of so many series.
func config(w widths, n counts, places int) api.Config {
	return api.Config{Raw: 3, W: w, N: n, Cap: places, Log: api.MaxLog}
}

// usual has windows of 10, 20 and 60 milliseconds, and five places. What happened at 5 is dead at 360.
func usual() api.Config {
	return config(widths{10, 20, 60}, counts{4, 5, 6}, 5)
}

// greatest is a configuration of just MaxDisk sectors.
func greatest() api.Config {
	return api.Config{Raw: 4080, W: widths{1, 2, 4}, N: counts{4096, 2876, 4}, Cap: 8386, Log: 5170}
}

// configs are right: the edges.
func configs() []api.Config {
	return []api.Config{
		usual(),
		greatest(),
		{Raw: 1, W: widths{1, 1, 1}, N: counts{1, 1, 1}, Cap: 1, Log: 6},
		{Raw: 1, W: widths{1, 1, 1}, N: counts{1, 1, 1}, Cap: api.MaxCap, Log: 6},
		{Raw: 7, W: widths{7, 7, 7}, N: counts{1, 2, 3}, Cap: 2, Log: 7},
		config(widths{api.MaxWidth >> 2, api.MaxWidth >> 1, api.MaxWidth}, counts{2, 2, 40}, 3),
	}
}

// changedConfigs are copies of c, each with one change.
func changedConfigs(c api.Config, changes ...func(c *api.Config)) []api.Config {
	var l []api.Config
	for _, change := range changes {
		other := c
		change(&other)
		l = append(l, other)
	}
	return l
}

// wrongConfigs are not right, each for one cause.
func wrongConfigs() []api.Config {
	return append(changedConfigs(usual(),
		func(c *api.Config) { c.Raw = 0 },
		func(c *api.Config) { c.Raw = api.MaxRaw + 1 },
		func(c *api.Config) { c.W = widths{} },
		func(c *api.Config) { c.W[0] = 0 },
		func(c *api.Config) { c.W[1] = 25 },
		func(c *api.Config) { c.W[2] = 50 },
		func(c *api.Config) { c.N[0] = 1 },
		func(c *api.Config) { c.N[1] = 2 },
		func(c *api.Config) { c.N[2] = 0 },
		func(c *api.Config) { c.N[2] = api.MaxSlots + 1 },
		func(c *api.Config) { c.Cap = 0 },
		func(c *api.Config) { c.Cap = -5 },
		func(c *api.Config) { c.Cap = api.MaxCap + 1 },
		func(c *api.Config) { c.Log = 1 },
		func(c *api.Config) { c.Log = api.MaxLog + 1 },
	), api.Config{})
}

// made is the series of these labels to which l happened.
func made(t *testing.T, c api.Config, names []api.Label, l ...api.Event) api.Series {
	t.Helper()
	s, err := series.New(c, names)
	for _, e := range l {
		if err == api.OK {
			s, err = series.Put(c, s, e)
		}
	}
	if err != api.OK {
		t.Fatalf("no series of %v has %v: %d", names, l, err)
	}
	return s
}

// holds is a state with these places, and empty ones behind them.
func holds(c api.Config, now, swept int64, l ...api.Series) api.State {
	s := api.State{Config: c, Now: now, Swept: swept, Places: make([]api.Series, c.Cap)}
	copy(s.Places, l)
	return s
}

// story is a state with an empty place ahead of others: one is dead, and one that lives has the dead one's labels.
func story(t *testing.T) api.State {
	c := usual()
	return holds(c, 365, 360,
		api.Series{},
		made(t, c, name("a"), at(5, 1)),
		made(t, c, name("b"), at(59, 3), at(60, 4)),
		made(t, c, name("a"), at(300, 1), at(369, 8)),
	)
}

func copiedSeries(s api.Series) api.Series {
	s.Labels = slices.Clone(s.Labels)
	s.Raw.L = slices.Clone(s.Raw.L)
	for k := range s.Tiers {
		s.Tiers[k] = slices.Clone(s.Tiers[k])
	}
	return s
}

// copied is s in memory of its own.
func copied(s api.State) api.State {
	s.Places = slices.Clone(s.Places)
	for i, p := range s.Places {
		s.Places[i] = copiedSeries(p)
	}
	return s
}

// sameSeries asks field by field, so that the tests do not lean on series.Same.
func sameSeries(a, b api.Series) bool {
	for k := range a.Tiers {
		if !slices.Equal(a.Tiers[k], b.Tiers[k]) {
			return false
		}
	}
	if a.Raw.Lost != b.Raw.Lost || a.Raw.Mark != b.Raw.Mark || !slices.Equal(a.Raw.L, b.Raw.L) {
		return false
	}
	return slices.Equal(a.Labels, b.Labels) && a.Last == b.Last && a.Open == b.Open
}

func same(a, b api.State) bool {
	return a.Config == b.Config && a.Now == b.Now && a.Swept == b.Swept && slices.EqualFunc(a.Places, b.Places, sameSeries)
}

// changed are copies of s, each with one change.
func changed(s api.State, changes ...func(s *api.State)) []api.State {
	var l []api.State
	for _, change := range changes {
		other := copied(s)
		change(&other)
		l = append(l, other)
	}
	return l
}

// right are states that are right.
func right(t *testing.T) []api.State {
	c := usual()
	a, b := made(t, c, name("a"), at(5, 1)), made(t, c, name("b"), at(5, 1))
	many := []api.Label{{Name: "__name__", Value: "a"}, {Name: "b"}}
	l := []api.State{
		holds(c, 0, -1), holds(c, 0, 0), holds(c, 5, 5), holds(c, lately, -1), holds(c, lately, lately),
		holds(c, 0, -1, made(t, c, name("a"), at(9, 1))),
		holds(c, 9, -1, made(t, c, name("a"), at(0, 1))),
		holds(c, 10, -1, made(t, c, name("a"), at(19, 1))),
		holds(c, lately, -1, made(t, c, name("a"), at(lately, 1))),
		holds(c, lately-9, 0, made(t, c, name("a"), at(lately-8, 1)), made(t, c, name("b"), at(0, 1))),
		holds(c, 5, -1, a, b, made(t, c, name(""), at(5, 1)), made(t, c, many, at(5, 1)), made(t, c, many[1:], at(5, 1))),
		// One that lives is alone with its labels, whether ahead of dead ones or behind them.
		holds(c, 365, 360, a, a, a, made(t, c, name("a"), at(360, 1)), a),
		holds(c, 365, 360, made(t, c, name("a"), at(60, 1)), a, a, a, a),
		// What is not swept yet lives, however old it is.
		holds(c, lately, -1, a, b), holds(c, lately, 359, b, a),
	}
	l = append(l, changed(story(t),
		func(s *api.State) {},
		func(s *api.State) { s.Now = 360 },
		func(s *api.State) { s.Now, s.Swept = 369, 369 },
		func(s *api.State) { s.Now = lately },
		func(s *api.State) { s.Config.Log = 8 },
		func(s *api.State) { s.Places[4] = s.Places[1] },
		func(s *api.State) { s.Places[4] = made(t, c, name("c"), at(9, 1)) },
		func(s *api.State) { s.Places[2].Labels = name("c") },
		func(s *api.State) { s.Places[3], s.Places[0] = api.Series{}, s.Places[3] },
		// Lists that have nothing are nothing.
		func(s *api.State) { s.Places[0].Labels, s.Places[0].Raw.L = []api.Label{}, []api.Event{} },
		func(s *api.State) { s.Places[4].Tiers = [3][]api.Slot{{}, {}, {}} },
	)...)
	return l
}

// wrongPlaces are no right series of the usual configuration, and no empty places either, each for one cause.
func wrongPlaces(t *testing.T) []api.Series {
	c := usual()
	l := []api.Series{{Last: -1}, {Last: 1}, {Last: math.MinInt64}, {Labels: name("x")}, {Labels: name("x"), Last: -1}, {Raw: api.Raw{Lost: 1}}, {Raw: api.Raw{Mark: 1}}}
	l = append(l, api.Series{Raw: api.Raw{L: []api.Event{{}}}}, api.Series{Open: api.Slot{Window: 1}}, api.Series{Open: api.Slot{Cell: api.Cell{Count: 1}}}, made(t, c, name("x")))
	for k := range c.N {
		var s api.Series
		s.Tiers[k] = make([]api.Slot, c.N[k])
		l = append(l, s)
	}
	for _, change := range []func(s *api.Series){
		func(s *api.Series) { s.Labels = nil },
		func(s *api.Series) { s.Labels = name(strings.Repeat("x", api.MaxValue+1)) },
		func(s *api.Series) { s.Last = -1 },
		func(s *api.Series) { s.Last++ },
		func(s *api.Series) { s.Raw = api.Raw{} },
		func(s *api.Series) { s.Raw.L = append(s.Raw.L, at(366, 1), at(367, 1), at(369, 8)) },
		func(s *api.Series) { s.Open = api.Slot{} },
		func(s *api.Series) { s.Open.Window-- },
		func(s *api.Series) { s.Tiers[0] = s.Tiers[0][1:] },
		func(s *api.Series) { s.Tiers[1] = append(s.Tiers[1], api.Slot{}) },
		func(s *api.Series) { s.Tiers[2] = nil },
		func(s *api.Series) { s.Tiers[2][5].Cell.Count++ },
	} {
		s := copiedSeries(story(t).Places[3])
		change(&s)
		l = append(l, s)
	}
	// They are right of another configuration.
	l = append(l, made(t, config(widths{10, 20, 60}, counts{5, 5, 6}, 5), name("x"), at(5, 1)))
	return append(l, made(t, config(widths{5, 20, 60}, counts{4, 5, 6}, 5), name("x"), at(5, 1)))
}

// placeless are states whose configuration is not right, or that have fewer places than it says, or more.
func placeless(t *testing.T) []api.State {
	var l []api.State
	for _, c := range wrongConfigs() {
		l = append(l, changed(story(t), func(s *api.State) { s.Config = c })...)
		l = append(l, api.State{Config: c, Now: 365, Swept: -1})
	}
	l = append(l, changed(story(t),
		func(s *api.State) { s.Places = nil },
		func(s *api.State) { s.Places = s.Places[:4] },
		func(s *api.State) { s.Places = append(s.Places, api.Series{}) },
		func(s *api.State) { s.Config.Cap = 4 },
		func(s *api.State) { s.Config.Cap = 6 },
	)...)
	return append(l, api.State{}, api.State{Swept: -1}, api.State{Config: usual()})
}

// timeless are states that have their places, but times that are not right, each for one cause.
func timeless(t *testing.T) []api.State {
	var l []api.State
	for _, now := range []int64{-1, -365, math.MinInt64, api.MaxTime, math.MaxInt64} {
		l = append(l, holds(usual(), now, -1), holds(usual(), now, now))
		l = append(l, changed(story(t), func(s *api.State) { s.Now = now }, func(s *api.State) { s.Now, s.Swept = now, -1 })...)
	}
	for _, swept := range []int64{-2, math.MinInt64, 366, lately, api.MaxTime, math.MaxInt64} {
		l = append(l, holds(usual(), 365, swept))
		l = append(l, changed(story(t), func(s *api.State) { s.Swept = swept })...)
	}
	return l
}

// odd are states that have their places, but are not right for what is in these.
func odd(t *testing.T) []api.State {
	c := usual()
	var l []api.State
	for _, p := range wrongPlaces(t) {
		for i := range c.Cap {
			l = append(l, changed(story(t), func(s *api.State) { s.Places[i] = p })...)
		}
		l = append(l, holds(c, lately, -1, p), holds(c, lately, lately, p))
	}
	a := made(t, c, name("a"), at(5, 1))
	for _, last := range []int64{370, 371, 400, lately} {
		l = append(l, changed(story(t), func(s *api.State) { s.Places[0] = made(t, c, name("x"), at(last, 1)) })...)
		l = append(l, changed(story(t), func(s *api.State) { s.Places[4] = made(t, c, name("x"), at(9, 1), at(last, 1)) })...)
	}
	l = append(l, holds(c, 9, -1, made(t, c, name("a"), at(10, 1))), holds(c, 0, 0, made(t, c, name("a"), at(10, 1))))
	l = append(l, holds(c, 5, -1, a, a), holds(c, 5, -1, api.Series{}, a, api.Series{}, api.Series{}, a))
	l = append(l, holds(c, lately, -1, a, made(t, c, name("a"), at(lately, 1))), holds(c, lately, 359, a, made(t, c, name("a"), at(6, 1))))
	return append(l, changed(story(t),
		func(s *api.State) { s.Swept = -1 },
		func(s *api.State) { s.Swept = 359 },
		func(s *api.State) { s.Places[2].Labels = name("a") },
		func(s *api.State) { s.Places[0] = s.Places[2] },
	)...)
}

// 17.1
func TestNew(t *testing.T) {
	for _, c := range configs() {
		s, err := state.New(c)
		if !same(s, holds(c, 0, -1)) || err != api.OK {
			t.Fatalf("New(%v) is at %d, swept at %d, with %d places, %d", c, s.Now, s.Swept, len(s.Places), err)
		}
		if err := state.Check(s); err != api.OK {
			t.Errorf("Check(New(%v)) is %d", c, err)
		}
		s.Places[0] = made(t, c, name("a"), at(0, 1))
		if other, _ := state.New(c); !same(other, holds(c, 0, -1)) {
			t.Errorf("New(%v) has what was put into another one", c)
		}
	}
}

// 17.1
func TestNewWrong(t *testing.T) {
	for _, c := range wrongConfigs() {
		if s, err := state.New(c); !same(s, api.State{}) || err != api.ErrForm {
			t.Errorf("New(%v) is %v, %d", c, s, err)
		}
	}
	great := changedConfigs(greatest(),
		func(c *api.Config) { c.Log++ },
		func(c *api.Config) { c.Cap++ },
		func(c *api.Config) { c.Raw++ },
		func(c *api.Config) { c.N[2]++ },
	)
	most := api.Config{Raw: api.MaxRaw, W: widths{1, 1, 1}, N: counts{api.MaxSlots, api.MaxSlots, api.MaxSlots}, Cap: api.MaxCap, Log: api.MaxLog}
	for _, c := range append(great, most) {
		if s, err := state.New(c); !same(s, api.State{}) || err != api.ErrRange {
			t.Errorf("New(%v) has %d places, %d", c, len(s.Places), err)
		}
	}
}

// 17.1
func TestCheck(t *testing.T) {
	for i, s := range right(t) {
		before := copied(s)
		if err := state.Check(s); err != api.OK {
			t.Errorf("Check(%v), the right state %d, is %d", s, i, err)
		}
		if !same(s, before) {
			t.Errorf("Check changes %v", before)
		}
	}
	for i, s := range slices.Concat(placeless(t), timeless(t), odd(t)) {
		before := copied(s)
		if err := state.Check(s); err != api.ErrForm {
			t.Errorf("Check(%v), the wrong state %d, is %d", s, i, err)
		}
		if !same(s, before) {
			t.Errorf("Check changes %v", before)
		}
	}
}

// 17.1: whether a store of such a state would be above MaxDisk is not asked.
func TestCheckGreat(t *testing.T) {
	c := greatest()
	c.Log++
	if err := state.Check(holds(c, 0, -1, made(t, c, name("a"), at(0, 1)))); err != api.OK {
		t.Errorf("Check of a great state is %d", err)
	}
}

// 17.1, 17.2: as many series as there may be, all of which live, are told in good time.
func TestMost(t *testing.T) {
	c := api.Config{Raw: 1, W: widths{1, 1, 1}, N: counts{1, 1, 1}, Cap: api.MaxCap, Log: 6}
	s := holds(c, 0, -1)
	p := made(t, c, name("a"), at(0, 1))
	for i := range s.Places {
		p.Labels = name(strconv.Itoa(i))
		s.Places[i] = p
	}
	if err := state.Check(s); err != api.OK || state.Many(s) != api.MaxCap {
		t.Errorf("Check is %d, Many %d", err, state.Many(s))
	}
	s.Places[api.MaxCap-1].Labels = s.Places[0].Labels
	if err := state.Check(s); err != api.ErrForm {
		t.Errorf("Check of two with the same labels is %d", err)
	}
}

// 17.1
func TestSame(t *testing.T) {
	for _, s := range slices.Concat(right(t), placeless(t), timeless(t), odd(t)) {
		if !state.Same(s, copied(s)) {
			t.Errorf("%v is not the same as itself", s)
		}
	}
	s := story(t)
	for _, other := range changed(s,
		func(s *api.State) { s.Config.Log-- },
		func(s *api.State) { s.Config.N[2]++ },
		func(s *api.State) { s.Now++ },
		func(s *api.State) { s.Swept-- },
		func(s *api.State) { s.Places = s.Places[:4] },
		func(s *api.State) { s.Places = nil },
		func(s *api.State) { s.Places[0], s.Places[1] = s.Places[1], s.Places[0] },
		func(s *api.State) { s.Places[0].Last = 1 },
		func(s *api.State) { s.Places[1].Labels[0].Value = "b" },
		func(s *api.State) { s.Places[2].Raw.L[0].V++ },
		func(s *api.State) { s.Places[2].Tiers[0][1].Cell.Last.C++ },
		func(s *api.State) { s.Places[3].Open.Window++ },
		func(s *api.State) { s.Places[3].Open.Cell.Inc.Hi++ },
	) {
		if state.Same(s, other) || state.Same(other, s) {
			t.Errorf("%v is the same as %v", s, other)
		}
	}
	if !state.Same(api.State{}, api.State{Places: []api.Series{}}) {
		t.Errorf("a list that has nothing is not the same as none")
	}
}

// lives tells it by the chapter's words, of a state that has its places.
func lives(s api.State, i int) bool {
	if i < 0 || i >= len(s.Places) || sameSeries(s.Places[i], api.Series{}) {
		return false
	}
	last := s.Places[i].Last
	if s.Swept < 0 || s.Swept >= api.MaxTime || last < 0 || last >= api.MaxTime {
		return true
	}
	for k, w := range s.Config.W {
		if last/w >= s.Swept/w-int64(s.Config.N[k])+1 {
			return true
		}
	}
	return false
}

// asked ends a test, if a state that has its places does not answer as the chapter's words tell it, or is changed.
func asked(t *testing.T, s api.State, names ...[]api.Label) {
	t.Helper()
	before := copied(s)
	var live []int
	for i := range s.Places {
		if lives(s, i) {
			live = append(live, i)
		}
		if got := state.Lives(s, i); got != lives(s, i) {
			t.Fatalf("Lives(%v, %d) is %v", s, i, got)
		}
	}
	if got := state.Live(s); !slices.Equal(got, live) {
		t.Fatalf("Live(%v) is %v, not %v", s, got, live)
	}
	if got := state.Many(s); got != len(live) {
		t.Fatalf("Many(%v) is %d, not %d", s, got, len(live))
	}
	room, roomErr := 0, api.ErrFull
	for i := range slices.Backward(s.Places) {
		if !lives(s, i) {
			room, roomErr = i, api.OK
		}
	}
	if got, err := state.Room(s); got != room || err != roomErr {
		t.Fatalf("Room(%v) is %d, %d, not %d, %d", s, got, err, room, roomErr)
	}
	for _, l := range names {
		want, wantErr := 0, api.ErrNone
		for _, i := range slices.Backward(live) {
			if slices.Equal(s.Places[i].Labels, l) {
				want, wantErr = i, api.OK
			}
		}
		if got, err := state.Find(s, l); got != want || err != wantErr {
			t.Fatalf("Find(%v, %v) is %d, %d, not %d, %d", s, l, got, err, want, wantErr)
		}
	}
	if !same(s, before) {
		t.Fatalf("what was handed in is %v, and was %v", s, before)
	}
}

// 17.2
func TestLives(t *testing.T) {
	s := story(t)
	for i, want := range []bool{false, false, true, true, false} {
		if got := state.Lives(s, i); got != want {
			t.Errorf("Lives(%d) is %v", i, got)
		}
	}
	for _, i := range []int{math.MinInt, -1, 5, 6, math.MaxInt} {
		if state.Lives(s, i) {
			t.Errorf("Lives(%d) holds", i)
		}
	}
	if got := state.Live(s); !slices.Equal(got, []int{2, 3}) || state.Many(s) != 2 {
		t.Errorf("Live is %v, Many %d", got, state.Many(s))
	}
	s.Swept = -1
	if got := state.Live(s); !slices.Equal(got, []int{1, 2, 3}) || state.Many(s) != 3 {
		t.Errorf("never swept, Live is %v, Many %d", got, state.Many(s))
	}
	s.Now, s.Swept = 428, 428
	if got := state.Live(s); !slices.Equal(got, []int{3}) {
		t.Errorf("swept at 428, Live is %v", got)
	}
	s.Now, s.Swept = lately, lately
	if got := state.Live(s); len(got) != 0 || state.Many(s) != 0 {
		t.Errorf("swept at the end, Live is %v", got)
	}
}

// 17.2: it is Swept that tells, not Now.
func TestLivesUnswept(t *testing.T) {
	s := story(t)
	s.Now, s.Swept = lately, 359
	if !state.Lives(s, 1) || !state.Lives(s, 2) {
		t.Errorf("what is not swept does not live")
	}
	s.Swept = 360
	if state.Lives(s, 1) || !state.Lives(s, 2) {
		t.Errorf("what is swept lives")
	}
}

// 17.2
func TestFind(t *testing.T) {
	s := story(t)
	for _, x := range []struct {
		l    []api.Label
		want int
		err  api.Errno
	}{
		{name("a"), 3, api.OK}, {name("b"), 2, api.OK},
		{name("c"), 0, api.ErrNone}, {name(""), 0, api.ErrNone}, {nil, 0, api.ErrNone}, {[]api.Label{}, 0, api.ErrNone},
		{[]api.Label{{Name: "name", Value: "a"}}, 0, api.ErrNone},
		{append(name("a"), api.Label{Name: "b"}), 0, api.ErrNone},
		{append(name("a"), name("a")...), 0, api.ErrNone},
	} {
		before := slices.Clone(x.l)
		if got, err := state.Find(s, x.l); got != x.want || err != x.err {
			t.Errorf("Find(%v) is %d, %d, not %d, %d", x.l, got, err, x.want, x.err)
		}
		if !slices.Equal(x.l, before) {
			t.Errorf("%v was %v", x.l, before)
		}
	}
	// Of several, that are not right, the first one that lives.
	s.Swept = -1
	if got, err := state.Find(s, name("a")); got != 1 || err != api.OK {
		t.Errorf("Find is %d, %d", got, err)
	}
	s.Places[3] = api.Series{}
	s.Swept = 360
	if got, err := state.Find(s, name("a")); got != 0 || err != api.ErrNone {
		t.Errorf("what is dead is found: %d, %d", got, err)
	}
}

// 17.2
func TestRoom(t *testing.T) {
	c, s := usual(), story(t)
	for _, x := range []struct {
		place int
		want  int
		err   api.Errno
	}{{0, 1, api.OK}, {1, 4, api.OK}, {4, 0, api.ErrFull}} {
		s.Places[x.place] = made(t, c, name(string(rune('m'+x.place))), at(361, 1))
		if got, err := state.Room(s); got != x.want || err != x.err {
			t.Errorf("Room, with %d taken, is %d, %d", x.place, got, err)
		}
	}
	s.Places[2], s.Places[3] = api.Series{}, api.Series{}
	if got, err := state.Room(s); got != 2 || err != api.OK {
		t.Errorf("Room is %d, %d", got, err)
	}
}

// 17.2
func TestMark(t *testing.T) {
	for _, x := range []struct {
		w, now, want int64
	}{
		{10, 0, 0}, {10, 9, 0}, {10, 10, 10}, {10, 365, 360}, {10, 369, 360}, {1, 365, 365}, {7, lately, lately - lately%7}, {1, lately, lately},
		{api.MaxWidth, lately, api.MaxTime - api.MaxWidth}, {api.MaxWidth, api.MaxWidth - 1, 0}, {api.MaxWidth, api.MaxWidth, api.MaxWidth},
		{10, -1, 0}, {10, -365, 0}, {10, math.MinInt64, 0}, {10, api.MaxTime, 0}, {10, api.MaxTime + 365, 0}, {10, math.MaxInt64, 0},
	} {
		c := config(widths{x.w, x.w, x.w}, counts{1, 1, 1}, 2)
		if got := state.Mark(holds(c, x.now, -1)); got != x.want {
			t.Errorf("Mark at %d, of %d, is %d, not %d", x.now, x.w, got, x.want)
		}
	}
	// It needs no right places, just as many as there must be.
	s := story(t)
	s.Places[0].Last = 7
	s.Swept = 400
	if got := state.Mark(s); got != 360 {
		t.Errorf("Mark is %d", got)
	}
}

// 17.2
func TestAsked(t *testing.T) {
	names := [][]api.Label{name("a"), name("b"), name("c"), name("x"), nil, name(strings.Repeat("x", api.MaxValue+1))}
	for _, s := range slices.Concat(right(t), timeless(t), odd(t)) {
		asked(t, s, names...)
	}
}

// 17.2
func TestAskedWrong(t *testing.T) {
	for _, s := range placeless(t) {
		before := copied(s)
		for i := -1; i < 6; i++ {
			if state.Lives(s, i) {
				t.Errorf("Lives(%v, %d) holds", s, i)
			}
		}
		for _, l := range [][]api.Label{name("a"), name("b"), name("c"), nil} {
			if got, err := state.Find(s, l); got != 0 || err != api.ErrForm {
				t.Errorf("Find(%v, %v) is %d, %d", s, l, got, err)
			}
		}
		if got, err := state.Room(s); got != 0 || err != api.ErrForm {
			t.Errorf("Room(%v) is %d, %d", s, got, err)
		}
		if l := state.Live(s); len(l) != 0 || state.Many(s) != 0 || state.Mark(s) != 0 {
			t.Errorf("Live(%v) is %v, Many %d, Mark %d", s, l, state.Many(s), state.Mark(s))
		}
		if !same(s, before) {
			t.Errorf("what was handed in is %v, and was %v", s, before)
		}
	}
}

// some is a state with series that may be right together, or not.
func some(t *testing.T, source *rand.Rand) api.State {
	t.Helper()
	first, second, third := 1+source.Int64N(12), 1+source.Int64N(4), 1+source.Int64N(4)
	c := config(widths{first, first * second, first * second * third}, counts{int(second) + source.IntN(3), int(third) + source.IntN(3), 1 + source.IntN(3)}, 1+source.IntN(6))
	now := source.Int64N(1000)
	s := holds(c, now, source.Int64N(now+3)-1)
	for i := range s.Places {
		if source.IntN(4) == 0 {
			continue
		}
		l := []api.Event{at(source.Int64N(now+1), 1)}
		if source.IntN(2) == 0 {
			l = append(l, at(l[0].T+1+source.Int64N(now-l[0].T+first/2+1), 1))
		}
		s.Places[i] = made(t, c, name(string(rune('a'+source.IntN(8)))), l...)
	}
	return s
}

// isRight tells it by the chapter's words, of a state whose configuration is right, and whose places are right or empty.
func isRight(s api.State) bool {
	w := s.Config.W[0]
	for i, p := range s.Places {
		if p.Last >= s.Now/w*w+w {
			return false
		}
		for j := range i {
			if lives(s, i) && lives(s, j) && slices.Equal(p.Labels, s.Places[j].Labels) {
				return false
			}
		}
	}
	return s.Swept <= s.Now
}

// 17.1, 17.2, 17.3
func TestAsMany(t *testing.T) {
	source := rand.New(rand.NewPCG(17, 3))
	rights := 0
	for range 3000 {
		s := some(t, source)
		asked(t, s, name("a"), name("b"), name("c"), name("d"), name("e"))
		want := api.ErrForm
		if isRight(s) {
			want = api.OK
			rights++
		}
		if err := state.Check(s); err != want {
			t.Fatalf("Check(%v) is %d, not %d", s, err, want)
		}
		if want == api.OK {
			asMany(t, s)
		}
	}
	if rights < 300 || rights > 2700 {
		t.Errorf("%d of the states are right", rights)
	}
}

// asMany ends a test, if a series of a right state is not found by its labels, or if there are not as many places as series live, and as have room for others.
func asMany(t *testing.T, s api.State) {
	t.Helper()
	for _, i := range state.Live(s) {
		if got, err := state.Find(s, s.Places[i].Labels); got != i || err != api.OK {
			t.Fatalf("Find(%v, %v) is %d, %d, not %d", s, s.Places[i].Labels, got, err, i)
		}
	}
	live := state.Many(s)
	full := copied(s)
	for rooms := 0; ; rooms++ {
		i, err := state.Room(full)
		if err != api.OK {
			if rooms+live != len(s.Places) || err != api.ErrFull {
				t.Fatalf("%v has room for %d, %d, and %d live", s, rooms, err, live)
			}
			return
		}
		full.Places[i] = made(t, s.Config, name(strings.Repeat("x", 1+i)), at(s.Now, 1))
		if err := state.Check(full); err != api.OK || state.Many(full) != live+rooms+1 {
			t.Fatalf("Check(%v) is %d", full, err)
		}
	}
}
