package rules_test

import (
	"math"
	"math/rand/v2"
	"slices"
	"strings"
	"testing"

	"plimsoll/api"
	"plimsoll/rules"
	"plimsoll/series"
	"plimsoll/state"
)

const lately = api.MaxTime - 1

type widths = [3]int64
type counts = [3]int

func at(t int64, v uint64) api.Event {
	return api.Event{T: t, V: v}
}

func stale(t int64) api.Event {
	return api.Event{T: t, Stale: true}
}

func name(s string) []api.Label {
	return []api.Label{{Name: "__name__", Value: s}}
}

// config keeps so many windows of these widths, of so many series.
func config(w widths, n counts, places int) api.Config {
	return api.Config{Raw: 3, W: w, N: n, Cap: places, Log: api.MaxLog}
}

// usual has windows of 10, 20 and 60 milliseconds, and five places. What happened at 5 is dead at 360.
func usual() api.Config {
	return config(widths{10, 20, 60}, counts{4, 5, 6}, 5)
}

// one has windows of the width w, and two places.
func one(w int64) api.Config {
	return config(widths{w, w, w}, counts{1, 1, 1}, 2)
}

// made is the series of these labels to which l happened.
func made(t *testing.T, c api.Config, names []api.Label, l ...api.Event) api.Series {
	t.Helper()
	s, err := series.New(c, names)
	for _, e := range l {
		if err == api.OK {
			s, err = series.Put(c, s, e)
		}
	}
	if err != api.OK {
		t.Fatalf("no series of %v has %v: %d", names, l, err)
	}
	return s
}

// holds is a state with these places, and empty ones behind them.
func holds(c api.Config, now, swept int64, l ...api.Series) api.State {
	s := api.State{Config: c, Now: now, Swept: swept, Places: make([]api.Series, c.Cap)}
	copy(s.Places, l)
	return s
}

// story is a state at 365, swept at 360: a and d in the places 1 and 4 are dead, b and e in 2 and 3 live, and 0 is empty.
func story(t *testing.T) api.State {
	c := usual()
	return holds(c, 365, 360, api.Series{},
		made(t, c, name("a"), at(5, 1)),
		made(t, c, name("b"), at(59, 3), at(60, 4)),
		made(t, c, name("e"), at(300, 1), at(363, 8)),
		made(t, c, name("d"), at(7, 1)),
	)
}

// full is the story with a series in each of its places that lives.
func full(t *testing.T) api.State {
	s := story(t)
	for _, i := range []int{0, 1, 4} {
		s.Places[i] = made(t, s.Config, name(string(rune('m'+i))), at(361, 1))
	}
	return s
}

// copied is s in memory of its own.
func copied(s api.State) api.State {
	s.Places = slices.Clone(s.Places)
	for i, p := range s.Places {
		p.Labels = slices.Clone(p.Labels)
		p.Raw.L = slices.Clone(p.Raw.L)
		for k := range p.Tiers {
			p.Tiers[k] = slices.Clone(p.Tiers[k])
		}
		s.Places[i] = p
	}
	return s
}

// changed are copies of s, each with one change.
func changed(s api.State, changes ...func(s *api.State)) []api.State {
	var l []api.State
	for _, change := range changes {
		other := copied(s)
		change(&other)
		l = append(l, other)
	}
	return l
}

// wrong are states that are not right, each for one cause.
func wrong(t *testing.T) []api.State {
	l := []api.State{{}, {Config: usual(), Now: 365, Swept: -1}}
	return append(l, changed(story(t),
		func(s *api.State) { s.Config.Raw = 0 },
		func(s *api.State) { s.Config.W[1] = 25 },
		func(s *api.State) { s.Config.N[0] = 1 },
		func(s *api.State) { s.Config.Log = 1 },
		func(s *api.State) { s.Config.Cap = 4 },
		func(s *api.State) { s.Places = s.Places[:4] },
		func(s *api.State) { s.Places = append(s.Places, api.Series{}) },
		func(s *api.State) { s.Places = nil },
		func(s *api.State) { s.Now = -1 },
		func(s *api.State) { s.Now = api.MaxTime },
		func(s *api.State) { s.Now = 359 },
		func(s *api.State) { s.Now = 349; s.Swept = -1 },
		func(s *api.State) { s.Swept = -2 },
		func(s *api.State) { s.Swept = 366 },
		func(s *api.State) { s.Places[0] = s.Places[2] },
		func(s *api.State) { s.Places[0] = made(t, usual(), name("x")) },
		func(s *api.State) { s.Places[0].Last = 1 },
		func(s *api.State) { s.Places[1].Labels = nil },
		func(s *api.State) { s.Places[1].Raw.L[0].T++ },
		func(s *api.State) { s.Places[3].Open.Window++ },
		func(s *api.State) { s.Places[3].Last++ },
		func(s *api.State) { s.Places[4].Tiers[1] = nil },
		func(s *api.State) { s.Places[4] = made(t, usual(), name("x"), at(370, 1)) },
	)...)
}

// wrongLabels are not right, each for one cause.
func wrongLabels() [][]api.Label {
	var many []api.Label
	for i := range api.MaxLabels + 1 {
		many = append(many, api.Label{Name: strings.Repeat("a", 1+i)})
	}
	return [][]api.Label{
		nil, {}, many,
		{{Name: "", Value: "x"}}, {{Name: "9a"}}, {{Name: strings.Repeat("a", api.MaxLabel+1)}},
		{{Name: "a", Value: strings.Repeat("x", api.MaxValue+1)}},
		{{Name: "b"}, {Name: "a"}}, {{Name: "a"}, {Name: "a"}},
		{{Name: "a", Value: strings.Repeat("x", api.MaxValue)}, {Name: "b", Value: strings.Repeat("x", api.MaxValue-1)}},
	}
}

// wrongEvents are not right, each for one cause, most of them in the open window of the story.
func wrongEvents() []api.Event {
	return []api.Event{
		at(-1, 5), at(math.MinInt64, 5), at(api.MaxTime, 5), at(math.MaxInt64, 5),
		{T: 365, C: 366}, {T: 365, C: -1}, {T: 365, V: 1, Stale: true}, {T: 365, C: 1, Stale: true}, {T: 1, C: 2},
	}
}

// accepts ends a test, if Accept and Where do not answer so, or change what is handed in.
func accepts(t *testing.T, s api.State, l []api.Label, e api.Event, place int, isNew bool, want api.Errno) {
	t.Helper()
	before, names := copied(s), slices.Clone(l)
	if err := rules.Accept(s, l, e); err != want {
		t.Fatalf("Accept(%v, %v, %v) is %d, not %d", s, l, e, err, want)
	}
	if i, is, err := rules.Where(s, l, e); i != place || is != isNew || err != want {
		t.Fatalf("Where(%v, %v, %v) is %d, %v, %d, not %d, %v, %d", s, l, e, i, is, err, place, isNew, want)
	}
	if !state.Same(s, before) || !slices.Equal(l, names) {
		t.Fatalf("what was handed in is %v, %v, and was %v, %v", s, l, before, names)
	}
}

// 18.1
func TestOpen(t *testing.T) {
	for _, x := range []struct {
		w, now, from, to int64
	}{
		{10, 0, 0, 10}, {10, 9, 0, 10}, {10, 10, 10, 20}, {10, 365, 360, 370}, {10, 369, 360, 370}, {10, 370, 370, 380},
		{1, 0, 0, 1}, {1, 365, 365, 366}, {1, lately, lately, api.MaxTime}, {2, lately, api.MaxTime - 2, api.MaxTime},
		{7, lately, lately - lately%7, api.MaxTime}, {1000, lately, lately - lately%1000, api.MaxTime},
		{7, lately - 7, lately - lately%7 - 7, lately - lately%7},
		{api.MaxWidth, 0, 0, api.MaxWidth}, {api.MaxWidth, lately, api.MaxTime - api.MaxWidth, api.MaxTime},
		{api.MaxWidth - 1, lately, 32 * (api.MaxWidth - 1), api.MaxTime},
	} {
		for _, s := range []api.State{holds(one(x.w), x.now, -1), holds(one(x.w), x.now, x.now), holds(one(x.w), x.now, 0, made(t, one(x.w), name("a"), at(0, 1)))} {
			if from, to := rules.Open(s); from != x.from || to != x.to {
				t.Errorf("Open at %d, of %d, is from %d to %d, not from %d to %d", x.now, x.w, from, to, x.from, x.to)
			}
		}
	}
	for _, s := range []api.State{story(t), full(t)} {
		before := copied(s)
		if from, to := rules.Open(s); from != 360 || to != 370 {
			t.Errorf("Open(%v) is from %d to %d", s, from, to)
		}
		if !state.Same(s, before) {
			t.Errorf("what was handed in is %v, and was %v", s, before)
		}
	}
}

// 18.1
func TestOpenWrong(t *testing.T) {
	for _, s := range wrong(t) {
		if from, to := rules.Open(s); from != 0 || to != 0 {
			t.Errorf("Open(%v) is from %d to %d", s, from, to)
		}
	}
}

// 18.2, 18.3
func TestSeriesThatLives(t *testing.T) {
	for _, s := range []api.State{story(t), full(t)} {
		for _, now := range []int64{360, 364, 369} {
			s.Now = now
			accepts(t, s, name("b"), at(360, 0), 2, false, api.OK)
			accepts(t, s, name("b"), at(369, math.MaxUint64), 2, false, api.OK)
			accepts(t, s, name("b"), stale(360), 2, false, api.OK)
			accepts(t, s, name("b"), api.Event{T: 360, V: 1, C: 360}, 2, false, api.OK)
			accepts(t, s, name("e"), at(364, 1), 3, false, api.OK)
			accepts(t, s, name("e"), stale(364), 3, false, api.OK)
			accepts(t, s, name("e"), at(369, 1), 3, false, api.OK)
			for _, e := range []api.Event{at(363, 1), at(363, 8), at(362, 9), at(360, 1), stale(363), stale(361), {T: 363, V: 9, C: 363}} {
				accepts(t, s, name("e"), e, 0, false, api.ErrTime)
			}
		}
	}
}

// 18.2, 18.3: the first place with room, be it empty or a dead one's, even of these labels.
func TestSeriesThatBegins(t *testing.T) {
	s := story(t)
	for _, place := range []int{0, 1, 4} {
		for _, l := range [][]api.Label{name("a"), name("c"), name("d"), name(""), append(name("b"), api.Label{Name: "x"}), {{Name: "b", Value: "b"}}} {
			for _, e := range []api.Event{at(360, 0), at(369, 1), {T: 362, V: 1, C: 362}} {
				accepts(t, s, l, e, place, true, api.OK)
			}
			for _, e := range []api.Event{stale(360), stale(365), stale(369)} {
				accepts(t, s, l, e, 0, false, api.ErrNone)
			}
		}
		s.Places[place] = made(t, s.Config, name(string(rune('m'+place))), at(361, 1))
	}
}

// 18.2, 18.3
func TestFull(t *testing.T) {
	s := full(t)
	for _, l := range [][]api.Label{name("a"), name("c"), name("d")} {
		accepts(t, s, l, at(365, 1), 0, false, api.ErrFull)
		accepts(t, s, l, stale(365), 0, false, api.ErrNone)
	}
	// What is old has room for others just when it was swept.
	s = story(t)
	s.Places[0] = made(t, s.Config, name("x"), at(361, 1))
	s.Swept = 359
	accepts(t, s, name("c"), at(365, 1), 0, false, api.ErrFull)
	accepts(t, s, name("a"), at(365, 1), 1, false, api.OK)
	accepts(t, s, name("d"), stale(365), 4, false, api.OK)
	s.Now, s.Swept = lately, -1
	accepts(t, s, name("c"), at(lately, 1), 0, false, api.ErrFull)
	accepts(t, s, name("a"), at(lately, 1), 1, false, api.OK)
}

// 18.2, 18.3
func TestTimes(t *testing.T) {
	s := story(t)
	for _, l := range [][]api.Label{name("b"), name("e"), name("a"), name("c")} {
		for _, x := range []int64{0, 5, 61, 350, 359, 370, 371, 400, lately} {
			accepts(t, s, l, at(x, 1), 0, false, api.ErrTime)
			accepts(t, s, l, stale(x), 0, false, api.ErrTime)
		}
	}
	for _, w := range []int64{1, 7, 1000, api.MaxWidth - 1, api.MaxWidth} {
		c := one(w)
		accepts(t, holds(c, 0, -1), name("a"), at(0, 1), 0, true, api.OK)
		accepts(t, holds(c, 0, -1), name("a"), at(w-1, 1), 0, true, api.OK)
		accepts(t, holds(c, 0, -1), name("a"), at(w, 1), 0, false, api.ErrTime)
		accepts(t, holds(c, w, -1), name("a"), at(w-1, 1), 0, false, api.ErrTime)
		accepts(t, holds(c, w, -1), name("a"), at(w, 1), 0, true, api.OK)
		accepts(t, holds(c, lately, -1), name("a"), at(lately, 1), 0, true, api.OK)
		accepts(t, holds(c, lately, -1), name("a"), at(lately-w, 1), 0, false, api.ErrTime)
	}
}

// 18.2, 18.3
func TestWrong(t *testing.T) {
	for _, e := range append(wrongEvents(), at(365, 1), stale(365), at(5, 1), at(370, 1)) {
		for _, s := range wrong(t) {
			for _, l := range append(wrongLabels(), name("a"), name("b"), name("c")) {
				accepts(t, s, l, e, 0, false, api.ErrForm)
			}
		}
		for _, s := range []api.State{story(t), full(t)} {
			for _, l := range wrongLabels() {
				accepts(t, s, l, e, 0, false, api.ErrLabels)
			}
		}
	}
	for _, e := range wrongEvents() {
		for _, s := range []api.State{story(t), full(t)} {
			for _, l := range [][]api.Label{name("a"), name("b"), name("c"), name("e")} {
				accepts(t, s, l, e, 0, false, api.ErrForm)
			}
		}
	}
}

// some is a right state with few series, of few labels.
func some(t *testing.T, source *rand.Rand) api.State {
	t.Helper()
	for {
		first, second, third := 1+source.Int64N(9), 1+source.Int64N(3), 1+source.Int64N(3)
		c := config(widths{first, first * second, first * second * third}, counts{int(second), int(third), 1 + source.IntN(3)}, 1+source.IntN(4))
		now := source.Int64N(120)
		s := holds(c, now, source.Int64N(now+2)-1)
		for i := range s.Places {
			if source.IntN(3) == 0 {
				continue
			}
			// A series may have gone on ahead of Now, in its open window.
			last := source.Int64N(now/first*first + first)
			s.Places[i] = made(t, c, name(string(rune('a'+source.IntN(6)))), at(last, 1))
		}
		if state.Check(s) == api.OK {
			return s
		}
	}
}

// told is where e goes, by the chapter's words, if all that is handed in is right.
func told(s api.State, l []api.Label, e api.Event) (int, bool, api.Errno) {
	from := state.Mark(s)
	if e.T < from || e.T >= from+s.Config.W[0] {
		return 0, false, api.ErrTime
	}
	for i, p := range s.Places {
		if !state.Lives(s, i) || !slices.Equal(p.Labels, l) {
			continue
		}
		if e.T <= p.Last {
			return 0, false, api.ErrTime
		}
		return i, false, api.OK
	}
	if e.Stale {
		return 0, false, api.ErrNone
	}
	for i := range s.Places {
		if !state.Lives(s, i) {
			return i, true, api.OK
		}
	}
	return 0, false, api.ErrFull
}

// 18.2, 18.3, 18.4
func TestJustThese(t *testing.T) {
	source := rand.New(rand.NewPCG(18, 4))
	seen := map[api.Errno]int{}
	for range 2000 {
		s := some(t, source)
		mark := state.Mark(s)
		for range 20 {
			l := name(string(rune('a' + source.IntN(6))))
			e := api.Event{T: max(0, mark-2+source.Int64N(s.Config.W[0]+4)), Stale: source.IntN(4) == 0}
			place, isNew, want := told(s, l, e)
			accepts(t, s, l, e, place, isNew, want)
			seen[want]++
			if want == api.OK {
				goes(t, s, place, isNew, l, e)
			}
		}
	}
	for _, err := range []api.Errno{api.OK, api.ErrTime, api.ErrNone, api.ErrFull} {
		if seen[err] < 100 {
			t.Errorf("just %d are told with %d", seen[err], err)
		}
	}
}

// goes ends a test, if what was accepted does not lie in the open window, or can't be put where it goes, so that the state stays right.
func goes(t *testing.T, s api.State, place int, isNew bool, l []api.Label, e api.Event) {
	t.Helper()
	if from, to := rules.Open(s); e.T < from || e.T >= to {
		t.Fatalf("%v is accepted from %d to %d", e, from, to)
	}
	if isNew == state.Lives(s, place) {
		t.Fatalf("%v of %v goes to %d, of %v", e, l, place, s)
	}
	p := s.Places[place]
	if isNew {
		p = made(t, s.Config, l)
	}
	p, err := series.Put(s.Config, p, e)
	if err != api.OK {
		t.Fatalf("%v can't be put to %v: %d", e, p, err)
	}
	s = copied(s)
	s.Places[place] = p
	if err := state.Check(s); err != api.OK {
		t.Fatalf("with %v in it %v is told with %d", e, s, err)
	}
}
