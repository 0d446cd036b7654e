package event_test

import (
	"math"
	"math/big"
	"math/rand/v2"
	"slices"
	"testing"

	"plimsoll/api"
	"plimsoll/event"
	"plimsoll/wide"
)

const (
	most   = math.MaxUint64
	lately = api.MaxTime - 1
)

func at(t int64, v uint64) api.Event {
	return api.Event{T: t, V: v}
}

// made is an event that tells when its series was created.
func made(t int64, v uint64, c int64) api.Event {
	return api.Event{T: t, V: v, C: c}
}

func stale(t int64) api.Event {
	return api.Event{T: t, Stale: true}
}

// rights are events that are right: the edges, and all of few times and values.
func rights() []api.Event {
	l := []api.Event{at(lately, 0), at(lately, most), made(lately, most, lately), made(lately, 1, 1), made(lately, 1, lately-1),
		at(lately-1, most), made(lately-1, 7, lately-1), stale(lately), stale(lately - 1), at(0, most), at(0, 1<<63), at(3, 1<<63), at(2, most)}
	for t := range int64(5) {
		l = append(l, stale(t))
		for v := range uint64(3) {
			for c := range t + 1 {
				l = append(l, made(t, v, c))
			}
		}
	}
	return l
}

// wrongs are events that are not right, each for one cause.
func wrongs() []api.Event {
	return []api.Event{
		at(-1, 5), at(math.MinInt64, 5), stale(-1), stale(math.MinInt64),
		at(api.MaxTime, 5), at(math.MaxInt64, 5), stale(api.MaxTime), stale(math.MaxInt64),
		made(0, 5, 1), made(9, 5, 10), made(9, 5, math.MaxInt64), made(lately, 5, api.MaxTime),
		made(9, 5, -1), made(9, 5, math.MinInt64), made(-1, 5, -1), made(-5, 5, -9), made(api.MaxTime, 5, api.MaxTime),
		{T: 9, V: 1, Stale: true}, {T: 9, V: most, Stale: true}, {T: 9, C: 1, Stale: true}, {T: 9, C: 9, Stale: true}, {T: 9, V: 1, C: 1, Stale: true},
		{T: 9, C: -1, Stale: true}, {T: 9, C: 10, Stale: true},
	}
}

// between tells by the document's words what lies between right events, p ahead.
func between(p, c api.Event) api.Cell {
	if c.Stale {
		return api.Cell{}
	}
	since := c.C > p.T
	if !since && p.Stale {
		return api.Cell{Gaps: 1}
	}
	if since {
		return api.Cell{Inc: api.Wide{Lo: c.V}, Resets: 1, Seen: c.T - c.C}
	}
	if c.V < p.V {
		return api.Cell{Inc: api.Wide{Lo: c.V}, Resets: 1, Seen: c.T - p.T}
	}
	return api.Cell{Inc: api.Wide{Lo: c.V - p.V}, Seen: c.T - p.T}
}

// isBetween ends a test, if Between or Follow do not answer as they must.
func isBetween(t *testing.T, p, c api.Event, want api.Cell, err api.Errno) {
	t.Helper()
	got, told := event.Between(p, c)
	if got != want || told != err {
		t.Fatalf("Between(%v, %v): %v, %d; want %v, %d", p, c, got, told, want, err)
	}
	if event.Follow(p, c) != (err == api.OK) {
		t.Fatalf("Follow(%v, %v): %v", p, c, event.Follow(p, c))
	}
}

// 7.1
func TestCheck(t *testing.T) {
	for _, e := range rights() {
		if err := event.Check(e); err != api.OK {
			t.Errorf("Check(%v): %d", e, err)
		}
	}
	for _, e := range wrongs() {
		if err := event.Check(e); err != api.ErrForm {
			t.Errorf("Check(%v): %d", e, err)
		}
	}
}

// 7.1
func TestCheckEachEdge(t *testing.T) {
	times := []int64{math.MinInt64, -api.MaxTime, -2, -1, 0, 1, 2, lately - 1, lately, api.MaxTime, api.MaxTime + 1, math.MaxInt64}
	for _, time := range times {
		for _, created := range times {
			for _, v := range []uint64{0, 1, most} {
				for _, is := range []bool{false, true} {
					e := api.Event{T: time, V: v, C: created, Stale: is}
					right := 0 <= time && time < api.MaxTime && 0 <= created && created <= time && (!is || v == 0 && created == 0)
					if (event.Check(e) == api.OK) != right || !right && event.Check(e) != api.ErrForm {
						t.Errorf("Check(%v): %d", e, event.Check(e))
					}
				}
			}
		}
	}
}

// 7.1
func TestFollow(t *testing.T) {
	for _, p := range rights() {
		for _, c := range rights() {
			if event.Follow(p, c) != (p.T < c.T) {
				t.Fatalf("Follow(%v, %v): %v", p, c, event.Follow(p, c))
			}
		}
	}
}

// 7.2
func TestBetween(t *testing.T) {
	rose := func(by uint64, seen int64) api.Cell { return api.Cell{Inc: api.Wide{Lo: by}, Seen: seen} }
	anew := func(by uint64, seen int64) api.Cell {
		return api.Cell{Inc: api.Wide{Lo: by}, Resets: 1, Seen: seen}
	}
	gap := api.Cell{Gaps: 1}
	for _, one := range []struct {
		name string
		p, c api.Event
		want api.Cell
	}{
		{"it rose", at(10, 5), at(14, 8), rose(3, 4)},
		{"it stayed", at(10, 5), at(14, 5), rose(0, 4)},
		{"it fell", at(10, 5), at(14, 4), anew(4, 4)},
		{"it fell to nothing", at(10, 5), at(14, 0), anew(0, 4)},
		{"it rose from nothing to the greatest", at(0, 0), at(lately, most), rose(most, lately)},
		{"it fell by one from the greatest", at(0, most), at(1, most-1), anew(most-1, 1)},
		{"it is stale", at(10, 5), stale(14), api.Cell{}},
		{"it was stale, and is", stale(10), stale(14), api.Cell{}},
		{"it was stale", stale(10), at(14, 5), gap},
		{"it was stale, and has nothing", stale(10), at(14, 0), gap},
		{"it was stale, and was created at that time", stale(10), made(14, 5, 10), gap},
		{"it was stale, and was created ahead of that", stale(10), made(14, 5, 3), gap},
		{"it was stale, and was created since", stale(10), made(14, 5, 11), anew(5, 3)},
		{"it was stale, and was created just now", stale(10), made(14, 5, 14), anew(5, 0)},
		{"it was created since, and is greater", at(10, 5), made(14, 8, 12), anew(8, 2)},
		{"it was created since, and is less", at(10, 5), made(14, 2, 12), anew(2, 2)},
		{"it was created since, and is as great", at(10, 5), made(14, 5, 11), anew(5, 3)},
		{"it was created since, and has nothing", at(10, 5), made(14, 0, 12), anew(0, 2)},
		{"it was created just now", at(10, 5), made(14, 8, 14), anew(8, 0)},
		{"it was created at the time of the one ahead", at(10, 5), made(14, 8, 10), rose(3, 4)},
		{"it was created at that time, and is less", at(10, 5), made(14, 2, 10), anew(2, 4)},
		{"it was created ahead of that", at(10, 5), made(14, 8, 1), rose(3, 4)},
		{"the one ahead was created, too", made(10, 5, 10), made(14, 8, 10), rose(3, 4)},
		{"the one ahead was created later", made(10, 5, 9), made(14, 8, 3), rose(3, 4)},
		{"at the beginning, created at once", at(0, 5), made(1, 8, 1), anew(8, 0)},
		{"at the end", stale(0), made(lately, most, 1), anew(most, lately-1)},
	} {
		t.Run(one.name, func(t *testing.T) { isBetween(t, one.p, one.c, one.want, api.OK) })
	}
}

// 7.2
func TestBetweenWrong(t *testing.T) {
	none := api.Cell{}
	for _, wrong := range wrongs() {
		isBetween(t, wrong, wrong, none, api.ErrForm)
		for _, right := range rights() {
			isBetween(t, wrong, right, none, api.ErrForm)
			isBetween(t, right, wrong, none, api.ErrForm)
		}
	}
	isBetween(t, at(5, 1), at(5, 1), none, api.ErrTime)
	isBetween(t, at(5, 1), at(5, 2), none, api.ErrTime)
	isBetween(t, at(5, 1), at(4, 2), none, api.ErrTime)
	isBetween(t, at(5, 1), stale(5), none, api.ErrTime)
	isBetween(t, stale(5), at(5, 1), none, api.ErrTime)
	isBetween(t, stale(6), made(5, 1, 5), none, api.ErrTime)
	isBetween(t, at(lately, 1), at(0, 2), none, api.ErrTime)
}

// 7.2
func TestBetweenAll(t *testing.T) {
	for _, p := range rights() {
		for _, c := range rights() {
			if p.T < c.T {
				isBetween(t, p, c, between(p, c), api.OK)
			} else {
				isBetween(t, p, c, api.Cell{}, api.ErrTime)
			}
		}
	}
}

// 7.2
func TestRises(t *testing.T) {
	wrong := at(-1, 0)
	for _, one := range []struct {
		name string
		l    []api.Event
		want api.Wide
		err  api.Errno
	}{
		{"none", nil, api.Wide{}, api.OK},
		{"a right one", []api.Event{at(5, 9)}, api.Wide{}, api.OK},
		{"a right one, that was created", []api.Event{made(5, 9, 5)}, api.Wide{}, api.OK},
		{"a stale one", []api.Event{stale(5)}, api.Wide{}, api.OK},
		{"a wrong one", []api.Event{wrong}, api.Wide{}, api.ErrForm},
		{"a wrong stale one", []api.Event{{T: 5, V: 1, Stale: true}}, api.Wide{}, api.ErrForm},
		{"two", []api.Event{at(5, 9), at(6, 11)}, wide.Of(2), api.OK},
		{"several", []api.Event{at(1, 9), at(2, 11), at(3, 4), at(4, 4), stale(5), at(6, 100), at(7, 101), made(9, 50, 8)}, wide.Of(2 + 4 + 0 + 0 + 0 + 1 + 50), api.OK},
		{"more than 64 bits", []api.Event{at(0, 0), at(1, most), at(2, most-1), made(3, 3, 3)}, api.Wide{Hi: 2, Lo: 0}, api.OK},
		{"the first is wrong", []api.Event{wrong, at(6, 1), at(7, 1)}, api.Wide{}, api.ErrForm},
		{"one between is wrong", []api.Event{at(5, 1), wrong, at(7, 1)}, api.Wide{}, api.ErrForm},
		{"the last is wrong", []api.Event{at(5, 1), at(6, 2), wrong}, api.Wide{}, api.ErrForm},
		{"one has the same time", []api.Event{at(5, 1), at(6, 2), at(6, 3)}, api.Wide{}, api.ErrTime},
		{"one is ahead", []api.Event{at(5, 1), at(4, 2), at(6, 3)}, api.Wide{}, api.ErrTime},
		{"one is ahead, then one is wrong", []api.Event{at(5, 1), at(4, 2), wrong}, api.Wide{}, api.ErrTime},
		{"one is wrong, then one is ahead", []api.Event{at(5, 1), wrong, at(7, 2), at(6, 2)}, api.Wide{}, api.ErrForm},
		{"the first is wrong, then one is ahead", []api.Event{wrong, at(7, 2), at(6, 2)}, api.Wide{}, api.ErrForm},
		{"just neighbours are asked", []api.Event{at(5, 1), at(6, 2), at(3, 2), at(9, 1)}, api.Wide{}, api.ErrTime},
	} {
		before := slices.Clone(one.l)
		got, err := event.Rises(one.l...)
		if got != one.want || err != one.err {
			t.Errorf("%s: %v, %d; want %v, %d", one.name, got, err, one.want, one.err)
		}
		if !slices.Equal(before, one.l) {
			t.Errorf("%s: what was handed in is %v", one.name, one.l)
		}
	}
}

// 7.2
func TestRisesOfMany(t *testing.T) {
	source := rand.New(rand.NewPCG(7, 2))
	for range 2000 {
		var l []api.Event
		want := new(big.Int)
		failed := api.OK
		for range source.IntN(6) {
			c := rights()[source.IntN(len(rights()))]
			if source.IntN(40) == 0 {
				c = wrongs()[source.IntN(len(wrongs()))]
			}
			l = append(l, c)
		}
		if source.IntN(3) > 0 {
			slices.SortFunc(l, func(a, b api.Event) int { return int(a.T - b.T) })
		}
		if len(l) == 1 {
			failed = event.Check(l[0])
		}
		for place := 1; place < len(l) && failed == api.OK; place++ {
			step, err := event.Between(l[place-1], l[place])
			want.Add(want, new(big.Int).SetUint64(step.Inc.Lo))
			failed = err
		}
		if failed != api.OK {
			want.SetUint64(0)
		}
		got, err := event.Rises(l...)
		if wide.Text(got) != want.String() || err != failed {
			t.Fatalf("Rises(%v): %v, %d; want %v, %d", l, got, err, want, failed)
		}
	}
}

// 7.3
func TestOneOfThem(t *testing.T) {
	for _, p := range rights() {
		for _, c := range rights() {
			got, err := event.Between(p, c)
			if err != api.OK {
				continue
			}
			if got.Resets < 0 || got.Gaps < 0 || got.Resets+got.Gaps > 1 {
				t.Fatalf("Between(%v, %v) begins anew %d times, and has %d gaps", p, c, got.Resets, got.Gaps)
			}
			if got.Seen < 0 || got.Seen > c.T-p.T {
				t.Fatalf("Between(%v, %v) is seen for %d", p, c, got.Seen)
			}
			if got.Inc.Hi != 0 || got.Inc.Lo > c.V {
				t.Fatalf("Between(%v, %v) rises by %v", p, c, got.Inc)
			}
			if got.Count != 0 || got.First != (api.Event{}) || got.Last != (api.Event{}) {
				t.Fatalf("Between(%v, %v) has events: %v", p, c, got)
			}
		}
	}
}
