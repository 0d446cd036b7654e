package raw_test

import (
	"math"
	"math/rand/v2"
	"slices"
	"testing"

	"plimsoll/api"
	"plimsoll/event"
	"plimsoll/raw"
)

const (
	lately   = api.MaxTime - 1
	mostLost = 1 << 46
)

func at(t int64, v uint64) api.Event {
	return api.Event{T: t, V: v}
}

func stale(t int64) api.Event {
	return api.Event{T: t, Stale: true}
}

// times are events of these times.
func times(ts ...int64) []api.Event {
	var l []api.Event
	for _, t := range ts {
		l = append(l, at(t, 7))
	}
	return l
}

// many are n events, one a millisecond, the first at the time from.
func many(n int, from int64) []api.Event {
	var l []api.Event
	for i := range n {
		l = append(l, at(from+int64(i), uint64(i)))
	}
	return l
}

// wrongEvents are events that are not right, each for one cause.
func wrongEvents() []api.Event {
	return []api.Event{
		at(-1, 5), at(math.MinInt64, 5), stale(-1),
		at(api.MaxTime, 5), at(math.MaxInt64, 5), stale(api.MaxTime),
		{T: 50, C: 51}, {T: 50, C: -1}, {T: 50, V: 1, Stale: true}, {T: 50, C: 1, Stale: true},
	}
}

// farRooms are no rooms.
func farRooms() []int {
	return []int{math.MinInt, -api.MaxRaw, -1, 0, api.MaxRaw + 1, api.MaxRing, math.MaxInt}
}

// rooms is a thing of which somebody says for which room it is.
type rooms struct {
	r    api.Raw
	room int
}

// right are raw events that are right for a room: the edges.
func right() []rooms {
	return []rooms{
		{api.Raw{}, 1},
		{api.Raw{}, api.MaxRaw},
		{api.Raw{L: []api.Event{}}, 3},
		{api.Raw{L: times(0)}, 1},
		{api.Raw{L: times(lately)}, 1},
		{api.Raw{L: times(0, lately)}, 2},
		{api.Raw{L: times(5, 6, 7)}, 3},
		{api.Raw{L: times(5, 6, 7)}, 4},
		{api.Raw{L: times(5, 6, 7)}, api.MaxRaw},
		{api.Raw{L: []api.Event{stale(5), {T: 6, V: math.MaxUint64, C: 6}, stale(9), stale(10)}}, 4},
		{api.Raw{Lost: 1, L: times(1)}, 1},
		{api.Raw{Lost: 1, Mark: 4, L: times(5, 6, 7)}, 3},
		{api.Raw{Lost: 3, Mark: 0, L: times(5, 6, 7)}, 3},
		{api.Raw{Lost: mostLost, Mark: 4, L: times(5, 6, 7)}, 3},
		{api.Raw{Lost: mostLost, Mark: lately - 1, L: times(lately)}, 1},
		{api.Raw{Lost: mostLost - 1, Mark: 2, L: []api.Event{stale(3)}}, 1},
		{api.Raw{L: many(api.MaxRaw, 0)}, api.MaxRaw},
		{api.Raw{Lost: 9, Mark: 8, L: many(api.MaxRaw, 9)}, api.MaxRaw},
	}
}

// wrong are raw events that are not right for a room, each for one cause.
func wrong() []rooms {
	l := []rooms{
		{api.Raw{L: times(5, 6, 7)}, 2},
		{api.Raw{L: times(5)}, 0},
		{api.Raw{L: many(api.MaxRaw, 0)}, api.MaxRaw - 1},
		{api.Raw{L: many(api.MaxRaw+1, 0)}, api.MaxRaw},
		{api.Raw{L: many(api.MaxRaw+1, 0)}, api.MaxRaw + 1},
		{api.Raw{L: times(5, 5)}, 3},
		{api.Raw{L: times(6, 5)}, 3},
		{api.Raw{L: times(5, 7, 6)}, 3},
		{api.Raw{L: times(5, 7, 7)}, 3},
		{api.Raw{L: times(5, 9, 7, 10)}, 4},
		{api.Raw{Mark: 1}, 3},
		{api.Raw{Mark: -1}, 3},
		{api.Raw{Mark: 4, L: times(5, 6, 7)}, 3},
		{api.Raw{Mark: math.MinInt64, L: times(5, 6, 7)}, 3},
		{api.Raw{Lost: 1}, 3},
		{api.Raw{Lost: 1, Mark: 4}, 1},
		{api.Raw{Lost: 1, Mark: 4, L: times(5, 6)}, 3},
		{api.Raw{Lost: 1, Mark: 4, L: times(5, 6, 7)}, 2},
		{api.Raw{Lost: 1, Mark: 5, L: times(5, 6, 7)}, 3},
		{api.Raw{Lost: 1, Mark: 6, L: times(5, 6, 7)}, 3},
		{api.Raw{Lost: 1, Mark: -1, L: times(5, 6, 7)}, 3},
		{api.Raw{Lost: 1, Mark: math.MinInt64, L: times(5, 6, 7)}, 3},
		{api.Raw{Lost: 1, Mark: api.MaxTime, L: times(5, 6, 7)}, 3},
		{api.Raw{Lost: 1, Mark: lately, L: times(lately)}, 1},
		{api.Raw{Lost: 1, Mark: 0, L: times(0)}, 1},
		{api.Raw{Lost: -1, Mark: 4, L: times(5, 6, 7)}, 3},
		{api.Raw{Lost: -1, L: times(5, 6, 7)}, 3},
		{api.Raw{Lost: -1}, 3},
		{api.Raw{Lost: math.MinInt64, Mark: 4, L: times(5, 6, 7)}, 3},
		{api.Raw{Lost: mostLost + 1, Mark: 4, L: times(5, 6, 7)}, 3},
		{api.Raw{Lost: math.MaxInt64, Mark: 4, L: times(5, 6, 7)}, 3},
	}
	for _, e := range wrongEvents() {
		l = append(l,
			rooms{api.Raw{L: []api.Event{e}}, 3},
			rooms{api.Raw{L: []api.Event{at(7, 1), e}}, 3},
			rooms{api.Raw{L: []api.Event{e, at(lately, 1)}}, 3},
			rooms{api.Raw{L: []api.Event{at(7, 1), e, at(lately, 1)}}, 3},
		)
	}
	for _, room := range farRooms() {
		l = append(l, rooms{api.Raw{}, room}, rooms{api.Raw{L: times(5)}, room})
	}
	return l
}

// copied is r in memory of its own.
func copied(r api.Raw) api.Raw {
	r.L = slices.Clone(r.L)
	return r
}

// puts ends a test, if Put does not answer so, or changes what is handed in.
func puts(t *testing.T, r api.Raw, room int, e api.Event, want api.Raw, err api.Errno) {
	t.Helper()
	before := copied(r)
	got, told := raw.Put(r, room, e)
	if !raw.Same(got, want) || told != err {
		t.Fatalf("Put(%v, %d, %v) is %v, %d, not %v, %d", r, room, e, got, told, want, err)
	}
	if !raw.Same(r, before) {
		t.Fatalf("what was handed in is %v, and was %v", r, before)
	}
}

// 12.1
func TestCheck(t *testing.T) {
	for _, x := range right() {
		if err := raw.Check(x.r, x.room); err != api.OK {
			t.Errorf("Check(%v, %d) is %d", x.r, x.room, err)
		}
	}
	for _, x := range wrong() {
		if err := raw.Check(x.r, x.room); err != api.ErrForm {
			t.Errorf("Check(%v, %d) is %d", x.r, x.room, err)
		}
	}
}

// 12.1
func TestSame(t *testing.T) {
	l := []api.Raw{
		{}, {Lost: 1}, {Mark: 1}, {Lost: 1, Mark: 4, L: times(5, 6, 7)}, {Lost: 2, Mark: 4, L: times(5, 6, 7)}, {Lost: 1, Mark: 3, L: times(5, 6, 7)},
		{L: times(5)}, {L: times(5, 6)}, {L: times(6, 5)}, {L: times(5, 7)}, {L: times(5, 6, 7)},
		{L: []api.Event{at(5, 8)}}, {L: []api.Event{{T: 5, V: 7, C: 1}}}, {L: []api.Event{stale(5)}}, {L: []api.Event{at(5, 0)}},
	}
	for i, a := range l {
		for j, b := range l {
			if raw.Same(a, copied(b)) != (i == j) {
				t.Errorf("Same(%v, %v) is %v", a, b, raw.Same(a, b))
			}
		}
	}
	if !raw.Same(api.Raw{}, api.Raw{L: []api.Event{}}) {
		t.Error("a list that is nil, and an empty one, are not the same")
	}
}

// 12.1
func TestLast(t *testing.T) {
	for _, r := range []api.Raw{{}, {L: []api.Event{}}, {Lost: 3, Mark: 9}} {
		if e, err := raw.Last(r); e != (api.Event{}) || err != api.ErrNone {
			t.Errorf("Last(%v) is %v, %d", r, e, err)
		}
	}
	for _, e := range append(wrongEvents(), api.Event{}, at(9, 3), stale(9), api.Event{T: 9, V: 3, C: 9}) {
		for _, l := range [][]api.Event{{e}, {at(5, 3), e}, {at(5, 3), stale(7), e}} {
			if last, err := raw.Last(api.Raw{Lost: 1, Mark: 20, L: l}); last != e || err != api.OK {
				t.Errorf("Last of %v is %v, %d", l, last, err)
			}
		}
	}
}

// 12.2
func TestPut(t *testing.T) {
	for _, c := range []struct {
		r    api.Raw
		room int
		e    api.Event
		want api.Raw
	}{
		{api.Raw{}, 1, at(0, 5), api.Raw{L: []api.Event{at(0, 5)}}},
		{api.Raw{}, api.MaxRaw, stale(lately), api.Raw{L: []api.Event{stale(lately)}}},
		{api.Raw{L: times(5, 6)}, 3, at(7, 7), api.Raw{L: times(5, 6, 7)}},
		{api.Raw{L: times(5, 6)}, 3, api.Event{T: 7, V: 1, C: 7}, api.Raw{L: append(times(5, 6), api.Event{T: 7, V: 1, C: 7})}},
		{api.Raw{L: times(5, 6)}, 2, at(7, 7), api.Raw{Lost: 1, Mark: 5, L: times(6, 7)}},
		{api.Raw{Lost: 1, Mark: 5, L: times(6, 7)}, 2, at(lately, 7), api.Raw{Lost: 2, Mark: 6, L: times(7, lately)}},
		{api.Raw{L: times(0)}, 1, at(1, 7), api.Raw{Lost: 1, Mark: 0, L: times(1)}},
		{api.Raw{L: []api.Event{stale(4), at(5, 7)}}, 2, stale(6), api.Raw{Lost: 1, Mark: 4, L: []api.Event{at(5, 7), stale(6)}}},
		{api.Raw{Lost: mostLost - 1, Mark: 5, L: times(6)}, 1, at(9, 7), api.Raw{Lost: mostLost, Mark: 6, L: times(9)}},
		{api.Raw{L: many(api.MaxRaw-1, 1)}, api.MaxRaw, at(api.MaxRaw, api.MaxRaw-1), api.Raw{L: many(api.MaxRaw, 1)}},
		{api.Raw{L: many(api.MaxRaw, 1)}, api.MaxRaw, at(lately, 3), api.Raw{Lost: 1, Mark: 1, L: append(many(api.MaxRaw, 1)[1:], at(lately, 3))}},
	} {
		puts(t, c.r, c.room, c.e, c.want, api.OK)
	}
}

// 12.2
func TestPutWrong(t *testing.T) {
	none := api.Raw{}
	for _, x := range wrong() {
		for _, e := range []api.Event{at(lately, 3), at(0, 3), at(-1, 3)} {
			puts(t, x.r, x.room, e, none, api.ErrForm)
		}
	}
	for _, x := range right() {
		for _, e := range wrongEvents() {
			puts(t, x.r, x.room, e, none, api.ErrForm)
		}
		if last, err := raw.Last(x.r); err == api.OK {
			for _, t2 := range []int64{last.T, last.T - 1, 0} {
				if t2 >= 0 {
					puts(t, x.r, x.room, at(t2, 3), none, api.ErrTime)
					puts(t, x.r, x.room, stale(t2), none, api.ErrTime)
				}
			}
		}
	}
	most := api.Raw{Lost: mostLost, Mark: 4, L: times(5, 6, 7)}
	puts(t, most, 3, at(8, 1), none, api.ErrRange)
	puts(t, most, 3, stale(lately), none, api.ErrRange)
	puts(t, most, 3, at(7, 1), none, api.ErrTime)
	puts(t, most, 3, at(-1, 1), none, api.ErrForm)
	puts(t, most, 4, at(8, 1), none, api.ErrForm)
}

// 12.2: what is answered shares nothing with what was handed in.
func TestPutIsNew(t *testing.T) {
	for _, room := range []int{2, 3} {
		l := append(make([]api.Event, 0, 9), times(5, 6)...)
		got, err := raw.Put(api.Raw{L: l}, room, at(7, 7))
		if err != api.OK {
			t.Fatalf("Put is %v, %d", got, err)
		}
		before := copied(got)
		clear(l[:cap(l)])
		if !raw.Same(got, before) {
			t.Errorf("it is %v, and was %v", got, before)
		}
		for i := range got.L {
			got.L[i].V = 70
		}
		if slices.Contains(l[:cap(l)], at(7, 7)) || l[0] != (api.Event{}) || l[1] != (api.Event{}) {
			t.Errorf("what was handed in is %v", l[:cap(l)])
		}
	}
	first, _ := raw.Put(api.Raw{}, 3, at(5, 7))
	one, _ := raw.Put(first, 3, at(6, 1))
	other, _ := raw.Put(first, 3, at(6, 2))
	if one.L[1] != at(6, 1) || other.L[1] != at(6, 2) {
		t.Errorf("of one there come %v and %v", one, other)
	}
}

// 12.3
func TestRange(t *testing.T) {
	all := api.Raw{L: times(5, 6, 9)}
	some := api.Raw{Lost: 2, Mark: 4, L: times(5, 6, 9)}
	atOnce := api.Raw{Lost: 1, Mark: 0, L: times(5, 6, 9)}
	for _, c := range []struct {
		r    api.Raw
		a, b int64
		want []api.Event
		err  api.Errno
	}{
		{all, 0, api.MaxTime, times(5, 6, 9), api.OK},
		{all, math.MinInt64, math.MaxInt64, times(5, 6, 9), api.OK},
		{all, 5, 10, times(5, 6, 9), api.OK},
		{all, 5, 9, times(5, 6), api.OK},
		{all, 6, 10, times(6, 9), api.OK},
		{all, 5, 6, times(5), api.OK},
		{all, 6, 7, times(6), api.OK},
		{all, 7, 9, nil, api.OK},
		{all, 0, 5, nil, api.OK},
		{all, 10, 11, nil, api.OK},
		{all, -9, -1, nil, api.OK},
		{all, 6, 6, nil, api.ErrRange},
		{all, 7, 6, nil, api.ErrRange},
		{all, math.MaxInt64, math.MinInt64, nil, api.ErrRange},
		{api.Raw{}, 0, 1, nil, api.OK},
		{api.Raw{}, 1, 1, nil, api.ErrRange},
		{some, 5, 10, times(5, 6, 9), api.OK},
		{some, 6, 9, times(6), api.OK},
		{some, 5, api.MaxTime, times(5, 6, 9), api.OK},
		{some, 4, 10, nil, api.ErrExpired},
		{some, 3, 10, nil, api.ErrExpired},
		{some, 0, 1, nil, api.ErrExpired},
		{some, math.MinInt64, math.MaxInt64, nil, api.ErrExpired},
		{some, 4, 4, nil, api.ErrRange},
		{some, 4, 3, nil, api.ErrRange},
		{atOnce, 1, 10, times(5, 6, 9), api.OK},
		{atOnce, 0, 10, nil, api.ErrExpired},
		{atOnce, -1, 10, nil, api.ErrExpired},
	} {
		before := copied(c.r)
		l, err := raw.Range(c.r, c.a, c.b)
		if !slices.Equal(l, c.want) || err != c.err || err != api.OK && l != nil {
			t.Errorf("Range(%v, %d, %d) is %v, %d, not %v, %d", c.r, c.a, c.b, l, err, c.want, c.err)
		}
		if !raw.Same(c.r, before) {
			t.Errorf("what was handed in is %v, and was %v", c.r, before)
		}
	}
}

// 12.3: raw events are taken as they are, right or not.
func TestRangeAsItIs(t *testing.T) {
	mixed := []api.Event{at(9, 1), at(-5, 2), at(6, 3), at(9, 4), {T: 7, V: 5, Stale: true}, at(3, 6), at(math.MaxInt64, 7), at(6, 3)}
	for _, c := range []struct {
		r    api.Raw
		a, b int64
		want []api.Event
		err  api.Errno
	}{
		{api.Raw{L: mixed}, 6, 10, []api.Event{mixed[0], mixed[2], mixed[3], mixed[4], mixed[7]}, api.OK},
		{api.Raw{L: mixed}, -5, 4, []api.Event{mixed[1], mixed[5]}, api.OK},
		{api.Raw{L: mixed}, math.MinInt64, 0, []api.Event{mixed[1]}, api.OK},
		{api.Raw{L: mixed}, 10, math.MaxInt64, nil, api.OK},
		{api.Raw{Mark: 8, L: mixed}, 3, 4, []api.Event{mixed[5]}, api.OK},
		{api.Raw{Lost: -1, Mark: 8, L: mixed}, 3, 4, []api.Event{mixed[5]}, api.OK},
		{api.Raw{Lost: 1, Mark: 8, L: mixed}, 9, 10, []api.Event{mixed[0], mixed[3]}, api.OK},
		{api.Raw{Lost: 1, Mark: 8, L: mixed}, 8, 10, nil, api.ErrExpired},
		{api.Raw{Lost: 1, Mark: -8, L: mixed}, -7, 0, []api.Event{mixed[1]}, api.OK},
		{api.Raw{Lost: math.MaxInt64, Mark: math.MaxInt64}, 0, 1, nil, api.ErrExpired},
		{api.Raw{Lost: 1, Mark: 8}, 8, 9, nil, api.ErrExpired},
	} {
		if l, err := raw.Range(c.r, c.a, c.b); !slices.Equal(l, c.want) || err != c.err {
			t.Errorf("Range(%v, %d, %d) is %v, %d, not %v, %d", c.r, c.a, c.b, l, err, c.want, c.err)
		}
	}
}

// 12.3: what is answered shares nothing with what was handed in.
func TestRangeIsNew(t *testing.T) {
	r := api.Raw{L: times(5, 6, 9)}
	for _, a := range []int64{0, 6} {
		l, err := raw.Range(r, a, 10)
		if err != api.OK {
			t.Fatalf("Range is %v, %d", l, err)
		}
		l[0].V = 70
		_ = append(l[:1], at(8, 80))
		if !slices.Equal(r.L, times(5, 6, 9)) {
			t.Errorf("what was handed in is %v", r.L)
		}
	}
}

// some is an event that follows last, most often, and is right, most often.
func some(source *rand.Rand, last int64) api.Event {
	e := at(last+source.Int64N(6)-source.Int64N(2), source.Uint64N(9))
	switch source.IntN(12) {
	case 0:
		e = stale(e.T)
	case 1:
		e.C = max(0, e.T-source.Int64N(5))
	case 2:
		e.C = e.T + 1
	}
	return e
}

// 12.2, 12.4: of whatever was put there are the last ones, and of a range all is told, or nothing.
func TestAllOrNone(t *testing.T) {
	source := rand.New(rand.NewPCG(12, 4))
	told, expired := 0, 0
	for range 400 {
		room := 1 + source.IntN(8)
		var r api.Raw
		var all []api.Event
		last := int64(-1)
		for range 30 {
			e := some(source, last)
			want := api.OK
			if event.Check(e) != api.OK {
				want = api.ErrForm
			} else if e.T <= last {
				want = api.ErrTime
			}
			next, err := raw.Put(r, room, e)
			if err != want || err != api.OK && !raw.Same(next, api.Raw{}) {
				t.Fatalf("Put(%v, %d, %v) is %v, %d", r, room, e, next, err)
			}
			if err != api.OK {
				continue
			}
			r, last = next, e.T
			all = append(all, e)
			lost := max(0, len(all)-room)
			if raw.Check(r, room) != api.OK || r.Lost != int64(lost) || !slices.Equal(r.L, all[lost:]) || lost > 0 && r.Mark != all[lost-1].T {
				t.Fatalf("of %v, put with room for %d, there is %v", all, room, r)
			}
			a := source.Int64N(last+3) - 1
			b := a + 1 + source.Int64N(20)
			within := slices.DeleteFunc(slices.Clone(all), func(e api.Event) bool { return e.T < a || e.T >= b })
			l, err := raw.Range(r, a, b)
			if lost > 0 && all[lost-1].T >= a {
				expired++
				if l != nil || err != api.ErrExpired {
					t.Fatalf("Range(%v, %d, %d) is %v, %d", r, a, b, l, err)
				}
				continue
			}
			told++
			if !slices.Equal(l, within) || err != api.OK {
				t.Fatalf("Range(%v, %d, %d) is %v, %d, not %v", r, a, b, l, err, within)
			}
		}
	}
	if told < 1000 || expired < 1000 {
		t.Fatalf("just %d ranges were told, and %d too old", told, expired)
	}
}
