package ring_test

import (
	"math"
	"math/rand/v2"
	"runtime"
	"slices"
	"testing"
	"weak"

	"plimsoll/api"
	"plimsoll/ring"
)

// far are numbers past the ends of any ring.
func far() []int {
	return []int{math.MinInt, math.MinInt + 1, -api.MaxRing, -2, -1, api.MaxRing, api.MaxRing + 1, math.MaxInt - 1, math.MaxInt}
}

// made is a ring into which l was put.
func made[T any](t *testing.T, room int, l ...T) *ring.Ring[T] {
	t.Helper()
	r, err := ring.New[T](room)
	if r == nil || err != api.OK {
		t.Fatalf("New(%d) is %v, %d", room, r, err)
	}
	for _, x := range l {
		r.Put(x)
	}
	return r
}

// has ends a test, if r does not tell just l, and so many lost, whichever way it is asked.
func has[T comparable](t *testing.T, r *ring.Ring[T], lost uint64, l ...T) {
	t.Helper()
	if r.Len() != len(l) || r.Lost() != lost || !slices.Equal(r.All(), l) {
		t.Fatalf("there are %d things, %v, and %d were lost; want %v, and %d", r.Len(), r.All(), r.Lost(), l, lost)
	}
	for i, want := range l {
		if x, ok := r.At(i); x != want || !ok {
			t.Fatalf("At(%d) is %v, %v, of %v", i, x, ok, l)
		}
	}
	var zero T
	for _, i := range append(far(), len(l), len(l)+1) {
		if x, ok := r.At(i); x != zero || ok {
			t.Fatalf("At(%d) is %v, %v, of %v", i, x, ok, l)
		}
	}
}

// puts ends a test, if Put does not answer so.
func puts[T comparable](t *testing.T, r *ring.Ring[T], x, lost T, full bool) {
	t.Helper()
	if first, ok := r.Put(x); first != lost || ok != full {
		t.Fatalf("Put(%v) is %v, %v, not %v, %v", x, first, ok, lost, full)
	}
}

// 11.1
func TestNew(t *testing.T) {
	for _, room := range []int{1, 2, 3, 4095, api.MaxRing - 1, api.MaxRing} {
		r, err := ring.New[string](room)
		if r == nil || err != api.OK {
			t.Fatalf("New(%d) is %v, %d", room, r, err)
		}
		has(t, r, 0)
	}
	for _, room := range []int{math.MinInt, -api.MaxRing, -1, 0, api.MaxRing + 1, math.MaxInt} {
		if r, err := ring.New[string](room); r != nil || err != api.ErrRange {
			t.Errorf("New(%d) is %v, %d", room, r, err)
		}
	}
}

// 11.1: a ring of great things is made all the same, though there is not the memory for as many as it has room for.
func TestGreatThings(t *testing.T) {
	type great [1 << 20]uint64
	r := made[great](t, api.MaxRing)
	r.Put(great{1: 7})
	if x, ok := r.At(0); x[1] != 7 || !ok || r.Len() != 1 {
		t.Errorf("there are %d things, the first has %d, %v", r.Len(), x[1], ok)
	}
}

// 11.1, 11.2
func TestPut(t *testing.T) {
	r := made[string](t, 3)
	puts(t, r, "a", "", false)
	has(t, r, 0, "a")
	puts(t, r, "b", "", false)
	puts(t, r, "c", "", false)
	has(t, r, 0, "a", "b", "c")
	puts(t, r, "d", "a", true)
	has(t, r, 1, "b", "c", "d")
	puts(t, r, "", "b", true)
	puts(t, r, "f", "c", true)
	puts(t, r, "g", "d", true)
	has(t, r, 4, "", "f", "g")
	puts(t, r, "h", "", true)
	has(t, r, 5, "f", "g", "h")
}

// 11.2
func TestRoomForOne(t *testing.T) {
	r := made[int](t, 1)
	puts(t, r, 5, 0, false)
	has(t, r, 0, 5)
	puts(t, r, 6, 5, true)
	puts(t, r, 6, 6, true)
	has(t, r, 2, 6)
	if n := r.Drop(1); n != 1 {
		t.Errorf("Drop(1) is %d", n)
	}
	has(t, r, 2)
	puts(t, r, 7, 0, false)
	has(t, r, 2, 7)
}

// 11.2
func TestDrop(t *testing.T) {
	for _, c := range []struct {
		n, went int
		left    []int
	}{
		{math.MinInt, 0, []int{3, 4, 5, 6}},
		{-1, 0, []int{3, 4, 5, 6}},
		{0, 0, []int{3, 4, 5, 6}},
		{1, 1, []int{4, 5, 6}},
		{3, 3, []int{6}},
		{4, 4, nil},
		{5, 4, nil},
		{math.MaxInt, 4, nil},
	} {
		r := made(t, 4, 1, 2, 3, 4, 5, 6)
		if n := r.Drop(c.n); n != c.went {
			t.Errorf("Drop(%d) is %d, not %d", c.n, n, c.went)
		}
		has(t, r, 2, c.left...)
		for x := range 4 - len(c.left) {
			puts(t, r, 10+x, 0, false)
		}
		has(t, r, 2, append(slices.Clone(c.left), []int{10, 11, 12, 13}[:4-len(c.left)]...)...)
	}
}

// 11.2: of a ring that is not full, and of an empty one.
func TestDropOfFew(t *testing.T) {
	r := made(t, 5, "a", "b", "c")
	if n := r.Drop(2); n != 2 {
		t.Errorf("Drop(2) is %d", n)
	}
	has(t, r, 0, "c")
	for _, x := range []string{"d", "e", "f", "g"} {
		puts(t, r, x, "", false)
	}
	has(t, r, 0, "c", "d", "e", "f", "g")
	puts(t, r, "h", "c", true)
	has(t, r, 1, "d", "e", "f", "g", "h")
	for _, n := range far() {
		empty := made[string](t, 5)
		if went := empty.Drop(n); went != 0 {
			t.Errorf("Drop(%d) of an empty ring is %d", n, went)
		}
		has(t, empty, 0)
	}
}

// 11.1: as many as there may be room for.
func TestMostRoom(t *testing.T) {
	r := made[int](t, api.MaxRing)
	for x := range api.MaxRing {
		puts(t, r, x, 0, false)
	}
	for x := range 1000 {
		puts(t, r, api.MaxRing+x, x, true)
	}
	l := r.All()
	if r.Len() != api.MaxRing || r.Lost() != 1000 || len(l) != api.MaxRing {
		t.Fatalf("there are %d things, %d were lost, All has %d", r.Len(), r.Lost(), len(l))
	}
	for i, x := range l {
		if at, ok := r.At(i); x != 1000+i || at != x || !ok {
			t.Fatalf("the thing %d is %d, At tells %d, %v", i, x, at, ok)
		}
	}
	if n := r.Drop(math.MaxInt); n != api.MaxRing || r.Len() != 0 || r.Lost() != 1000 {
		t.Errorf("Drop is %d; there are %d things, %d were lost", n, r.Len(), r.Lost())
	}
}

// 11.1: the answer of All shares nothing with the ring.
func TestAllIsNew(t *testing.T) {
	r := made(t, 3, 1, 2, 3, 4)
	l := r.All()
	l[0], l[2] = 70, 90
	_ = append(l[:1], 80)
	has(t, r, 1, 2, 3, 4)
	l = r.All()
	r.Put(5)
	r.Drop(2)
	if !slices.Equal(l, []int{2, 3, 4}) {
		t.Errorf("what was told is %v", l)
	}
}

// 11.1
func TestClone(t *testing.T) {
	for put := range 8 {
		r := made[int](t, 4)
		for x := range put {
			r.Put(1 + x)
		}
		had, lost := r.All(), r.Lost()
		other := r.Clone()
		has(t, other, lost, had...)
		other.Drop(1)
		for x := range 6 {
			other.Put(100 + x)
		}
		has(t, r, lost, had...)
		had, lost = other.All(), other.Lost()
		for x := range 5 {
			r.Put(200 + x)
		}
		r.Drop(2)
		has(t, other, lost, had...)
		has(t, r, uint64(max(0, put+5-4)), 203, 204)
	}
}

// 11.1, 11.2: of a ring that New did not make nothing is told, and nothing is put.
func TestNoRing(t *testing.T) {
	var none *ring.Ring[int]
	for _, r := range []*ring.Ring[int]{none, {}, none.Clone(), new(ring.Ring[int]).Clone()} {
		has(t, r, 0)
		puts(t, r, 5, 0, false)
		for _, n := range append(far(), 0, 1) {
			if went := r.Drop(n); went != 0 {
				t.Errorf("Drop(%d) is %d", n, went)
			}
		}
		has(t, r, 0)
	}
}

// 11.1: things of any type, as they are.
func TestAnyType(t *testing.T) {
	has(t, made(t, 2, api.Event{T: 1}, api.Event{T: 2, V: 5}, api.Event{T: 3, Stale: true}), 1, api.Event{T: 2, V: 5}, api.Event{T: 3, Stale: true})
	has(t, made(t, 2, struct{}{}, struct{}{}, struct{}{}), 1, struct{}{}, struct{}{})
	has(t, made[any](t, 2, nil, 5, "x"), 1, any(5), any("x"))
	n := 5
	has(t, made(t, 2, &n, nil), 0, &n, nil)
	lists := made(t, 2, []int{1}, []int{2, 3}, nil)
	if l := lists.All(); len(l) != 2 || !slices.Equal(l[0], []int{2, 3}) || l[1] != nil {
		t.Errorf("the lists are %v", l)
	}
	calls := made(t, 1, func() int { return 7 })
	if call, ok := calls.At(0); !ok || call() != 7 {
		t.Error("the function is not there")
	}
}

// 11.2: what went is held no more, whether it was lost, or dropped.
func TestWhatWentIsFree(t *testing.T) {
	type great [1000]uint64
	r := made[*great](t, 3)
	var seen []weak.Pointer[great]
	for range 5 {
		x := new(great)
		seen = append(seen, weak.Make(x))
		r.Put(x)
	}
	r.Drop(1)
	runtime.GC()
	for i, x := range seen {
		if is := x.Value() != nil; is != (i >= 3) {
			t.Errorf("the thing %d is held: %v", i, is)
		}
	}
	runtime.KeepAlive(r)
}

// 11.3
func TestLastOnes(t *testing.T) {
	for room := 1; room <= 9; room++ {
		r := made[int](t, room)
		var all []int
		for x := range 40 {
			all = append(all, x)
			r.Put(x)
			lost := max(0, len(all)-room)
			has(t, r, uint64(lost), all[lost:]...)
		}
	}
}

// 11.1, 11.2, 11.3: whatever is done, a ring has what a list has, out of which things go at the front.
func TestAsList(t *testing.T) {
	source := rand.New(rand.NewPCG(11, 3))
	for range 300 {
		room := 1 + source.IntN(12)
		r := made[uint64](t, room)
		var l []uint64
		var lost uint64
		for range 120 {
			switch source.IntN(8) {
			case 0:
				n := source.IntN(room+4) - 2
				went := max(0, min(n, len(l)))
				if told := r.Drop(n); told != went {
					t.Fatalf("Drop(%d) is %d, not %d", n, told, went)
				}
				l = l[went:]
			case 1:
				other := r.Clone()
				if source.IntN(2) == 0 {
					r, other = other, r
				}
				other.Drop(source.IntN(3))
				other.Put(1)
			default:
				x := source.Uint64()
				l = append(l, x)
				if len(l) <= room {
					puts(t, r, x, 0, false)
					break
				}
				puts(t, r, x, l[0], true)
				l = l[1:]
				lost++
			}
			has(t, r, lost, l...)
		}
	}
}
