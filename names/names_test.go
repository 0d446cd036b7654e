package names_test

import (
	"maps"
	"math"
	"math/rand/v2"
	"slices"
	"strconv"
	"strings"
	"testing"

	"plimsoll/names"
)

// odd are names of all kinds; they rise.
func odd() []string {
	return []string{
		"", "\x00", "\x00\x00", "\n", " ", "0", "00", "10", "2", "A", "Z", "_", "a", "a\x00", "aa", "aaa", "ab", "b", "ba",
		"z", "\x7f", "\x80", "\x80a", "é", "éa", "日", "日本", "\xff", "\xff\xff",
	}
}

// with is an index of these names, the place of each that of it in l.
func with(t *testing.T, l ...string) *names.Index {
	t.Helper()
	x := names.NewIndex()
	for place, name := range l {
		if !x.Put(name, place) {
			t.Fatalf("Put(%q) of %q does not hold", name, l)
		}
	}
	return x
}

// has ends a test, if x has not just these names with these places.
func has(t *testing.T, x *names.Index, want map[string]int) {
	t.Helper()
	if x.Len() != len(want) {
		t.Fatalf("there are %d names, not %d", x.Len(), len(want))
	}
	if got := x.All(); !slices.Equal(got, slices.Sorted(maps.Keys(want))) {
		t.Fatalf("the names are %q, not those of %v", got, want)
	}
	for name, place := range want {
		if got, there := x.Get(name); got != place || !there {
			t.Fatalf("Get(%q) is %d, %v, not %d", name, got, there, place)
		}
	}
}

// begins ends a test, if Begins does not tell just those of want that begin with front.
func begins(t *testing.T, x *names.Index, front string, want map[string]int) {
	t.Helper()
	l := slices.DeleteFunc(slices.Sorted(maps.Keys(want)), func(name string) bool { return !strings.HasPrefix(name, front) })
	if got := x.Begins(front); !slices.Equal(got, l) {
		t.Fatalf("Begins(%q) is %q, not %q", front, got, l)
	}
}

// 16.1
func TestEmptyIndex(t *testing.T) {
	x := names.NewIndex()
	if x == nil {
		t.Fatal("there is no index")
	}
	has(t, x, nil)
	for _, name := range odd() {
		if place, there := x.Get(name); place != 0 || there {
			t.Errorf("Get(%q) of an empty index is %d, %v", name, place, there)
		}
		if x.Drop(name) {
			t.Errorf("Drop(%q) of an empty index holds", name)
		}
		begins(t, x, name, nil)
	}
	has(t, x, nil)
}

// 16.1
func TestIndex(t *testing.T) {
	x := names.NewIndex()
	want := map[string]int{}
	for place, name := range []string{"disk_used", "cpu", "disk", "cpu_idle", "disk_free", "dis", "e", "c"} {
		if !x.Put(name, place+7) {
			t.Fatalf("Put(%q) does not hold", name)
		}
		want[name] = place + 7
		has(t, x, want)
	}
	if x.Put("disk", 99) || x.Put("disk", 9) || x.Put("c", 0) {
		t.Error("what is there is put")
	}
	has(t, x, want)
	if got := x.Begins("disk"); !slices.Equal(got, []string{"disk", "disk_free", "disk_used"}) {
		t.Errorf("Begins is %q", got)
	}
	for _, front := range []string{"", "c", "cpu", "cpu_", "cpu_idle", "cpu_idles", "d", "di", "disk_", "disk_g", "e", "ee", "f", "a", "CPU"} {
		begins(t, x, front, want)
	}
	if !x.Drop("disk") || x.Drop("disk") || x.Drop("disks") || x.Drop("") {
		t.Error("Drop does not tell what was there")
	}
	delete(want, "disk")
	has(t, x, want)
	if place, there := x.Get("disk"); place != 0 || there {
		t.Errorf("Get of what went is %d, %v", place, there)
	}
	if !x.Put("disk", 0) {
		t.Error("what went is not put")
	}
	want["disk"] = 0
	has(t, x, want)
}

// 16.1: names rise byte by byte, whatever their bytes are, and in whatever order they were put.
func TestOdd(t *testing.T) {
	source := rand.New(rand.NewPCG(16, 1))
	for range 20 {
		want := map[string]int{}
		for _, place := range source.Perm(len(odd())) {
			want[odd()[place]] = place
		}
		l := odd()
		source.Shuffle(len(l), func(i, j int) { l[i], l[j] = l[j], l[i] })
		x := names.NewIndex()
		for _, name := range l {
			x.Put(name, want[name])
		}
		has(t, x, want)
		if got := x.All(); !slices.Equal(got, odd()) {
			t.Fatalf("All is %q", got)
		}
		for _, front := range append(odd(), "1", "aab", "aaaa", "\x80\x80", "\xe3", "\xe6", "\xfe", "\xff\xff\xff") {
			begins(t, x, front, want)
		}
	}
}

// 16.1: a place is kept as it is; several names may have one.
func TestPlaces(t *testing.T) {
	x := names.NewIndex()
	want := map[string]int{"a": 5, "b": 5, "c": 0, "d": -1, "e": math.MaxInt, "f": math.MinInt}
	for name, place := range want {
		x.Put(name, place)
	}
	has(t, x, want)
}

// 16.1: lists that were told do not change with the index, nor it with them.
func TestListsOfTheirOwn(t *testing.T) {
	x := with(t, "a", "ab", "b")
	all, begun := x.All(), x.Begins("a")
	x.Drop("ab")
	x.Put("aa", 9)
	if !slices.Equal(all, []string{"a", "ab", "b"}) || !slices.Equal(begun, []string{"a", "ab"}) {
		t.Errorf("what was told is %q, %q then", all, begun)
	}
	for _, l := range [][]string{x.All(), x.Begins("a"), x.Begins("")} {
		clear(l)
	}
	has(t, x, map[string]int{"a": 0, "aa": 9, "b": 2})
}

// 16.1: one index has nothing of another one.
func TestIndexesOfTheirOwn(t *testing.T) {
	x, y := with(t, "a", "b"), with(t, "b", "c")
	x.Drop("b")
	has(t, x, map[string]int{"a": 0})
	has(t, y, map[string]int{"b": 0, "c": 1})
}

// 16.1: where there is no index, there is no name.
func TestNoIndex(t *testing.T) {
	var none *names.Index
	if none.Put("a", 1) || none.Drop("a") || none.Len() != 0 || len(none.All()) != 0 || len(none.Begins("")) != 0 {
		t.Error("there is something")
	}
	if place, there := none.Get("a"); place != 0 || there {
		t.Errorf("Get is %d, %v", place, there)
	}
}

// 16.1, 16.3: as many names as there may be series, put in several orders, and dropped in others.
func TestMany(t *testing.T) {
	const many = 20000
	rising := make([]string, many)
	for i := range rising {
		rising[i] = strconv.Itoa(100000 + i)
	}
	falling := slices.Clone(rising)
	slices.Reverse(falling)
	source := rand.New(rand.NewPCG(16, 3))
	mixed := slices.Clone(rising)
	source.Shuffle(many, func(i, j int) { mixed[i], mixed[j] = mixed[j], mixed[i] })
	for _, put := range [][]string{rising, falling, mixed} {
		for _, drop := range [][]string{rising, falling, mixed} {
			x := with(t, put...)
			want := map[string]int{}
			for place, name := range put {
				want[name] = place
			}
			has(t, x, want)
			begins(t, x, "10", want)
			begins(t, x, "1077", want)
			begins(t, x, "11999", want)
			for _, name := range drop[:many/2] {
				if !x.Drop(name) {
					t.Fatalf("Drop(%q) does not hold", name)
				}
				delete(want, name)
			}
			has(t, x, want)
			begins(t, x, "104", want)
			for _, name := range drop[many/2:] {
				x.Drop(name)
			}
			has(t, x, nil)
		}
	}
}

// 16.3
func TestFound(t *testing.T) {
	source := rand.New(rand.NewPCG(16, 4))
	for _, letters := range []int{2, 5, 26} {
		x := names.NewIndex()
		want := map[string]int{}
		for step := range 30000 {
			name := word(source, letters)
			place, was := want[name]
			switch source.IntN(3) {
			case 0:
				if x.Drop(name) != was {
					t.Fatalf("Drop(%q) is not %v", name, was)
				}
				delete(want, name)
			default:
				if x.Put(name, step) == was {
					t.Fatalf("Put(%q) is %v", name, was)
				}
				if !was {
					want[name] = step
				}
			}
			if got, there := x.Get(word(source, letters)); !there && got != 0 {
				t.Fatalf("what is not there has the place %d", got)
			}
			place, was = want[name]
			if got, there := x.Get(name); got != place || there != was {
				t.Fatalf("Get(%q) is %d, %v, not %d, %v", name, got, there, place, was)
			}
			if step%1000 == 0 {
				has(t, x, want)
				begins(t, x, word(source, letters), want)
			}
		}
		has(t, x, want)
	}
}

// word is a short name of that many letters.
func word(source *rand.Rand, letters int) string {
	b := make([]byte, source.IntN(13))
	for i := range b {
		b[i] = 'a' + byte(source.IntN(letters))
	}
	return string(b)
}
