package match_test

import (
	"math/rand/v2"
	"slices"
	"strings"
	"testing"

	"plimsoll/api"
	"plimsoll/label"
	"plimsoll/match"
)

type labels = []api.Label
type matchers = []api.Matcher

// of is labels of names and values, one behind the other.
func of(texts ...string) labels {
	var l labels
	for pair := range slices.Chunk(texts, 2) {
		l = append(l, api.Label{Name: pair[0], Value: pair[1]})
	}
	return l
}

func equal(name, value string) api.Matcher {
	return api.Matcher{Kind: api.MatchEqual, Name: name, Value: value}
}
func other(name, value string) api.Matcher {
	return api.Matcher{Kind: api.MatchOther, Name: name, Value: value}
}
func begins(name, value string) api.Matcher {
	return api.Matcher{Kind: api.MatchBegins, Name: name, Value: value}
}

// some is a text of at most most letters.
func some(source *rand.Rand, letters string, most int) string {
	var b []byte
	for range source.IntN(most + 1) {
		b = append(b, letters[source.IntN(len(letters))])
	}
	return string(b)
}

// someLabels is labels of few letters, right or not.
func someLabels(source *rand.Rand) labels {
	var l labels
	for range source.IntN(4) {
		l = append(l, api.Label{Name: some(source, "ab", 2), Value: some(source, "xy", 2)})
	}
	return l
}

// someMatcher asks for labels of the same few letters, with a kind that there is or not.
func someMatcher(source *rand.Rand) api.Matcher {
	return api.Matcher{Kind: api.MatchKind(source.IntN(5)), Name: some(source, "ab", 2), Value: some(source, "xy", 2)}
}

func someMatchers(source *rand.Rand) matchers {
	var ms matchers
	for range source.IntN(4) {
		ms = append(ms, someMatcher(source))
	}
	return ms
}

// hits tells by the document's words whether m hits l.
func hits(m api.Matcher, l labels) bool {
	value := ""
	if at := slices.IndexFunc(l, func(one api.Label) bool { return one.Name == m.Name }); at >= 0 {
		value = l[at].Value
	}
	return m.Kind == api.MatchEqual && value == m.Value ||
		m.Kind == api.MatchOther && value != m.Value ||
		m.Kind == api.MatchBegins && len(value) >= len(m.Value) && value[:len(m.Value)] == m.Value
}

// 6.1
func TestCheck(t *testing.T) {
	long := equal(strings.Repeat("n", 64), strings.Repeat("v", 128))
	for _, ms := range []matchers{
		nil,
		{},
		{equal("a", "x")},
		{other("a", "x"), begins("a", "x"), equal("a", "x"), equal("a", "x")},
		{equal("b", ""), other("a", ""), begins("_", "")},
		{equal("Az09_", "\x00\xff\n\"\\")},
		{long},
		slices.Repeat(matchers{long}, 16),
	} {
		if err := match.Check(ms); err != api.OK {
			t.Errorf("Check(%v): %d", ms, err)
		}
	}
	for _, ms := range []matchers{
		slices.Repeat(matchers{equal("a", "x")}, 17),
		slices.Repeat(matchers{equal("a", "x")}, 1000),
		{{}},
		{{Kind: api.MatchNone, Name: "a", Value: "x"}},
		{{Kind: api.MatchCount, Name: "a", Value: "x"}},
		{{Kind: 255, Name: "a", Value: "x"}},
		{equal("", "x")},
		{equal("0a", "x")},
		{equal("a-b", "x")},
		{equal("a\n", "x")},
		{other("é", "x")},
		{begins(strings.Repeat("n", 65), "x")},
		{equal("a", strings.Repeat("v", 129))},
		{other("a", strings.Repeat("v", 129))},
		{begins("a", strings.Repeat("v", 129))},
		{equal("a", "x"), equal("", "x")},
		{equal("", "x"), equal("a", "x")},
		{equal("a", "x"), {Kind: api.MatchCount, Name: "a"}, equal("a", "x")},
	} {
		if err := match.Check(ms); err != api.ErrForm {
			t.Errorf("Check(%v): %d", ms, err)
		}
	}
}

// 6.1
func TestCheckNames(t *testing.T) {
	for c := range 256 {
		for _, name := range []string{string([]byte{byte(c)}), string([]byte{'a', byte(c)})} {
			got := match.Check(matchers{equal(name, "x")}) == api.OK
			if got != (label.Check(of(name, "x")) == api.OK) {
				t.Errorf("name %q is right: %v", name, got)
			}
		}
	}
}

// 6.1
func TestHits(t *testing.T) {
	l := of("a", "xyz", "b", "", "c", "x", "a", "q", "", "none")
	for _, c := range []struct {
		m    api.Matcher
		want bool
	}{
		{equal("a", "xyz"), true}, {equal("a", "xy"), false}, {equal("a", "xyzz"), false}, {equal("a", "q"), false}, {equal("a", ""), false}, {equal("a", "XYZ"), false},
		{equal("b", ""), true}, {equal("b", "x"), false}, {equal("d", ""), true}, {equal("d", "x"), false}, {equal("", "none"), true},
		{other("a", "xyz"), false}, {other("a", "xy"), true}, {other("a", "q"), true}, {other("a", ""), true},
		{other("b", ""), false}, {other("b", "x"), true}, {other("d", ""), false}, {other("d", "x"), true},
		{begins("a", ""), true}, {begins("a", "x"), true}, {begins("a", "xy"), true}, {begins("a", "xyz"), true}, {begins("a", "xyzz"), false}, {begins("a", "y"), false}, {begins("a", "q"), false},
		{begins("b", ""), true}, {begins("b", "x"), false}, {begins("d", ""), true}, {begins("d", "x"), false}, {begins("c", "xy"), false},
	} {
		if got := match.Hits(c.m, l); got != c.want {
			t.Errorf("Hits(%v): %v", c.m, got)
		}
	}
	for _, kind := range []api.MatchKind{api.MatchNone, api.MatchCount, api.MatchCount + 1, 255} {
		for _, value := range []string{"", "x", "xyz"} {
			if match.Hits(api.Matcher{Kind: kind, Name: "a", Value: value}, l) {
				t.Errorf("kind %d hits", kind)
			}
		}
	}
}

// 6.1
func TestOfNoLabels(t *testing.T) {
	for m, want := range map[api.Matcher]bool{equal("a", ""): true, equal("a", "x"): false, other("a", ""): false, other("a", "x"): true, begins("a", ""): true, begins("a", "x"): false, {}: false} {
		if got := match.Hits(m, nil); got != want {
			t.Errorf("Hits(%v, none): %v", m, got)
		}
	}
}

// 6.1
func TestAll(t *testing.T) {
	l := of("a", "xyz", "b", "")
	for _, c := range []struct {
		ms   matchers
		want bool
	}{
		{nil, true},
		{matchers{equal("a", "xyz")}, true},
		{matchers{equal("a", "xyz"), begins("a", "x"), other("b", "y"), equal("c", "")}, true},
		{matchers{equal("a", "xyz"), equal("b", "x")}, false},
		{matchers{equal("b", "x"), equal("a", "xyz")}, false},
		{matchers{equal("a", "xyz"), {}, equal("a", "xyz")}, false},
		{matchers{equal("b", "x")}, false},
		{slices.Repeat(matchers{equal("a", "xyz")}, 100), true},
		{append(slices.Repeat(matchers{equal("a", "xyz")}, 100), equal("a", "x")), false},
	} {
		if got := match.All(c.ms, l); got != c.want {
			t.Errorf("All(%v): %v", c.ms, got)
		}
	}
}

// 6.1
func TestPick(t *testing.T) {
	all := []labels{of("a", "x"), of("a", "xy", "b", "1"), nil, of("a", "y"), of("b", "1"), of("a", "x")}
	for _, c := range []struct {
		ms   matchers
		want []int
	}{
		{nil, []int{0, 1, 2, 3, 4, 5}},
		{matchers{begins("a", "x")}, []int{0, 1, 5}},
		{matchers{begins("a", "x"), equal("b", "")}, []int{0, 5}},
		{matchers{equal("a", "")}, []int{2, 4}},
		{matchers{other("a", "x"), equal("b", "1")}, []int{1, 4}},
		{matchers{equal("a", "none")}, nil},
		{matchers{{}}, nil},
	} {
		if got := match.Pick(c.ms, all...); !slices.Equal(got, c.want) {
			t.Errorf("Pick(%v): %v", c.ms, got)
		}
		if got := match.Pick(c.ms); len(got) > 0 {
			t.Errorf("Pick(%v) of none: %v", c.ms, got)
		}
	}
}

// 6.1
func TestSome(t *testing.T) {
	source := rand.New(rand.NewPCG(6, 1))
	for range 20000 {
		ms := someMatchers(source)
		all := []labels{someLabels(source), someLabels(source), someLabels(source)}
		var want []int
		for place, l := range all {
			hit := true
			for _, m := range ms {
				hit = hit && hits(m, l)
				if match.Hits(m, l) != hits(m, l) {
					t.Fatalf("Hits(%v, %q)", m, l)
				}
			}
			if match.All(ms, l) != hit {
				t.Fatalf("All(%v, %q)", ms, l)
			}
			if hit {
				want = append(want, place)
			}
		}
		if got := match.Pick(ms, all...); !slices.Equal(got, want) {
			t.Fatalf("Pick(%v, %q): %v, want %v", ms, all, got, want)
		}
	}
}

// 6.2
func TestExact(t *testing.T) {
	var most matchers
	for c := range 16 {
		most = append(most, equal(string(rune('p'-c)), strings.Repeat("v", 15)))
	}
	for _, ms := range []matchers{
		{equal("a", "x")},
		{equal("b", "x"), equal("a", "y")},
		{equal("b", "x"), equal("a", "y"), equal("_", "\n"), equal("Z", "x")},
		{equal(strings.Repeat("n", 64), strings.Repeat("v", 128))},
		most,
	} {
		var want labels
		for _, m := range ms {
			want = append(want, api.Label{Name: m.Name, Value: m.Value})
		}
		slices.SortFunc(want, func(a, b api.Label) int { return strings.Compare(a.Name, b.Name) })
		if got, ok := match.Exact(ms); !ok || !slices.Equal(got, want) {
			t.Errorf("Exact(%v): %q, %v", ms, got, ok)
		}
	}
}

// 6.2
func TestNotExact(t *testing.T) {
	var tooMany, tooLong matchers
	for c := range 17 {
		tooMany = append(tooMany, equal(string(rune('a'+c)), "v"))
		tooLong = append(tooLong, equal(string(rune('a'+c)), strings.Repeat("v", 16)))
	}
	for _, ms := range []matchers{
		nil,
		{},
		{equal("a", "")},
		{equal("a", "x"), equal("b", "")},
		{equal("b", ""), equal("a", "x")},
		{other("a", "x")},
		{begins("a", "x")},
		{equal("a", "x"), other("b", "x")},
		{equal("a", "x"), begins("b", "x")},
		{{}},
		{{Kind: api.MatchNone, Name: "a", Value: "x"}},
		{equal("b", "x"), {Kind: api.MatchCount, Name: "a", Value: "x"}},
		{equal("a", "x"), equal("a", "x")},
		{equal("a", "x"), equal("a", "y")},
		{equal("a", "x"), equal("b", "x"), equal("a", "y")},
		{equal("", "x")},
		{equal("0", "x")},
		{equal("a", "x"), equal("b c", "x")},
		{equal(strings.Repeat("n", 65), "x")},
		{equal("a", strings.Repeat("v", 129))},
		tooMany,
		tooLong[:16],
	} {
		if l, ok := match.Exact(ms); ok || len(l) > 0 {
			t.Errorf("Exact(%v): %q, %v", ms, l, ok)
		}
	}
}

// 6.2
func TestExactSome(t *testing.T) {
	source := rand.New(rand.NewPCG(6, 2))
	count := 0
	for range 20000 {
		ms := someMatchers(source)
		var want labels
		for _, m := range ms {
			if m.Kind == api.MatchEqual && m.Value != "" {
				want = append(want, api.Label{Name: m.Name, Value: m.Value})
			}
		}
		want = label.Sort(want...)
		is := len(want) == len(ms) && label.Check(want) == api.OK
		l, ok := match.Exact(ms)
		if ok != is || ok && !slices.Equal(l, want) || !ok && len(l) > 0 {
			t.Fatalf("Exact(%v): %q, %v", ms, l, ok)
		}
		if ok {
			count++
			if !match.All(ms, l) {
				t.Fatalf("%v do not hit %q", ms, l)
			}
		}
	}
	if count < 100 {
		t.Errorf("just %d were exact", count)
	}
}

// 6.3
func TestFewer(t *testing.T) {
	source := rand.New(rand.NewPCG(6, 3))
	for range 20000 {
		ms := someMatchers(source)
		all := []labels{someLabels(source), someLabels(source), someLabels(source)}
		before := match.Pick(ms, all...)
		for _, place := range match.Pick(append(ms, someMatcher(source)), all...) {
			if !slices.Contains(before, place) {
				t.Fatalf("%q is hit by more matchers than %v alone", all[place], ms)
			}
		}
		m := someMatcher(source)
		if match.Hits(equal(m.Name, m.Value), all[0]) == match.Hits(other(m.Name, m.Value), all[0]) {
			t.Fatalf("%s = and != %s hit not just one", m.Name, m.Value)
		}
	}
}

// What is handed in is neither changed nor kept.
func TestNothingIsChanged(t *testing.T) {
	ms := matchers{equal("b", "x"), equal("a", "y")}
	all := []labels{of("b", "x", "a", "y"), of("a", "y")}
	match.Check(ms)
	match.All(ms, all[0])
	match.Pick(ms, all...)
	l, _ := match.Exact(ms)
	l[0].Value = "z"
	if !slices.Equal(ms, matchers{equal("b", "x"), equal("a", "y")}) || !slices.Equal(all[0], of("b", "x", "a", "y")) || !slices.Equal(all[1], of("a", "y")) {
		t.Errorf("%v, %q", ms, all)
	}
	if again, _ := match.Exact(ms); !slices.Equal(again, of("a", "y", "b", "x")) {
		t.Errorf("two answers share: %q", again)
	}
}

// The example of README.md.
func TestReadme(t *testing.T) {
	l, err := label.Parse(`{__name__="requests_total",path="/"}`)
	ms := []api.Matcher{{Kind: api.MatchBegins, Name: "__name__", Value: "requests"}}
	places := match.Pick(ms, l)
	if err != api.OK || !slices.Equal(places, []int{0}) {
		t.Errorf("%v, %d", places, err)
	}
}
