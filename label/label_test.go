package label_test

import (
	"encoding/binary"
	"math/rand/v2"
	"regexp"
	"slices"
	"strings"
	"testing"

	"plimsoll/api"
	"plimsoll/label"
)

type labels = []api.Label

// of is labels of names and values, one behind the other.
func of(texts ...string) labels {
	var l labels
	for pair := range slices.Chunk(texts, 2) {
		l = append(l, api.Label{Name: pair[0], Value: pair[1]})
	}
	return l
}

// many is that many right labels, with short names and values of that length.
func many(count, length int) labels {
	var l labels
	for i := range count {
		l = append(l, api.Label{Name: string(rune('a' + i)), Value: strings.Repeat("v", length)})
	}
	return l
}

var nameForm = regexp.MustCompile(`\A[A-Za-z_][A-Za-z0-9_]{0,63}\z`)

// right tells by the document's words whether l is right.
func right(l labels) bool {
	all := ""
	for i, one := range l {
		all += one.Name + one.Value
		if !nameForm.MatchString(one.Name) || len(one.Value) > 128 {
			return false
		}
		for _, before := range l[:i] {
			if !(before.Name < one.Name) {
				return false
			}
		}
	}
	return len(l) >= 1 && len(l) <= 16 && len(all) <= 256
}

// bytesOf is the bytes that l would have, right or not.
func bytesOf(l labels) string {
	b := binary.AppendUvarint(nil, uint64(len(l)))
	for _, one := range l {
		for _, s := range []string{one.Name, one.Value} {
			b = append(binary.AppendUvarint(b, uint64(len(s))), s...)
		}
	}
	return string(b)
}

// textOf is the text that l would have, right or not.
func textOf(l labels) string {
	var parts []string
	for _, one := range l {
		value := strings.NewReplacer("\\", "\\\\", "\"", "\\\"", "\n", "\\n").Replace(one.Value)
		parts = append(parts, one.Name+"=\""+value+"\"")
	}
	return "{" + strings.Join(parts, ",") + "}"
}

// rightOnes are labels at the edges of what is right.
func rightOnes() []labels {
	l := []labels{
		of("a", ""),
		of("_", "x"),
		of("A", "1", "B", "2", "Z", "3", "_", "4", "a", "5", "z", "6"),
		of("a", "1", "a0", "2", "aA", "3", "a_", "4", "aa", "5", "ab", "6", "b", "7"),
		of("__name__", "requests_total", "code", "200", "path", "/a/b?c=\"d\"&e={f},g"),
		of(strings.Repeat("n", 64), strings.Repeat("v", 128)),
		of(strings.Repeat("a", 64), strings.Repeat("v", 64), strings.Repeat("b", 64), strings.Repeat("v", 64)),
		of("a", strings.Repeat("v", 127), "b", strings.Repeat("v", 127)),
		of("a", strings.Repeat("\\", 128), "b", strings.Repeat("\n", 126)),
		of("Az09_", "all", "zZ90_", "kinds"),
		many(16, 15),
		many(16, 0),
	}
	for c := range 256 {
		l = append(l, of("a", string([]byte{byte(c)})), of("a", "x", "b", string([]byte{'n', byte(c), 'n', byte(c)})))
	}
	return l
}

// wrongOnes are labels just past those edges.
func wrongOnes() []labels {
	l := []labels{
		nil,
		{},
		many(17, 0),
		many(26, 0),
		many(16, 16),
		of("", "x"),
		of("", ""),
		of("a", "1", "", "2"),
		of("a", "1", "a", "1"),
		of("a", "1", "a", "2"),
		of("b", "1", "a", "2"),
		of("a", "1", "c", "2", "b", "3"),
		of("b", "1", "a", "2", "c", "3"),
		of("a", "1", "b", "2", "a", "3"),
		of("a", "1", "B", "2"),
		of("aa", "1", "a", "2"),
		of("ab", "1", "a_", "2"),
		of(strings.Repeat("n", 65), "v"),
		of("n", strings.Repeat("v", 129)),
		of("a", strings.Repeat("v", 127), "b", strings.Repeat("v", 128)),
		of(strings.Repeat("a", 64), strings.Repeat("v", 64), strings.Repeat("b", 64), strings.Repeat("v", 65)),
		of("0", "x"),
		of("9a", "x"),
		of("a", "1", "9a", "x"),
		of("a ", "x"),
		of("é", "x"),
		of("aé", "x"),
		of("a\n", "x"),
		of("a=", "x"),
		of(" a", "x"),
	}
	for c := range 256 {
		name := string([]byte{byte(c)})
		if !nameForm.MatchString(name) {
			l = append(l, of(name, "x"))
		}
		if !nameForm.MatchString("a" + name) {
			l = append(l, of("a"+name, "x"), of("a"+name+"a", "x"))
		}
	}
	return l
}

// someLabels is labels at random, of few letters, so that many are right and many are alike.
func someLabels(source *rand.Rand) labels {
	var l labels
	for range source.IntN(5) {
		l = append(l, api.Label{Name: some(source, "abA_0", 3), Value: some(source, "a\"\\\nn,={}", 5)})
	}
	if source.IntN(4) > 0 {
		slices.SortFunc(l, func(a, b api.Label) int { return strings.Compare(a.Name, b.Name) })
	}
	return l
}

// some is at most most of those letters.
func some(source *rand.Rand, letters string, most int) string {
	var b []byte
	for range source.IntN(most + 1) {
		b = append(b, letters[source.IntN(len(letters))])
	}
	return string(b)
}

// isNothing ends a test, if beside the error there is something.
func isNothing(t *testing.T, what string, l labels, err, want api.Errno) {
	t.Helper()
	if err != want || len(l) > 0 {
		t.Fatalf("%s: %q, %d, want just %d", what, l, err, want)
	}
}

// 5.1
func TestCheck(t *testing.T) {
	for _, l := range rightOnes() {
		if err := label.Check(l); err != api.OK {
			t.Errorf("Check(%q): %d", l, err)
		}
	}
	for _, l := range wrongOnes() {
		if err := label.Check(l); err != api.ErrLabels {
			t.Errorf("Check(%q): %d", l, err)
		}
	}
}

// 5.1
func TestCheckSome(t *testing.T) {
	source := rand.New(rand.NewPCG(5, 1))
	count := 0
	for range 20000 {
		l := someLabels(source)
		want := api.ErrLabels
		if right(l) {
			want = api.OK
			count++
		}
		if err := label.Check(l); err != want {
			t.Fatalf("Check(%q): %d, want %d", l, err, want)
		}
	}
	if count < 1000 {
		t.Errorf("just %d were right", count)
	}
}

// 5.1
func TestCheckFirstBytes(t *testing.T) {
	for c := range 256 {
		for _, name := range []string{string([]byte{byte(c)}), string([]byte{byte(c), 'a'}), string([]byte{'a', byte(c)})} {
			if got := label.Check(of(name, "v")) == api.OK; got != nameForm.MatchString(name) {
				t.Errorf("name %q is right: %v", name, got)
			}
		}
	}
}

// 5.1
func TestSort(t *testing.T) {
	for _, c := range []struct{ l, want labels }{
		{nil, nil},
		{of("b", "1"), of("b", "1")},
		{of("b", "1", "a", "2"), of("a", "2", "b", "1")},
		{of("b", "2", "a", "9", "b", "1", "a", "8", "b", "3"), of("a", "9", "a", "8", "b", "2", "b", "1", "b", "3")},
		{of("a", "1", "Z", "2", "_", "3", "", "4", "\xff", "5", "aa", "6", "é", "7"), of("", "4", "Z", "2", "_", "3", "a", "1", "aa", "6", "é", "7", "\xff", "5")},
	} {
		if got := label.Sort(c.l...); !slices.Equal(got, c.want) {
			t.Errorf("Sort(%q): %q", c.l, got)
		}
	}
}

// 5.1
func TestSortManyOfOneName(t *testing.T) {
	source := rand.New(rand.NewPCG(5, 2))
	var l labels
	for i := range 3000 {
		l = append(l, api.Label{Name: some(source, "ab", 2), Value: string(rune(i))})
	}
	var want labels
	for _, name := range []string{"", "a", "aa", "ab", "b", "ba", "bb"} {
		for _, one := range l {
			if one.Name == name {
				want = append(want, one)
			}
		}
	}
	if !slices.Equal(label.Sort(l...), want) {
		t.Error("those of one name are not in their order")
	}
}

// 5.1
func TestSame(t *testing.T) {
	for _, c := range []struct {
		a, b labels
		want bool
	}{
		{nil, nil, true},
		{nil, labels{}, true},
		{of("a", "1", "b", "2"), of("a", "1", "b", "2"), true},
		{of("b", "1", "a", "2"), of("b", "1", "a", "2"), true},
		{of("b", "1", "a", "2"), of("a", "2", "b", "1"), false},
		{of("a", "1", "b", "2"), of("a", "1", "b", "3"), false},
		{of("a", "1", "b", "2"), of("a", "1", "c", "2"), false},
		{of("a", "1", "b", "2"), of("a", "1"), false},
		{of("a", "1"), of("a", "1", "b", "2"), false},
		{of("a", "1"), of("b", "1"), false},
		{of("", ""), nil, false},
		{nil, of("", ""), false},
		{of("ab", "c"), of("a", "bc"), false},
	} {
		if got := label.Same(c.a, c.b); got != c.want {
			t.Errorf("Same(%q, %q): %v", c.a, c.b, got)
		}
	}
}

// 5.1
func TestValue(t *testing.T) {
	l := of("b", "1", "a", "2", "a", "3", "", "4", "c", "")
	for name, want := range map[string]string{"b": "1", "a": "2", "": "4", "c": "", "d": "", "B": "", "aa": ""} {
		if got := label.Value(l, name); got != want {
			t.Errorf("Value(%q): %q, want %q", name, got, want)
		}
	}
	if got := label.Value(nil, ""); got != "" {
		t.Errorf("of no labels: %q", got)
	}
}

// 5.2
func TestBytesAre(t *testing.T) {
	got, err := label.Bytes(of("__name__", "up", "job", "a\"b\\\n"))
	if want := "\x02\x08__name__\x02up\x03job\x05a\"b\\\n"; err != api.OK || got != want {
		t.Errorf("Bytes: %q, %d", got, err)
	}
	got, err = label.Bytes(of("a", strings.Repeat("v", 128)))
	if want := "\x01\x01a\x80\x01" + strings.Repeat("v", 128); err != api.OK || got != want {
		t.Errorf("Bytes: %q, %d", got, err)
	}
}

// 5.2
func TestTextIs(t *testing.T) {
	for _, c := range []struct {
		l    labels
		want string
	}{
		{of("a", ""), `{a=""}`},
		{of("__name__", "up", "job", "x"), `{__name__="up",job="x"}`},
		{of("a", "x\"y", "b", "x\\y", "c", "x\ny"), `{a="x\"y",b="x\\y",c="x\ny"}`},
		{of("a", "\\n", "b", "\\\n\"", "c", "\r\t\x00é"), "{a=\"\\\\n\",b=\"\\\\\\n\\\"\",c=\"\r\t\x00é\"}"},
		{of("a", `",b="`), `{a="\",b=\""}`},
	} {
		got, err := label.Text(c.l)
		if err != api.OK || got != c.want {
			t.Errorf("Text(%q): %s, %d, want %s", c.l, got, err, c.want)
		}
		l, err := label.Parse(c.want)
		if err != api.OK || !slices.Equal(l, c.l) {
			t.Errorf("Parse(%s): %q, %d", c.want, l, err)
		}
	}
}

// 5.2
func TestOfWrongLabels(t *testing.T) {
	for _, l := range wrongOnes() {
		if s, err := label.Bytes(l); s != "" || err != api.ErrLabels {
			t.Errorf("Bytes(%q): %q, %d", l, s, err)
		}
		if s, err := label.Text(l); s != "" || err != api.ErrLabels {
			t.Errorf("Text(%q): %q, %d", l, s, err)
		}
		got, err := label.Of(bytesOf(l))
		isNothing(t, "Of", got, err, api.ErrCode)
		got, err = label.Parse(textOf(l))
		isNothing(t, "Parse "+textOf(l), got, err, api.ErrCode)
	}
}

// 5.2
func TestOfWrongBytes(t *testing.T) {
	for _, s := range []string{
		"", "\x00", "\x01", "\x01\x01a", "\x01\x01a\x01", "\x01\x01a\x01v\x00", "\x02\x01a\x01v", "\x01\x01a\x01v\x01b\x01v",
		"\x81\x00\x01a\x01v", "\x01\x81\x00a\x01v", "\x01\x01a\x81\x00v", "\x11" + strings.Repeat("\x01a\x00", 17),
		"\xff\xff\xff\xff\xff\xff\xff\xff\xff\x01", "\xff\xff\xff\xff\xff\xff\xff\xff\xff\x01\x01a\x01v", "\xff\xff\xff\xff\x0f\x01a\x01v",
		"\x01\x00\x01v", "\x01\x010\x01v", `{a="x"}`, "\x80",
	} {
		l, err := label.Of(s)
		isNothing(t, "Of "+s, l, err, api.ErrCode)
	}
}

// 5.2
func TestParseWrongTexts(t *testing.T) {
	for _, s := range []string{
		"", "{", "}", "{}", "a", `a="x"`, `{a="x"`, `a="x"}`, `{a="x}`, `{a=x}`, `{a="x",}`, `{,a="x"}`, `{a="x",,b="y"}`, `{a="x"b="y"}`,
		`{a="x" }`, `{ a="x"}`, `{a ="x"}`, `{a= "x"}`, `{a="x", b="y"}`, `{a="x"} `, ` {a="x"}`, "{a=\"x\"}\n", `{a="x"}}`, `{{a="x"}`, `{a="x"}{b="y"}`,
		`{a="x\"}`, `{a="x\`, `{a="\`, `{a="\x"}`, `{a="\a"}`, `{a="\0"}`, `{a="\ "}`, `{a="\N"}`, `{a="\r"}`, "{a=\"x\ny\"}", "{a=\"\\\n\"}", `{a="x"y"}`, `{a="""}`,
		`{="x"}`, `{"x"}`, `{a}`, `{a=}`, `{a="}`, `{0a="x"}`, `{a-b="x"}`, `{b="x",a="y"}`, `{a="x",a="y"}`, `{a="x",a="x"}`, `{'a'="x"}`, `{a='x'}`, `[a="x"]`, `(a="x")`, `{a="x";b="y"}`, `{a:"x"}`,
		`{a="x",b}`, `{a="x",b=}`, `{a="x",b="}`, `{a=="x"}`, `{a"="x"}`, `{a=""x}`, `,a="x"}`,
		textOf(many(17, 0)), textOf(many(16, 16)), `{a="` + strings.Repeat(`\n`, 129) + `"}`, "\x01\x01a\x01x", strings.Repeat(`{a="x",`, 1000), `{` + strings.Repeat(`a="",`, 100000),
	} {
		l, err := label.Parse(s)
		isNothing(t, "Parse "+s, l, err, api.ErrCode)
	}
}

// 5.2, 5.4
func TestThereAndBack(t *testing.T) {
	for _, l := range rightOnes() {
		s, err := label.Bytes(l)
		if err != api.OK || s != bytesOf(l) {
			t.Errorf("Bytes(%q): %q, %d", l, s, err)
		}
		if back, err := label.Of(s); err != api.OK || !slices.Equal(back, l) {
			t.Errorf("Of(%q): %q, %d", s, back, err)
		}
		s, err = label.Text(l)
		if err != api.OK || s != textOf(l) {
			t.Errorf("Text(%q): %q, %d", l, s, err)
		}
		if back, err := label.Parse(s); err != api.OK || !slices.Equal(back, l) {
			t.Errorf("Parse(%s): %q, %d", s, back, err)
		}
	}
}

// 5.2, 5.4
func TestJustTheirs(t *testing.T) {
	source := rand.New(rand.NewPCG(5, 4))
	edge := "\x00\x01\x02\x03\x7f\x80\xff\n\"\\,={}an0_ "
	for range 100000 {
		l := someLabels(source)
		b := changed(source, bytesOf(l), edge)
		got, err := label.Of(b)
		if err != api.OK {
			isNothing(t, "Of", got, err, api.ErrCode)
		} else if !right(got) || bytesOf(got) != b {
			t.Fatalf("Of(%q): %q", b, got)
		}
		s := changed(source, textOf(l), edge)
		got, err = label.Parse(s)
		if err != api.OK {
			isNothing(t, "Parse", got, err, api.ErrCode)
		} else if !right(got) || textOf(got) != s {
			t.Fatalf("Parse(%s): %q", s, got)
		}
	}
}

// changed is s with a few bytes put in, out, or in place of another.
func changed(source *rand.Rand, s, letters string) string {
	for range source.IntN(3) {
		at := source.IntN(len(s) + 1)
		to := min(len(s), at+source.IntN(2))
		s = s[:at] + some(source, letters, 1) + s[to:]
	}
	return s
}

// 5.4
func TestSameJustIfBytesAre(t *testing.T) {
	source := rand.New(rand.NewPCG(5, 5))
	byBytes := map[string]labels{}
	for range 20000 {
		l := someLabels(source)
		s, err := label.Bytes(l)
		if err != api.OK {
			continue
		}
		if first, ok := byBytes[s]; ok && !label.Same(first, l) {
			t.Fatalf("%q and %q have the same bytes", first, l)
		}
		byBytes[s] = l
	}
	var all []labels
	for _, l := range byBytes {
		all = append(all, l)
	}
	for i, a := range all[:min(300, len(all))] {
		for j, b := range all[:min(300, len(all))] {
			if label.Same(a, b) != (i == j) {
				t.Fatalf("Same(%q, %q)", a, b)
			}
		}
	}
}

// 5.3
func TestAnswersAreNew(t *testing.T) {
	l := of("b", "1", "a", "2")
	sorted := label.Sort(l...)
	if !slices.Equal(l, of("b", "1", "a", "2")) {
		t.Errorf("Sort changed what was handed in: %q", l)
	}
	sorted[0].Value = "x"
	l[0].Value = "y"
	if !slices.Equal(l, of("b", "y", "a", "2")) || !slices.Equal(sorted, of("a", "x", "b", "1")) {
		t.Errorf("Sort shares: %q, %q", l, sorted)
	}
	ready := of("a", "1", "b", "2")
	label.Sort(ready...)[0].Value = "x"
	if !slices.Equal(ready, of("a", "1", "b", "2")) {
		t.Errorf("Sort shares what is sorted: %q", ready)
	}
	for _, read := range []func() labels{
		func() labels { l, _ := label.Of("\x01\x01a\x01v"); return l },
		func() labels { l, _ := label.Parse(`{a="v"}`); return l },
	} {
		first := read()
		first[0].Value = "x"
		if !slices.Equal(read(), of("a", "v")) {
			t.Error("two answers share")
		}
	}
}

// 5.3
func TestNothingIsChanged(t *testing.T) {
	for _, l := range slices.Concat(rightOnes(), wrongOnes()) {
		was := slices.Clone(l)
		label.Check(l)
		label.Bytes(l)
		label.Text(l)
		label.Same(l, l)
		label.Value(l, "a")
		if !slices.Equal(l, was) {
			t.Fatalf("%q was changed: %q", was, l)
		}
	}
}

// The example of README.md.
func TestReadme(t *testing.T) {
	l, err := label.Parse(`{__name__="requests_total",path="/"}`)
	if err != api.OK || label.Value(l, "path") != "/" {
		t.Errorf("%q, %d", l, err)
	}
}
