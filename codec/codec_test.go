package codec_test

import (
	"encoding/binary"
	"math"
	"math/rand/v2"
	"strings"
	"testing"

	"plimsoll/codec"
)

const most = 1<<64 - 1

// numbers are the edges of each number of bytes, and some of each length.
func numbers() []uint64 {
	l := []uint64{0, 1, 2, 300, 1<<31 - 1, 1 << 31, 1<<32 - 1, 1 << 32, 1<<63 - 1, 1 << 63, 1<<63 + 1, most - 1, most}
	source := rand.New(rand.NewPCG(1, 2))
	for length := range 64 {
		l = append(l, 1<<length, 1<<length-1, 1<<length+1, source.Uint64()>>length)
	}
	return l
}

func signed() []int64 {
	l := []int64{math.MinInt64, math.MinInt64 + 1, math.MaxInt64, math.MaxInt64 - 1, -65, -64, -63, 63, 64, 65}
	for _, n := range numbers() {
		l = append(l, int64(n), -int64(n))
	}
	return l
}

func texts() []string {
	return []string{"", "a", "\x00", "\xff\xfe", "a line\nand another", strings.Repeat("x", 127), strings.Repeat("y", 128), strings.Repeat("z", 20000)}
}

// put is what is written by one call.
func put(call func(w *codec.Writer)) string {
	var w codec.Writer
	call(&w)
	return w.Out()
}

func uintBytes(n uint64) string { return put(func(w *codec.Writer) { w.Uint(n) }) }
func intBytes(n int64) string   { return put(func(w *codec.Writer) { w.Int(n) }) }
func textBytes(s string) string { return put(func(w *codec.Writer) { w.Text(s) }) }

// lowest is the lowest width bytes of n.
func lowest(width int, n uint64) uint64 {
	return n << (64 - 8*width) >> (64 - 8*width)
}

// goesOn ends a test, if r is bad or has another number of bytes left.
func goesOn(t *testing.T, call string, r *codec.Reader, left int) {
	t.Helper()
	if r.Bad() || r.Left() != left {
		t.Fatalf("%s: bad %v, %d left; want %d", call, r.Bad(), r.Left(), left)
	}
}

// isBad ends a test, if r is not bad, or answers something.
func isBad(t *testing.T, call string, r *codec.Reader) {
	t.Helper()
	for range 2 {
		if !r.Bad() || r.Left() != 0 || r.Uint() != 0 || r.Int() != 0 || r.Fixed(1) != 0 || r.Text(1000) != "" || r.Raw(1) != "" || r.Raw(0) != "" {
			t.Fatalf("%s: it is not bad from there on", call)
		}
	}
}

// 3.1
func TestUintBytes(t *testing.T) {
	for n, want := range map[uint64]string{
		0: "\x00", 1: "\x01", 127: "\x7f", 128: "\x80\x01", 300: "\xac\x02", 16383: "\xff\x7f", 16384: "\x80\x80\x01",
		1<<63 - 1: "\xff\xff\xff\xff\xff\xff\xff\xff\x7f",
		1 << 63:   "\x80\x80\x80\x80\x80\x80\x80\x80\x80\x01",
		most:      "\xff\xff\xff\xff\xff\xff\xff\xff\xff\x01",
	} {
		if got := uintBytes(n); got != want {
			t.Errorf("Uint(%d): %x, want %x", n, got, want)
		}
	}
	for _, n := range numbers() {
		if got, want := uintBytes(n), string(binary.AppendUvarint(nil, n)); got != want {
			t.Errorf("Uint(%d): %x, want %x", n, got, want)
		}
	}
}

// 3.1
func TestIntBytes(t *testing.T) {
	for n, want := range map[int64]string{
		0: "\x00", -1: "\x01", 1: "\x02", -2: "\x03", 2: "\x04", 63: "\x7e", -64: "\x7f", 64: "\x80\x01", -65: "\x81\x01",
		math.MaxInt64: "\xfe\xff\xff\xff\xff\xff\xff\xff\xff\x01",
		math.MinInt64: "\xff\xff\xff\xff\xff\xff\xff\xff\xff\x01",
	} {
		if got := intBytes(n); got != want {
			t.Errorf("Int(%d): %x, want %x", n, got, want)
		}
	}
	for _, n := range signed() {
		if got, want := intBytes(n), string(binary.AppendVarint(nil, n)); got != want {
			t.Errorf("Int(%d): %x, want %x", n, got, want)
		}
	}
}

// 3.1
func TestFixedBytes(t *testing.T) {
	const n = 0x0123456789abcdef
	for width, want := range map[int]string{
		1: "\xef", 2: "\xcd\xef", 3: "\xab\xcd\xef", 4: "\x89\xab\xcd\xef", 5: "\x67\x89\xab\xcd\xef", 6: "\x45\x67\x89\xab\xcd\xef",
		7: "\x23\x45\x67\x89\xab\xcd\xef", 8: "\x01\x23\x45\x67\x89\xab\xcd\xef",
		0: "", -1: "", 9: "", 64: "", math.MinInt: "", math.MaxInt: "",
	} {
		if got := put(func(w *codec.Writer) { w.Fixed(width, n) }); got != want {
			t.Errorf("Fixed(%d, n): %x, want %x", width, got, want)
		}
	}
	if got := put(func(w *codec.Writer) { w.Fixed(3, 5) }); got != "\x00\x00\x05" {
		t.Errorf("Fixed(3, 5): %x", got)
	}
}

// 3.1
func TestTextAndRawBytes(t *testing.T) {
	for _, s := range texts() {
		if got, want := textBytes(s), uintBytes(uint64(len(s)))+s; got != want {
			t.Errorf("Text of %d bytes: %x", len(s), got)
		}
		if got := put(func(w *codec.Writer) { w.Raw(s) }); got != s {
			t.Errorf("Raw of %d bytes: %x", len(s), got)
		}
	}
	if got := textBytes("abc"); got != "\x03abc" {
		t.Errorf("Text(abc): %x", got)
	}
}

// 3.1
func TestWriter(t *testing.T) {
	var w codec.Writer
	if w.Out() != "" {
		t.Errorf("a zero writer has %x", w.Out())
	}
	w.Uint(300)
	first := w.Out()
	w.Int(-2)
	w.Fixed(2, 0x4142)
	w.Fixed(9, 7)
	w.Text("cd")
	w.Raw("")
	w.Raw("e")
	if first != "\xac\x02" || w.Out() != "\xac\x02\x03AB\x02cde" || w.Out() != w.Out() {
		t.Errorf("%x, then %x", first, w.Out())
	}
}

// 3.1: a writer changes by its own calls, not by those of a copy of it.
func TestCopiedWriter(t *testing.T) {
	for length := range 20 {
		var a codec.Writer
		a.Raw(strings.Repeat("x", length))
		b := a
		a.Raw("a")
		b.Raw("b")
		c := b
		c.Raw("c")
		d := b
		b.Raw("b")
		d.Raw("d")
		a.Raw("a")
		ahead := strings.Repeat("x", length)
		if a.Out() != ahead+"aa" || b.Out() != ahead+"bb" || c.Out() != ahead+"bc" || d.Out() != ahead+"bd" {
			t.Fatalf("%q, %q, %q, %q", a.Out(), b.Out(), c.Out(), d.Out())
		}
	}
}

// 3.1, 3.2: no call panics, where there is no writer, or no reader that Open made.
func TestNone(t *testing.T) {
	var w *codec.Writer
	w.Uint(1)
	w.Int(1)
	w.Fixed(1, 1)
	w.Text("a")
	w.Raw("a")
	if w.Out() != "" {
		t.Errorf("no writer has %q", w.Out())
	}
	isBad(t, "no reader", nil)
	r := &codec.Reader{}
	if r.Left() != 0 || r.Uint() != 0 {
		t.Error("there is something in a zero reader")
	}
}

// 3.2, 3.3
func TestNumbersThereAndBack(t *testing.T) {
	for _, n := range numbers() {
		r := codec.Open(uintBytes(n) + "ab")
		if got := r.Uint(); got != n {
			t.Fatalf("Uint: %d, want %d", got, n)
		}
		goesOn(t, "Uint", r, 2)
		for width := 1; width <= 8; width++ {
			r := codec.Open(put(func(w *codec.Writer) { w.Fixed(width, n) }) + "ab")
			if got, want := r.Fixed(width), lowest(width, n); got != want {
				t.Fatalf("Fixed(%d): %d, want %d", width, got, want)
			}
			goesOn(t, "Fixed", r, 2)
		}
	}
	for _, n := range signed() {
		r := codec.Open(intBytes(n) + "ab")
		if got := r.Int(); got != n {
			t.Fatalf("Int: %d, want %d", got, n)
		}
		goesOn(t, "Int", r, 2)
	}
}

// 3.2, 3.3
func TestTextsThereAndBack(t *testing.T) {
	for _, s := range texts() {
		for _, room := range []int{len(s), len(s) + 1, math.MaxInt} {
			r := codec.Open(textBytes(s) + "ab")
			if got := r.Text(room); got != s {
				t.Fatalf("Text(%d): %q, want %q", room, got, s)
			}
			goesOn(t, "Text", r, 2)
		}
		r := codec.Open(s + "ab")
		if got := r.Raw(len(s)); got != s {
			t.Fatalf("Raw(%d): %q", len(s), got)
		}
		goesOn(t, "Raw", r, 2)
	}
}

// 3.2: no number's bytes.
func TestNoNumber(t *testing.T) {
	nines := strings.Repeat("\xff", 9)
	for _, s := range []string{
		"", "\x80", "\xff", "\x80\x80", nines, // they end too soon
		"\x80\x00", "\x81\x00", "\xff\x00", "\x80\x80\x00", "\xff\xff\x00", strings.Repeat("\x80", 9) + "\x00", nines + "\x00", // one more than it must be
		nines + "\x02", nines + "\x03", nines + "\x7f", strings.Repeat("\x80", 9) + "\x02", // 2^64 or more
		nines + "\x80", nines + "\x81", nines + "\xff", nines + "\x81\x00", nines + "\x80\x00", nines + "\x80\x01", strings.Repeat("\x80", 10) + "\x01", strings.Repeat("\xff", 30),
	} {
		for _, behind := range []string{"", "\x00", "\x01", "\x00abc"} {
			// Bytes that end too soon may be a number's together with others.
			whole := s + behind
			if behind != "" && strings.Trim(s, "\x80\xff") == "" && len(s) < 10 {
				continue
			}
			r := codec.Open(whole)
			if n := r.Uint(); n != 0 {
				t.Errorf("Uint of %x: %d", whole, n)
			}
			isBad(t, "Uint", r)
			r = codec.Open(whole)
			if n := r.Int(); n != 0 {
				t.Errorf("Int of %x: %d", whole, n)
			}
			isBad(t, "Int", r)
			r = codec.Open(whole)
			if got := r.Text(math.MaxInt); got != "" {
				t.Errorf("Text of %x: %q", whole, got)
			}
			isBad(t, "Text", r)
		}
	}
}

// 3.2
func TestFixedBad(t *testing.T) {
	for _, width := range []int{0, -1, 9, 16, math.MinInt, math.MaxInt} {
		r := codec.Open(strings.Repeat("a", 100))
		if n := r.Fixed(width); n != 0 {
			t.Errorf("Fixed(%d): %d", width, n)
		}
		isBad(t, "Fixed of no width", r)
	}
	for width := 1; width <= 8; width++ {
		r := codec.Open(strings.Repeat("a", width-1))
		if n := r.Fixed(width); n != 0 {
			t.Errorf("Fixed(%d) of too few: %d", width, n)
		}
		isBad(t, "Fixed of too few", r)
	}
}

// 3.2
func TestTextBad(t *testing.T) {
	for _, c := range []struct {
		name  string
		bytes string
		most  int
	}{
		{"no bytes", "", 10},
		{"one more than there may be", "\x03abc", 2},
		{"none may be", "\x01a", 0},
		{"less than none may be", "\x00", -1},
		{"least", "\x00", math.MinInt},
		{"one too few", "\x03ab", 10},
		{"nothing behind its length", "\x01", 10},
		{"a length that is no int", uintBytes(1<<63) + "abc", math.MaxInt},
		{"the greatest length", uintBytes(most) + "abc", math.MaxInt},
		{"a length that would be small, if it were cut", uintBytes(1<<32+3) + "abc", math.MaxInt},
	} {
		r := codec.Open(c.bytes)
		if got := r.Text(c.most); got != "" {
			t.Errorf("%s: %q", c.name, got)
		}
		isBad(t, c.name, r)
	}
	r := codec.Open("\x00b")
	if r.Text(0) != "" {
		t.Error("there is something in an empty text")
	}
	goesOn(t, "Text(0)", r, 1)
}

// 3.2
func TestRawBad(t *testing.T) {
	for _, n := range []int{-1, 4, math.MinInt, math.MaxInt} {
		r := codec.Open("abc")
		if got := r.Raw(n); got != "" {
			t.Errorf("Raw(%d): %q", n, got)
		}
		isBad(t, "Raw", r)
	}
	r := codec.Open("")
	if r.Raw(0) != "" {
		t.Error("there is something in nothing")
	}
	goesOn(t, "Raw(0)", r, 0)
}

// 3.2
func TestPlace(t *testing.T) {
	r := codec.Open("\xac\x02\x03AB\x02cde\x80")
	goesOn(t, "Open", r, 10)
	if r.Uint() != 300 || r.Left() != 8 || r.Int() != -2 || r.Left() != 7 || r.Fixed(2) != 0x4142 || r.Left() != 5 {
		t.Fatalf("numbers: %d left", r.Left())
	}
	if r.Text(2) != "cd" || r.Left() != 2 || r.Raw(1) != "e" {
		t.Fatalf("texts: %d left", r.Left())
	}
	goesOn(t, "ahead of what is wrong", r, 1)
	r.Uint()
	isBad(t, "what is wrong", r)
	// Another reader of the same is not bad.
	goesOn(t, "another reader", codec.Open("\x80"), 1)
}

// 3.3: whatever is read as a number has just the bytes that are written of it.
func TestOneNumberAlone(t *testing.T) {
	check := func(s string) {
		r := codec.Open(s)
		n := r.Uint()
		if !r.Bad() && uintBytes(n) != s[:len(s)-r.Left()] {
			t.Fatalf("%x is read as %d, which is written %x", s, n, uintBytes(n))
		}
		r = codec.Open(s)
		i := r.Int()
		if !r.Bad() && intBytes(i) != s[:len(s)-r.Left()] {
			t.Fatalf("%x is read as %d, which is written %x", s, i, intBytes(i))
		}
	}
	for a := range 256 {
		check(string([]byte{byte(a)}))
		for b := range 256 {
			check(string([]byte{byte(a), byte(b)}))
			check(string([]byte{byte(a), 0x80, byte(b)}))
			check(strings.Repeat("\x80", 8) + string([]byte{byte(a), byte(b)}))
			check(strings.Repeat("\xff", 9) + string([]byte{byte(a), byte(b)}))
		}
	}
	source := rand.New(rand.NewPCG(3, 4))
	for range 20000 {
		l := make([]byte, source.IntN(13))
		for i := range l {
			l[i] = byte(source.Uint32())
			if source.IntN(4) > 0 {
				l[i] |= 128
			}
		}
		check(string(l))
	}
}

// 3.3: many of any kind behind one another.
func TestManyThereAndBack(t *testing.T) {
	source := rand.New(rand.NewPCG(5, 6))
	for range 200 {
		var w codec.Writer
		var reads []func(r *codec.Reader) bool
		for range source.IntN(60) {
			n, width, s := source.Uint64()>>source.IntN(64), 1+source.IntN(8), strings.Repeat("ä", source.IntN(100))
			switch source.IntN(5) {
			case 0:
				w.Uint(n)
				reads = append(reads, func(r *codec.Reader) bool { return r.Uint() == n })
			case 1:
				w.Int(-int64(n))
				reads = append(reads, func(r *codec.Reader) bool { return r.Int() == -int64(n) })
			case 2:
				w.Fixed(width, n)
				reads = append(reads, func(r *codec.Reader) bool { return r.Fixed(width) == lowest(width, n) })
			case 3:
				w.Text(s)
				reads = append(reads, func(r *codec.Reader) bool { return r.Text(len(s)) == s })
			case 4:
				w.Raw(s)
				reads = append(reads, func(r *codec.Reader) bool { return r.Raw(len(s)) == s })
			}
		}
		r := codec.Open(w.Out())
		for i, read := range reads {
			if !read(r) || r.Bad() {
				t.Fatalf("read %d of %d is another one", i, len(reads))
			}
		}
		goesOn(t, "all", r, 0)
	}
}
