package seal_test

import (
	"hash/crc32"
	"math/rand/v2"
	"strings"
	"testing"

	"plimsoll/api"
	"plimsoll/codec"
	"plimsoll/seal"
)

// bytewise is the sum of s, by the document's words.
func bytewise(s string) uint32 {
	rest := uint32(0xffffffff)
	for i := range len(s) {
		rest ^= uint32(s[i])
		for range 8 {
			was := rest
			rest /= 2
			if was%2 == 1 {
				rest ^= 0x82f63b78
			}
		}
	}
	return rest ^ 0xffffffff
}

// random is bytes of that length.
func random(source *rand.Rand, length int) string {
	l := make([]byte, length)
	for i := range l {
		l[i] = byte(source.Uint32())
	}
	return string(l)
}

// framed is a frame of such a kind, length (as bytes) and load, whatever these are, with the sum that is right.
func framed(kind byte, length, load string) string {
	s := string([]byte{kind}) + length + load
	sum := bytewise(s)
	return s + string([]byte{byte(sum), byte(sum >> 8), byte(sum >> 16), byte(sum >> 24)})
}

// frame is a frame of a load that may be.
func frame(t *testing.T, kind byte, load string) string {
	t.Helper()
	s, err := seal.Frame(kind, load)
	if err != api.OK {
		t.Fatalf("Frame of %d bytes: %d", len(load), err)
	}
	return s
}

// 4.1
func TestSum(t *testing.T) {
	for s, want := range map[string]uint32{
		"123456789":                0xe3069283,
		"":                         0,
		"a":                        0xc1d04330,
		strings.Repeat("\x00", 32): 0x8a9136aa,
		strings.Repeat("\xff", 32): 0x62a8ab43,
	} {
		if got := seal.Sum(s); got != want {
			t.Errorf("Sum(%q): %08x, want %08x", s, got, want)
		}
	}
	table := crc32.MakeTable(crc32.Castagnoli)
	source := rand.New(rand.NewPCG(1, 2))
	for length := range 600 {
		s := random(source, length)
		if got := seal.Sum(s); got != bytewise(s) || got != crc32.Checksum([]byte(s), table) {
			t.Fatalf("Sum(%x): %08x, want %08x", s, got, bytewise(s))
		}
	}
}

// 4.1
func TestTable(t *testing.T) {
	table := seal.Table()
	if table != [256]uint32(*crc32.MakeTable(crc32.Castagnoli)) {
		t.Error("it is another table")
	}
	if table[0] != 0 || table[1] != 0xf26b8303 || table[128] != 0x82f63b78 || table[255] != 0xad7d5351 {
		t.Errorf("%08x, %08x, %08x, %08x", table[0], table[1], table[128], table[255])
	}
	// It is the caller's own.
	table[1] = 0
	if seal.Table()[1] != 0xf26b8303 || seal.Sum("123456789") != 0xe3069283 {
		t.Error("a changed table changes another one")
	}
}

// 4.2
func TestFrame(t *testing.T) {
	for _, c := range []struct {
		kind byte
		load string
		want string
	}{
		{0, "", framed(0, "\x00", "")},
		{7, "abc", framed(7, "\x03", "abc")},
		{255, strings.Repeat("x", 127), framed(255, "\x7f", strings.Repeat("x", 127))},
		{80, strings.Repeat("y", 128), framed(80, "\x80\x01", strings.Repeat("y", 128))},
		{1, "\x01\x00", framed(1, "\x02", "\x01\x00")},
	} {
		if got := frame(t, c.kind, c.load); got != c.want {
			t.Errorf("Frame(%d, %q): %x, want %x", c.kind, c.load, got, c.want)
		}
	}
	if got, want := frame(t, 7, "abc"), "\x07\x03abc\x85\x6d\x09\xd9"; got != want {
		t.Errorf("Frame(7, abc): %x, want %x", got, want)
	}
}

// 4.2
func TestLongest(t *testing.T) {
	load := strings.Repeat("l", api.MaxBytes)
	s := frame(t, 3, load)
	if want := framed(3, "\x80\x80\x80\x02", load); s != want {
		t.Error("the longest frame is another one")
	}
	kind, got, behind, err := seal.Open(s + "b")
	if kind != 3 || got != load || behind != "b" || err != api.OK {
		t.Errorf("the longest frame: kind %d, %d bytes, %q, %d", kind, len(got), behind, err)
	}
	load += "l"
	if s, err := seal.Frame(3, load); s != "" || err != api.ErrLong {
		t.Errorf("a longer one: %d bytes, %d", len(s), err)
	}
	// Its sum is right, and yet it is no frame.
	opens(t, "too long", framed(3, "\x81\x80\x80\x02", load), api.ErrCode)
}

// opens ends a test, if s is not refused so.
func opens(t *testing.T, name, s string, want api.Errno) {
	t.Helper()
	kind, load, behind, err := seal.Open(s)
	if kind != 0 || load != "" || behind != "" || err != want {
		t.Errorf("%s: %d, %q, %q, %d; want %d", name, kind, load, behind, err, want)
	}
	if got, err := seal.Only(kind, s); got != "" || err != api.ErrCode {
		t.Errorf("%s, alone: %q, %d; want ErrCode", name, got, err)
	}
}

// 4.2
func TestOpenShort(t *testing.T) {
	opens(t, "nothing", "", api.ErrShort)
	for length := range 10 {
		for _, b := range []string{"\x80", "\x81", "\xff"} {
			opens(t, "ends within its length", "\x07"+strings.Repeat(b, length), api.ErrShort)
		}
	}
	for _, load := range []string{"", "a", "abcdefg", strings.Repeat("x", 300)} {
		whole := frame(t, 7, load)
		for length := range len(whole) {
			opens(t, "a beginning of a frame", whole[:length], api.ErrShort)
		}
	}
	// A length that may be, and next to nothing behind it.
	opens(t, "the longest load is not there", "\x07\x80\x80\x80\x02abcdefgh", api.ErrShort)
	opens(t, "the sum is not there", "\x07\x00", api.ErrShort)
}

// 4.2
func TestOpenLength(t *testing.T) {
	nines := strings.Repeat("\xff", 9)
	for name, length := range map[string]string{
		"ten bytes that go on":             nines + "\x80",
		"ten bytes that go on, the least":  strings.Repeat("\x80", 10),
		"more than ten":                    strings.Repeat("\xff", 11),
		"many":                             strings.Repeat("\x80", 40),
		"2^64":                             strings.Repeat("\x80", 9) + "\x02",
		"the greatest":                     nines + "\x01",
		"too great an int":                 strings.Repeat("\x80", 9) + "\x01",
		"a needless byte":                  "\x80\x00",
		"a needless byte behind one":       "\x81\x00",
		"a needless byte behind nine":      nines + "\x00",
		"one more than may be":             "\x81\x80\x80\x02",
		"2^32 and one":                     "\x81\x80\x80\x80\x10",
		"a needless byte of one that is 3": "\x83\x80\x00",
	} {
		opens(t, name, "\x07"+length, api.ErrCode)
		opens(t, name+", and a load", "\x07"+length+"abc", api.ErrCode)
		opens(t, name+", and all else right", framed(7, length, "a"), api.ErrCode)
	}
}

// 4.2
func TestOpenSum(t *testing.T) {
	for _, load := range []string{"", "a", "abc", strings.Repeat("x", 200)} {
		whole := frame(t, 7, load)
		for place := range whole {
			// The length's bytes would cut another frame.
			if place >= 1 && place < len(whole)-len(load)-4 {
				continue
			}
			for bit := range 8 {
				l := []byte(whole)
				l[place] ^= 1 << bit
				opens(t, "another bit", string(l), api.ErrCode)
				opens(t, "another bit, and more behind it", string(l)+whole, api.ErrCode)
			}
		}
	}
	// The sum's bytes the other way round.
	l := []byte(frame(t, 7, "abc"))
	n := len(l)
	l[n-4], l[n-3], l[n-2], l[n-1] = l[n-1], l[n-2], l[n-3], l[n-4]
	opens(t, "highest first", string(l), api.ErrCode)
	opens(t, "another length", "\x07\x02"+frame(t, 7, "abc")[2:], api.ErrCode)
}

// 4.2
func TestOnly(t *testing.T) {
	whole := frame(t, 7, "abc")
	if got, err := seal.Only(7, whole); got != "abc" || err != api.OK {
		t.Errorf("a frame: %q, %d", got, err)
	}
	if got, err := seal.Only(0, frame(t, 0, "")); got != "" || err != api.OK {
		t.Errorf("an empty frame: %q, %d", got, err)
	}
	for _, c := range []struct {
		name string
		kind byte
		s    string
	}{
		{"another kind", 8, whole},
		{"the kind 0", 0, whole},
		{"something behind it", 7, whole + "\x00"},
		{"another one behind it", 7, whole + whole},
		{"nothing", 0, ""},
		{"ends too soon", 7, whole[:len(whole)-1]},
		{"ends within its length", 7, "\x07\x80"},
		{"another sum", 7, whole[:len(whole)-1] + "\x00"},
		{"no length", 7, framed(7, "\x81\x00", "a")},
	} {
		if got, err := seal.Only(c.kind, c.s); got != "" || err != api.ErrCode {
			t.Errorf("%s: %q, %d; want ErrCode", c.name, got, err)
		}
	}
}

// 4.3
func TestFound(t *testing.T) {
	source := rand.New(rand.NewPCG(3, 4))
	differs := func(s string, l []byte) {
		if string(l) != s && seal.Sum(string(l)) == seal.Sum(s) {
			t.Fatalf("%x and %x have one sum", s, l)
		}
	}
	for length := 1; length <= 40; length++ {
		s := random(source, length)
		for place := range length {
			for other := range 256 {
				l := []byte(s)
				l[place] = byte(other)
				differs(s, l)
			}
			for range 200 {
				l := []byte(s)
				copy(l[place:], random(source, 1+source.IntN(4)))
				differs(s, l)
			}
		}
	}
}

// 4.4
func TestThereAndBack(t *testing.T) {
	source := rand.New(rand.NewPCG(5, 6))
	for _, length := range []int{0, 1, 2, 126, 127, 128, 129, 511, 512, 16383, 16384, 50000} {
		for _, kind := range []byte{0, 1, 80, 127, 128, 255} {
			load := random(source, length)
			whole := frame(t, kind, load)
			for _, behind := range []string{"", "\x00", "\xff", whole, random(source, 40)} {
				k, l, b, err := seal.Open(whole + behind)
				if k != kind || l != load || b != behind || err != api.OK {
					t.Fatalf("kind %d, %d bytes: %d, %d bytes, %d bytes behind it, %d", kind, length, k, len(l), len(b), err)
				}
			}
			if l, err := seal.Only(kind, whole); l != load || err != api.OK {
				t.Fatalf("kind %d, %d bytes, alone: %d bytes, %d", kind, length, len(l), err)
			}
		}
	}
}

// 4.4: frames behind one another are opened one by one.
func TestRow(t *testing.T) {
	s := frame(t, 1, "a") + frame(t, 2, "") + frame(t, 3, "ccc")
	for _, want := range []struct {
		kind byte
		load string
	}{{1, "a"}, {2, ""}, {3, "ccc"}} {
		kind, load, behind, err := seal.Open(s)
		if kind != want.kind || load != want.load || err != api.OK {
			t.Fatalf("%d, %q, %d; want %v", kind, load, err, want)
		}
		s = behind
	}
	opens(t, "behind the last one", s, api.ErrShort)
}

// 4.4: what README.md says.
func TestReadme(t *testing.T) {
	var w codec.Writer
	w.Int(-7)
	w.Text("requests")
	load, err := seal.Only(1, frame(t, 1, w.Out()))
	r := codec.Open(load)
	n, name := r.Int(), r.Text(api.MaxLabel)
	if err != api.OK || n != -7 || name != "requests" || r.Bad() {
		t.Errorf("%d, %q, %d", n, name, err)
	}
}
