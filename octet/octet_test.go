package octet_test

import (
	"bytes"
	"encoding/hex"
	"math"
	"math/rand"
	"strings"
	"testing"
	"time"

	"tipstaff/api"
	"tipstaff/octet"
)

// wide is a number whose bytes all differ, so that a byte in a wrong place is seen.
const wide = 0x0123456789abcdef

// P1.1

func TestPut(t *testing.T) {
	for _, c := range []struct {
		n     uint64
		width int
		want  string
	}{
		{258, 3, "\x00\x01\x02"},
		{258, 2, "\x01\x02"},
		{258, 1, "\x02"},
		{0, 1, "\x00"},
		{0, 8, "\x00\x00\x00\x00\x00\x00\x00\x00"},
		{255, 1, "\xff"},
		{256, 1, "\x00"},
		{wide, 0, ""},
		{wide, 1, "\xef"},
		{wide, 7, "\x23\x45\x67\x89\xab\xcd\xef"},
		{wide, 8, "\x01\x23\x45\x67\x89\xab\xcd\xef"},
		{wide, 9, "\x01\x23\x45\x67\x89\xab\xcd\xef"},
		{wide, math.MaxInt, "\x01\x23\x45\x67\x89\xab\xcd\xef"},
		{wide, -1, ""},
		{wide, math.MinInt, ""},
		{math.MaxUint64, 8, "\xff\xff\xff\xff\xff\xff\xff\xff"},
		{1 << 63, 8, "\x80\x00\x00\x00\x00\x00\x00\x00"},
	} {
		if got := octet.Put(c.n, c.width); got != c.want {
			t.Errorf("Put(%#x, %d): %q, want %q", c.n, c.width, got, c.want)
		}
	}
}

// P1.2

func TestGet(t *testing.T) {
	const s = "\x01\x23\x45\x67\x89\xab\xcd\xef\xff"
	for _, c := range []struct {
		s         string
		at, width int
		want      uint64
		e         api.Errno
	}{
		{s, 0, 1, 0x01, api.OK},
		{s, 0, 2, 0x0123, api.OK},
		{s, 0, 7, 0x0123456789abcd, api.OK},
		{s, 0, 8, wide, api.OK},
		{s, 1, 8, 0x23456789abcdefff, api.OK},
		{s, 3, 3, 0x6789ab, api.OK},
		{s, 8, 1, 0xff, api.OK},
		{"\x00\x00", 0, 2, 0, api.OK},
		{"\xff\xff\xff\xff\xff\xff\xff\xff", 0, 8, math.MaxUint64, api.OK},

		{s, -1, 1, 0, api.ErrArg},
		{s, math.MinInt, 1, 0, api.ErrArg},
		{s, 10, 1, 0, api.ErrArg},
		{s, math.MaxInt, 1, 0, api.ErrArg},
		{s, 0, 0, 0, api.ErrArg},
		{s, 0, -1, 0, api.ErrArg},
		{s, 0, 9, 0, api.ErrArg},
		{s, 0, math.MinInt, 0, api.ErrArg},
		{s, 0, math.MaxInt, 0, api.ErrArg},
		{s, math.MaxInt, math.MaxInt, 0, api.ErrArg},

		{s, 9, 1, 0, api.ErrShort},
		{s, 9, 8, 0, api.ErrShort},
		{s, 2, 8, 0, api.ErrShort},
		{s, 8, 2, 0, api.ErrShort},
		{"", 0, 1, 0, api.ErrShort},

		// ErrArg is named ahead of ErrShort: it is the answer where both hold.
		{"", 0, 0, 0, api.ErrArg},
		{"", 0, 9, 0, api.ErrArg},
		{"", 1, 1, 0, api.ErrArg},
		{s, 9, 9, 0, api.ErrArg},
		{s, 9, 0, 0, api.ErrArg},
		{s, 10, 8, 0, api.ErrArg},
	} {
		if got, e := octet.Get(c.s, c.at, c.width); got != c.want || e != c.e {
			t.Errorf("Get(%q, %d, %d): %#x, %d, want %#x, %d", c.s, c.at, c.width, got, e, c.want, c.e)
		}
	}
}

// P1.3

func TestCut(t *testing.T) {
	for _, c := range []struct {
		s     string
		at, n int
		want  string
		e     api.Errno
	}{
		{"abcd", 0, 4, "abcd", api.OK},
		{"abcd", 0, 1, "a", api.OK},
		{"abcd", 1, 2, "bc", api.OK},
		{"abcd", 3, 1, "d", api.OK},
		{"abcd", 0, 0, "", api.OK},
		{"abcd", 2, 0, "", api.OK},
		{"abcd", 4, 0, "", api.OK},
		{"", 0, 0, "", api.OK},
		{"\xff\x00\xc3", 1, 2, "\x00\xc3", api.OK},

		{"abcd", -1, 1, "", api.ErrArg},
		{"abcd", 5, 0, "", api.ErrArg},
		{"abcd", 0, -1, "", api.ErrArg},
		{"abcd", math.MinInt, 0, "", api.ErrArg},
		{"abcd", math.MaxInt, 0, "", api.ErrArg},
		{"abcd", 2, math.MinInt, "", api.ErrArg},

		{"abcd", 0, 5, "", api.ErrShort},
		{"abcd", 3, 2, "", api.ErrShort},
		{"abcd", 4, 1, "", api.ErrShort},
		{"", 0, 1, "", api.ErrShort},
		{"abcd", 1, math.MaxInt, "", api.ErrShort},
		{"abcd", 4, math.MaxInt, "", api.ErrShort},

		// ErrArg is named ahead of ErrShort: it is the answer where both hold.
		{"abcd", 5, 1, "", api.ErrArg},
		{"abcd", -1, 9, "", api.ErrArg},
		{"abcd", 5, math.MaxInt, "", api.ErrArg},
		{"abcd", 5, -1, "", api.ErrArg},
		{"", 1, 1, "", api.ErrArg},
	} {
		if got, e := octet.Cut(c.s, c.at, c.n); got != c.want || e != c.e {
			t.Errorf("Cut(%q, %d, %d): %q, %d, want %q, %d", c.s, c.at, c.n, got, e, c.want, c.e)
		}
	}
}

// P1.4

func TestPad(t *testing.T) {
	long := strings.Repeat("x", api.MaxFrame-1)
	for _, c := range []struct {
		s    string
		n    int
		want string
	}{
		{"abc", 5, "abc\x00\x00"},
		{"abc", 4, "abc\x00"},
		{"abc", 3, "abc"},
		{"abc", 2, "abc"},
		{"abc", 0, "abc"},
		{"abc", -1, "abc"},
		{"abc", math.MinInt, "abc"},
		{"", 0, ""},
		{"", -1, ""},
		{"", 2, "\x00\x00"},
		{"a\x00", 3, "a\x00\x00"},
		{"", api.MaxFrame, strings.Repeat("\x00", api.MaxFrame)},
		{"", api.MaxFrame + 1, strings.Repeat("\x00", api.MaxFrame)},
		{long, api.MaxFrame - 1, long},
		{long, api.MaxFrame, long + "\x00"},
		{long, api.MaxFrame + 1, long + "\x00"},
		{long, math.MaxInt, long + "\x00"},
		{long + "y", api.MaxFrame + 1, long + "y"},
		{long + "yz", api.MaxFrame, long + "yz"},
		{long + "yz", api.MaxFrame + 2, long + "yz"},
	} {
		if got := octet.Pad(c.s, c.n); got != c.want {
			t.Errorf("Pad of %d bytes, %d: %d bytes, want %d, or other ones", len(c.s), c.n, len(got), len(c.want))
		}
	}
}

// P1.5

func TestSame(t *testing.T) {
	for _, c := range []struct {
		a, b string
		want bool
	}{
		{"", "", true},
		{"", "a", false},
		{"a", "", false},
		{"a", "a", true},
		{"a", "b", false},
		{"abc", "abc", true},
		{"abc", "ab", false},
		{"ab", "abc", false},
		{"abc", "abc\x00", false},
		{"\x00", "", false},
		{"abc", "ABC", false},
		{"\x00\xff", "\x00\xff", true},
		{"ab", "ba", false},             // the same bytes, in another order
		{"\x01\x01", "\x02\x02", false}, // differences that would cancel out
		{"\x01\x02", "\x02\x01", false},
		{"\x80\x80", "\x00\x00", false},
	} {
		if got := octet.Same(c.a, c.b); got != c.want {
			t.Errorf("Same(%q, %q): %t", c.a, c.b, got)
		}
	}
}

func TestSameSeesEachBit(t *testing.T) {
	s := []byte("sixteen bytes ..")
	for i := range s {
		for bit := range 8 {
			b := bytes.Clone(s)
			b[i] ^= 1 << bit
			if octet.Same(string(s), string(b)) {
				t.Errorf("bit %d of byte %d is not looked at", bit, i)
			}
		}
	}
}

// TestSameLooksAtAll holds how long a difference ahead takes against one at the end: a loop that stops at the first
// one takes less than a thousandth, so a twentieth is far from both whatever else the machine does.
func TestSameLooksAtAll(t *testing.T) {
	const long = 1 << 22
	a := strings.Repeat("x", long)
	first := "y" + a[1:]
	last := a[1:] + "y"
	early, late := fastestSame(a, first), fastestSame(a, last)
	if early < late/20 {
		t.Errorf("a difference at the first byte takes %v, at the last one %v", early, late)
	}
}

// fastestSame takes the least of some times, which the load of the machine sways least.
func fastestSame(a, b string) time.Duration {
	least := time.Duration(math.MaxInt64)
	for range 7 {
		from := time.Now()
		octet.Same(a, b)
		least = min(least, time.Since(from))
	}
	return least
}

// P1.6

func TestHex(t *testing.T) {
	for _, c := range []struct{ s, want string }{
		{"", ""},
		{"\xab", "ab"},
		{"\x00", "00"},
		{"\x0f", "0f"},
		{"\xf0", "f0"},
		{"\xff", "ff"},
		{"\x00\x01\x02", "000102"},
		{"az", "617a"},
		{"\xc3\xa9", "c3a9"}, // a rune of two bytes
	} {
		if got := octet.Hex(c.s); got != c.want {
			t.Errorf("Hex(%q): %q, want %q", c.s, got, c.want)
		}
	}
}

func TestHexOfEachByte(t *testing.T) {
	for b := range 256 {
		s := string([]byte{byte(b)})
		if got, want := octet.Hex(s), hex.EncodeToString([]byte(s)); got != want {
			t.Errorf("Hex(%q): %q, want %q", s, got, want)
		}
	}
}

// P1.7

func TestUnhex(t *testing.T) {
	for _, c := range []struct {
		s, want string
		e       api.Errno
	}{
		{"", "", api.OK},
		{"ab", "\xab", api.OK},
		{"00", "\x00", api.OK},
		{"000102", "\x00\x01\x02", api.OK},
		{"0123456789abcdef", "\x01\x23\x45\x67\x89\xab\xcd\xef", api.OK},

		{"a", "", api.ErrShort},
		{"abc", "", api.ErrShort},

		{"AB", "", api.ErrForm},
		{"aB", "", api.ErrForm},
		{"0g", "", api.ErrForm},
		{"g0", "", api.ErrForm},
		{"0x", "", api.ErrForm},
		{"  ", "", api.ErrForm},
		{"-1", "", api.ErrForm},
		{"\u00e9", "", api.ErrForm},
		{"00zz", "", api.ErrForm},
		{"zz00", "", api.ErrForm},
		{"00000z", "", api.ErrForm},
		{"00z000", "", api.ErrForm},

		// ErrShort is named ahead of ErrForm: it is the answer where both hold.
		{"z", "", api.ErrShort},
		{"zzz", "", api.ErrShort},
		{"AB0", "", api.ErrShort},
	} {
		if got, e := octet.Unhex(c.s); got != c.want || e != c.e {
			t.Errorf("Unhex(%q): %q, %d, want %q, %d", c.s, got, e, c.want, c.e)
		}
	}
}

func TestUnhexOfEachPair(t *testing.T) {
	const digits = "0123456789abcdef"
	for x := range 256 {
		for y := range 256 {
			s := string([]byte{byte(x), byte(y)})
			high, low := strings.Index(digits, s[:1]), strings.Index(digits, s[1:])
			want, we := "", api.ErrForm
			if high >= 0 && low >= 0 {
				want, we = string([]byte{byte(16*high + low)}), api.OK
			}
			if got, e := octet.Unhex(s); got != want || e != we {
				t.Errorf("Unhex(%q): %q, %d, want %q, %d", s, got, e, want, we)
			}
		}
	}
}

// P1.8

func TestPutIsGot(t *testing.T) {
	r := rand.New(rand.NewSource(1))
	for range 5000 {
		width := 1 + r.Intn(8)
		n := r.Uint64() >> (64 - 8*width)
		ahead, behind := randomText(r, 12), randomText(r, 12)
		s := ahead + octet.Put(n, width) + behind
		if got, e := octet.Get(s, len(ahead), width); got != n || e != api.OK {
			t.Fatalf("Get(%q, %d, %d): %#x, %d, want %#x", s, len(ahead), width, got, e, n)
		}
	}
}

func TestPutIsGotAtTheEnds(t *testing.T) {
	for width := 1; width <= 8; width++ {
		most := uint64(math.MaxUint64) >> (64 - 8*width)
		for _, n := range []uint64{0, 1, most / 2, most/2 + 1, most - 1, most} {
			for _, beside := range []string{"", "\x00", "\xff"} {
				s := beside + octet.Put(n, width) + beside
				if got, e := octet.Get(s, len(beside), width); got != n || e != api.OK {
					t.Errorf("Get(%q, %d, %d): %#x, %d, want %#x", s, len(beside), width, got, e, n)
				}
			}
		}
	}
}

func TestHexIsRead(t *testing.T) {
	r := rand.New(rand.NewSource(2))
	for range 2000 {
		s := randomText(r, 40)
		if got, e := octet.Unhex(octet.Hex(s)); got != s || e != api.OK {
			t.Fatalf("Unhex(Hex(%q)): %q, %d", s, got, e)
		}
	}
	long := strings.Repeat("\x00\x7f\x80\xff", 1<<16)
	if got, e := octet.Unhex(octet.Hex(long)); got != long || e != api.OK {
		t.Errorf("a long text is not read: %d bytes, %d", len(got), e)
	}
}

func randomText(r *rand.Rand, most int) string {
	b := make([]byte, r.Intn(most+1))
	for i := range b {
		b[i] = byte(r.Intn(256))
	}
	return string(b)
}
