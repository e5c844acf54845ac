package mac_test

import (
	"fmt"
	"math"
	"math/rand"
	"strings"
	"testing"

	"tipstaff/api"
	"tipstaff/mac"
	"tipstaff/octet"
)

const (
	last  = 1<<48 - 1      // the greatest address
	mixed = 0x0123456789ab // its bytes all differ, so that one in a wrong place is seen
	above = 0xfedc << 48   // bits that no address has
)

// bitsOf asks of each of the 64 bits, alone and as the only one that is 0, and wants bit b alone to count.
func bitsOf(t *testing.T, what string, b int, ask func(api.Mac) bool) {
	t.Helper()
	for i := range 64 {
		m := api.Mac(1) << i
		if got := ask(m); got != (i == b) {
			t.Errorf("%s of bit %d alone: %t", what, i, got)
		}
		if got := ask(^m); got != (i != b) {
			t.Errorf("%s of all but bit %d: %t", what, i, got)
		}
	}
	if ask(0) || !ask(math.MaxUint64) {
		t.Errorf("%s of no bits: %t, of all: %t", what, ask(0), ask(math.MaxUint64))
	}
}

// P2.1

func TestRight(t *testing.T) {
	for _, c := range []struct {
		m    api.Mac
		want bool
	}{
		{0, true},
		{1, true},
		{mixed, true},
		{last - 1, true},
		{last, true},
		{last + 1, false},
		{last + 2, false},
		{1 << 49, false},
		{1 << 63, false},
		{mixed | above, false},
		{math.MaxUint64, false},
	} {
		if got := mac.Right(c.m); got != c.want {
			t.Errorf("Right(%#x): %t", uint64(c.m), got)
		}
	}
}

// P2.2

func TestGroup(t *testing.T) {
	bitsOf(t, "Group", 40, mac.Group)
	for _, c := range []struct {
		m    api.Mac
		want bool
	}{
		{0x010000000000, true},
		{0x0180c2000000, true},
		{0x03ffffffffff, true},
		{last, true},
		{0x020000000000, false},
		{0x00ffffffffff, false},
		{0xfeffffffffff, false},
		{1, false},
	} {
		if got := mac.Group(c.m); got != c.want {
			t.Errorf("Group(%#x): %t", uint64(c.m), got)
		}
		if first := mac.Bytes(c.m)[0]; (first&1 == 1) != c.want {
			t.Errorf("the first byte of %#x is %#x", uint64(c.m), first)
		}
	}
}

// P2.3

func TestReserved(t *testing.T) {
	const from = 0x0180c2000000
	for m := api.Mac(from - 300); m < from+300; m++ {
		if got, want := mac.Reserved(m), m >= from && m <= from+15; got != want {
			t.Errorf("Reserved(%#x): %t", uint64(m), got)
		}
	}
	for i := range 16 {
		for bit := 4; bit < 64; bit++ {
			if m := api.Mac(from+i) ^ 1<<bit; mac.Reserved(m) {
				t.Errorf("Reserved(%#x): true", uint64(m))
			}
		}
	}
	for _, m := range []api.Mac{0, 1, 15, last, math.MaxUint64, from<<16 | 1} {
		if mac.Reserved(m) {
			t.Errorf("Reserved(%#x): true", uint64(m))
		}
	}
}

// P2.4

func TestBytes(t *testing.T) {
	for _, c := range []struct {
		m    api.Mac
		want string
	}{
		{0, "\x00\x00\x00\x00\x00\x00"},
		{1, "\x00\x00\x00\x00\x00\x01"},
		{mixed, "\x01\x23\x45\x67\x89\xab"},
		{1 << 40, "\x01\x00\x00\x00\x00\x00"},
		{last, "\xff\xff\xff\xff\xff\xff"},
		{last + 1, "\x00\x00\x00\x00\x00\x00"},
		{mixed | above, "\x01\x23\x45\x67\x89\xab"},
		{math.MaxUint64, "\xff\xff\xff\xff\xff\xff"},
	} {
		if got := mac.Bytes(c.m); got != c.want {
			t.Errorf("Bytes(%#x): %q, want %q", uint64(c.m), got, c.want)
		}
	}
}

// P2.5

func TestRead(t *testing.T) {
	const s = "\xff\x01\x23\x45\x67\x89\xab\xcd"
	for _, c := range []struct {
		s    string
		at   int
		want api.Mac
		e    api.Errno
	}{
		{s, 1, mixed, api.OK},
		{s, 0, 0xff0123456789, api.OK},
		{s, 2, 0x23456789abcd, api.OK},
		{"\x00\x00\x00\x00\x00\x00", 0, 0, api.OK},
		{"\xff\xff\xff\xff\xff\xff", 0, last, api.OK},

		{s, -1, 0, api.ErrArg},
		{s, 9, 0, api.ErrArg},
		{s, math.MinInt, 0, api.ErrArg},
		{s, math.MaxInt, 0, api.ErrArg},
		{"", 1, 0, api.ErrArg},
		{"", -1, 0, api.ErrArg},

		{s, 3, 0, api.ErrShort},
		{s, 7, 0, api.ErrShort},
		{s, 8, 0, api.ErrShort},
		{"abcde", 0, 0, api.ErrShort},
		{"", 0, 0, api.ErrShort},
	} {
		if got, e := mac.Read(c.s, c.at); got != c.want || e != c.e {
			t.Errorf("Read(%q, %d): %#x, %d, want %#x, %d", c.s, c.at, uint64(got), e, uint64(c.want), c.e)
		}
	}
}

func TestReadHasTheErrorsOfGet(t *testing.T) {
	for long := range 14 {
		s := "0123456789abcdef"[:long]
		for at := -3; at < 20; at++ {
			n, we := octet.Get(s, at, 6)
			if got, e := mac.Read(s, at); uint64(got) != n || e != we {
				t.Errorf("Read(%q, %d): %#x, %d, want %#x, %d", s, at, uint64(got), e, n, we)
			}
		}
	}
}

// P2.6

func TestText(t *testing.T) {
	for _, c := range []struct {
		m    api.Mac
		want string
	}{
		{0, "00:00:00:00:00:00"},
		{1, "00:00:00:00:00:01"},
		{mixed, "01:23:45:67:89:ab"},
		{0xabcdef012345, "ab:cd:ef:01:23:45"},
		{0x0180c200000f, "01:80:c2:00:00:0f"},
		{last, "ff:ff:ff:ff:ff:ff"},
		{last + 1, "00:00:00:00:00:00"},
		{mixed | above, "01:23:45:67:89:ab"},
		{math.MaxUint64, "ff:ff:ff:ff:ff:ff"},
	} {
		if got := mac.Text(c.m); got != c.want {
			t.Errorf("Text(%#x): %q, want %q", uint64(c.m), got, c.want)
		}
	}
}

// P2.7

func TestParse(t *testing.T) {
	for _, c := range []struct {
		s    string
		want api.Mac
	}{
		{"00:00:00:00:00:00", 0},
		{"00:00:00:00:00:01", 1},
		{"01:23:45:67:89:ab", mixed},
		{"ab:cd:ef:01:23:45", 0xabcdef012345},
		{"ff:ff:ff:ff:ff:ff", last},
	} {
		if got, e := mac.Parse(c.s); got != c.want || e != api.OK {
			t.Errorf("Parse(%q): %#x, %d, want %#x", c.s, uint64(got), e, uint64(c.want))
		}
	}
}

func TestParseOfWhatIsNone(t *testing.T) {
	for _, s := range []string{
		// fewer bytes, or digits, than an address has
		"", ":", ":::::", "0", "01", "01:23:45:67:89", "01:23:45:67:89:", "01:23:45:67:89:a", "1:23:45:67:89:ab",
		"1:2:3:4:5:6",
		// more of them
		"01:23:45:67:89:ab:", ":01:23:45:67:89:ab", "01:23:45:67:89:ab:cd", "01:23:45:67:89:abcd",
		"00:01:23:45:67:89:ab", "01:23:45:67:89:0ab", strings.Repeat("01:23:45:67:89:ab:", 1000),
		strings.Repeat(":", 1<<16),
		// colons that are missing, or stand in other places
		"0123456789ab", "0123456789abcdef0", "01:23:45:67:89ab", "01:23:45:6789::ab", "0:123:45:67:89:ab",
		"012:3:45:67:89:ab", "01::23:45:67:89:ab", "0123:4567:89ab",
		// something else in a colon's place
		"01-23-45-67-89-ab", "01.23.45.67.89.ab", "01 23 45 67 89 ab", "01\uff1a23:45:67:89:ab",
		// capital letters
		"01:80:C2:00:00:03", "AB:CD:EF:01:23:45", "aB:cd:ef:01:23:45",
		// no digits
		"01:23:45:67:89:ag", "g1:23:45:67:89:ab", "01:23:4x:67:89:ab", "01:23:45:67:89:a ", "-1:23:45:67:89:ab",
		"+1:23:45:67:89:ab", "0x:23:45:67:89:ab", "01:23:45:67:89:\u00e9", "\x01\x23\x45\x67\x89\xab",
		// an address with something beside it
		" 01:23:45:67:89:ab", "01:23:45:67:89:ab ", "01:23:45:67:89:ab\n", "01:23:45:67:89:ab\x00",
	} {
		if got, e := mac.Parse(s); got != 0 || e != api.ErrForm {
			t.Errorf("Parse of %.40q: %#x, %d, want ErrForm", s, uint64(got), e)
		}
	}
}

// TestParseOfEachByte puts each byte in each place of an address: just the digits where digits stand, and the colon
// where it stands, are an address.
func TestParseOfEachByte(t *testing.T) {
	const s = "01:23:45:67:89:ab"
	for i := range len(s) {
		for b := range 256 {
			x := s[:i] + string([]byte{byte(b)}) + s[i+1:]
			may := "0123456789abcdef"
			if s[i] == ':' {
				may = ":"
			}
			good := strings.IndexByte(may, byte(b)) >= 0
			got, e := mac.Parse(x)
			if good && (e != api.OK || mac.Text(got) != x) || !good && (e != api.ErrForm || got != 0) {
				t.Errorf("Parse(%q): %#x, %d", x, uint64(got), e)
			}
		}
	}
}

// P2.8

func TestMaker(t *testing.T) {
	for _, c := range []struct {
		m    api.Mac
		want uint64
	}{
		{0, 0},
		{1, 0},
		{1<<24 - 1, 0},
		{1 << 24, 1},
		{mixed, 0x012345},
		{0x020000000005, 0x020000},
		{last, 0xffffff},
		{last + 1, 0},
		{mixed | above, 0x012345},
		{math.MaxUint64, 0xffffff},
	} {
		if got := mac.Maker(c.m); got != c.want {
			t.Errorf("Maker(%#x): %#x, want %#x", uint64(c.m), got, c.want)
		}
	}
}

// P2.9

func TestLocal(t *testing.T) {
	bitsOf(t, "Local", 41, mac.Local)
	for _, c := range []struct {
		m    api.Mac
		want bool
	}{
		{0x020000000000, true},
		{0x03ffffffffff, true},
		{last, true},
		{0x010000000000, false},
		{0x0180c2000000, false},
		{0xfdffffffffff, false},
		{5, false},
	} {
		if got := mac.Local(c.m); got != c.want {
			t.Errorf("Local(%#x): %t", uint64(c.m), got)
		}
	}
}

// P2.10

func TestMade(t *testing.T) {
	const most = 1<<24 - 1
	for _, c := range []struct {
		maker uint64
		n     int
		want  api.Mac
		e     api.Errno
	}{
		{0, 0, 0, api.OK},
		{0, 1, 1, api.OK},
		{1, 0, 1 << 24, api.OK},
		{0x020000, 5, 0x020000000005, api.OK},
		{0x012345, 0x6789ab, mixed, api.OK},
		{0, most, most, api.OK},
		{most, 0, most << 24, api.OK},
		{most, most, last, api.OK},

		{most + 1, 0, 0, api.ErrArg},
		{1 << 48, 1, 0, api.ErrArg},
		{1 << 63, 1, 0, api.ErrArg},
		{math.MaxUint64, 1, 0, api.ErrArg},
		{1, most + 1, 0, api.ErrArg},
		{1, -1, 0, api.ErrArg},
		{1, -(most + 1), 0, api.ErrArg},
		{1, math.MinInt, 0, api.ErrArg},
		{1, math.MaxInt, 0, api.ErrArg},
		{most + 1, most + 1, 0, api.ErrArg},
		{most + 1, -1, 0, api.ErrArg},
	} {
		if got, e := mac.Made(c.maker, c.n); got != c.want || e != c.e {
			t.Errorf("Made(%#x, %d): %#x, %d, want %#x, %d", c.maker, c.n, uint64(got), e, uint64(c.want), c.e)
		}
	}
}

// P2.11

func TestWhatIsWrittenIsRead(t *testing.T) {
	r := rand.New(rand.NewSource(1))
	for _, m := range someAddresses(r) {
		for _, beside := range []string{"", "\x00", "\xff\xff", "0123456"} {
			s := beside + mac.Bytes(m) + beside
			if got, e := mac.Read(s, len(beside)); got != m || e != api.OK {
				t.Errorf("Read(%q, %d): %#x, %d, want %#x", s, len(beside), uint64(got), e, uint64(m))
			}
		}
		if got, e := mac.Parse(mac.Text(m)); got != m || e != api.OK {
			t.Errorf("Parse(Text(%#x)): %#x, %d", uint64(m), uint64(got), e)
		}
	}
}

func TestWhatIsReadIsWritten(t *testing.T) {
	r := rand.New(rand.NewSource(2))
	for range 3000 {
		b := make([]byte, 20)
		r.Read(b)
		s, at := string(b), r.Intn(15)
		m, e := mac.Read(s, at)
		if e != api.OK || !mac.Right(m) || mac.Bytes(m) != s[at:at+6] {
			t.Fatalf("Read(%q, %d): %#x, %d, with the bytes %q", s, at, uint64(m), e, mac.Bytes(m))
		}
		text := fmt.Sprintf("%02x:%02x:%02x:%02x:%02x:%02x", b[0], b[1], b[2], b[3], b[4], b[5])
		m, e = mac.Parse(text)
		if e != api.OK || !mac.Right(m) || mac.Text(m) != text || mac.Bytes(m) != s[:6] {
			t.Fatalf("Parse(%q): %#x, %d, with the text %q", text, uint64(m), e, mac.Text(m))
		}
	}
}

// P2.12

func TestReservedIsAGroup(t *testing.T) {
	seen := 0
	for m := api.Mac(0x0180c1fffff0); m < 0x0180c2000020; m++ {
		if mac.Reserved(m) {
			seen++
			if !mac.Group(m) || !mac.Right(m) {
				t.Errorf("%#x is reserved: group %t, right %t", uint64(m), mac.Group(m), mac.Right(m))
			}
		}
	}
	if seen != 16 {
		t.Errorf("%d are reserved, want 16", seen)
	}
}

// P2.13

func TestMadeHasItsMaker(t *testing.T) {
	r := rand.New(rand.NewSource(3))
	for _, m := range someAddresses(r) {
		maker, n := uint64(m)>>24, int(m&(1<<24-1))
		got, e := mac.Made(maker, n)
		if e != api.OK || got != m || !mac.Right(got) || mac.Maker(got) != maker {
			t.Errorf("Made(%#x, %#x): %#x, %d, of the maker %#x", maker, n, uint64(got), e, mac.Maker(got))
		}
	}
}

// someAddresses has each bit alone, all but each bit, the ends, and many drawn ones.
func someAddresses(r *rand.Rand) []api.Mac {
	out := []api.Mac{0, mixed, last, 0x0180c2000000, 1<<24 - 1}
	for bit := range 48 {
		out = append(out, 1<<bit, last^1<<bit)
	}
	for range 3000 {
		out = append(out, api.Mac(r.Uint64()>>16))
	}
	return out
}
