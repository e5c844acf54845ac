package hide_test

import (
	"crypto/md5"
	"math"
	"math/rand"
	"strings"
	"testing"

	"tipstaff/api"
	"tipstaff/hide"
	"tipstaff/octet"
)

const (
	auth   = "0123456789abcdef"
	secret = "xyzzy5461"
)

// anySecrets are secrets as long as those that servers have, and edges of what a block of the digest holds.
var anySecrets = []string{"", "x", secret, "\x00", "gr\u00fcn", "\xff\x80", text(39), text(40), text(47), text(48), text(64), text(65), text(5000)}

// wrongAuths are no authenticators.
var wrongAuths = []string{"", "x", auth[1:], auth + "x", auth + auth, strings.Repeat("\u00fc", 16), text(256 + 16)}

func text(n int) string { return strings.Repeat("x", n) }

func zeros(n int) string { return strings.Repeat("\x00", n) }

func unhexed(t *testing.T, s string) string {
	t.Helper()
	out, e := octet.Unhex(strings.ReplaceAll(s, " ", ""))
	if e != api.OK {
		t.Fatalf("Unhex(%q): %d", s, e)
	}
	return out
}

func drawnText(r *rand.Rand, long int) string {
	out := make([]byte, long)
	r.Read(out)
	return string(out)
}

// masked is the exclusive or of two texts that are as long, told anew.
func masked(a, b string) string {
	out := ""
	for i := 0; i < len(a); i++ {
		out += string([]byte{(a[i] | b[i]) &^ (a[i] & b[i])})
	}
	return out
}

// hidden is what a password of 128 bytes at most becomes, told anew: first all its blocks are laid out, then each is masked.
func hidden(password, secret, auth string) string {
	blocks := [][]byte{}
	for at := 0; at < len(password) || at == 0; at += 16 {
		block := make([]byte, 16)
		copy(block, password[at:])
		blocks = append(blocks, block)
	}
	out := []string{auth}
	for i, block := range blocks {
		sum := md5.Sum([]byte(secret + out[i]))
		out = append(out, masked(string(block), string(sum[:])))
	}
	return strings.Join(out[1:], "")
}

func hiddenOf(t *testing.T, password, secret, auth string) string {
	t.Helper()
	out, e := hide.Hide(password, secret, auth)
	if e != api.OK {
		t.Fatalf("Hide(%q, %q, %q): %d", password, secret, auth, e)
	}
	return out
}

// P12.1

func TestMask(t *testing.T) {
	for _, c := range []struct{ a, b, want string }{
		{"", "", ""},
		{"", "abc", ""},
		{"abc", "", ""},
		{"a", "a", "\x00"},
		{"a", "b", "\x03"},
		{"abc", "\x00\x00\x00", "abc"},
		{"abc", "\xff\xff\xff", "\x9e\x9d\x9c"},
		{"abc", "\x01", "`"},
		{"\x01", "abc", "`"},
		{"\x80\x0f\xaa", "\x80\xf0\x55\x01", "\x00\xff\xff"},
		{"\u00fc", "\x01\x02", "\xc2\xbe"},
		{"\x00", "\x00", "\x00"},
		{text(300), text(299), zeros(299)},
	} {
		if got := hide.Mask(c.a, c.b); got != c.want {
			t.Errorf("Mask(%q, %q): %q, want %q", c.a, c.b, got, c.want)
		}
	}
}

func TestMaskOfAllBytes(t *testing.T) {
	for a := range 256 {
		for b := range 256 {
			x, y := string([]byte{byte(a)}), string([]byte{byte(b)})
			if got := hide.Mask(x, y); got != masked(x, y) {
				t.Fatalf("Mask(%q, %q): %q", x, y, got)
			}
		}
	}
}

func TestMaskOfDrawnTexts(t *testing.T) {
	r := rand.New(rand.NewSource(1))
	for range 2000 {
		a, b := drawnText(r, r.Intn(40)), drawnText(r, r.Intn(40))
		long := min(len(a), len(b))
		if got := hide.Mask(a, b); got != masked(a[:long], b[:long]) {
			t.Fatalf("Mask(%q, %q): %q", a, b, got)
		}
	}
}

// P12.2

func TestBlocks(t *testing.T) {
	for _, c := range []struct{ n, want int }{
		{0, 1}, {1, 1}, {15, 1}, {16, 1}, {17, 2}, {31, 2}, {32, 2}, {33, 3}, {48, 3}, {49, 4}, {64, 4}, {65, 5},
		{80, 5}, {81, 6}, {96, 6}, {97, 7}, {111, 7}, {112, 7}, {113, 8}, {127, 8}, {128, 8},
		{129, 8}, {144, 8}, {1000, 8}, {math.MaxInt - 15, 8}, {math.MaxInt - 1, 8}, {math.MaxInt, 8},
		{-1, 1}, {-16, 1}, {-17, 1}, {-1000, 1}, {math.MinInt, 1}, {math.MinInt + 1, 1},
		{1 << 32, 8}, {-(1 << 32), 1}, {1<<32 + 17, 8},
	} {
		if got := hide.Blocks(c.n); got != c.want {
			t.Errorf("Blocks(%d): %d, want %d", c.n, got, c.want)
		}
	}
}

// P12.3

// RFC 2865, 7.1 tells how this password looks.
func TestHideByTheStandard(t *testing.T) {
	from := unhexed(t, "0f403f94 73978057 bd83d5cb 98f4227a")
	want := unhexed(t, "0dbe708d 93d413ce 3196e43f 782a0aee")
	if got := hiddenOf(t, "arctangent", secret, from); got != want {
		t.Errorf("Hide: %q, want %q", got, want)
	}
}

func TestHideOfEachLength(t *testing.T) {
	r := rand.New(rand.NewSource(2))
	for long := range 129 {
		for _, s := range anySecrets {
			for _, password := range []string{drawnText(r, long), text(long), zeros(long)} {
				got, e := hide.Hide(password, s, auth)
				if e != api.OK || got != hidden(password, s, auth) {
					t.Fatalf("Hide(%q, %q): %q, %d, want %q", password, s, got, e, hidden(password, s, auth))
				}
			}
		}
	}
}

func TestHideOfAnyAuth(t *testing.T) {
	r := rand.New(rand.NewSource(3))
	for range 2000 {
		password, s, from := drawnText(r, r.Intn(129)), drawnText(r, r.Intn(80)), drawnText(r, 16)
		got, e := hide.Hide(password, s, from)
		if e != api.OK || got != hidden(password, s, from) {
			t.Fatalf("Hide(%q, %q, %q): %q, %d, want %q", password, s, from, got, e, hidden(password, s, from))
		}
	}
}

func TestHideTakesAsManyBytesAsBlocksSays(t *testing.T) {
	for _, c := range []struct{ long, want int }{{0, 16}, {1, 16}, {16, 16}, {17, 32}, {32, 32}, {33, 48}, {112, 112}, {113, 128}, {128, 128}} {
		got := hiddenOf(t, text(c.long), secret, auth)
		if len(got) != c.want || len(got) != 16*hide.Blocks(c.long) {
			t.Errorf("Hide of %d bytes: %d bytes, want %d", c.long, len(got), c.want)
		}
	}
}

func TestHideOfTooMuch(t *testing.T) {
	for _, long := range []int{129, 130, 144, 256, 257, 10000} {
		for _, from := range append([]string{auth}, wrongAuths...) {
			if got, e := hide.Hide(text(long), secret, from); got != "" || e != api.ErrLong {
				t.Errorf("Hide of %d bytes by auth %q: %q, %d, want ErrLong", long, from, got, e)
			}
		}
	}
}

func TestHideByWrongAuth(t *testing.T) {
	for _, long := range []int{0, 1, 16, 17, 128} {
		for _, from := range wrongAuths {
			if got, e := hide.Hide(text(long), secret, from); got != "" || e != api.ErrArg {
				t.Errorf("Hide of %d bytes by auth %q: %q, %d, want ErrArg", long, from, got, e)
			}
		}
	}
}

// P12.4

func TestShowByTheStandard(t *testing.T) {
	from := unhexed(t, "0f403f94 73978057 bd83d5cb 98f4227a")
	is := unhexed(t, "0dbe708d 93d413ce 3196e43f 782a0aee")
	if got, e := hide.Show(is, secret, from); got != "arctangent" || e != api.OK {
		t.Errorf("Show: %q, %d", got, e)
	}
}

// What is shown is reckoned here from the last block to the first, of texts that nobody hid.
func TestShowOfDrawnBlocks(t *testing.T) {
	r := rand.New(rand.NewSource(4))
	for range 4000 {
		is := drawnText(r, 16*(1+r.Intn(8)))
		s, from := anySecrets[r.Intn(len(anySecrets))], drawnText(r, 16)
		want := ""
		for at := len(is) - 16; at >= 0; at -= 16 {
			sum := md5.Sum([]byte(s + (from + is)[at:at+16]))
			want = masked(is[at:at+16], string(sum[:])) + want
		}
		for strings.HasSuffix(want, "\x00") {
			want = want[:len(want)-1]
		}
		if got, e := hide.Show(is, s, from); got != want || e != api.OK {
			t.Fatalf("Show(%q, %q, %q): %q, %d, want %q", is, s, from, got, e, want)
		}
	}
}

func TestShowOfNoWholeBlocks(t *testing.T) {
	for _, long := range []int{0, 1, 15, 17, 31, 33, 127, 129, 143, 145, 10001} {
		for _, from := range append([]string{auth}, wrongAuths...) {
			if got, e := hide.Show(text(long), secret, from); got != "" || e != api.ErrArg {
				t.Errorf("Show of %d bytes by auth %q: %q, %d, want ErrArg", long, from, got, e)
			}
		}
	}
}

func TestShowByWrongAuth(t *testing.T) {
	for _, long := range []int{16, 32, 128, 144, 1600} {
		for _, from := range wrongAuths {
			if got, e := hide.Show(text(long), secret, from); got != "" || e != api.ErrArg {
				t.Errorf("Show of %d bytes by auth %q: %q, %d, want ErrArg", long, from, got, e)
			}
		}
	}
}

func TestShowOfTooMuch(t *testing.T) {
	for _, long := range []int{144, 160, 256, 272, 1600} {
		if got, e := hide.Show(text(long), secret, auth); got != "" || e != api.ErrLong {
			t.Errorf("Show of %d bytes: %q, %d, want ErrLong", long, got, e)
		}
	}
}

func TestShowLetsGoOfZerosAtTheEndAlone(t *testing.T) {
	for _, c := range []struct{ password, want string }{
		{"", ""},
		{"\x00", ""},
		{zeros(16), ""},
		{zeros(17), ""},
		{zeros(128), ""},
		{"\x00a", "\x00a"},
		{"a\x00b\x00", "a\x00b"},
		{"a" + zeros(15), "a"},
		{"a" + zeros(16), "a"},
		{"a" + zeros(127), "a"},
		{zeros(127) + "a", zeros(127) + "a"},
		{zeros(16) + "a", zeros(16) + "a"},
		{zeros(16) + "a" + zeros(40), zeros(16) + "a"},
		{"a ", "a "},
		{" a\n", " a\n"},
		{"\u00fc\x00", "\u00fc"},
		{"a\x80\x00", "a\x80"},
		{"a0", "a0"},
	} {
		is := hiddenOf(t, c.password, secret, auth)
		if got, e := hide.Show(is, secret, auth); got != c.want || e != api.OK {
			t.Errorf("Show of what hides %q: %q, %d, want %q", c.password, got, e, c.want)
		}
	}
}

// P12.5

func TestShowOfWhatWasHidden(t *testing.T) {
	r := rand.New(rand.NewSource(5))
	for long := range 129 {
		for range 20 {
			password, s, from := drawnText(r, long)+zeros(r.Intn(129-long)), drawnText(r, r.Intn(80)), drawnText(r, 16)
			got, e := hide.Show(hiddenOf(t, password, s, from), s, from)
			if e != api.OK || got != strings.TrimRight(password, "\x00") {
				t.Fatalf("Show of what hides %q: %q, %d", password, got, e)
			}
		}
	}
}

func TestShowByAnother(t *testing.T) {
	is := hiddenOf(t, "a password of 26 bytes, so ", secret, auth)
	right, e := hide.Show(is, secret, auth)
	if e != api.OK {
		t.Fatalf("Show: %d", e)
	}
	if got, e := hide.Show(is, secret+"x", auth); e != api.OK || got == right {
		t.Errorf("Show by another secret: %q, %d", got, e)
	}
	got, e := hide.Show(is, secret, "fedcba9876543210")
	if e != api.OK || got == right || got[16:] != right[16:] {
		t.Errorf("Show by another auth: %q, %d: the first block alone hangs on it", got, e)
	}
}

// R4

func TestTwiceTheSame(t *testing.T) {
	one, two := hiddenOf(t, "bob's", secret, auth), hiddenOf(t, "bob's", secret, auth)
	if one != two {
		t.Errorf("Hide: %q, then %q", one, two)
	}
}

func FuzzHide(f *testing.F) {
	f.Add("arctangent", secret, auth)
	f.Add(text(17), "", auth)
	f.Add(text(128), "x", zeros(16))
	f.Add(text(144), "x", zeros(16))
	f.Add("", "", "")
	f.Fuzz(func(t *testing.T, password, s, from string) {
		got, e := hide.Hide(password, s, from)
		switch {
		case len(password) > 128:
			if got != "" || e != api.ErrLong {
				t.Fatalf("Hide(%q, %q, %q): %q, %d, want ErrLong", password, s, from, got, e)
			}
		case len(from) != 16:
			if got != "" || e != api.ErrArg {
				t.Fatalf("Hide(%q, %q, %q): %q, %d, want ErrArg", password, s, from, got, e)
			}
		default:
			if e != api.OK || got != hidden(password, s, from) {
				t.Fatalf("Hide(%q, %q, %q): %q, %d", password, s, from, got, e)
			}
			if back, e := hide.Show(got, s, from); e != api.OK || back != strings.TrimRight(password, "\x00") {
				t.Fatalf("Show(%q, %q, %q): %q, %d", got, s, from, back, e)
			}
		}
		shown, e := hide.Show(password, s, from)
		want := api.OK
		switch {
		case len(from) != 16 || password == "" || len(password)%16 != 0:
			want = api.ErrArg
		case len(password) > 128:
			want = api.ErrLong
		}
		if e != want || e != api.OK && shown != "" {
			t.Fatalf("Show(%q, %q, %q): %q, %d, want %d", password, s, from, shown, e, want)
		}
	})
}
