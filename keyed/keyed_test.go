package keyed_test

import (
	"crypto/hmac"
	"crypto/md5"
	"math/rand"
	"slices"
	"strings"
	"testing"

	"tipstaff/digest"
	"tipstaff/keyed"
	"tipstaff/octet"
)

const fox = "The quick brown fox jumps over the lazy dog"

// longs are edges of what a block and a frame hold, and of how a text is padded.
var longs = []int{0, 1, 15, 16, 17, 55, 56, 63, 64, 65, 119, 120, 127, 128, 129, 4096, 9215, 9216, 9217, 20000}

func drawnText(r *rand.Rand, long int) string {
	out := make([]byte, long)
	r.Read(out)
	return string(out)
}

func zeros(n int) string { return strings.Repeat("\x00", n) }

// turnedBit answers s with one of its bits turned.
func turnedBit(s string, bit int) string {
	out := []byte(s)
	out[bit/8] ^= 1 << (bit % 8)
	return string(out)
}

// libraryBlock and librarySum are made by the library's digest, which the program itself may not import.
func libraryBlock(key string) string {
	if len(key) <= 64 {
		return key + zeros(64-len(key))
	}
	short := md5.Sum([]byte(key))
	return string(short[:]) + zeros(48)
}

func librarySum(key, s string) string {
	h := hmac.New(md5.New, []byte(key))
	h.Write([]byte(s))
	return string(h.Sum(nil))
}

// P8.1

func TestBlock(t *testing.T) {
	k63, k64, k65 := strings.Repeat("k", 63), strings.Repeat("k", 64), strings.Repeat("k", 65)
	const k65Sum = "\xae\xdb\xc3\x30\xec\x13\x5b\xf7\x9f\x8a\x19\x88\xa8\xcf\x95\x31"
	for _, c := range []struct{ key, want string }{
		{"", zeros(64)},
		{"\x00", zeros(64)},
		{"key", "key" + zeros(61)},
		{"\xff\x00\x80", "\xff\x00\x80" + zeros(61)},
		{"gr\u00fcn", "gr\xc3\xbcn" + zeros(59)},
		{k63, k63 + "\x00"},
		{k64, k64},
		{zeros(64), zeros(64)},
		{k65, k65Sum + zeros(48)},
		{k64 + "\x00", digest.Sum(k64+"\x00") + zeros(48)},
		{zeros(65), digest.Sum(zeros(65)) + zeros(48)},
	} {
		if got := keyed.Block(c.key); got != c.want {
			t.Errorf("Block(%q): %q, want %q", c.key, got, c.want)
		}
	}
}

func TestBlockOfEachLength(t *testing.T) {
	r := rand.New(rand.NewSource(1))
	see := func(n int) {
		t.Helper()
		key := drawnText(r, n)
		if got, want := keyed.Block(key), libraryBlock(key); got != want {
			t.Errorf("Block of %d bytes: %x, want %x", n, got, want)
		}
	}
	for n := range 300 {
		see(n)
	}
	for _, n := range longs {
		see(n)
	}
}

// P8.2

func TestSum(t *testing.T) {
	counted := ""
	for i := 1; i <= 25; i++ {
		counted += string([]byte{byte(i)})
	}
	for _, c := range []struct{ key, s, want string }{
		{"key", fox, "80070713463e7749b90c2dc24911e275"},
		{"", "", "74e6f7298a9c2d168935f58c001bad88"},
		{strings.Repeat("\x0b", 16), "Hi There", "9294727a3638bb1c13f48ef8158bfc9d"},
		{"Jefe", "what do ya want for nothing?", "750c783e6ab0b503eaa86e310a5db738"},
		{strings.Repeat("\xaa", 16), strings.Repeat("\xdd", 50), "56be34521d144c88dbb8c733f0e8b3f6"},
		{counted, strings.Repeat("\xcd", 50), "697eaf0aca3a3aea3a75164746ffaa79"},
		{strings.Repeat("\x0c", 16), "Test With Truncation", "56461ef2342edc00f9bab995690efd4c"},
		{strings.Repeat("\xaa", 80), "Test Using Larger Than Block-Size Key - Hash Key First", "6b1ab7fe4bd7bf8f0b62e6ce61b9d0cd"},
		{strings.Repeat("\xaa", 80), "Test Using Larger Than Block-Size Key and Larger Than One Block-Size Data", "6f630fad67cda0ee1fb1f562db3aa53e"},
	} {
		if got := octet.Hex(keyed.Sum(c.key, c.s)); got != c.want {
			t.Errorf("Sum(%q, %q): %s, want %s", c.key, c.s, got, c.want)
		}
	}
}

// TestSumByItsWords makes the sum as the document's words say it, from Block and the digest.
func TestSumByItsWords(t *testing.T) {
	masked := func(s string, mask byte) string {
		out := ""
		for _, c := range []byte(s) {
			out += string([]byte{c ^ mask})
		}
		return out
	}
	r := rand.New(rand.NewSource(2))
	for range 300 {
		key, s := drawnText(r, r.Intn(100)), drawnText(r, r.Intn(200))
		block := keyed.Block(key)
		want := digest.Sum(masked(block, 0x5c) + digest.Sum(masked(block, 0x36)+s))
		if got := keyed.Sum(key, s); got != want {
			t.Errorf("Sum(%q, %q): %x, want %x", key, s, got, want)
		}
	}
}

func seeSum(t *testing.T, key, s string) {
	t.Helper()
	if got, want := keyed.Sum(key, s), librarySum(key, s); got != want {
		t.Errorf("Sum(%.80q, %.80q) of %d and %d bytes: %x, want %x", key, s, len(key), len(s), got, want)
	}
}

func TestSumOfEachLength(t *testing.T) {
	r := rand.New(rand.NewSource(3))
	for n := range 200 {
		seeSum(t, drawnText(r, n), drawnText(r, r.Intn(300)))
		seeSum(t, drawnText(r, r.Intn(100)), drawnText(r, n))
		seeSum(t, zeros(n), zeros(n))
		seeSum(t, strings.Repeat("\xff", n), strings.Repeat("\xff", n))
	}
	for _, keyLong := range longs {
		for _, long := range longs {
			seeSum(t, drawnText(r, keyLong), drawnText(r, long))
		}
	}
	seeSum(t, drawnText(r, 1<<20), drawnText(r, 1<<21))
}

// Each bit of the key and of the text counts, and where the one ends and the other begins.
func TestSumOfOthers(t *testing.T) {
	const key = "key"
	sum := keyed.Sum(key, fox)
	differ := func(key, s string) {
		t.Helper()
		if keyed.Sum(key, s) == sum {
			t.Errorf("Sum(%q, %q) is that of others", key, s)
		}
	}
	for bit := range 8 * len(key) {
		differ(turnedBit(key, bit), fox)
	}
	for bit := range 8 * len(fox) {
		differ(key, turnedBit(fox, bit))
	}
	differ(fox, key)
	differ("", key+fox)
	differ(key+fox[:1], fox[1:])
	differ("\x00"+key, fox)
	differ(key, fox+"\x00")
	differ(key, fox[1:])
}

// P8.3

func TestPieces(t *testing.T) {
	for _, c := range []struct {
		l    []string
		want string
	}{
		{nil, ""},
		{[]string{}, ""},
		{[]string{""}, ""},
		{[]string{"", "", ""}, ""},
		{[]string{"a"}, "a"},
		{[]string{"a", "b"}, "ab"},
		{[]string{"b", "a"}, "ba"},
		{[]string{"a", "a"}, "aa"},
		{[]string{"", "a", "", "b", ""}, "ab"},
		{[]string{"a\x00", "\x00b"}, "a\x00\x00b"},
		{[]string{"\xc3", "\xbc"}, "\u00fc"},
		{[]string{strings.Repeat("x", 64), strings.Repeat("y", 64), "z"}, strings.Repeat("x", 64) + strings.Repeat("y", 64) + "z"},
	} {
		for _, key := range []string{"", "key", strings.Repeat("k", 64), strings.Repeat("k", 65)} {
			if got, want := keyed.Pieces(key, c.l...), librarySum(key, c.want); got != want {
				t.Errorf("Pieces(%q, %q): %x, want %x", key, c.l, got, want)
			}
		}
	}
	if got := keyed.Pieces("key"); got != keyed.Sum("key", "") {
		t.Errorf("Pieces(key): %x", got)
	}
	if got := octet.Hex(keyed.Pieces("key", "The quick brown fox", " jumps over ", "the lazy dog")); got != "80070713463e7749b90c2dc24911e275" {
		t.Errorf("Pieces(key, ..): %s", got)
	}
}

// What is handed in stays as it was, behind its end too (R3).
func TestPiecesAreNotChanged(t *testing.T) {
	room := []string{"a", "b", "c", "behind", "that"}
	keyed.Pieces("key", room[:3]...)
	if want := []string{"a", "b", "c", "behind", "that"}; !slices.Equal(room, want) {
		t.Errorf("after Pieces: %q, want %q", room, want)
	}
}

// P8.4

func TestFits(t *testing.T) {
	for _, c := range []struct{ key, s string }{
		{"key", fox},
		{"", ""},
		{"key", ""},
		{"", fox},
		{strings.Repeat("k", 65), fox},
	} {
		sum := librarySum(c.key, c.s)
		see := func(sum string, want bool) {
			t.Helper()
			if got := keyed.Fits(c.key, c.s, sum); got != want {
				t.Errorf("Fits(%q, %q, %q): %v", c.key, c.s, sum, got)
			}
		}
		see(sum, true)
		for bit := range 8 * len(sum) {
			see(turnedBit(sum, bit), false)
		}
		for n := range len(sum) {
			see(sum[:n], false)
			see(sum[n+1:], false)
		}
		see(sum+"\x00", false)
		see("\x00"+sum, false)
		see(sum+sum, false)
		see(octet.Hex(sum), false)
		see(zeros(16), false)
		see(digest.Sum(c.key+c.s), false)
		see(librarySum(c.s+"x", c.key), false)
		see(librarySum(c.key+"x", c.s), false)
		see(librarySum(c.key, c.s+"x"), false)
	}
}

// P8.5

func TestKeyWithZeros(t *testing.T) {
	r := rand.New(rand.NewSource(4))
	for n := range 65 {
		key, s := drawnText(r, n), drawnText(r, r.Intn(200))
		want := keyed.Sum(key, s)
		for long := n; long <= 64; long++ {
			if got := keyed.Sum(octet.Pad(key, long), s); got != want {
				t.Errorf("Sum(%q with zeros to %d, ..): %x, want %x", key, long, got, want)
			}
			if !keyed.Fits(octet.Pad(key, long), s, want) {
				t.Errorf("Fits(%q with zeros to %d, ..): false", key, long)
			}
		}
		if keyed.Sum(octet.Pad(key, 65), s) == want {
			t.Errorf("Sum(%q with zeros to 65, ..) is that of the key", key)
		}
	}
}

// P8.6

// cut answers s in pieces, some of which are empty.
func cut(r *rand.Rand, s string) []string {
	l := []string{}
	for s != "" {
		n := r.Intn(min(len(s), 90) + 1)
		l = append(l, s[:n])
		s = s[n:]
	}
	return l
}

func TestCutAnywhere(t *testing.T) {
	for n := range len(fox) + 1 {
		for more := n; more <= len(fox); more++ {
			if got := octet.Hex(keyed.Pieces("key", fox[:n], fox[n:more], fox[more:])); got != "80070713463e7749b90c2dc24911e275" {
				t.Errorf("Pieces cut at %d and %d: %s", n, more, got)
			}
		}
	}
	if got := octet.Hex(keyed.Pieces("key", strings.Split(fox, "")...)); got != "80070713463e7749b90c2dc24911e275" {
		t.Errorf("Pieces of a byte each: %s", got)
	}
}

func TestCutByDraw(t *testing.T) {
	r := rand.New(rand.NewSource(5))
	for range 500 {
		key, s := drawnText(r, r.Intn(100)), drawnText(r, r.Intn(400))
		l := cut(r, s)
		if got, want := keyed.Pieces(key, l...), keyed.Sum(key, s); got != want {
			t.Errorf("Pieces(%q, %q): %x, want %x", key, l, got, want)
		}
	}
}

// Whatever comes: its sum is the library's, wherever it is cut, and fits alone.
func FuzzSum(f *testing.F) {
	for _, n := range []int{0, 1, 16, 63, 64, 65, 128} {
		f.Add(strings.Repeat("k", n), strings.Repeat("\x80", n), n/2)
	}
	f.Fuzz(func(t *testing.T, key, s string, at int) {
		seeSum(t, key, s)
		at = min(max(at, 0), len(s))
		want := librarySum(key, s)
		if got := keyed.Pieces(key, s[:at], s[at:]); got != want {
			t.Errorf("Pieces(%q, %q, %q): %x, want %x", key, s[:at], s[at:], got, want)
		}
		if !keyed.Fits(key, s, want) || keyed.Fits(key, s, turnedBit(want, at%128)) {
			t.Errorf("Fits(%q, %q, ..) is wrong", key, s)
		}
	})
}
