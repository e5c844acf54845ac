package digest_test

import (
	"crypto/md5"
	"encoding"
	"encoding/binary"
	"math"
	"math/big"
	"math/rand"
	"strings"
	"testing"

	"tipstaff/digest"
	"tipstaff/octet"
)

var first = [4]uint32{0x67452301, 0xefcdab89, 0x98badcfe, 0x10325476}

// ends are edges of ints, and of what bytes and words hold.
var ends = []int{
	math.MinInt, math.MinInt + 1, math.MinInt + 31, -1 << 32, -1<<32 + 5, -65, -64, -63, -33, -32, -31, -17, -16, -15, -1,
	0, 1, 15, 16, 17, 31, 32, 33, 47, 48, 49, 63, 64, 65, 255, 256, 1<<31 - 1, 1 << 31, 1 << 32, 1<<32 + 5,
	math.MaxInt/7 - 1, math.MaxInt / 7, math.MaxInt/7 + 1, math.MaxInt - 31, math.MaxInt - 1, math.MaxInt,
}

// modulo is what the document means by it, with no int that could be left.
func modulo(n *big.Int, m int64) int { return int(new(big.Int).Mod(n, big.NewInt(m)).Int64()) }

func drawnText(r *rand.Rand, long int) string {
	out := make([]byte, long)
	r.Read(out)
	return string(out)
}

func drawnWords(r *rand.Rand) [4]uint32 {
	return [4]uint32{r.Uint32(), r.Uint32(), r.Uint32(), r.Uint32()}
}

// P7.1

const listed = "d76aa478, e8c7b756, 242070db, c1bdceee, f57c0faf, 4787c62a, a8304613, fd469501, 698098d8, 8b44f7af, ffff5bb1, 895cd7be, 6b901122, fd987193, a679438e, 49b40821, f61e2562, c040b340, 265e5a51, e9b6c7aa, d62f105d, 02441453, d8a1e681, e7d3fbc8, 21e1cde6, c33707d6, f4d50d87, 455a14ed, a9e3e905, fcefa3f8, 676f02d9, 8d2a4c8a, fffa3942, 8771f681, 6d9d6122, fde5380c, a4beea44, 4bdecfa9, f6bb4b60, bebfbc70, 289b7ec6, eaa127fa, d4ef3085, 04881d05, d9d4d039, e6db99e5, 1fa27cf8, c4ac5665, f4292244, 432aff97, ab9423a7, fc93a039, 655b59c3, 8f0ccc92, ffeff47d, 85845dd1, 6fa87e4f, fe2ce6e0, a3014314, 4e0811a1, f7537e82, bd3af235, 2ad7d2bb, eb86d391"

func TestConstant(t *testing.T) {
	for i, word := range strings.Split(listed, ", ") {
		if got := octet.Hex(octet.Put(uint64(digest.Constant(i)), 4)); got != word {
			t.Errorf("Constant(%d): %s, want %s", i, got, word)
		}
	}
}

func TestConstantOfOthers(t *testing.T) {
	see := func(i int) {
		t.Helper()
		if got := digest.Constant(i); (i < 0 || i > 63) && got != 0 {
			t.Errorf("Constant(%d): %x, want 0", i, got)
		}
	}
	for i := -300; i <= 600; i++ {
		see(i)
	}
	for _, i := range ends {
		see(i)
	}
}

// P7.2

// turned goes up bit by bit.
func turned(x uint32, n int) uint32 {
	for range modulo(big.NewInt(int64(n)), 32) {
		out := x / (1 << 31)
		x = x*2 + out
	}
	return x
}

func TestTurn(t *testing.T) {
	for _, c := range []struct {
		x    uint32
		n    int
		want uint32
	}{
		{5, 0, 5},
		{1, 1, 2},
		{1 << 31, 1, 1},
		{0x12345678, 4, 0x23456781},
		{0x12345678, 28, 0x81234567},
		{0x12345678, 32, 0x12345678},
		{0x12345678, 36, 0x23456781},
		{0x12345678, -4, 0x81234567},
		{0x12345678, -32, 0x12345678},
		{0x12345678, -36, 0x81234567},
		{0x12345678, math.MinInt, 0x12345678},
		{0x12345678, math.MaxInt, 0x091a2b3c},
		{0, 7, 0},
		{math.MaxUint32, 7, math.MaxUint32},
	} {
		if got := digest.Turn(c.x, c.n); got != c.want {
			t.Errorf("Turn(%x, %d): %x, want %x", c.x, c.n, got, c.want)
		}
	}
}

func TestTurnOfEachNumber(t *testing.T) {
	r := rand.New(rand.NewSource(1))
	see := func(n int) {
		t.Helper()
		for range 20 {
			x := r.Uint32()
			if got, want := digest.Turn(x, n), turned(x, n); got != want {
				t.Errorf("Turn(%x, %d): %x, want %x", x, n, got, want)
			}
		}
	}
	for n := -200; n <= 200; n++ {
		see(n)
	}
	for _, n := range ends {
		see(n)
	}
}

// P7.3

// mixed goes through the bits one by one.
func mixed(i int, b, c, d uint32) (uint32, int) {
	word := uint32(0)
	for at := range 32 {
		p, q, s := b>>at&1, c>>at&1, d>>at&1
		bit := uint32(0)
		switch {
		case i < 16 && p == 1, i >= 16 && i < 32 && s == 0:
			bit = q
		case i < 16:
			bit = s
		case i < 32:
			bit = p
		case i < 48:
			bit = (p + q + s) % 2
		case p == 1 || s == 0:
			bit = 1 - q
		default:
			bit = q
		}
		word += bit << at
	}
	return word, placed(i)
}

func placed(i int) int {
	times, more := int64(7), int64(0)
	switch {
	case i < 16:
		times = 1
	case i < 32:
		times, more = 5, 1
	case i < 48:
		times, more = 3, 5
	}
	n := new(big.Int).Mul(big.NewInt(int64(i)), big.NewInt(times))
	return modulo(n.Add(n, big.NewInt(more)), 16)
}

func seeMix(t *testing.T, i int, b, c, d uint32) {
	t.Helper()
	got, at := digest.Mix(i, b, c, d)
	if want, place := mixed(i, b, c, d); got != want || at != place {
		t.Errorf("Mix(%d, %x, %x, %x): %x, %d, want %x, %d", i, b, c, d, got, at, want, place)
	}
}

func TestMix(t *testing.T) {
	const b, c, d = 0xff00ff00, 0x33333333, 0x55555555
	for _, w := range []struct {
		i    int
		word uint32
		at   int
	}{
		{0, 0x33553355, 0},
		{1, 0x33553355, 1},
		{15, 0x33553355, 15},
		{-1, 0x33553355, 15},
		{-16, 0x33553355, 0},
		{math.MinInt, 0x33553355, 0},
		{16, 0x77227722, 1},
		{17, 0x77227722, 6},
		{31, 0x77227722, 12},
		{32, 0x99669966, 5},
		{33, 0x99669966, 8},
		{47, 0x99669966, 2},
		{48, 0xcc99cc99, 0},
		{49, 0xcc99cc99, 7},
		{63, 0xcc99cc99, 9},
		{64, 0xcc99cc99, 0},
		{65, 0xcc99cc99, 7},
		{math.MaxInt, 0xcc99cc99, 9},
	} {
		if word, at := digest.Mix(w.i, b, c, d); word != w.word || at != w.at {
			t.Errorf("Mix(%d, ..): %x, %d, want %x, %d", w.i, word, at, w.word, w.at)
		}
	}
}

func TestMixOfEachNumber(t *testing.T) {
	r := rand.New(rand.NewSource(2))
	for i := -100; i <= 200; i++ {
		for range 10 {
			seeMix(t, i, r.Uint32(), r.Uint32(), r.Uint32())
		}
		seeMix(t, i, 0, 0, 0)
		seeMix(t, i, math.MaxUint32, math.MaxUint32, math.MaxUint32)
	}
	for _, i := range ends {
		seeMix(t, i, r.Uint32(), r.Uint32(), r.Uint32())
	}
}

// Each word of a block is taken once in each sixteen rounds.
func TestMixTakesEachWord(t *testing.T) {
	for start := 0; start < 64; start += 16 {
		var taken [16]int
		for i := range 16 {
			_, at := digest.Mix(start+i, 1, 2, 3)
			taken[at]++
		}
		for at, n := range taken {
			if n != 1 {
				t.Errorf("from %d on: word %d is taken %d times", start, at, n)
			}
		}
	}
}

// P7.4, P7.7

func TestPad(t *testing.T) {
	for _, c := range []struct{ s, want string }{
		{"", "\x80" + strings.Repeat("\x00", 63)},
		{"abc", "abc\x80" + strings.Repeat("\x00", 52) + "\x18\x00\x00\x00\x00\x00\x00\x00"},
		{strings.Repeat("z", 55), strings.Repeat("z", 55) + "\x80\xb8\x01\x00\x00\x00\x00\x00\x00"},
		{strings.Repeat("z", 56), strings.Repeat("z", 56) + "\x80" + strings.Repeat("\x00", 63) + "\xc0\x01\x00\x00\x00\x00\x00\x00"},
		{strings.Repeat("z", 63), strings.Repeat("z", 63) + "\x80" + strings.Repeat("\x00", 56) + "\xf8\x01\x00\x00\x00\x00\x00\x00"},
		{strings.Repeat("z", 64), strings.Repeat("z", 64) + "\x80" + strings.Repeat("\x00", 55) + "\x00\x02\x00\x00\x00\x00\x00\x00"},
	} {
		if got := digest.Pad(c.s); got != c.want {
			t.Errorf("Pad(%q): %q, want %q", c.s, got, c.want)
		}
	}
}

// seePad looks at what each part of a padded text must be.
func seePad(t *testing.T, s string) {
	t.Helper()
	got := digest.Pad(s)
	if len(got)%64 != 0 || len(got) < len(s)+9 || len(got) > len(s)+9+63 {
		t.Fatalf("Pad of %d bytes has %d", len(s), len(got))
	}
	end := len(got) - 8
	if got[:len(s)] != s || got[len(s)] != 128 || strings.Trim(got[len(s)+1:end], "\x00") != "" {
		t.Errorf("Pad of %d bytes: %q", len(s), got)
	}
	if n := binary.LittleEndian.Uint64([]byte(got[end:])); n != 8*uint64(len(s)) {
		t.Errorf("Pad of %d bytes tells %d bits", len(s), n)
	}
}

func TestPadOfEachLength(t *testing.T) {
	r := rand.New(rand.NewSource(3))
	for n := range 300 {
		seePad(t, drawnText(r, n))
		seePad(t, strings.Repeat("\x00", n))
		seePad(t, strings.Repeat("\x80", n))
	}
	for _, n := range []int{8191, 8192, 1<<16 - 1, 1 << 16, 1<<21 - 1, 1 << 21, 1 << 24} {
		seePad(t, strings.Repeat("\xff", n))
	}
}

// P7.5, P7.8

// lib is what the library goes on to from h by a whole number of blocks; it keeps words with their highest byte first.
func lib(t *testing.T, h [4]uint32, s string) [4]uint32 {
	t.Helper()
	state := []byte("md5\x01")
	for _, word := range h {
		state = binary.BigEndian.AppendUint32(state, word)
	}
	const kept = 64 + 8 // a block that is begun, and how much came
	state = append(state, make([]byte, kept)...)
	sum := md5.New()
	if err := sum.(encoding.BinaryUnmarshaler).UnmarshalBinary(state); err != nil {
		t.Fatal(err)
	}
	sum.Write([]byte(s))
	out, err := sum.(encoding.BinaryMarshaler).MarshalBinary()
	if err != nil {
		t.Fatal(err)
	}
	var after [4]uint32
	for i := range after {
		after[i] = binary.BigEndian.Uint32(out[4+4*i:])
	}
	return after
}

func seeBlock(t *testing.T, h [4]uint32, s string) {
	t.Helper()
	if got, want := digest.Block(h, s), lib(t, h, s); got != want {
		t.Errorf("Block(%x, %q): %x, want %x", h, s, got, want)
	}
}

func TestBlock(t *testing.T) {
	want := [4]uint32{0x98500190, 0xb04fd23c, 0x7d3f96d6, 0x727fe128} // of abc
	if got := digest.Block(first, digest.Pad("abc")); got != want {
		t.Errorf("Block of abc: %x, want %x", got, want)
	}
	most := [4]uint32{math.MaxUint32, math.MaxUint32, math.MaxUint32, math.MaxUint32}
	for _, h := range [][4]uint32{{}, most, first} {
		for _, c := range []string{"\x00", "\xff", "\x80", "a"} {
			seeBlock(t, h, strings.Repeat(c, 64))
		}
	}
	r := rand.New(rand.NewSource(4))
	for range 2000 {
		seeBlock(t, drawnWords(r), drawnText(r, 64))
	}
}

// Each byte stands in a place of its own.
func TestBlockOfEachByte(t *testing.T) {
	for i := range 64 {
		s := []byte(strings.Repeat("\x00", 64))
		s[i] = 1
		seeBlock(t, first, string(s))
	}
}

func TestBlockOfWhatIsNone(t *testing.T) {
	r := rand.New(rand.NewSource(5))
	for n := range 300 {
		h, s := drawnWords(r), drawnText(r, n)
		if got := digest.Block(h, s); (got == h) != (n != 64) {
			t.Errorf("Block of %d bytes: %x of %x", n, got, h)
		}
	}
}

func TestBlockGoesOn(t *testing.T) {
	r := rand.New(rand.NewSource(6))
	for range 500 {
		h := drawnWords(r)
		a, b, c := drawnText(r, 64), drawnText(r, 64), drawnText(r, 64)
		got := digest.Block(digest.Block(digest.Block(h, a), b), c)
		if want := lib(t, h, a+b+c); got != want {
			t.Errorf("three blocks from %x on: %x, want %x", h, got, want)
		}
	}
}

func TestSumGoesOnByBlocks(t *testing.T) {
	r := rand.New(rand.NewSource(7))
	for n := range 300 {
		s := drawnText(r, n)
		h := first
		for padded := digest.Pad(s); padded != ""; padded = padded[64:] {
			h = digest.Block(h, padded[:64])
		}
		want := ""
		for _, word := range h {
			want += string([]byte{byte(word), byte(word >> 8), byte(word >> 16), byte(word >> 24)})
		}
		if got := digest.Sum(s); got != want {
			t.Errorf("Sum(%q): %x, want %x", s, got, want)
		}
	}
}

// P7.6

func TestSum(t *testing.T) {
	for _, c := range []struct{ s, want string }{
		{"", "d41d8cd98f00b204e9800998ecf8427e"},
		{"a", "0cc175b9c0f1b6a831c399e269772661"},
		{"abc", "900150983cd24fb0d6963f7d28e17f72"},
		{"message digest", "f96b697d7cb7938d525a2f31aaf161d0"},
		{"abcdefghijklmnopqrstuvwxyz", "c3fcd3d76192e4007dfb496cca67e13b"},
		{"ABCDEFGHIJKLMNOPQRSTUVWXYZabcdefghijklmnopqrstuvwxyz0123456789", "d174ab98d277d9f5a5611c2c9f419d9f"},
		{strings.Repeat("1234567890", 8), "57edf4a22be3c955ac49da2e2107b67a"},
	} {
		if got := octet.Hex(digest.Sum(c.s)); got != c.want {
			t.Errorf("Sum(%q): %s, want %s", c.s, got, c.want)
		}
	}
}

func seeSum(t *testing.T, s string) {
	t.Helper()
	want := md5.Sum([]byte(s))
	if got := digest.Sum(s); got != string(want[:]) {
		t.Errorf("Sum(%.80q) of %d bytes: %x, want %x", s, len(s), got, want)
	}
}

func TestSumOfEachLength(t *testing.T) {
	r := rand.New(rand.NewSource(8))
	for n := range 600 {
		seeSum(t, drawnText(r, n))
		seeSum(t, strings.Repeat("\x00", n))
		seeSum(t, strings.Repeat("\xff", n))
	}
	for _, n := range []int{4095, 4096, 4097, 9216, 1<<16 - 1, 1 << 16, 1 << 21} {
		seeSum(t, drawnText(r, n))
	}
}

// Whatever comes: it is padded to whole blocks, and its sum is the library's (P7.6, P7.7).
func FuzzSum(f *testing.F) {
	for _, n := range []int{0, 1, 55, 56, 63, 64, 65, 119, 120, 128} {
		f.Add(strings.Repeat("\x80", n))
	}
	f.Fuzz(func(t *testing.T, s string) {
		seePad(t, s)
		seeSum(t, s)
	})
}
