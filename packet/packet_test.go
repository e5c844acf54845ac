package packet_test

import (
	"fmt"
	"math"
	"math/rand"
	"slices"
	"strings"
	"testing"

	"tipstaff/api"
	"tipstaff/attr"
	"tipstaff/packet"
)

const auth = "0123456789abcdef"

// anyKinds are types that attributes have, and edges and wrong ones.
var anyKinds = []int{math.MinInt, -256, -255, -1, 0, 1, 2, 79, 254, 255, 256, 257, 511, 512, math.MaxInt}

func text(n int) string { return strings.Repeat("x", n) }

// told answers what v is, no longer than is of use.
func told(v any) string { return fmt.Sprintf("%.400s", fmt.Sprintf("%#v", v)) }

// plain answers a packet that is right, with those attributes.
func plain(l ...api.Attr) api.Packet {
	return api.Packet{Code: api.CodeRequest, Id: 7, Auth: auth, Attrs: l}
}

// many answers n attributes of type 7, without bytes.
func many(n int) []api.Attr { return slices.Repeat([]api.Attr{{Type: 7}}, n) }

// weighing answers attributes that have n bytes when they are written: n is 2 or above, and not one above a multiple of 255.
func weighing(n int) []api.Attr {
	l := []api.Attr{}
	for n > 0 {
		one := min(n, 255)
		l = append(l, api.Attr{Type: 8, Value: text(one - 2)})
		n -= one
	}
	return l
}

// alike is Same, told anew: nil and an empty list are the same one.
func alike(a, b api.Packet) bool {
	return a.Code == b.Code && a.Id == b.Id && a.Auth == b.Auth && slices.Equal(a.Attrs, b.Attrs)
}

func drawnText(r *rand.Rand, long int) string {
	out := make([]byte, long)
	r.Read(out)
	return string(out)
}

// drawnList answers attributes that are right, of few types, so that a type stands there more than once.
func drawnList(r *rand.Rand, most int) []api.Attr {
	l := make([]api.Attr, r.Intn(most+1))
	for i := range l {
		l[i] = api.Attr{Type: 1 + r.Intn(5), Value: drawnText(r, r.Intn(60))}
	}
	return l
}

func drawn(r *rand.Rand) api.Packet {
	return api.Packet{Code: 1 + r.Intn(255), Id: r.Intn(256), Auth: drawnText(r, 16), Attrs: drawnList(r, 64)}
}

// P10.1

// badHeads are packets in which something ahead of the attributes is wrong.
var badHeads = []api.Packet{
	{},
	{Code: 0, Id: 7, Auth: auth},
	{Code: -1, Id: 7, Auth: auth},
	{Code: -255, Id: 7, Auth: auth},
	{Code: 256, Id: 7, Auth: auth},
	{Code: 257, Id: 7, Auth: auth},
	{Code: math.MaxInt, Id: 7, Auth: auth},
	{Code: math.MinInt, Id: 7, Auth: auth},
	{Code: math.MinInt + 1, Id: 7, Auth: auth},
	{Code: 1, Id: -1, Auth: auth},
	{Code: 1, Id: -256, Auth: auth},
	{Code: 1, Id: 256, Auth: auth},
	{Code: 1, Id: 257, Auth: auth},
	{Code: 1, Id: math.MaxInt, Auth: auth},
	{Code: 1, Id: math.MinInt, Auth: auth},
	{Code: 1, Id: 7},
	{Code: 1, Id: 7, Auth: "x"},
	{Code: 1, Id: 7, Auth: auth[1:]},
	{Code: 1, Id: 7, Auth: auth + "x"},
	{Code: 1, Id: 7, Auth: auth + auth},
	{Code: 1, Id: 7, Auth: strings.Repeat("\u00fc", 16)},
	{Code: 1, Id: 7, Auth: text(256 + 16)},
}

// goodHeads are packets in which nothing there is wrong.
var goodHeads = []api.Packet{
	{Code: 1, Id: 0, Auth: auth},
	{Code: 2, Id: 1, Auth: auth},
	{Code: 11, Id: 128, Auth: strings.Repeat("\x00", 16)},
	{Code: 128, Id: 254, Auth: strings.Repeat("\xff", 16)},
	{Code: 254, Id: 255, Auth: strings.Repeat("\u00fc", 8)},
	{Code: 255, Id: 255, Auth: auth},
}

// badLists are attributes that a packet cannot have.
var badLists = [][]api.Attr{
	{{}},
	{{Type: 0, Value: "x"}},
	{{Type: -1}},
	{{Type: 256}},
	{{Type: math.MaxInt}},
	{{Type: 1}, {Type: 0}},
	{{Type: 0}, {Type: 1}},
	{{Type: 1, Value: text(254)}},
	{{Type: 1, Value: text(4000)}},
	{{Type: 1, Value: text(1 << 16)}},
	append(many(63), api.Attr{Type: 256}),
	many(65),
	many(128),
	many(5000),
	weighing(4077),
	weighing(4078),
	weighing(4096),
	weighing(5000),
	weighing(64 * 255),
}

// goodLists are attributes that a packet can have.
var goodLists = [][]api.Attr{
	nil,
	{},
	{{Type: 1}},
	{{Type: 1, Value: "bob"}},
	{{Type: 255, Value: text(253)}},
	{{Type: 2, Value: "b"}, {Type: 1, Value: "a"}, {Type: 2, Value: "b"}, {Type: 2}},
	many(63),
	many(64),
	weighing(4000),
	weighing(4075),
	weighing(4076),
	slices.Repeat([]api.Attr{{Type: 9, Value: text(61)}}, 64),
}

func TestRight(t *testing.T) {
	for _, p := range goodHeads {
		for _, l := range goodLists {
			p.Attrs = l
			if !packet.Right(p) {
				t.Errorf("Right(%s): false", told(p))
			}
		}
		for _, l := range badLists {
			p.Attrs = l
			if packet.Right(p) {
				t.Errorf("Right(%s): true", told(p))
			}
		}
	}
	for _, p := range badHeads {
		for _, l := range slices.Concat(goodLists, badLists) {
			p.Attrs = l
			if packet.Right(p) {
				t.Errorf("Right(%s): true", told(p))
			}
		}
	}
}

func TestRightOfEachCodeIdAndLength(t *testing.T) {
	for n := -300; n <= 600; n++ {
		if got, want := packet.Right(api.Packet{Code: n, Auth: auth}), n >= 1 && n <= 255; got != want {
			t.Errorf("Right of code %d: %v", n, got)
		}
		if got, want := packet.Right(api.Packet{Code: 1, Id: n, Auth: auth}), n >= 0 && n <= 255; got != want {
			t.Errorf("Right of id %d: %v", n, got)
		}
		if got, want := packet.Right(api.Packet{Code: 1, Auth: text(max(n, 0))}), n == 16; got != want {
			t.Errorf("Right of %d bytes in Auth: %v", n, got)
		}
	}
	for n := 3800; n <= 4400; n++ {
		if n%255 == 1 {
			continue
		}
		if got, want := packet.Right(plain(weighing(n)...)), n <= 4076; got != want {
			t.Errorf("Right of attributes of %d bytes: %v", n, got)
		}
	}
}

// P10.2

func seeBytes(t *testing.T, p api.Packet, want string, wantE api.Errno) {
	t.Helper()
	if got, e := packet.Bytes(p); got != want || e != wantE {
		t.Errorf("Bytes(%s): %s, %d, want %s, %d", told(p), told(got), e, told(want), wantE)
	}
}

func TestBytes(t *testing.T) {
	seeBytes(t, plain(), "\x01\x07\x00\x14"+auth, api.OK)
	seeBytes(t, api.Packet{Code: 255, Id: 0, Auth: auth}, "\xff\x00\x00\x14"+auth, api.OK)
	seeBytes(t, api.Packet{Code: 2, Id: 255, Auth: auth, Attrs: []api.Attr{}}, "\x02\xff\x00\x14"+auth, api.OK)
	seeBytes(t, plain(api.Attr{Type: 1, Value: "bob"}), "\x01\x07\x00\x19"+auth+"\x01\x05bob", api.OK)
	seeBytes(t, plain(api.Attr{Type: 255, Value: "\x00"}, api.Attr{Type: 1}, api.Attr{Type: 255}), "\x01\x07\x00\x1b"+auth+"\xff\x03\x00\x01\x02\xff\x02", api.OK)
	seeBytes(t, plain(many(64)...), "\x01\x07\x00\x94"+auth+strings.Repeat("\x07\x02", 64), api.OK)
	seeBytes(t, plain(weighing(235)...), "\x01\x07\x00\xff"+auth+"\x08\xeb"+text(233), api.OK)
	seeBytes(t, plain(weighing(236)...), "\x01\x07\x01\x00"+auth+"\x08\xec"+text(234), api.OK)
	full := strings.Repeat("\x08\xff"+text(253), 15)
	seeBytes(t, plain(weighing(4075)...), "\x01\x07\x0f\xff"+auth+full+"\x08\xfa"+text(248), api.OK)
	seeBytes(t, plain(weighing(4076)...), "\x01\x07\x10\x00"+auth+full+"\x08\xfb"+text(249), api.OK)
}

func TestBytesOfWrong(t *testing.T) {
	for _, p := range badHeads {
		for _, l := range slices.Concat(goodLists, badLists) {
			p.Attrs = l
			seeBytes(t, p, "", api.ErrArg)
		}
	}
	for _, p := range goodHeads {
		for _, l := range badLists {
			p.Attrs = l
			seeBytes(t, p, "", api.ErrArg) // more than MaxAttrs of them too: the packet is not right
		}
	}
}

func TestBytesOfEachCodeAndId(t *testing.T) {
	for n := range 256 {
		if n > 0 {
			seeBytes(t, api.Packet{Code: n, Id: 3, Auth: auth}, string([]byte{byte(n)})+"\x03\x00\x14"+auth, api.OK)
		}
		seeBytes(t, api.Packet{Code: 3, Id: n, Auth: auth}, "\x03"+string([]byte{byte(n)})+"\x00\x14"+auth, api.OK)
	}
}

// P10.3

func seeRead(t *testing.T, s string, want api.Packet, wantE api.Errno) {
	t.Helper()
	got, e := packet.Read(s)
	if !alike(got, want) || e != wantE {
		t.Errorf("Read of %d bytes, %.200q: %s, %d, want %s, %d", len(s), s, told(got), e, told(want), wantE)
	}
}

func TestRead(t *testing.T) {
	for _, behind := range []string{"", "\x00", "z", "\x01", "\x00\x00", "\x00\x00\x00", "\x01\x03x", text(5000), strings.Repeat("\x07\x02", 65)} {
		seeRead(t, "\x01\x07\x00\x14"+auth+behind, plain(), api.OK)
		seeRead(t, "\xff\x00\x00\x14"+auth+behind, api.Packet{Code: 255, Auth: auth}, api.OK)
		seeRead(t, "\x80\xff\x00\x14"+auth+behind, api.Packet{Code: 128, Id: 255, Auth: auth}, api.OK)
		seeRead(t, "\x01\x07\x00\x16"+auth+"\x05\x02"+behind, plain(api.Attr{Type: 5}), api.OK)
		seeRead(t, "\x01\x07\x00\x19"+auth+"\x01\x05bob"+behind, plain(api.Attr{Type: 1, Value: "bob"}), api.OK)
		seeRead(t, "\x01\x07\x00\x1b"+auth+"\xff\x03\x00\x01\x02\xff\x02"+behind, plain(api.Attr{Type: 255, Value: "\x00"}, api.Attr{Type: 1}, api.Attr{Type: 255}), api.OK)
		seeRead(t, "\x01\x07\x00\x94"+auth+strings.Repeat("\x07\x02", 64)+behind, plain(many(64)...), api.OK)
		seeRead(t, "\x01\x07\x00\xff"+auth+"\x08\xeb"+text(233)+behind, plain(weighing(235)...), api.OK)
		seeRead(t, "\x01\x07\x01\x00"+auth+"\x08\xec"+text(234)+behind, plain(weighing(236)...), api.OK)
		full := strings.Repeat("\x08\xff"+text(253), 15)
		seeRead(t, "\x01\x07\x0f\xff"+auth+full+"\x08\xfa"+text(248)+behind, plain(weighing(4075)...), api.OK)
		seeRead(t, "\x01\x07\x10\x00"+auth+full+"\x08\xfb"+text(249)+behind, plain(weighing(4076)...), api.OK)
	}
}

func TestReadOfWrong(t *testing.T) {
	for _, c := range []struct {
		s    string
		want api.Errno
	}{
		{"", api.ErrShort},
		{"\x01", api.ErrShort},
		{"\x01\x07\x00\x14" + auth[1:], api.ErrShort},
		{"\x01\x07\x00\x13" + auth[1:], api.ErrShort}, // too few bytes, ahead of a length that is too small
		{"\x00\x07\x00\x14" + auth[1:], api.ErrShort}, // and ahead of the code 0
		{"\x01\x07\x10\x01" + auth[1:], api.ErrShort}, // and ahead of a length that is too large
		{"\x01\x07\xff\xff", api.ErrShort},
		{"\x01\x07\x10\x01" + auth, api.ErrLong},
		{"\x01\x07\x11\x00" + auth, api.ErrLong},
		{"\x01\x07\xff\xff" + auth, api.ErrLong},
		{"\x01\x07\x80\x00" + auth, api.ErrLong},
		{"\x00\x07\x10\x01" + auth, api.ErrLong}, // ahead of the code 0
		{"\x01\x07\x10\x01" + auth + strings.Repeat("\x08\xff"+text(253), 15) + "\x08\xfc" + text(250), api.ErrLong},
		{"\x01\x07\x10\x01" + text(5000), api.ErrLong},
		{"\x01\x07\x00\x00" + auth, api.ErrForm},
		{"\x01\x07\x00\x01" + auth, api.ErrForm},
		{"\x01\x07\x00\x13" + auth, api.ErrForm},
		{"\x01\x07\x00\x13" + auth + text(100), api.ErrForm},
		{"\x00\x07\x00\x14" + auth, api.ErrForm},
		{"\x00\x00\x00\x14" + auth, api.ErrForm},
		{"\x00\x07\x00\x13" + auth, api.ErrForm},
		{"\x00\x07\x00\x15" + auth, api.ErrForm}, // the code, ahead of the byte that is missing
		{"\x00\x07\x10\x00" + auth, api.ErrForm},
		{"\x00\x07\x00\x15" + auth + "\x01", api.ErrForm}, // and ahead of the attributes' fault
		{"\x01\x07\x00\x15" + auth, api.ErrShort},
		{"\x01\x07\x00\x16" + auth + "\x00", api.ErrShort},
		{"\x01\x07\x00\x17" + auth + "\x00\x00", api.ErrShort}, // ahead of the attributes' fault
		{"\x01\x07\x01\x14" + auth, api.ErrShort},
		{"\x01\x07\x10\x00" + auth, api.ErrShort},
		{"\x01\x07\x10\x00" + auth + text(4075), api.ErrShort},
		{"\x01\x07\x00\x15" + auth + "\x01", api.ErrShort},
		{"\x01\x07\x00\x15" + auth + "\x01\x02", api.ErrShort}, // what stands behind the length ends no attribute
		{"\x01\x07\x00\x18" + auth + "\x01\x05bob", api.ErrShort},
		{"\x01\x07\x00\x16" + auth + "\x00\x02", api.ErrForm},
		{"\x01\x07\x00\x16" + auth + "\x01\x01", api.ErrForm},
		{"\x01\x07\x00\x16" + auth + "\x01\x00", api.ErrForm},
		{"\x01\x07\x00\x16" + auth + "\x01\x03", api.ErrShort},
		{"\x01\x07\x00\x16" + auth + "\x01\x03x", api.ErrShort},
		{"\x01\x07\x00\x19" + auth + "\x01\x03x\x00\x02", api.ErrForm},
		{"\x01\x07\x00\x18" + auth + "\x01\x03x\x02", api.ErrShort},
		{"\x01\x07\x00\x95" + auth + strings.Repeat("\x07\x02", 64) + "\x07", api.ErrLong},
		{"\x01\x07\x00\x96" + auth + strings.Repeat("\x07\x02", 65), api.ErrLong},
		{"\x01\x07\x00\x95" + auth + strings.Repeat("\x07\x02", 64), api.ErrShort},
	} {
		seeRead(t, c.s, api.Packet{}, c.want)
	}
}

// What Read answers to each length and code, by how many bytes are there.
func TestReadOfEachLength(t *testing.T) {
	for _, code := range []byte{0, 1, 255} {
		for _, there := range []int{0, 1, 3, 4, 19, 20, 21, 22, 276, 277, 4095, 4096, 4097, 5000} {
			for long := range 1 << 16 {
				if long > 300 && long%64 > 2 {
					continue
				}
				s := (string([]byte{code, 9, byte(long >> 8), byte(long)}) + auth + strings.Repeat("\x01\x41"+text(63), 80))[:there]
				_, e := packet.Read(s)
				if want := reckoned(code, there, long); e != want {
					t.Errorf("Read of code %d, length %d, %d bytes: %d, want %d", code, long, there, e, want)
				}
			}
		}
	}
}

// reckoned is Read's error of a packet whose attributes have 65 bytes each.
func reckoned(code byte, there, long int) api.Errno {
	switch {
	case there < 20:
		return api.ErrShort
	case long > 4096:
		return api.ErrLong
	case long < 20 || code == 0:
		return api.ErrForm
	case there < long || (long-20)%65 != 0:
		return api.ErrShort
	}
	return api.OK
}

// P10.4

func TestSame(t *testing.T) {
	a, b := api.Attr{Type: 1, Value: "a"}, api.Attr{Type: 2, Value: "b"}
	for _, c := range []struct {
		a, b api.Packet
		want bool
	}{
		{api.Packet{}, api.Packet{}, true},
		{api.Packet{}, api.Packet{Attrs: []api.Attr{}}, true},
		{plain(), plain(), true},
		{plain(), plain(make([]api.Attr, 0, 9)...), true},
		{plain(), api.Packet{Code: 2, Id: 7, Auth: auth}, false},
		{plain(), api.Packet{Code: 257, Id: 7, Auth: auth}, false},
		{plain(), api.Packet{Code: 1, Id: 8, Auth: auth}, false},
		{plain(), api.Packet{Code: 1, Id: 263, Auth: auth}, false},
		{plain(), api.Packet{Code: 7, Id: 1, Auth: auth}, false},
		{plain(), api.Packet{Code: 1, Id: 7}, false},
		{plain(), api.Packet{Code: 1, Id: 7, Auth: auth[:15] + "F"}, false},
		{plain(), api.Packet{Code: 1, Id: 7, Auth: "1" + auth[1:]}, false},
		{plain(), api.Packet{Code: 1, Id: 7, Auth: auth + "\x00"}, false},
		{api.Packet{Code: -1, Id: 999, Auth: "x"}, api.Packet{Code: -1, Id: 999, Auth: "x"}, true},
		{plain(a), plain(a), true},
		{plain(a), plain(), false},
		{plain(a), plain(b), false},
		{plain(a), plain(api.Attr{Type: 1, Value: "A"}), false},
		{plain(a), plain(api.Attr{Type: 3, Value: "a"}), false},
		{plain(a), plain(api.Attr{Type: 1}), false},
		{plain(a, b), plain(a, b), true},
		{plain(a, b), plain(b, a), false},
		{plain(a, b), plain(a), false},
		{plain(a, b), plain(b), false},
		{plain(a, b), plain(a, b, b), false},
		{plain(api.Attr{Type: 1, Value: "ab"}, api.Attr{Type: 1}), plain(api.Attr{Type: 1, Value: "a"}, api.Attr{Type: 1, Value: "b"}), false},
		{plain(api.Attr{}), plain(api.Attr{}), true},
		{plain(api.Attr{}), plain(), false},
		{plain(many(100)...), plain(many(100)...), true},
		{plain(many(100)...), plain(many(99)...), false},
		{plain(api.Attr{Type: 1, Value: text(300)}), plain(api.Attr{Type: 1, Value: text(300)}), true},
	} {
		if got := packet.Same(c.a, c.b); got != c.want {
			t.Errorf("Same(%s, %s): %v", told(c.a), told(c.b), got)
		}
		if got := packet.Same(c.b, c.a); got != c.want {
			t.Errorf("Same(%s, %s): %v", told(c.b), told(c.a), got)
		}
	}
}

// P10.5

func seePut(t *testing.T, p api.Packet, kind int, value string, want ...api.Attr) {
	t.Helper()
	wanted := p
	wanted.Attrs = want
	if got := packet.Put(p, kind, value); !alike(got, wanted) {
		t.Errorf("Put(%s, %d, %.50q): %s, want %s", told(p), kind, value, told(got), told(wanted))
	}
}

func TestPut(t *testing.T) {
	a, b, c, n := api.Attr{Type: 1, Value: "a"}, api.Attr{Type: 2, Value: "b"}, api.Attr{Type: 1, Value: "c"}, api.Attr{Type: 1, Value: "new"}
	seePut(t, plain(), 1, "new", n)
	seePut(t, plain([]api.Attr{}...), 1, "new", n)
	seePut(t, plain(), 1, "", api.Attr{Type: 1})
	seePut(t, plain(a), 1, "new", n)
	seePut(t, plain(a), 1, "", api.Attr{Type: 1})
	seePut(t, plain(a), 1, "a", a)
	seePut(t, plain(b), 1, "new", b, n)
	seePut(t, plain(a, b), 1, "new", n, b)
	seePut(t, plain(b, a), 1, "new", b, n)
	seePut(t, plain(b, a, c), 1, "new", b, n, c)
	seePut(t, plain(a, c, b), 1, "new", n, c, b)
	seePut(t, plain(a, b, c), 1, "new", n, b, c)
	seePut(t, plain(a, b, c), 2, "x", a, api.Attr{Type: 2, Value: "x"}, c)
	seePut(t, plain(a, b, c), 3, "x", a, b, c, api.Attr{Type: 3, Value: "x"})
	seePut(t, plain(a), 257, "x", a, api.Attr{Type: 257, Value: "x"})
	seePut(t, plain(a), -255, "x", a, api.Attr{Type: -255, Value: "x"})
	seePut(t, plain(a), 0, "x", a, api.Attr{Value: "x"})
	seePut(t, plain(api.Attr{}, a), 0, "x", api.Attr{Value: "x"}, a)
	seePut(t, plain(a), math.MaxInt, text(300), a, api.Attr{Type: math.MaxInt, Value: text(300)})
	seePut(t, plain(a), math.MinInt, "", a, api.Attr{Type: math.MinInt})
	seePut(t, plain(many(64)...), 1, "new", append(many(64), n)...)
	seePut(t, plain(many(64)...), 7, "x", append([]api.Attr{{Type: 7, Value: "x"}}, many(63)...)...)
	seePut(t, plain(append(many(999), a)...), 1, "new", append(many(999), n)...)
	for _, p := range badHeads {
		seePut(t, p, 1, "new", n)
		p.Attrs = []api.Attr{b, a}
		seePut(t, p, 1, "new", b, n)
	}
}

// P10.6

func seeWithout(t *testing.T, p api.Packet, kind int, want ...api.Attr) {
	t.Helper()
	wanted := p
	wanted.Attrs = want
	if got := packet.Without(p, kind); !alike(got, wanted) {
		t.Errorf("Without(%s, %d): %s, want %s", told(p), kind, told(got), told(wanted))
	}
}

func TestWithout(t *testing.T) {
	a, b, c, d := api.Attr{Type: 1, Value: "a"}, api.Attr{Type: 2, Value: "b"}, api.Attr{Type: 1}, api.Attr{Type: 3, Value: "d"}
	for _, kind := range anyKinds {
		seeWithout(t, plain(), kind)
		seeWithout(t, plain([]api.Attr{}...), kind)
		if kind != 1 && kind != 2 {
			seeWithout(t, plain(a, b, c), kind, a, b, c)
		}
	}
	seeWithout(t, plain(a), 1)
	seeWithout(t, plain(a), 2, a)
	seeWithout(t, plain(a, c), 1)
	seeWithout(t, plain(a, b), 1, b)
	seeWithout(t, plain(b, a), 1, b)
	seeWithout(t, plain(a, b, c), 1, b)
	seeWithout(t, plain(a, b, c), 2, a, c)
	seeWithout(t, plain(b, a, c, d), 1, b, d)
	seeWithout(t, plain(b, a, d, c), 1, b, d)
	seeWithout(t, plain(a, b, c, d, a), 1, b, d)
	seeWithout(t, plain(a, b, b, c, d, d), 1, b, b, d, d)
	seeWithout(t, plain(api.Attr{}, a, api.Attr{Type: 256}), 0, a, api.Attr{Type: 256})
	seeWithout(t, plain(api.Attr{}, a, api.Attr{Type: 256}), 256, api.Attr{}, a)
	seeWithout(t, plain(api.Attr{Type: 257}, a), 1, api.Attr{Type: 257})
	seeWithout(t, plain(many(1000)...), 7)
	seeWithout(t, plain(many(1000)...), 8, many(1000)...)
	seeWithout(t, plain(append(many(500), a)...), 7, a)
	for _, p := range badHeads {
		p.Attrs = []api.Attr{b, a, d}
		seeWithout(t, p, 1, b, d)
	}
}

func TestWithoutOfDrawn(t *testing.T) {
	r := rand.New(rand.NewSource(1))
	for range 500 {
		p := drawn(r)
		for kind := range 7 {
			want := slices.DeleteFunc(slices.Clone(p.Attrs), func(a api.Attr) bool { return a.Type == kind })
			seeWithout(t, p, kind, want...)
		}
	}
}

// P10.7

func seeBack(t *testing.T, p api.Packet, behind string) {
	t.Helper()
	s, e := packet.Bytes(p)
	if e != api.OK {
		t.Errorf("Bytes(%s): %d", told(p), e)
		return
	}
	seeRead(t, s+behind, p, api.OK)
}

func TestWrittenIsRead(t *testing.T) {
	for _, p := range goodHeads {
		for _, l := range goodLists {
			p.Attrs = l
			for _, behind := range []string{"", "\x00", "\x01\x02", text(5000)} {
				seeBack(t, p, behind)
			}
		}
	}
	r := rand.New(rand.NewSource(2))
	for range 2000 {
		if p := drawn(r); packet.Right(p) {
			seeBack(t, p, drawnText(r, r.Intn(30)))
		}
	}
}

// seeForth writes what was read of s, if it could be read.
func seeForth(t *testing.T, s string) bool {
	t.Helper()
	p, e := packet.Read(s)
	if e != api.OK {
		if !alike(p, api.Packet{}) {
			t.Errorf("Read(%q): %s beside error %d", s, told(p), e)
		}
		return false
	}
	long := int(s[2])<<8 | int(s[3])
	if got, e := packet.Bytes(p); got != s[:long] || e != api.OK {
		t.Errorf("what Read(%q) answers is written %q, %d", s, got, e)
	}
	if !packet.Right(p) {
		t.Errorf("what Read(%q) answers is not right", s)
	}
	return true
}

func TestReadIsWritten(t *testing.T) {
	r := rand.New(rand.NewSource(3))
	read := 0
	for range 20000 {
		s := []byte("\x01\x00\x00\x14" + drawnText(r, 16+r.Intn(20)))
		s[0], s[1], s[3] = byte(r.Intn(256)), byte(r.Intn(256)), byte(15+r.Intn(25))
		for i := range s[20:] {
			s[20+i] %= 6 // small lengths, so that some can be read
		}
		if seeForth(t, string(s)) {
			read++
		}
	}
	if read < 1000 {
		t.Errorf("just %d were read", read)
	}
}

// P10.8

func seeFound(t *testing.T, p api.Packet, kind int, value string) {
	t.Helper()
	got := packet.Put(p, kind, value)
	if found, ok := attr.Find(got.Attrs, kind); found != value || !ok {
		t.Errorf("after Put(%s, %d, %.50q): found %.50q, %v", told(p), kind, value, found, ok)
	}
	if !alike(packet.Without(got, kind), packet.Without(p, kind)) {
		t.Errorf("Put(%s, %d, %.50q) changes others: %s", told(p), kind, value, told(got))
	}
	if n, was := attr.Count(got.Attrs, kind), attr.Count(p.Attrs, kind); n != max(was, 1) {
		t.Errorf("Put(%s, %d, %.50q) has %d of that type", told(p), kind, value, n)
	}
	if again := packet.Put(got, kind, value); !alike(again, got) {
		t.Errorf("Put(%s, %d, %.50q) twice: %s", told(p), kind, value, told(again))
	}
	if _, ok := attr.Find(packet.Without(got, kind).Attrs, kind); ok {
		t.Errorf("Without(%s, %d) has one", told(got), kind)
	}
}

func TestPutIsFound(t *testing.T) {
	r := rand.New(rand.NewSource(4))
	for range 500 {
		p := drawn(r)
		for kind := range 7 {
			seeFound(t, p, kind, drawnText(r, r.Intn(300)))
		}
		for _, kind := range anyKinds {
			seeFound(t, p, kind, "")
		}
	}
}

// R3: what is handed in stays as it was, behind its end too, and what is answered is new.

func TestPacketsAreNotChanged(t *testing.T) {
	room := []api.Attr{{Type: 1, Value: "a"}, {Type: 2, Value: "b"}, {Type: 1, Value: "c"}, {Type: 3, Value: "behind"}, {Type: 4, Value: "that"}}
	want := slices.Clone(room)
	p := plain(room[:3]...)
	packet.Right(p)
	packet.Bytes(p)
	packet.Same(p, p)
	for kind := range 6 {
		for _, out := range []api.Packet{packet.Put(p, kind, "new"), packet.Without(p, kind)} {
			clear(out.Attrs)
			_ = append(out.Attrs, api.Attr{Type: 9}, api.Attr{Type: 9})
		}
	}
	if !slices.Equal(room, want) || len(p.Attrs) != 3 {
		t.Errorf("the attributes are changed: %s, want %s", told(room), told(want))
	}
}

func TestAnswersAreNew(t *testing.T) {
	const s = "\x01\x07\x00\x17" + auth + "\x01\x03a"
	first, _ := packet.Read(s)
	clear(first.Attrs)
	seeRead(t, s, plain(api.Attr{Type: 1, Value: "a"}), api.OK)
	put := packet.Put(plain(), 1, "a")
	other := packet.Put(put, 2, "b")
	third := packet.Put(put, 3, "c")
	if other.Attrs[1].Type != 2 || third.Attrs[1].Type != 3 {
		t.Errorf("two Puts share room: %s, %s", told(other), told(third))
	}
}

// Whatever comes: nothing panics, what could be read is written so, and what is put is found.
func FuzzPacket(f *testing.F) {
	f.Add("", 1, "")
	f.Add("\x01\x07\x00\x14"+auth, 0, "x")
	f.Add("\x01\x07\x00\x19"+auth+"\x01\x05bobz", 1, "new")
	f.Add("\x01\x07\x10\x01"+auth, 256, text(254))
	f.Add("\x00\x07\x00\x13"+auth, math.MinInt, "x")
	f.Add("\x01\x07\x00\x96"+auth+strings.Repeat("\x07\x02", 65), math.MaxInt, "x")
	f.Fuzz(func(t *testing.T, s string, kind int, value string) {
		seeForth(t, s)
		p, _ := packet.Read(s)
		seeFound(t, p, kind, value)
		if out := packet.Put(p, kind, value); packet.Right(out) {
			seeBack(t, out, s)
		}
	})
}
