package ether_test

import (
	"fmt"
	"math"
	"math/rand"
	"strconv"
	"strings"
	"testing"

	"tipstaff/api"
	"tipstaff/ether"
)

const (
	lastMac    = 1<<48 - 1
	dst        = 0x0123456789ab // the bytes of both all differ, so that one in a wrong place is seen
	src        = 0xcdef10203040
	mostPlain  = api.MaxFrame - 14 // bytes of a body
	mostTagged = api.MaxFrame - 18
	addresses  = "\x01\x23\x45\x67\x89\xab\xcd\xef\x10\x20\x30\x40" // of dst and src
)

// brief is f's text without most of a long body.
func brief(f api.Frame) string {
	long := len(f.Body)
	f.Body = strconv.Quote(f.Body[:min(long, 60)])
	return fmt.Sprintf("%+v (a body of %d)", f, long)
}

// body has n bytes, no two of which that stand side by side are the same.
func body(n int) string { return strings.Repeat("0123456789", n/10+1)[:n] }

func plain(typ int, body string) api.Frame {
	return api.Frame{Dst: dst, Src: src, Type: typ, Body: body}
}

func tagged(prio, vid, typ int, body string) api.Frame {
	return api.Frame{Dst: dst, Src: src, Tagged: true, Prio: prio, Vid: vid, Type: typ, Body: body}
}

// rightFrames are at the edges of what is right, or within them.
func rightFrames() []api.Frame {
	return []api.Frame{
		{},
		{Tagged: true},
		{Dst: lastMac},
		{Src: lastMac},
		{Dst: lastMac, Src: lastMac, Tagged: true, Prio: 7, Vid: 4095, Type: 65535},
		plain(api.TypeIp, "data"),
		plain(api.TypeEapol, ""),
		plain(api.TypeBpdu, ""),
		plain(api.TypeTag-1, ""),
		plain(api.TypeTag+1, ""),
		plain(65535, ""),
		plain(1, body(mostTagged)),
		plain(1, body(mostTagged+1)),
		plain(1, body(mostPlain-1)),
		plain(1, body(mostPlain)),
		tagged(0, 0, api.TypeIp, "data"),
		tagged(0, 1, 0, ""),
		tagged(1, 0, 0, ""),
		tagged(7, 0, 0, ""),
		tagged(0, api.MaxVid, 0, ""),
		tagged(0, 4095, 0, ""),
		tagged(7, 4095, 65535, "data"),
		tagged(3, 10, api.TypeTag-1, ""),
		tagged(3, 10, api.TypeTag+1, ""),
		tagged(3, 10, 1, body(mostTagged-1)),
		tagged(3, 10, 1, body(mostTagged)),
	}
}

// wrongFrames have one fault each, but for the last ones.
func wrongFrames() []api.Frame {
	out := []api.Frame{
		{Dst: lastMac + 1},
		{Dst: math.MaxUint64},
		{Src: lastMac + 1},
		{Src: math.MaxUint64},
		{Tagged: true, Dst: lastMac + 1},
		{Tagged: true, Src: lastMac + 1},
		plain(1, body(mostPlain+1)),
		plain(1, body(api.MaxFrame)),
		plain(1, body(10*api.MaxFrame)),
		tagged(3, 10, 1, body(mostTagged+1)),
		tagged(3, 10, 1, body(mostPlain)),
		tagged(3, 10, 1, body(10*api.MaxFrame)),
	}
	for _, typ := range []int{api.TypeTag, -1, 65536, 65536 + api.TypeIp, math.MinInt, math.MaxInt} {
		out = append(out, plain(typ, ""), tagged(3, 10, typ, ""))
	}
	for _, prio := range []int{-1, 8, -8, 256, math.MinInt, math.MaxInt} {
		out = append(out, tagged(prio, 10, 1, ""))
	}
	for _, vid := range []int{-1, 4096, -4096, 65536, math.MinInt, math.MaxInt} {
		out = append(out, tagged(3, vid, 1, ""))
	}
	// without a tag there is neither a priority nor a VLAN
	for _, n := range []int{1, 7, -1, 4095, math.MinInt, math.MaxInt} {
		out = append(out, api.Frame{Vid: n}, api.Frame{Prio: n}, api.Frame{Prio: n, Vid: n})
	}
	return append(out, api.Frame{Dst: lastMac + 1, Src: lastMac + 1, Prio: -1, Vid: -1, Type: -1, Body: body(mostPlain + 1)})
}

// P3.1

func TestRight(t *testing.T) {
	for _, f := range rightFrames() {
		if !ether.Right(f) {
			t.Errorf("Right(%s): false", brief(f))
		}
	}
	for _, f := range wrongFrames() {
		if ether.Right(f) {
			t.Errorf("Right(%s): true", brief(f))
		}
	}
}

func TestRightOfEachNumber(t *testing.T) {
	for n := -300; n < 66000; n++ {
		typ := n >= 0 && n <= 65535 && n != 0x8100
		if ether.Right(plain(n, "")) != typ || ether.Right(tagged(1, 2, n, "")) != typ {
			t.Errorf("a type of %d: right should be %t", n, typ)
		}
		if got := ether.Right(tagged(1, n, 3, "")); got != (n >= 0 && n <= 4095) {
			t.Errorf("a VLAN of %d in a tag: %t", n, got)
		}
		if got := ether.Right(tagged(n, 2, 3, "")); got != (n >= 0 && n <= 7) {
			t.Errorf("a priority of %d in a tag: %t", n, got)
		}
	}
}

// P3.2

func TestBytes(t *testing.T) {
	for _, c := range []struct {
		f    api.Frame
		want string
	}{
		{api.Frame{}, strings.Repeat("\x00", 14)},
		{plain(api.TypeIp, ""), addresses + "\x08\x00"},
		{plain(api.TypeIp, "data"), addresses + "\x08\x00data"},
		{plain(api.TypeEapol, "\x01\x01\x00\x00"), addresses + "\x88\x8e\x01\x01\x00\x00"},
		{plain(38, "x"), addresses + "\x00\x26x"},
		{plain(65535, "\xff\x00\xc3"), addresses + "\xff\xff\xff\x00\xc3"},
		{plain(1, "\x81\x00"), addresses + "\x00\x01\x81\x00"},
		{tagged(0, 0, api.TypeIp, "data"), addresses + "\x81\x00\x00\x00\x08\x00data"},
		{tagged(0, 1, api.TypeIp, ""), addresses + "\x81\x00\x00\x01\x08\x00"},
		{tagged(1, 0, api.TypeIp, ""), addresses + "\x81\x00\x20\x00\x08\x00"},
		{tagged(5, 0x123, api.TypeIp, "data"), addresses + "\x81\x00\xa1\x23\x08\x00data"},
		{tagged(7, 4095, 65535, ""), addresses + "\x81\x00\xef\xff\xff\xff"},
		{api.Frame{Dst: lastMac, Tagged: true}, "\xff\xff\xff\xff\xff\xff\x00\x00\x00\x00\x00\x00\x81\x00\x00\x00\x00\x00"},
		{plain(2, body(mostPlain)), addresses + "\x00\x02" + body(mostPlain)},
		{tagged(5, 0x123, 2, body(mostTagged)), addresses + "\x81\x00\xa1\x23\x00\x02" + body(mostTagged)},
	} {
		if got, e := ether.Bytes(c.f); got != c.want || e != api.OK {
			t.Errorf("Bytes(%s): %.60q, %d, want %.60q", brief(c.f), got, e, c.want)
		}
	}
}

func TestBytesOfWhatIsNotRight(t *testing.T) {
	for _, f := range wrongFrames() {
		if got, e := ether.Bytes(f); got != "" || e != api.ErrArg {
			t.Errorf("Bytes(%s): %.60q, %d, want ErrArg", brief(f), got, e)
		}
	}
}

// P3.3

func TestRead(t *testing.T) {
	for _, c := range []struct {
		s    string
		want api.Frame
	}{
		{strings.Repeat("\x00", 14), api.Frame{}},
		{strings.Repeat("\xff", 14), api.Frame{Dst: lastMac, Src: lastMac, Type: 65535}},
		{addresses + "\x08\x00", plain(api.TypeIp, "")},
		{addresses + "\x08\x00data", plain(api.TypeIp, "data")},
		{addresses + "\x00\x26x", plain(38, "x")},
		{addresses + "\x81\x01\x10\x00\x81\x00", plain(0x8101, "\x10\x00\x81\x00")},
		{addresses + "\x00\x81\x10\x00", plain(0x81, "\x10\x00")},
		{addresses + "\x08\x00\x10\x00\x81\x00", plain(api.TypeIp, "\x10\x00\x81\x00")}, // what looks like a tag's is a body's
		{addresses + "\x81\x00\x00\x00\x08\x00", tagged(0, 0, api.TypeIp, "")},
		{addresses + "\x81\x00\xa1\x23\x08\x00data", tagged(5, 0x123, api.TypeIp, "data")},
		{addresses + "\x81\x00\xef\xff\xff\xff\x81\x00", tagged(7, 4095, 65535, "\x81\x00")},
		{addresses + "\x81\x00\x0f\xff\x00\x00", tagged(0, 4095, 0, "")},
		{addresses + "\x81\x00\xe0\x00\x00\x00", tagged(7, 0, 0, "")},
		{addresses + "\x81\x00\x81\x00\x08\x00", tagged(4, 0x100, api.TypeIp, "")}, // a tag's number like TypeTag
		{"\x81\x00\x81\x00\x81\x00\x81\x00\x81\x00\x81\x00\x08\x00", api.Frame{Dst: 0x810081008100, Src: 0x810081008100, Type: api.TypeIp}},
		{addresses + "\x00\x02" + body(mostPlain), plain(2, body(mostPlain))},
		{addresses + "\x81\x00\xa1\x23\x00\x02" + body(mostTagged), tagged(5, 0x123, 2, body(mostTagged))},
	} {
		if got, e := ether.Read(c.s); got != c.want || e != api.OK {
			t.Errorf("Read(%.60q): %s, %d, want %s", c.s, brief(got), e, brief(c.want))
		}
	}
}

func TestReadOfWhatIsNone(t *testing.T) {
	const tag = addresses + "\x81\x00"
	for _, c := range []struct {
		s string
		e api.Errno
	}{
		{addresses + "\x08\x00" + body(mostPlain+1), api.ErrLong},
		{tag + "\x00\x00\x08\x00" + body(mostTagged+1), api.ErrLong},
		{strings.Repeat("\x00", 1<<20), api.ErrLong},

		{"", api.ErrShort},
		{"\x00", api.ErrShort},
		{addresses[:6], api.ErrShort},
		{addresses, api.ErrShort},
		{addresses + "\x08", api.ErrShort},
		{addresses + "\x81", api.ErrShort},
		{tag, api.ErrShort},
		{tag + "\x00", api.ErrShort},
		{tag + "\x00\x00", api.ErrShort},
		{tag + "\x00\x00\x08", api.ErrShort},

		{tag + "\x00\x00\x81\x00", api.ErrForm},
		{tag + "\x00\x01\x81\x00\x00\x02\x08\x00data", api.ErrForm},
		{tag + "\x10\x00\x08\x00", api.ErrForm},
		{tag + "\x10\x0a\x08\x00data", api.ErrForm},
		{tag + "\xff\xff\x08\x00", api.ErrForm},
		{tag + "\x10\x00\x81\x00", api.ErrForm},
		{tag + "\x10\x00\x08\x00" + body(mostTagged), api.ErrForm},
		{tag + "\x00\x00\x81\x00" + body(mostTagged), api.ErrForm},

		// the errors are named in this order: where two hold it is the one ahead
		{tag + "\x10\x00\x08\x00" + body(mostTagged+1), api.ErrLong},
		{tag + "\x00\x00\x81\x00" + body(mostTagged+1), api.ErrLong},
		{tag + "\x10", api.ErrShort},
		{tag + "\x10\x00", api.ErrShort},
		{tag + "\x10\x00\x81", api.ErrShort},
	} {
		if got, e := ether.Read(c.s); got != (api.Frame{}) || e != c.e {
			t.Errorf("Read(%.60q) of %d bytes: %s, %d, want %d", c.s, len(c.s), brief(got), e, c.e)
		}
	}
}

func TestReadOfEachLength(t *testing.T) {
	for _, c := range []struct {
		head  string
		least int
	}{
		{addresses + "\x08\x00", 14},
		{addresses + "\x81\x00\x20\x0a\x08\x00", 18},
	} {
		s := c.head + body(api.MaxFrame)
		for n := range api.MaxFrame + 8 {
			want, long := api.OK, n-c.least
			if n > api.MaxFrame {
				want, long = api.ErrLong, 0
			} else if n < c.least {
				want, long = api.ErrShort, 0
			}
			if got, e := ether.Read(s[:n]); e != want || got.Body != body(long) {
				t.Fatalf("Read of %d bytes: %s, %d, want %d", n, brief(got), e, want)
			}
		}
	}
}

func TestReadOfEachTag(t *testing.T) {
	for n := range 1 << 16 {
		s := addresses + "\x81\x00" + string([]byte{byte(n >> 8), byte(n)}) + "\x08\x00"
		want, we := tagged(n>>13, n&4095, api.TypeIp, ""), api.OK
		if n>>12&1 == 1 {
			want, we = api.Frame{}, api.ErrForm
		}
		if got, e := ether.Read(s); got != want || e != we {
			t.Fatalf("Read of a tag %#x: %s, %d, want %s, %d", n, brief(got), e, brief(want), we)
		}
	}
}

func TestReadOfEachType(t *testing.T) {
	for n := range 1 << 16 {
		typ := string([]byte{byte(n >> 8), byte(n)})
		want, we := tagged(1, 10, n, "abcd"), api.OK
		if n == 0x8100 {
			want, we = api.Frame{}, api.ErrForm
		}
		if got, e := ether.Read(addresses + "\x81\x00\x20\x0a" + typ + "abcd"); got != want || e != we {
			t.Fatalf("Read of a type %#x behind a tag: %s, %d, want %s, %d", n, brief(got), e, brief(want), we)
		}
		if n == 0x8100 {
			continue // there a tag begins
		}
		if got, e := ether.Read(addresses + typ + "abcd"); got != plain(n, "abcd") || e != api.OK {
			t.Fatalf("Read of a type %#x: %s, %d", n, brief(got), e)
		}
	}
}

// P3.4

func TestVlan(t *testing.T) {
	for _, c := range []struct {
		f         api.Frame
		own, want int
	}{
		{tagged(0, 10, 0, ""), 1, 10},
		{tagged(7, 1, 0, ""), 20, 1},
		{tagged(0, 4095, 0, ""), 1, 4095},
		{tagged(3, 0, 0, ""), 20, 20},
		{plain(0, ""), 20, 20},
		{plain(0, ""), 0, 0},
		{tagged(0, 0, 0, ""), 0, 0},
		{tagged(0, 10, 0, ""), 0, 10},
		{tagged(0, 10, 0, ""), -1, 10},
		{plain(0, ""), math.MinInt, math.MinInt},
		{plain(0, ""), math.MaxInt, math.MaxInt},

		// of frames that are not right
		{api.Frame{Vid: 10}, 20, 20},
		{api.Frame{Vid: 10, Prio: 1}, 20, 20},
		{tagged(0, -1, 0, ""), 20, 20},
		{tagged(0, math.MinInt, 0, ""), 20, 20},
		{tagged(0, 4096, 0, ""), 20, 4096},
		{tagged(0, math.MaxInt, 0, ""), 20, math.MaxInt},
		{tagged(99, 10, -1, ""), 20, 10},
	} {
		if got := ether.Vlan(c.f, c.own); got != c.want {
			t.Errorf("Vlan(%s, %d): %d, want %d", brief(c.f), c.own, got, c.want)
		}
	}
}

// P3.5

func TestRetag(t *testing.T) {
	odd := api.Frame{Prio: -5, Vid: 9, Type: -1, Body: "x"} // not right
	for _, c := range []struct {
		f    api.Frame
		tag  bool
		vid  int
		want api.Frame
	}{
		{plain(api.TypeIp, "data"), true, 10, tagged(0, 10, api.TypeIp, "data")},
		{plain(api.TypeIp, "data"), true, 0, tagged(0, 0, api.TypeIp, "data")},
		{plain(api.TypeIp, "data"), false, 10, plain(api.TypeIp, "data")},
		{plain(api.TypeIp, "data"), false, 0, plain(api.TypeIp, "data")},
		{tagged(5, 10, api.TypeIp, "data"), true, 20, tagged(5, 20, api.TypeIp, "data")},
		{tagged(5, 10, api.TypeIp, "data"), true, 10, tagged(5, 10, api.TypeIp, "data")},
		{tagged(5, 10, api.TypeIp, "data"), true, 0, tagged(5, 0, api.TypeIp, "data")},
		{tagged(5, 10, api.TypeIp, "data"), false, 20, plain(api.TypeIp, "data")},
		{tagged(5, 10, api.TypeIp, "data"), false, 0, plain(api.TypeIp, "data")},
		{tagged(7, 0, api.TypeIp, ""), true, 4095, tagged(7, 4095, api.TypeIp, "")},

		// of what is not right
		{plain(1, ""), true, -1, tagged(0, -1, 1, "")},
		{plain(1, ""), true, math.MaxInt, tagged(0, math.MaxInt, 1, "")},
		{plain(1, ""), false, math.MinInt, plain(1, "")},
		{odd, true, 3, api.Frame{Tagged: true, Prio: -5, Vid: 3, Type: -1, Body: "x"}},
		{odd, false, 3, api.Frame{Type: -1, Body: "x"}},
	} {
		if got := ether.Retag(c.f, c.tag, c.vid); got != c.want {
			t.Errorf("Retag(%s, %t, %d): %s, want %s", brief(c.f), c.tag, c.vid, brief(got), brief(c.want))
		}
	}
}

// P3.6

func TestShort(t *testing.T) {
	for n := range 200 {
		want := body(n) + strings.Repeat("\x00", max(46-n, 0))
		if got := ether.Short(plain(1, body(n))); got != plain(1, want) {
			t.Errorf("Short of a body of %d: %s", n, brief(got))
		}
		if got := ether.Short(tagged(5, 10, 1, body(n))); got != tagged(5, 10, 1, want) {
			t.Errorf("Short of a body of %d, with a tag: %s", n, brief(got))
		}
	}
	for _, f := range append(rightFrames(), wrongFrames()...) { // all but the body stays, right or not
		want := f
		want.Body += strings.Repeat("\x00", max(46-len(f.Body), 0))
		if got := ether.Short(f); got != want {
			t.Errorf("Short(%s): %s", brief(f), brief(got))
		}
	}
}

// P3.7

func TestTurn(t *testing.T) {
	for _, f := range append(rightFrames(), wrongFrames()...) {
		for _, m := range []api.Mac{0, 3, src, dst, lastMac, lastMac + 1, math.MaxUint64} {
			want := api.Frame{Dst: f.Src, Src: m, Tagged: f.Tagged, Prio: f.Prio, Vid: f.Vid, Type: f.Type, Body: f.Body}
			if got := ether.Turn(f, m); got != want {
				t.Errorf("Turn(%s, %#x): %s", brief(f), uint64(m), brief(got))
			}
		}
	}
}

// P3.8

func TestWhatIsWrittenIsRead(t *testing.T) {
	r := rand.New(rand.NewSource(1))
	frames := rightFrames()
	for range 3000 {
		frames = append(frames, drawn(r))
	}
	for _, f := range frames {
		s, e := ether.Bytes(f)
		if e != api.OK || len(s) > api.MaxFrame {
			t.Fatalf("Bytes(%s): %d bytes, %d", brief(f), len(s), e)
		}
		if got, e := ether.Read(s); got != f || e != api.OK {
			t.Fatalf("Read(%.60q): %s, %d, want %s", s, brief(got), e, brief(f))
		}
	}
}

// drawn is a right frame.
func drawn(r *rand.Rand) api.Frame {
	b := make([]byte, r.Intn(80))
	r.Read(b)
	f := api.Frame{Dst: api.Mac(r.Uint64() >> 16), Src: api.Mac(r.Uint64() >> 16), Type: r.Intn(0x8100), Body: string(b)}
	if r.Intn(2) == 0 {
		f.Type += 0x7f00
	}
	if f.Type == api.TypeTag {
		f.Type++
	}
	if r.Intn(2) == 0 {
		f.Tagged, f.Prio, f.Vid = true, r.Intn(8), r.Intn(4096)
	}
	return f
}

func TestWhatIsReadIsWritten(t *testing.T) {
	r := rand.New(rand.NewSource(2))
	read := 0
	for range 20000 {
		b := make([]byte, r.Intn(40))
		r.Read(b)
		for _, at := range []int{12, 16} { // few would have a tag, or two, if that were left to chance
			if len(b) > at+1 && r.Intn(2) == 0 {
				b[at], b[at+1] = 0x81, 0
			}
		}
		s := string(b)
		f, e := ether.Read(s)
		if e != api.OK {
			continue
		}
		read++
		if got, e := ether.Bytes(f); !ether.Right(f) || got != s || e != api.OK {
			t.Fatalf("Read(%q): %s, whose bytes are %q, %d", s, brief(f), got, e)
		}
	}
	if read < 5000 {
		t.Errorf("only %d were read", read)
	}
}
