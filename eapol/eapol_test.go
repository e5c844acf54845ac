package eapol_test

import (
	"fmt"
	"math"
	"math/rand"
	"strconv"
	"strings"
	"testing"

	"tipstaff/api"
	"tipstaff/eapol"
	"tipstaff/ether"
)

const lastMac = 1<<48 - 1

// brief is e's text without most of a long body.
func brief(e api.Eapol) string {
	long := len(e.Body)
	e.Body = strconv.Quote(e.Body[:min(long, 40)])
	return fmt.Sprintf("%+v (a body of %d)", e, long)
}

// body has n bytes, no two of which that stand side by side are the same.
func body(n int) string { return strings.Repeat("0123456789", n/10+1)[:n] }

func said(version, typ int, body string) api.Eapol {
	return api.Eapol{Version: version, Type: typ, Body: body}
}

// rightOnes are at the edges of what is right, or within them.
func rightOnes() []api.Eapol {
	var out []api.Eapol
	for _, version := range []int{1, 2, 3, 127, 128, 254, 255} {
		for typ := range 4 {
			out = append(out, said(version, typ, ""))
		}
		for _, typ := range []int{api.EapolEap, api.EapolKey} {
			for _, n := range []int{1, 2, 4, 255, 256, 257, api.MaxEap - 1, api.MaxEap} {
				out = append(out, said(version, typ, body(n)))
			}
		}
	}
	return append(out, said(1, api.EapolEap, "\x00"), said(1, api.EapolKey, "\xff\xc3\x00"))
}

// wrongOnes have one fault each, but for the last ones.
func wrongOnes() []api.Eapol {
	var out []api.Eapol
	for typ := range 4 {
		for _, version := range []int{0, -1, 256, 257, -255, 1 << 32, 1<<32 + 1, math.MinInt, math.MaxInt} {
			out = append(out, said(version, typ, ""))
		}
	}
	for _, typ := range []int{-1, 4, 5, 255, 256, 257, 259, 1 << 32, math.MinInt, math.MaxInt} {
		out = append(out, said(1, typ, ""), said(1, typ, "body"))
	}
	for _, typ := range []int{api.EapolEap, api.EapolKey} {
		for _, n := range []int{api.MaxEap + 1, 65535, 65536, 65536 + 4} {
			out = append(out, said(1, typ, body(n)))
		}
	}
	for _, typ := range []int{api.EapolStart, api.EapolLogoff} {
		for _, b := range []string{"\x00", "a", "body", body(api.MaxEap)} {
			out = append(out, said(1, typ, b))
		}
	}
	return append(out,
		said(0, api.EapolStart, "body"),
		said(0, 4, ""),
		said(0, api.EapolEap, body(api.MaxEap+1)),
		said(256, -1, body(api.MaxEap+1)),
		api.Eapol{})
}

// P4.1

func TestRight(t *testing.T) {
	for _, e := range rightOnes() {
		if !eapol.Right(e) {
			t.Errorf("Right(%s): false", brief(e))
		}
	}
	for _, e := range wrongOnes() {
		if eapol.Right(e) {
			t.Errorf("Right(%s): true", brief(e))
		}
	}
}

func TestRightOfEachNumber(t *testing.T) {
	for n := -600; n < 1200; n++ {
		for typ := range 4 {
			if got := eapol.Right(said(n, typ, "")); got != (n >= 1 && n <= 255) {
				t.Errorf("a version of %d, a type of %d: %t", n, typ, got)
			}
			bodied := typ == api.EapolEap || typ == api.EapolKey
			if got := eapol.Right(said(1, typ, body(max(n, 0)))); got != (n <= 0 || bodied && n <= 1024) {
				t.Errorf("a type of %d, a body of %d: %t", typ, max(n, 0), got)
			}
		}
		if got := eapol.Right(said(1, n, "")); got != (n >= 0 && n <= 3) {
			t.Errorf("a type of %d: %t", n, got)
		}
		if got := eapol.Right(said(1, n, "a")); got != (n == 0 || n == 3) {
			t.Errorf("a type of %d, with a body: %t", n, got)
		}
	}
}

// P4.2

func TestBytes(t *testing.T) {
	for _, c := range []struct {
		e    api.Eapol
		want string
	}{
		{said(1, api.EapolEap, ""), "\x01\x00\x00\x00"},
		{said(1, api.EapolStart, ""), "\x01\x01\x00\x00"},
		{said(2, api.EapolLogoff, ""), "\x02\x02\x00\x00"},
		{said(255, api.EapolKey, ""), "\xff\x03\x00\x00"},
		{said(128, api.EapolStart, ""), "\x80\x01\x00\x00"},
		{said(1, api.EapolEap, "\x01\x05\x00\x05\x01"), "\x01\x00\x00\x05\x01\x05\x00\x05\x01"},
		{said(3, api.EapolKey, "\xff\x00\xc3"), "\x03\x03\x00\x03\xff\x00\xc3"},
		{said(1, api.EapolEap, body(255)), "\x01\x00\x00\xff" + body(255)},
		{said(1, api.EapolEap, body(256)), "\x01\x00\x01\x00" + body(256)},
		{said(1, api.EapolKey, body(0x123)), "\x01\x03\x01\x23" + body(0x123)},
		{said(1, api.EapolEap, body(1024)), "\x01\x00\x04\x00" + body(1024)},
	} {
		if got, e := eapol.Bytes(c.e); got != c.want || e != api.OK {
			t.Errorf("Bytes(%s): %.60q, %d, want %.60q", brief(c.e), got, e, c.want)
		}
	}
}

func TestBytesOfWhatIsNotRight(t *testing.T) {
	for _, e := range wrongOnes() {
		if got, fault := eapol.Bytes(e); got != "" || fault != api.ErrArg {
			t.Errorf("Bytes(%s): %.60q, %d, want ErrArg", brief(e), got, fault)
		}
	}
}

// P4.3

func TestRead(t *testing.T) {
	for _, c := range []struct {
		s    string
		want api.Eapol
	}{
		{"\x01\x00\x00\x00", said(1, api.EapolEap, "")},
		{"\x01\x01\x00\x00", said(1, api.EapolStart, "")},
		{"\x02\x02\x00\x00", said(2, api.EapolLogoff, "")},
		{"\xff\x03\x00\x00", said(255, api.EapolKey, "")},
		{"\x01\x00\x00\x03abc", said(1, api.EapolEap, "abc")},
		{"\x80\x03\x00\x03\xff\x00\xc3", said(128, api.EapolKey, "\xff\x00\xc3")},
		{"\x01\x00\x01\x00" + body(256), said(1, api.EapolEap, body(256))},
		{"\x01\x03\x01\x23" + body(0x123), said(1, api.EapolKey, body(0x123))},
		{"\x01\x00\x04\x00" + body(1024), said(1, api.EapolEap, body(1024))},

		// what stands behind
		{"\x01\x00\x00\x00abc", said(1, api.EapolEap, "")},
		{"\x01\x00\x00\x02abc", said(1, api.EapolEap, "ab")},
		{"\x01\x03\x00\x01ab", said(1, api.EapolKey, "a")},
		{"\x01\x01\x00\x00abc", said(1, api.EapolStart, "")},
		{"\x01\x01\x00\x00" + strings.Repeat("\x00", 42), said(1, api.EapolStart, "")},
		{"\x01\x00\x04\x00" + body(1<<20), said(1, api.EapolEap, body(1024))},

		// a body where there should be none
		{"\x01\x01\x00\x03abc", said(1, api.EapolStart, "")},
		{"\x01\x01\x00\x03abcd", said(1, api.EapolStart, "")},
		{"\x01\x02\x00\x03abc", said(1, api.EapolLogoff, "")},
		{"\x01\x02\x04\x00" + body(1024), said(1, api.EapolLogoff, "")},
	} {
		if got, e := eapol.Read(c.s); got != c.want || e != api.OK {
			t.Errorf("Read(%.60q): %s, %d, want %s", c.s, brief(got), e, brief(c.want))
		}
	}
}

func TestReadOfWhatIsNone(t *testing.T) {
	for _, c := range []struct {
		s string
		e api.Errno
	}{
		{"", api.ErrShort},
		{"\x01", api.ErrShort},
		{"\x01\x00", api.ErrShort},
		{"\x01\x00\x00", api.ErrShort},

		{"\x01\x04\x00\x00", api.ErrType},
		{"\x01\x05\x00\x01a", api.ErrType},
		{"\x01\x80\x00\x00", api.ErrType},
		{"\x01\xff\x00\x00", api.ErrType},

		{"\x01\x00\x04\x01" + body(1025), api.ErrLong},
		{"\x01\x03\x05\x00" + body(1280), api.ErrLong},
		{"\x01\x01\x04\x01" + body(1025), api.ErrLong},
		{"\x01\x02\xff\xff" + body(65535), api.ErrLong},

		{"\x01\x00\x00\x01", api.ErrShort},
		{"\x01\x00\x00\x03ab", api.ErrShort},
		{"\x01\x03\x01\x00" + body(255), api.ErrShort},
		{"\x01\x01\x00\x01", api.ErrShort},
		{"\x01\x02\x00\x03ab", api.ErrShort},
		{"\x01\x00\x04\x00" + body(1023), api.ErrShort},

		{"\x00\x00\x00\x00", api.ErrForm},
		{"\x00\x01\x00\x00", api.ErrForm},
		{"\x00\x02\x00\x00", api.ErrForm},
		{"\x00\x03\x00\x03abc", api.ErrForm},
		{"\x00\x01\x00\x03abcd", api.ErrForm},

		// the errors are named in this order: where two hold it is the one ahead
		{"\x00\x04\x00", api.ErrShort},
		{"\x01\x04\xff", api.ErrShort},
		{"\x01\x04\x04\x01", api.ErrType},
		{"\x01\x04\x00\x01", api.ErrType},
		{"\x00\x04\x00\x00", api.ErrType},
		{"\x01\x00\x04\x01", api.ErrLong},
		{"\x00\x00\x04\x01" + body(1025), api.ErrLong},
		{"\x00\x00\x04\x01", api.ErrLong},
		{"\x00\x00\x00\x01", api.ErrShort},
		{"\x00\x01\x00\x01", api.ErrShort},
	} {
		if got, e := eapol.Read(c.s); got != (api.Eapol{}) || e != c.e {
			t.Errorf("Read(%.60q) of %d bytes: %s, %d, want %d", c.s, len(c.s), brief(got), e, c.e)
		}
	}
}

func TestReadOfEachVersionAndType(t *testing.T) {
	for n := range 1 << 16 {
		version, typ := n>>8, n&255
		want, we := said(version, typ, ""), api.OK
		if typ == api.EapolEap || typ == api.EapolKey {
			want.Body = "abc"
		}
		if typ > 3 {
			want, we = api.Eapol{}, api.ErrType
		} else if version == 0 {
			want, we = api.Eapol{}, api.ErrForm
		}
		s := string([]byte{byte(version), byte(typ)}) + "\x00\x03abcd"
		if got, e := eapol.Read(s); got != want || e != we {
			t.Fatalf("Read(%q): %s, %d, want %s, %d", s, brief(got), e, brief(want), we)
		}
	}
}

func TestReadOfEachLength(t *testing.T) {
	for n := range 1 << 16 {
		s := "\x01\x03" + string([]byte{byte(n >> 8), byte(n)})
		want, we := api.Eapol{}, api.ErrLong
		if n <= 1024 {
			want, we = said(1, api.EapolKey, body(n)), api.OK
		}
		if got, e := eapol.Read(s + body(1030)); got != want || e != we {
			t.Fatalf("Read of a length of %d: %s, %d, want %d", n, brief(got), e, we)
		}
		if n == 0 || n > 1024 {
			continue
		}
		if got, e := eapol.Read(s + body(n-1)); got != (api.Eapol{}) || e != api.ErrShort {
			t.Fatalf("Read of a length of %d, a byte less there: %s, %d, want ErrShort", n, brief(got), e)
		}
	}
}

// P4.4

func TestStart(t *testing.T) {
	if got := eapol.Start(); got != said(1, api.EapolStart, "") {
		t.Errorf("Start(): %s", brief(got))
	}
	if s, e := eapol.Bytes(eapol.Start()); s != "\x01\x01\x00\x00" || e != api.OK {
		t.Errorf("Bytes(Start()): %q, %d", s, e)
	}
}

// P4.5

func TestWrap(t *testing.T) {
	for _, c := range []struct {
		src, dst api.Mac
		e        api.Eapol
		body     string
	}{
		{2, 0x0180c2000003, eapol.Start(), "\x01\x01\x00\x00"},
		{0x0180c2000003, 2, eapol.Start(), "\x01\x01\x00\x00"},
		{0, 0, said(2, api.EapolLogoff, ""), "\x02\x02\x00\x00"},
		{lastMac, 0, said(1, api.EapolEap, "abc"), "\x01\x00\x00\x03abc"},
		{0, lastMac, said(1, api.EapolKey, "abc"), "\x01\x03\x00\x03abc"},
		{lastMac, lastMac, said(255, api.EapolEap, body(1024)), "\xff\x00\x04\x00" + body(1024)},
	} {
		want := api.Frame{Dst: c.dst, Src: c.src, Type: 0x888e, Body: c.body}
		got, e := eapol.Wrap(c.src, c.dst, c.e)
		if got != want || e != api.OK {
			t.Errorf("Wrap(%#x, %#x, %s): %.80q, %d", uint64(c.src), uint64(c.dst), brief(c.e), fmt.Sprint(got), e)
		}
		if !ether.Right(got) {
			t.Errorf("Wrap(%#x, %#x, %s) is not right", uint64(c.src), uint64(c.dst), brief(c.e))
		}
	}
}

func TestWrapOfWhatIsNotRight(t *testing.T) {
	wrong := func(src, dst api.Mac, e api.Eapol) {
		t.Helper()
		if got, fault := eapol.Wrap(src, dst, e); got != (api.Frame{}) || fault != api.ErrArg {
			t.Errorf("Wrap(%#x, %#x, %s): %.80q, %d, want ErrArg", uint64(src), uint64(dst), brief(e), fmt.Sprint(got), fault)
		}
	}
	for _, e := range wrongOnes() {
		wrong(2, 3, e)
		wrong(lastMac+1, 3, e)
	}
	for _, m := range []api.Mac{lastMac + 1, 1 << 63, math.MaxUint64} {
		wrong(m, 3, eapol.Start())
		wrong(2, m, eapol.Start())
		wrong(m, m, said(1, api.EapolEap, "abc"))
	}
}

// P4.6

func TestWhatIsWrittenIsRead(t *testing.T) {
	r := rand.New(rand.NewSource(1))
	ones := rightOnes()
	for range 3000 {
		ones = append(ones, drawn(r))
	}
	for _, e := range ones {
		s, fault := eapol.Bytes(e)
		if fault != api.OK || len(s) != 4+len(e.Body) {
			t.Fatalf("Bytes(%s): %d bytes, %d", brief(e), len(s), fault)
		}
		tail := make([]byte, r.Intn(60))
		r.Read(tail)
		for _, behind := range []string{"", "\x00", s, body(10000), string(tail)} {
			if got, fault := eapol.Read(s + behind); got != e || fault != api.OK {
				t.Fatalf("Read(%.60q) with %d bytes behind it: %s, %d, want %s", s, len(behind), brief(got), fault, brief(e))
			}
		}
	}
}

// drawn is a right one.
func drawn(r *rand.Rand) api.Eapol {
	e := said(1+r.Intn(255), r.Intn(4), "")
	if e.Type == api.EapolEap || e.Type == api.EapolKey {
		b := make([]byte, r.Intn(80))
		r.Read(b)
		e.Body = string(b)
	}
	return e
}

// A short frame is padded on its way: what it carries is read none the less.
func TestWhatIsWrappedIsRead(t *testing.T) {
	for _, e := range rightOnes() {
		f, fault := eapol.Wrap(2, 0x0180c2000003, e)
		if fault != api.OK {
			t.Fatalf("Wrap of %s: %d", brief(e), fault)
		}
		s, fault := ether.Bytes(ether.Short(f))
		if fault != api.OK {
			t.Fatalf("Bytes of the frame of %s: %d", brief(e), fault)
		}
		back, fault := ether.Read(s)
		if fault != api.OK {
			t.Fatalf("Read of the frame of %s: %d", brief(e), fault)
		}
		if got, fault := eapol.Read(back.Body); got != e || fault != api.OK {
			t.Fatalf("Read of what a frame carries: %s, %d, want %s", brief(got), fault, brief(e))
		}
	}
}

// Whatever comes: what is read is right, and is what stands there (R1, P4.3).
func FuzzRead(f *testing.F) {
	for _, s := range []string{"", "\x01\x01\x00\x00", "\x01\x00\x00\x02ab", "\x00\x04\xff\xff"} {
		f.Add(s)
	}
	f.Fuzz(func(t *testing.T, s string) {
		e, fault := eapol.Read(s)
		if fault != api.OK {
			if e != (api.Eapol{}) {
				t.Errorf("Read(%q): %s beside %d", s, brief(e), fault)
			}
			return
		}
		if !eapol.Right(e) {
			t.Errorf("Read(%q): %s is not right", s, brief(e))
		}
		if bytes, fault := eapol.Bytes(e); fault != api.OK || e.Body != "" && !strings.HasPrefix(s, bytes) {
			t.Errorf("Read(%q): %s, whose bytes are %q, %d", s, brief(e), bytes, fault)
		}
	})
}
