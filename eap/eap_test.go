package eap_test

import (
	"fmt"
	"math"
	"math/rand"
	"slices"
	"strconv"
	"strings"
	"testing"

	"tipstaff/api"
	"tipstaff/eap"
)

const mostData = api.MaxEap - 5

// brief is e's text without most of long data.
func brief(e api.Eap) string {
	long := len(e.Data)
	e.Data = strconv.Quote(e.Data[:min(long, 40)])
	return fmt.Sprintf("%+v (data of %d)", e, long)
}

// data has n bytes, no two of which that stand side by side are the same.
func data(n int) string { return strings.Repeat("0123456789", n/10+1)[:n] }

func packet(code, id, typ int, data string) api.Eap {
	return api.Eap{Code: code, Id: id, Type: typ, Data: data}
}

// rightOnes are at the edges of what is right, or within them.
func rightOnes() []api.Eap {
	var out []api.Eap
	for _, id := range []int{0, 1, 7, 127, 128, 254, 255} {
		out = append(out, packet(api.EapSuccess, id, 0, ""), packet(api.EapFailure, id, 0, ""))
		for _, code := range []int{api.EapRequest, api.EapResponse} {
			for _, typ := range []int{1, 2, 3, 4, 127, 128, 254, 255} {
				out = append(out, packet(code, id, typ, ""), packet(code, id, typ, "\xff\x00\xc3"))
			}
			for _, n := range []int{1, 2, 249, 250, 251, 252, 255, 256, mostData - 1, mostData} {
				out = append(out, packet(code, id, 4, data(n)))
			}
		}
	}
	return out
}

// wrongOnes have one fault each, but for the last ones.
func wrongOnes() []api.Eap {
	var out []api.Eap
	for _, code := range []int{0, -1, 5, 6, 255, 256, 257, 258, 259, 260, 1 << 32, 1<<32 + 1, math.MinInt, math.MaxInt} {
		out = append(out, packet(code, 0, 0, ""), packet(code, 7, 1, ""), packet(code, 7, 1, "data"))
	}
	for _, id := range []int{-1, 256, 257, -255, -256, 1 << 32, 1<<32 + 1, math.MinInt, math.MaxInt} {
		out = append(out, packet(1, id, 1, ""), packet(2, id, 1, "data"), packet(3, id, 0, ""), packet(4, id, 0, ""))
	}
	for _, code := range []int{api.EapRequest, api.EapResponse} {
		for _, typ := range []int{0, -1, 256, 257, -255, 1 << 32, 1<<32 + 1, math.MinInt, math.MaxInt} {
			out = append(out, packet(code, 7, typ, ""), packet(code, 7, typ, "data"))
		}
		for _, n := range []int{mostData + 1, mostData + 5, 65531, 65536, 65536 + 5} {
			out = append(out, packet(code, 7, 1, data(n)))
		}
	}
	for _, code := range []int{api.EapSuccess, api.EapFailure} {
		for _, typ := range []int{1, 3, 4, 255, 256, -1, math.MinInt, math.MaxInt} {
			out = append(out, packet(code, 7, typ, ""))
		}
		for _, d := range []string{"\x00", "a", data(mostData)} {
			out = append(out, packet(code, 7, 0, d))
		}
		out = append(out, packet(code, 7, 1, "data"))
	}
	return append(out, packet(0, -1, 0, data(mostData+1)), packet(1, 256, 0, data(mostData+1)), api.Eap{})
}

// P5.1

func TestRight(t *testing.T) {
	for _, e := range rightOnes() {
		if !eap.Right(e) {
			t.Errorf("Right(%s): false", brief(e))
		}
	}
	for _, e := range wrongOnes() {
		if eap.Right(e) {
			t.Errorf("Right(%s): true", brief(e))
		}
	}
}

func TestRightOfEachNumber(t *testing.T) {
	see := func(e api.Eap, want bool) {
		t.Helper()
		if got := eap.Right(e); got != want {
			t.Errorf("Right(%s): %t", brief(e), got)
		}
	}
	for n := -600; n < 1200; n++ {
		see(packet(n, 7, 1, ""), n == 1 || n == 2)
		see(packet(n, 7, 0, ""), n == 3 || n == 4)
		for _, code := range []int{1, 2} {
			see(packet(code, n, 1, ""), n >= 0 && n <= 255)
			see(packet(code, 7, n, ""), n >= 1 && n <= 255)
			see(packet(code, 7, 1, data(max(n, 0))), n <= 1019)
		}
		for _, code := range []int{3, 4} {
			see(packet(code, n, 0, ""), n >= 0 && n <= 255)
			see(packet(code, 7, n, ""), n == 0)
			see(packet(code, 7, 0, data(max(n, 0))), n <= 0)
		}
	}
}

// P5.2

func TestBytes(t *testing.T) {
	for _, c := range []struct {
		e    api.Eap
		want string
	}{
		{packet(1, 7, 1, ""), "\x01\x07\x00\x05\x01"},
		{packet(2, 7, 1, "bob"), "\x02\x07\x00\x08\x01bob"},
		{packet(1, 0, 255, ""), "\x01\x00\x00\x05\xff"},
		{packet(2, 255, 128, "\xff\x00\xc3"), "\x02\xff\x00\x08\x80\xff\x00\xc3"},
		{packet(3, 9, 0, ""), "\x03\x09\x00\x04"},
		{packet(4, 128, 0, ""), "\x04\x80\x00\x04"},
		{packet(1, 1, 4, data(250)), "\x01\x01\x00\xff\x04" + data(250)},
		{packet(1, 1, 4, data(251)), "\x01\x01\x01\x00\x04" + data(251)},
		{packet(2, 1, 4, data(0x123-5)), "\x02\x01\x01\x23\x04" + data(0x123-5)},
		{packet(1, 1, 4, data(1019)), "\x01\x01\x04\x00\x04" + data(1019)},
	} {
		if got, e := eap.Bytes(c.e); got != c.want || e != api.OK {
			t.Errorf("Bytes(%s): %.60q, %d, want %.60q", brief(c.e), got, e, c.want)
		}
	}
}

func TestBytesOfWhatIsNotRight(t *testing.T) {
	for _, e := range wrongOnes() {
		if got, fault := eap.Bytes(e); got != "" || fault != api.ErrArg {
			t.Errorf("Bytes(%s): %.60q, %d, want ErrArg", brief(e), got, fault)
		}
	}
}

// P5.3

func TestRead(t *testing.T) {
	for _, c := range []struct {
		s    string
		want api.Eap
	}{
		{"\x01\x07\x00\x05\x01", packet(1, 7, 1, "")},
		{"\x02\x07\x00\x08\x01bob", packet(2, 7, 1, "bob")},
		{"\x01\x00\x00\x05\xff", packet(1, 0, 255, "")},
		{"\x02\xff\x00\x08\x80\xff\x00\xc3", packet(2, 255, 128, "\xff\x00\xc3")},
		{"\x03\x09\x00\x04", packet(3, 9, 0, "")},
		{"\x04\x80\x00\x04", packet(4, 128, 0, "")},
		{"\x01\x01\x01\x00\x04" + data(251), packet(1, 1, 4, data(251))},
		{"\x02\x01\x01\x23\x04" + data(0x123-5), packet(2, 1, 4, data(0x123-5))},
		{"\x01\x01\x04\x00\x04" + data(1019), packet(1, 1, 4, data(1019))},

		// what stands behind
		{"\x01\x07\x00\x05\x01a", packet(1, 7, 1, "")},
		{"\x02\x07\x00\x07\x01bob", packet(2, 7, 1, "bo")},
		{"\x03\x09\x00\x04\x01", packet(3, 9, 0, "")},
		{"\x04\x09\x00\x04zz", packet(4, 9, 0, "")},
		{"\x04\x09\x00\x04" + strings.Repeat("\x00", 42), packet(4, 9, 0, "")},
		{"\x01\x01\x04\x00\x04" + data(1<<20), packet(1, 1, 4, data(1019))},
	} {
		if got, e := eap.Read(c.s); got != c.want || e != api.OK {
			t.Errorf("Read(%.60q): %s, %d, want %s", c.s, brief(got), e, brief(c.want))
		}
	}
}

func TestReadOfWhatIsNone(t *testing.T) {
	for _, c := range []struct {
		s string
		e api.Errno
	}{
		{"", api.ErrShort},
		{"\x01", api.ErrShort},
		{"\x01\x07", api.ErrShort},
		{"\x01\x07\x00", api.ErrShort},
		{"\x03\x07\x00", api.ErrShort},

		{"\x01\x07\x04\x01\x01" + data(1020), api.ErrLong},
		{"\x02\x07\x05\x00\x01" + data(1275), api.ErrLong},
		{"\x03\x07\x04\x01" + data(1021), api.ErrLong},
		{"\x04\x07\xff\xff" + data(65531), api.ErrLong},

		{"\x01\x07\x00\x05", api.ErrShort},
		{"\x02\x07\x00\x08\x01bo", api.ErrShort},
		{"\x02\x07\x01\x00\x01" + data(250), api.ErrShort},
		{"\x01\x07\x04\x00\x01" + data(1018), api.ErrShort},

		{"\x01\x07\x00\x04", api.ErrForm},
		{"\x01\x07\x00\x04\x01", api.ErrForm},
		{"\x02\x07\x00\x04\x01bob", api.ErrForm},
		{"\x01\x07\x00\x00\x01", api.ErrForm},
		{"\x02\x07\x00\x03\x01", api.ErrForm},
		{"\x03\x07\x00\x00", api.ErrForm},
		{"\x03\x07\x00\x03", api.ErrForm},
		{"\x03\x07\x00\x05\x00", api.ErrForm},
		{"\x04\x07\x00\x05\x01", api.ErrForm},
		{"\x04\x07\x04\x00" + data(1020), api.ErrForm},
		{"\x01\x07\x00\x05\x00", api.ErrForm},
		{"\x02\x07\x00\x08\x00bob", api.ErrForm},
		{"\x00\x07\x00\x04", api.ErrForm},
		{"\x00\x07\x00\x05\x01", api.ErrForm},
		{"\x05\x07\x00\x04", api.ErrForm},
		{"\x05\x07\x00\x05\x01", api.ErrForm},
		{"\xff\x07\x00\x04", api.ErrForm},

		// the errors are named in this order: where two hold it is the one ahead
		{"\x00\x07\xff", api.ErrShort},
		{"\x01\x01\x04\x01", api.ErrLong},
		{"\x00\x01\x04\x01", api.ErrLong},
		{"\x01\x01\x04\x01\x00" + data(1020), api.ErrLong},
		{"\x00\x07\x00\x05", api.ErrShort},
		{"\x03\x07\x00\x05", api.ErrShort},
		{"\x01\x07\x00\x06\x00", api.ErrShort},
		{"\x05\x07\x04\x00", api.ErrShort},
	} {
		if got, e := eap.Read(c.s); got != (api.Eap{}) || e != c.e {
			t.Errorf("Read(%.60q) of %d bytes: %s, %d, want %d", c.s, len(c.s), brief(got), e, c.e)
		}
	}
}

func TestReadOfEachCodeIdAndType(t *testing.T) {
	see := func(s string, want api.Eap) {
		t.Helper()
		we := api.OK
		if want == (api.Eap{}) {
			we = api.ErrForm
		}
		if got, e := eap.Read(s); got != want || e != we {
			t.Fatalf("Read(%q): %s, %d, want %s, %d", s, brief(got), e, brief(want), we)
		}
	}
	for n := range 1 << 16 {
		high, low := n>>8, n&255
		long, short := api.Eap{}, api.Eap{}
		switch high {
		case 1, 2:
			long = packet(high, low, 9, "abc")
		case 3, 4:
			short = packet(high, low, 0, "")
		}
		see(string([]byte{byte(high), byte(low)})+"\x00\x08\x09abcd", long)
		see(string([]byte{byte(high), byte(low)})+"\x00\x04\x09abcd", short)

		long = api.Eap{}
		if (high == 1 || high == 2) && low > 0 {
			long = packet(high, 7, low, "abc")
		}
		see(string([]byte{byte(high), 7, 0, 8, byte(low)})+"abcd", long)
	}
}

func TestReadOfEachLength(t *testing.T) {
	see := func(s string, want api.Eap, we api.Errno) {
		t.Helper()
		if got, e := eap.Read(s); got != want || e != we {
			t.Fatalf("Read(%.40q) of %d bytes: %s, %d, want %s, %d", s, len(s), brief(got), e, brief(want), we)
		}
	}
	for n := range 1 << 16 {
		long := string([]byte{byte(n >> 8), byte(n)})
		typed, bare, we, wb := api.Eap{}, api.Eap{}, api.ErrForm, api.ErrForm
		if n > 1024 {
			we, wb = api.ErrLong, api.ErrLong
		} else if n >= 5 {
			typed, we = packet(2, 7, 4, data(n-5)), api.OK
		} else if n == 4 {
			bare, wb = packet(3, 7, 0, ""), api.OK
		}
		see("\x02\x07"+long+"\x04"+data(1030), typed, we)
		see("\x03\x07"+long+"\x04"+data(1030), bare, wb)
		if n >= 5 && n <= 1024 { // a byte less is there
			see(("\x02\x07" + long + "\x04" + data(1030))[:n-1], api.Eap{}, api.ErrShort)
			see(("\x03\x07" + long + "\x04" + data(1030))[:n-1], api.Eap{}, api.ErrShort)
		}
	}
}

// P5.4, P5.6

// idsModulo256 are ids, and what they are modulo 256.
func idsModulo256() map[int]int {
	out := map[int]int{
		math.MaxInt: 255, math.MaxInt - 255: 0, math.MinInt: 0, math.MinInt + 1: 1,
		1 << 32: 0, 1<<32 + 7: 7, -1 << 32: 0, -1<<32 - 1: 255,
	}
	for n := -1000; n <= 1000; n++ {
		out[n] = ((n % 256) + 256) % 256
	}
	return out
}

func TestIdentity(t *testing.T) {
	for id, want := range idsModulo256() {
		got := eap.Identity(id)
		if got != packet(1, want, 1, "") || !eap.Right(got) {
			t.Errorf("Identity(%d): %s, want the id %d", id, brief(got), want)
		}
	}
	if s, e := eap.Bytes(eap.Identity(7)); s != "\x01\x07\x00\x05\x01" || e != api.OK {
		t.Errorf("Bytes(Identity(7)): %q, %d", s, e)
	}
}

func TestEnd(t *testing.T) {
	for id, want := range idsModulo256() {
		good, bad := eap.End(id, true), eap.End(id, false)
		if good != packet(3, want, 0, "") || !eap.Right(good) {
			t.Errorf("End(%d, true): %s, want the id %d", id, brief(good), want)
		}
		if bad != packet(4, want, 0, "") || !eap.Right(bad) {
			t.Errorf("End(%d, false): %s, want the id %d", id, brief(bad), want)
		}
	}
}

// P5.5

func TestAnswer(t *testing.T) {
	for _, c := range []struct {
		q, a api.Eap
		want bool
	}{
		{packet(1, 7, 1, ""), packet(2, 7, 1, "bob"), true},
		{packet(1, 0, 4, "ask"), packet(2, 0, 4, "told"), true},
		{packet(1, 255, 4, "ask"), packet(2, 255, 3, "\x15"), true},
		{packet(1, 7, 1, data(mostData)), packet(2, 7, 255, data(mostData)), true},

		{packet(1, 7, 1, ""), packet(2, 8, 1, ""), false},
		{packet(1, 7, 1, ""), packet(2, 6, 1, ""), false},
		{packet(1, 0, 1, ""), packet(2, 255, 1, ""), false},
		{packet(2, 7, 1, ""), packet(1, 7, 1, ""), false},

		// nothing else is asked of either
		{packet(1, 7, 0, ""), packet(2, 7, 0, ""), true},
		{packet(1, -1, 256, data(2000)), packet(2, -1, -1, data(2000)), true},
		{packet(1, 256, 1, ""), packet(2, 256, 1, ""), true},
		{packet(1, 256, 1, ""), packet(2, 0, 1, ""), false},
		{packet(1, math.MinInt, 1, ""), packet(2, math.MinInt, 1, ""), true},
		{api.Eap{}, api.Eap{}, false},
	} {
		if got := eap.Answer(c.q, c.a); got != c.want {
			t.Errorf("Answer(%s, %s): %t", brief(c.q), brief(c.a), got)
		}
	}
}

func TestAnswerOfEachCode(t *testing.T) {
	for q := -2; q <= 260; q++ {
		for a := -2; a <= 260; a++ {
			if got := eap.Answer(packet(q, 7, 1, ""), packet(a, 7, 1, "")); got != (q == 1 && a == 2) {
				t.Errorf("Answer of the codes %d and %d: %t", q, a, got)
			}
		}
	}
}

// P5.7

func TestWord(t *testing.T) {
	for code, want := range map[int]string{
		1: "request", 2: "response", 3: "success", 4: "failure",
		0: "", 5: "", -1: "", 255: "", 256: "", 257: "", 1<<32 + 1: "", math.MinInt: "", math.MaxInt: "",
	} {
		for _, e := range []api.Eap{packet(code, 7, 1, ""), packet(code, 0, 0, ""), packet(code, -1, 256, data(2000))} {
			if got := eap.Word(e); got != want {
				t.Errorf("Word(%s): %q, want %q", brief(e), got, want)
			}
		}
	}
}

// P5.8

func TestRefuse(t *testing.T) {
	for _, c := range []struct {
		q     api.Eap
		kinds []int
		want  string
	}{
		{packet(1, 9, 4, ""), []int{21, 2}, "\x15"},
		{packet(1, 9, 4, "ask"), []int{21, 25}, "\x15\x19"},
		{packet(1, 0, 4, ""), []int{25, 21}, "\x19\x15"},
		{packet(1, 255, 255, ""), []int{4}, "\x04"},
		{packet(1, 9, 4, ""), []int{5, 255}, "\x05\xff"},
		{packet(1, 9, 5, data(mostData)), []int{4, 6}, "\x04\x06"},
		{packet(1, 9, 4, ""), []int{21, 21, 5, 21}, "\x15\x15\x05\x15"}, // each of them, whether or not it is there already
		{packet(1, 9, 4, ""), nil, "\x00"},
		{packet(1, 9, 4, ""), []int{}, "\x00"},
		{packet(1, 9, 4, ""), []int{0, 1, 2, 3}, "\x00"},
		{packet(1, 9, 4, ""), []int{0, 256, -1, 260, 261, -252, 1<<32 + 4, math.MinInt, math.MaxInt}, "\x00"},
		{packet(1, 9, 4, ""), []int{3, 5, 256, 6, -1, 7}, "\x05\x06\x07"},
	} {
		want := packet(2, c.q.Id, 3, c.want)
		if got, ok := eap.Refuse(c.q, c.kinds...); got != want || !ok {
			t.Errorf("Refuse(%s, %d): %s, %t, want %s", brief(c.q), c.kinds, brief(got), ok, brief(want))
		}
	}
}

func TestRefuseTellsAtMost250(t *testing.T) {
	q := packet(1, 9, 4, "")
	for _, n := range []int{248, 249, 250, 251, 252, 600, 5000} {
		var kinds []int
		var want []byte
		for i := range n {
			kinds = append(kinds, 5+i%251, 3, 256) // those that can't be told do not count
			if i < 250 {
				want = append(want, byte(5+i%251))
			}
		}
		got, ok := eap.Refuse(q, kinds...)
		if got != packet(2, 9, 3, string(want)) || !ok || !eap.Right(got) {
			t.Errorf("Refuse of %d kinds: %s, %t", n, brief(got), ok)
		}
		// the question's own type is one of them, even behind those that are told
		if got, ok := eap.Refuse(q, append(kinds, 4)...); got != (api.Eap{}) || ok {
			t.Errorf("Refuse of %d kinds, and its own: %s, %t", n, brief(got), ok)
		}
	}
}

func TestRefuseOfWhatIsNotRefused(t *testing.T) {
	never := func(q api.Eap, kinds ...int) {
		t.Helper()
		if got, ok := eap.Refuse(q, kinds...); got != (api.Eap{}) || ok {
			t.Errorf("Refuse(%s, %d): %s, %t, want false", brief(q), kinds, brief(got), ok)
		}
	}
	for _, q := range wrongOnes() {
		never(q)
		never(q, 21)
	}
	for _, q := range rightOnes() {
		never(q, q.Type)
		never(q, 21, q.Type, 5)
		if q.Code != 1 || q.Type <= 3 {
			never(q)
			never(q, 21)
		} else if _, ok := eap.Refuse(q, 21); !ok {
			t.Errorf("Refuse(%s, 21): false", brief(q))
		}
	}
}

func TestRefuseLeavesItsKinds(t *testing.T) {
	room := []int{21, 2, 256, 5, 77, 78}
	before := slices.Clone(room)
	eap.Refuse(packet(1, 9, 4, ""), room[:4]...)
	if !slices.Equal(room, before) {
		t.Errorf("Refuse made %d of %d", room, before)
	}
}

// P5.9

func TestWants(t *testing.T) {
	for _, c := range []struct {
		e    api.Eap
		want []int
	}{
		{packet(2, 9, 3, "\x15"), []int{21}},
		{packet(2, 0, 3, "\x19\x15\x19"), []int{25, 21, 25}},
		{packet(2, 255, 3, "\x00\x01\x02\x03\x04\x05\xff\x80"), []int{4, 5, 255, 128}},
		{packet(2, 9, 3, "\xc3\xa9"), []int{0xc3, 0xa9}}, // a rune of two bytes
		{packet(2, 9, 3, "\x00"), nil},
		{packet(2, 9, 3, "\x03\x02\x01"), nil},
		{packet(2, 9, 3, ""), nil},

		{packet(1, 9, 3, "\x15"), nil},
		{packet(3, 9, 0, ""), nil},
		{packet(4, 9, 0, ""), nil},
		{packet(2, 9, 1, "\x15"), nil},
		{packet(2, 9, 2, "\x15"), nil},
		{packet(2, 9, 4, "\x15"), nil},
		{packet(2, 9, 255, "\x15"), nil},

		{packet(2, -1, 3, "\x15"), nil},
		{packet(2, 256, 3, "\x15"), nil},
		{packet(2, 9, 259, "\x15"), nil},
		{packet(258, 9, 3, "\x15"), nil},
		{packet(3, 9, 3, "\x15"), nil},
		{packet(0, 9, 3, "\x15"), nil},
		{packet(2, 9, 3, data(mostData+1)), nil},
		{api.Eap{}, nil},
	} {
		if got := eap.Wants(c.e); !slices.Equal(got, c.want) {
			t.Errorf("Wants(%s): %d, want %d", brief(c.e), got, c.want)
		}
	}
	if got := eap.Wants(packet(2, 9, 3, strings.Repeat("\x04\xff\x03", mostData/3)+"\x05\x06")); len(got) != mostData/3*2+2 {
		t.Errorf("Wants of the most data: %d of them", len(got))
	}
}

// P5.10

// drawn is a right one.
func drawn(r *rand.Rand) api.Eap {
	e := packet(1+r.Intn(4), r.Intn(256), 0, "")
	if e.Code == api.EapRequest || e.Code == api.EapResponse {
		b := make([]byte, r.Intn(80))
		r.Read(b)
		e.Type, e.Data = 1+r.Intn(255), string(b)
	}
	return e
}

func TestWhatIsWrittenIsRead(t *testing.T) {
	r := rand.New(rand.NewSource(1))
	ones := rightOnes()
	for range 3000 {
		ones = append(ones, drawn(r))
	}
	for _, e := range ones {
		s, fault := eap.Bytes(e)
		if fault != api.OK {
			t.Fatalf("Bytes(%s): %d", brief(e), fault)
		}
		tail := make([]byte, r.Intn(60))
		r.Read(tail)
		for _, behind := range []string{"", "\x00", s, data(10000), string(tail)} {
			if got, fault := eap.Read(s + behind); got != e || fault != api.OK {
				t.Fatalf("Read(%.60q) with %d bytes behind it: %s, %d, want %s", s, len(behind), brief(got), fault, brief(e))
			}
		}
	}
}

func TestWhatIsReadIsWrittenSo(t *testing.T) {
	r := rand.New(rand.NewSource(2))
	read := 0
	for range 20000 {
		b := make([]byte, 4+r.Intn(40))
		r.Read(b)
		b[0], b[2], b[3] = byte(r.Intn(6)), 0, byte(r.Intn(20))
		s := string(b)
		if writtenSo(t, s) {
			read++
		}
	}
	if read < 2000 {
		t.Errorf("only %d were read", read)
	}
}

// writtenSo tells whether s is read, and holds what is read against what s begins with.
func writtenSo(t *testing.T, s string) bool {
	t.Helper()
	e, fault := eap.Read(s)
	if fault != api.OK {
		if e != (api.Eap{}) {
			t.Errorf("Read(%q): %s beside %d", s, brief(e), fault)
		}
		return false
	}
	if !eap.Right(e) {
		t.Errorf("Read(%q): %s is not right", s, brief(e))
	}
	long := int(s[2])<<8 | int(s[3])
	if got, fault := eap.Bytes(e); got != s[:long] || fault != api.OK {
		t.Errorf("Read(%q): %s, whose bytes are %q, %d", s, brief(e), got, fault)
	}
	return true
}

// Whatever comes ends, and what is read is written so (R1, P5.3, P5.10).
func FuzzRead(f *testing.F) {
	for _, s := range []string{"", "\x01\x07\x00\x05\x01", "\x02\x07\x00\x06\x03\x15a", "\x04\x09\x00\x04zz", "\x00\x00\xff\xff"} {
		f.Add(s)
	}
	f.Fuzz(func(t *testing.T, s string) { writtenSo(t, s) })
}

// P5.11

func TestWhatIsRefusedTellsWhatIsWanted(t *testing.T) {
	r := rand.New(rand.NewSource(3))
	refused := 0
	for range 3000 {
		q := drawn(r)
		kinds := make([]int, r.Intn(300)*r.Intn(2)+r.Intn(5))
		for i := range kinds {
			kinds[i] = r.Intn(280) - 10
		}
		a, ok := eap.Refuse(q, kinds...)
		if !ok {
			continue
		}
		refused++
		want := slices.DeleteFunc(slices.Clone(kinds), func(k int) bool { return k < 4 || k > 255 })
		want = want[:min(len(want), 250)]
		if got := eap.Wants(a); !slices.Equal(got, want) {
			t.Fatalf("Wants of the refusal by %d: %d, want %d", kinds, got, want)
		}
		if !eap.Right(a) || !eap.Answer(q, a) {
			t.Fatalf("the refusal %s is no right answer to %s", brief(a), brief(q))
		}
		s, _ := eap.Bytes(a)
		if back, fault := eap.Read(s); back != a || fault != api.OK {
			t.Fatalf("Read of the refusal %s: %s, %d", brief(a), brief(back), fault)
		}
	}
	if refused < 500 {
		t.Errorf("only %d were refused", refused)
	}
}
