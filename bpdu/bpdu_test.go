package bpdu_test

import (
	"fmt"
	"math"
	"math/rand"
	"strings"
	"testing"

	"tipstaff/api"
	"tipstaff/bpdu"
	"tipstaff/ether"
)

const (
	bridges = 0x0180c2000000
	lastMac = 1<<48 - 1
)

var vector = api.Vector{Root: 0x0102030405060708, Cost: 0x090a0b0c, Bridge: 0x1112131415161718, Port: 0x191a}

const vectorBytes = "\x01\x02\x03\x04\x05\x06\x07\x08" + "\x09\x0a\x0b\x0c" + "\x11\x12\x13\x14\x15\x16\x17\x18" + "\x19\x1a"

func config() api.Bpdu {
	return api.Bpdu{Kind: api.BpduConfig, Vector: vector, Age: 1, MaxAge: 20, Hello: 2, Delay: 15}
}

func rapid() api.Bpdu {
	return api.Bpdu{Kind: api.BpduRapid, Role: api.RoleDesignated, Vector: vector, Age: 1, MaxAge: 20, Hello: 2, Delay: 15}
}

func change() api.Bpdu { return api.Bpdu{Kind: api.BpduChange} }

// with answers b as alter leaves it.
func with(b api.Bpdu, alter func(b *api.Bpdu)) api.Bpdu {
	alter(&b)
	return b
}

// flagged has the flags of n, the role's among them, whether or not b may have them.
func flagged(b api.Bpdu, n int) api.Bpdu {
	b.Change, b.Proposal, b.Role = n&1 != 0, n&2 != 0, n/4%4
	b.Learning, b.Forwarding, b.Agreement, b.Ack = n&16 != 0, n&32 != 0, n&64 != 0, n&128 != 0
	return b
}

// told has the bytes of a BPDU of any version, kind and flags, with that vector and those times.
func told(version, kind, flags int, times string) string {
	return string([]byte{0, 0, byte(version), byte(kind), byte(flags)}) + vectorBytes + times
}

const (
	times      = "\x01\x00\x14\x00\x02\x00\x0f\x00"
	otherTimes = "\x01\xff\x14\x80\x02\x01\x0f\x7f" // the bytes behind each are not 0
)

// numbers are edges of what bytes hold, and of ints.
var numbers = []int{
	math.MinInt, math.MinInt + 1, -1 << 32, -65536, -256, -255, -4, -3, -2, -1, 0, 1, 2, 3, 4, 5, 7, 127, 128, 129, 254, 255, 256, 257, 258, 384,
	65534, 65535, 65536, 65537, 1<<31 - 1, 1 << 31, 1<<32 - 1, 1 << 32, 1<<32 + 1, 1<<32 + 2, 1<<32 + 128, math.MaxInt - 1, math.MaxInt,
}

// P6.1

func seeRight(t *testing.T, b api.Bpdu, want bool) {
	t.Helper()
	if got := bpdu.Right(b); got != want {
		t.Errorf("Right(%+v): %t", b, got)
	}
}

func TestRightOfEachKind(t *testing.T) {
	for n := -300; n <= 600; n++ {
		seeRight(t, api.Bpdu{Kind: n}, n == 0 || n == 2 || n == 0x80)
		seeRight(t, with(config(), func(b *api.Bpdu) { b.Kind = n }), n == 0 || n == 2)
	}
	for _, n := range numbers {
		seeRight(t, api.Bpdu{Kind: n}, n == 0 || n == 2 || n == 0x80)
	}
	seeRight(t, api.Bpdu{}, true)
	seeRight(t, config(), true)
	seeRight(t, rapid(), true)
	seeRight(t, change(), true)
}

func TestRightOfEachFlag(t *testing.T) {
	for n := range 256 {
		seeRight(t, flagged(config(), n), n&^(1|128) == 0)
		seeRight(t, flagged(rapid(), n), n&128 == 0)
		seeRight(t, flagged(change(), n), n == 0)
	}
	for _, n := range numbers {
		role := func(b *api.Bpdu) { b.Role = n }
		seeRight(t, with(config(), role), n == 0)
		seeRight(t, with(rapid(), role), n >= 0 && n <= 3)
		seeRight(t, with(change(), role), n == 0)
	}
}

// parts set one of a BPDU's numbers that bytes hold; most is the greatest that may be there.
var parts = []struct {
	name string
	most int
	set  func(b *api.Bpdu, n int)
}{
	{"Port", 65535, func(b *api.Bpdu, n int) { b.Vector.Port = n }},
	{"Age", 255, func(b *api.Bpdu, n int) { b.Age = n }},
	{"MaxAge", 255, func(b *api.Bpdu, n int) { b.MaxAge = n }},
	{"Hello", 255, func(b *api.Bpdu, n int) { b.Hello = n }},
	{"Delay", 255, func(b *api.Bpdu, n int) { b.Delay = n }},
}

func TestRightOfEachNumber(t *testing.T) {
	for _, p := range parts {
		for _, n := range numbers {
			set := func(b *api.Bpdu) { p.set(b, n) }
			seeRight(t, with(config(), set), n >= 0 && n <= p.most)
			seeRight(t, with(rapid(), set), n >= 0 && n <= p.most)
			seeRight(t, with(change(), set), n == 0)
		}
	}
}

func TestRightOfVectors(t *testing.T) {
	for _, n := range []uint64{0, 1, 255, 1<<31 - 1, 1 << 31, 1<<32 - 1, 1 << 32, 1<<32 + 1, 1 << 63, math.MaxUint64} {
		cost := func(b *api.Bpdu) { b.Vector.Cost = n }
		root := func(b *api.Bpdu) { b.Vector.Root = n }
		bridge := func(b *api.Bpdu) { b.Vector.Bridge = n }
		for _, b := range []api.Bpdu{config(), rapid()} {
			seeRight(t, with(b, cost), n < 1<<32)
			seeRight(t, with(b, root), true)
			seeRight(t, with(b, bridge), true)
		}
		for _, alter := range []func(b *api.Bpdu){cost, root, bridge} {
			seeRight(t, with(change(), alter), n == 0)
		}
	}
}

// The times are not held against each other here, as they are where one is read.
func TestRightOfWhatIsTooOld(t *testing.T) {
	for _, b := range []api.Bpdu{config(), rapid()} {
		seeRight(t, with(b, func(b *api.Bpdu) { b.Age, b.MaxAge = 20, 20 }), true)
		seeRight(t, with(b, func(b *api.Bpdu) { b.Age, b.MaxAge = 255, 0 }), true)
	}
}

// P6.2

func TestFlags(t *testing.T) {
	for n := range 256 {
		for _, b := range []api.Bpdu{config(), rapid(), change(), {Kind: -7}} {
			if got := bpdu.Flags(flagged(b, n)); got != n {
				t.Errorf("Flags(%+v): %d, want %d", flagged(b, n), got, n)
			}
		}
	}
	for _, role := range numbers {
		want := 4*(((role%4)+4)%4) + 16
		if got := bpdu.Flags(api.Bpdu{Kind: api.BpduRapid, Role: role, Learning: true}); got != want {
			t.Errorf("Flags of the role %d, and Learning: %d, want %d", role, got, want)
		}
	}
}

func TestFlagsByName(t *testing.T) {
	for _, c := range []struct {
		b    api.Bpdu
		want int
	}{
		{api.Bpdu{}, 0},
		{api.Bpdu{Change: true}, 1},
		{api.Bpdu{Proposal: true}, 2},
		{api.Bpdu{Role: api.RoleAlternate}, 4},
		{api.Bpdu{Role: api.RoleRoot}, 8},
		{api.Bpdu{Role: api.RoleDesignated}, 12},
		{api.Bpdu{Learning: true}, 16},
		{api.Bpdu{Forwarding: true}, 32},
		{api.Bpdu{Agreement: true}, 64},
		{api.Bpdu{Ack: true}, 128},
		{api.Bpdu{Kind: 255, Vector: vector, Age: 255, MaxAge: 255, Hello: 255, Delay: 255}, 0},
	} {
		if got := bpdu.Flags(c.b); got != c.want {
			t.Errorf("Flags(%+v): %d, want %d", c.b, got, c.want)
		}
	}
}

// P6.3

func TestBytes(t *testing.T) {
	for _, c := range []struct {
		b    api.Bpdu
		want string
	}{
		{change(), "\x00\x00\x00\x80"},
		{config(), told(0, 0, 0, times)},
		{flagged(config(), 1), told(0, 0, 1, times)},
		{flagged(config(), 129), told(0, 0, 129, times)},
		{rapid(), told(2, 2, 12, times) + "\x00"},
		{flagged(rapid(), 127), told(2, 2, 127, times) + "\x00"},
		{api.Bpdu{}, strings.Repeat("\x00", 35)},
		{api.Bpdu{Kind: api.BpduRapid}, "\x00\x00\x02\x02" + strings.Repeat("\x00", 32)},
		{
			api.Bpdu{
				Kind:   api.BpduRapid,
				Vector: api.Vector{Root: math.MaxUint64, Cost: 1<<32 - 1, Bridge: math.MaxUint64, Port: 65535},
				Age:    255, MaxAge: 254, Hello: 253, Delay: 252,
			},
			"\x00\x00\x02\x02\x00" + strings.Repeat("\xff", 22) + "\xff\x00\xfe\x00\xfd\x00\xfc\x00\x00",
		},
	} {
		if got, e := bpdu.Bytes(c.b); got != c.want || e != api.OK {
			t.Errorf("Bytes(%+v): %q, %d, want %q", c.b, got, e, c.want)
		}
	}
}

func TestBytesOfEachFlag(t *testing.T) {
	for n := range 256 {
		for _, c := range []struct {
			b    api.Bpdu
			want string
		}{
			{flagged(config(), n), told(0, 0, n, times)},
			{flagged(rapid(), n), told(2, 2, n, times) + "\x00"},
		} {
			want, we := c.want, api.OK
			if !bpdu.Right(c.b) {
				want, we = "", api.ErrArg
			}
			if got, e := bpdu.Bytes(c.b); got != want || e != we {
				t.Errorf("Bytes(%+v): %q, %d, want %q, %d", c.b, got, e, want, we)
			}
		}
	}
}

// wrongOnes have one fault each, but for the last one.
func wrongOnes() []api.Bpdu {
	out := []api.Bpdu{
		{Kind: 1}, {Kind: 3}, {Kind: -1}, {Kind: 127}, {Kind: 129}, {Kind: 256}, {Kind: 258}, {Kind: 384}, {Kind: 1<<32 + 2},
		flagged(rapid(), 128), flagged(rapid(), 255),
		with(rapid(), func(b *api.Bpdu) { b.Role = 4 }),
		with(rapid(), func(b *api.Bpdu) { b.Role = -1 }),
		with(config(), func(b *api.Bpdu) { b.Role = 4 }), // whose lowest bits are 0
		with(config(), func(b *api.Bpdu) { b.Role = math.MinInt }),
		with(change(), func(b *api.Bpdu) { b.Vector.Root = 1 }),
		with(change(), func(b *api.Bpdu) { b.Vector.Bridge = 1 }),
		with(change(), func(b *api.Bpdu) { b.Vector.Cost = 1 }),
		with(change(), func(b *api.Bpdu) { b.Role = 4 }),
	}
	for _, n := range []int{2, 4, 8, 12, 16, 32, 64, 127} {
		out = append(out, flagged(config(), n))
	}
	for n := 1; n < 256; n *= 2 {
		out = append(out, flagged(change(), n))
	}
	for _, b := range []api.Bpdu{config(), rapid()} {
		out = append(out, with(b, func(b *api.Bpdu) { b.Vector.Cost = 1 << 32 }))
		for _, p := range parts {
			for _, n := range []int{-1, p.most + 1, math.MinInt, math.MaxInt} {
				out = append(out, with(b, func(b *api.Bpdu) { p.set(b, n) }))
			}
		}
	}
	for _, p := range parts {
		out = append(out, with(change(), func(b *api.Bpdu) { p.set(b, 1) }))
	}
	return append(out, api.Bpdu{Kind: 7, Ack: true, Role: 9, Age: -1})
}

func TestBytesOfWhatIsNotRight(t *testing.T) {
	for _, b := range wrongOnes() {
		if got, e := bpdu.Bytes(b); got != "" || e != api.ErrArg {
			t.Errorf("Bytes(%+v): %q, %d, want ErrArg", b, got, e)
		}
	}
}

// P6.4

func seeRead(t *testing.T, s string, want api.Bpdu, we api.Errno) {
	t.Helper()
	if got, e := bpdu.Read(s); got != want || e != we {
		t.Errorf("Read(%.60q) of %d bytes: %+v, %d, want %+v, %d", s, len(s), got, e, want, we)
	}
}

func TestRead(t *testing.T) {
	for _, c := range []struct {
		s    string
		want api.Bpdu
	}{
		{"\x00\x00\x00\x80", change()},
		{told(0, 0, 0, times), config()},
		{told(2, 2, 12, times) + "\x00", rapid()},

		// what is let go
		{"\x00\x00\x00\x80\xff", change()},
		{told(0, 0x80, 255, times), change()},
		{told(0, 0, 0, otherTimes), config()},
		{told(2, 2, 12, otherTimes) + "\xff", rapid()},
		{told(0, 0, 0, times) + "\xff\xff", config()},
		{told(2, 2, 12, times) + strings.Repeat("\xff", 1000), rapid()},

		// versions
		{"\x00\x00\x02\x80", change()},
		{"\x00\x00\xff\x80", change()},
		{told(1, 0, 0, times), config()},
		{told(2, 0, 0, times), config()},
		{told(255, 0, 0, times), config()},
		{told(3, 2, 12, times) + "\x00", rapid()},
		{told(255, 2, 12, times) + "\x00", rapid()},

		{
			"\x00\x00\x02\x02\x00" + strings.Repeat("\xff", 22) + "\xfe\x00\xff\x00\xfd\x00\xfc\x00\x00",
			api.Bpdu{
				Kind:   api.BpduRapid,
				Vector: api.Vector{Root: math.MaxUint64, Cost: 1<<32 - 1, Bridge: math.MaxUint64, Port: 65535},
				Age:    254, MaxAge: 255, Hello: 253, Delay: 252,
			},
		},
		{told(0, 0, 0, "\x00\x00\x01\x00\x00\x00\x00\x00"), api.Bpdu{Vector: vector, MaxAge: 1}},
	} {
		seeRead(t, c.s, c.want, api.OK)
	}
}

func TestReadOfWhatIsNone(t *testing.T) {
	whole := told(2, 2, 12, times) + "\x00"
	for _, c := range []struct {
		s string
		e api.Errno
	}{
		{"", api.ErrShort},
		{"\x00", api.ErrShort},
		{"\x00\x00\x00", api.ErrShort},

		{"\x01\x00\x00\x80", api.ErrForm},
		{"\x00\x01\x00\x80", api.ErrForm},
		{"\xff\xff\x00\x80", api.ErrForm},
		{"\x00\x80" + whole[2:], api.ErrForm},
		{"\x80" + whole[1:], api.ErrForm},

		{told(0, 1, 0, times), api.ErrType},
		{told(2, 3, 0, times) + "\x00", api.ErrType},
		{told(0, 127, 0, times), api.ErrType},
		{told(0, 129, 0, times), api.ErrType},
		{told(2, 255, 0, times), api.ErrType},
		{told(0, 2, 12, times) + "\x00", api.ErrType},
		{told(1, 2, 12, times) + "\x00", api.ErrType},

		{"\x00\x00\x00\x00", api.ErrShort},
		{"\x00\x00\x02\x02", api.ErrShort},
		{told(0, 0, 0, times)[:34], api.ErrShort},
		{told(2, 2, 12, times), api.ErrShort},

		{told(0, 0, 0, "\x14\x00\x14\x00\x02\x00\x0f\x00"), api.ErrForm},
		{told(0, 0, 0, "\x15\x00\x14\x00\x02\x00\x0f\x00"), api.ErrForm},
		{told(0, 0, 0, "\x00\x00\x00\x00\x02\x00\x0f\x00"), api.ErrForm},
		{told(2, 2, 0, "\x14\x00\x14\xff\x02\x00\x0f\x00") + "\x00", api.ErrForm},
		{told(2, 2, 0, "\xff\x00\x14\x00\x02\x00\x0f\x00") + "\x00", api.ErrForm},
		{told(2, 2, 0, "\xff\x00\xff\x00\x02\x00\x0f\x00") + "\x00", api.ErrForm},

		// the errors are named in this order: where two hold it is the one ahead
		{"\x01\x01\x00", api.ErrShort},
		{"\x01\x00\x00\x01", api.ErrForm},
		{"\x00\x01\x00\x00", api.ErrForm},
		{"\x00\x00\x00\x01", api.ErrType},
		{"\x00\x00\x01\x02", api.ErrType},
		{told(1, 2, 0, "\x14\x00\x14\x00\x02\x00\x0f\x00"), api.ErrType},
		{told(0, 0, 0, "\x14\x00\x14\x00\x02\x00\x0f"), api.ErrShort},
		{told(2, 2, 0, "\x14\x00\x14\x00\x02\x00\x0f\x00"), api.ErrShort},
	} {
		seeRead(t, c.s, api.Bpdu{}, c.e)
	}
}

func TestReadOfEachVersionAndKind(t *testing.T) {
	for n := range 1 << 16 {
		version, kind := n>>8, n&255
		want, we := api.Bpdu{}, api.ErrType
		switch {
		case kind == 0x80:
			want, we = change(), api.OK
		case kind == 0:
			want, we = config(), api.OK
		case kind == 2 && version >= 2:
			want, we = with(rapid(), func(b *api.Bpdu) { b.Role = 0 }), api.OK
		}
		seeRead(t, told(version, kind, 0, times)+"\x00", want, we)
	}
}

// Of each flag, those that its kind may have are there, and the others are let go.
func TestReadOfEachFlag(t *testing.T) {
	for n := range 256 {
		seeRead(t, told(0, 0, n, times), flagged(config(), n&(1|128)), api.OK)
		seeRead(t, told(2, 2, n, times)+"\x00", flagged(rapid(), n&127), api.OK)
	}
}

func TestReadOfEachAge(t *testing.T) {
	for n := range 1 << 16 {
		age, most := n>>8, n&255
		ticks := string([]byte{byte(age), 0, byte(most), 0}) + "\x02\x00\x0f\x00"
		plain, quick, we := api.Bpdu{}, api.Bpdu{}, api.ErrForm
		if age < most {
			old := func(b *api.Bpdu) { b.Age, b.MaxAge = age, most }
			plain, quick, we = with(config(), old), with(rapid(), old), api.OK
		}
		seeRead(t, told(0, 0, 0, ticks), plain, we)
		seeRead(t, told(2, 2, 12, ticks)+"\x00", quick, we)
	}
}

func TestReadOfEachLength(t *testing.T) {
	plain := told(0, 0, 0, times) + strings.Repeat("z", 40)
	quick := told(2, 2, 12, times) + strings.Repeat("z", 40)
	noted := "\x00\x00\x00\x80" + strings.Repeat("z", 40)
	see := func(s string, n, least int, want api.Bpdu) {
		t.Helper()
		if n < least {
			seeRead(t, s[:n], api.Bpdu{}, api.ErrShort)
		} else {
			seeRead(t, s[:n], want, api.OK)
		}
	}
	for n := range len(noted) {
		see(plain, n, 35, config())
		see(quick, n, 36, rapid())
		see(noted, n, 4, change())
	}
}

// P6.5

func TestWrap(t *testing.T) {
	for _, src := range []api.Mac{0, 2, bridges, lastMac} {
		for _, c := range []struct {
			b    api.Bpdu
			long int
			body string
		}{
			{change(), 7, "\x42\x42\x03\x00\x00\x00\x80"},
			{flagged(config(), 129), 38, "\x42\x42\x03" + told(0, 0, 129, times)},
			{flagged(rapid(), 127), 39, "\x42\x42\x03" + told(2, 2, 127, times) + "\x00"},
		} {
			want := api.Frame{Dst: bridges, Src: src, Type: c.long, Body: c.body}
			got, e := bpdu.Wrap(src, c.b)
			if got != want || e != api.OK {
				t.Errorf("Wrap(%#x, %+v): %+v, %d, want %+v", uint64(src), c.b, got, e, want)
			}
			if !ether.Right(got) {
				t.Errorf("Wrap(%#x, %+v) is not right", uint64(src), c.b)
			}
		}
	}
}

func TestWrapOfWhatIsNotRight(t *testing.T) {
	see := func(src api.Mac, b api.Bpdu) {
		t.Helper()
		if got, e := bpdu.Wrap(src, b); got != (api.Frame{}) || e != api.ErrArg {
			t.Errorf("Wrap(%#x, %+v): %+v, %d, want ErrArg", uint64(src), b, got, e)
		}
	}
	for _, b := range wrongOnes() {
		see(2, b)
		see(lastMac+1, b)
	}
	for _, src := range []api.Mac{lastMac + 1, lastMac + 3, 1 << 63, math.MaxUint64} {
		for _, b := range []api.Bpdu{config(), rapid(), change()} {
			see(src, b)
		}
	}
}

// P6.6

func seeOf(t *testing.T, f api.Frame, want api.Bpdu, we api.Errno) {
	t.Helper()
	if got, e := bpdu.Of(f); got != want || e != we {
		t.Errorf("Of(%+q): %+v, %d, want %+v, %d", fmt.Sprint(f), got, e, want, we)
	}
}

func frame(long int, body string) api.Frame {
	return api.Frame{Dst: bridges, Src: 2, Type: long, Body: body}
}

func TestOf(t *testing.T) {
	noted := "\x42\x42\x03\x00\x00\x00\x80"
	plain := "\x42\x42\x03" + told(0, 0, 0, times)
	quick := "\x42\x42\x03" + told(2, 2, 12, times) + "\x00"
	seeOf(t, frame(7, noted), change(), api.OK)
	seeOf(t, frame(38, plain), config(), api.OK)
	seeOf(t, frame(39, quick), rapid(), api.OK)

	// what stands behind what its length tells
	seeOf(t, frame(7, noted+strings.Repeat("\x00", 39)), change(), api.OK)
	seeOf(t, frame(38, plain+"\xff"), config(), api.OK)
	seeOf(t, frame(39, quick+strings.Repeat("\xff", 2000)), rapid(), api.OK)
	seeOf(t, frame(1500, quick+strings.Repeat("\xff", 1461)), rapid(), api.OK)
	seeOf(t, frame(1500, quick+strings.Repeat("\xff", 1462)), rapid(), api.OK)

	// what a frame has besides is not asked for
	seeOf(t, api.Frame{Dst: bridges, Src: math.MaxUint64, Prio: 9, Vid: 7, Type: 7, Body: noted}, change(), api.OK)
}

func TestOfWhatIsNone(t *testing.T) {
	quick := "\x42\x42\x03" + told(2, 2, 12, times) + "\x00"
	whole := frame(39, quick)
	other := func(alter func(f *api.Frame)) api.Frame {
		f := whole
		alter(&f)
		return f
	}
	for _, c := range []struct {
		f api.Frame
		e api.Errno
	}{
		{other(func(f *api.Frame) { f.Dst = bridges + 1 }), api.ErrType},
		{other(func(f *api.Frame) { f.Dst = 0 }), api.ErrType},
		{other(func(f *api.Frame) { f.Dst = bridges + 1<<48 }), api.ErrType},
		{other(func(f *api.Frame) { f.Tagged = true }), api.ErrType},
		{other(func(f *api.Frame) { f.Tagged, f.Vid, f.Prio = true, 1, 7 }), api.ErrType},
		{frame(1501, quick+strings.Repeat("\x00", 2000)), api.ErrType},
		{frame(1501, quick), api.ErrType},
		{frame(api.TypeEapol, quick), api.ErrType},
		{frame(math.MaxInt, quick), api.ErrType},
		{frame(39, "\x43"+quick[1:]), api.ErrType},
		{frame(39, "\x42\x43"+quick[2:]), api.ErrType},
		{frame(39, "\x42\x42\x04"+quick[3:]), api.ErrType},
		{frame(39, quick[3:]), api.ErrType},
		{frame(0, ""), api.ErrType},
		{frame(2, "\x42\x42"), api.ErrType},
		{api.Frame{}, api.ErrType},

		{frame(2, quick), api.ErrShort},
		{frame(2, "\x42\x42\x03"), api.ErrShort},
		{frame(0, quick), api.ErrShort},
		{frame(-1, quick), api.ErrShort},
		{frame(math.MinInt, quick), api.ErrShort},
		{frame(40, quick), api.ErrShort},
		{frame(1500, quick), api.ErrShort},
		{frame(4, "\x42\x42\x03"), api.ErrShort},

		// what Read answers
		{frame(3, "\x42\x42\x03"), api.ErrShort},
		{frame(3, quick), api.ErrShort},
		{frame(6, quick), api.ErrShort},
		{frame(7, quick), api.ErrShort},
		{frame(38, quick), api.ErrShort},
		{frame(7, "\x42\x42\x03\x00\x01\x00\x80"), api.ErrForm},
		{frame(7, "\x42\x42\x03\x00\x00\x00\x01"), api.ErrType},
		{frame(38, "\x42\x42\x03"+told(0, 0, 0, "\x14\x00\x14\x00\x02\x00\x0f\x00")), api.ErrForm},

		// the errors are named in this order: where two hold it is the one ahead
		{api.Frame{Dst: 5, Type: 2, Body: quick}, api.ErrType},
		{api.Frame{Dst: bridges, Tagged: true, Type: 40, Body: quick}, api.ErrType},
		{frame(2, "\x42\x42\x04"), api.ErrType},
		{frame(40, "\x42\x42\x04"+quick[3:]), api.ErrType},
		{frame(8, "\x42\x42\x03\x00\x01\x00\x80"), api.ErrShort},
	} {
		seeOf(t, c.f, api.Bpdu{}, c.e)
	}
}

func TestOfEachLength(t *testing.T) {
	body := "\x42\x42\x03" + told(2, 2, 12, times) + "\x00" + strings.Repeat("z", 2000)
	for n := -50; n <= 2100; n++ {
		want, we := rapid(), api.OK
		if n < 39 {
			want, we = api.Bpdu{}, api.ErrShort
		} else if n > 1500 {
			want, we = api.Bpdu{}, api.ErrType
		}
		seeOf(t, frame(n, body), want, we)
		if n > 3 && n <= 1500 {
			seeOf(t, frame(n, body[:n-1]), api.Bpdu{}, api.ErrShort)
		}
	}
}

// P6.7

// drawn is a right one.
func drawn(r *rand.Rand) api.Bpdu {
	b := api.Bpdu{
		Kind:   api.BpduRapid,
		Vector: api.Vector{Root: r.Uint64(), Cost: uint64(r.Uint32()), Bridge: r.Uint64(), Port: r.Intn(65536)},
		Age:    r.Intn(256), MaxAge: r.Intn(256), Hello: r.Intn(256), Delay: r.Intn(256),
	}
	switch r.Intn(9) {
	case 0:
		return change()
	case 1, 2, 3, 4:
		b.Kind = api.BpduConfig
		return flagged(b, r.Intn(256)&(1|128))
	}
	return flagged(b, r.Intn(128))
}

func TestWhatIsWrittenIsRead(t *testing.T) {
	r := rand.New(rand.NewSource(1))
	for range 20000 {
		b := drawn(r)
		seeRight(t, b, true)
		s, e := bpdu.Bytes(b)
		if e != api.OK {
			t.Fatalf("Bytes(%+v): %d", b, e)
		}
		want, we := b, api.OK
		if b.Kind != api.BpduChange && b.Age >= b.MaxAge {
			want, we = api.Bpdu{}, api.ErrForm
		}
		seeRead(t, s, want, we)
		seeRead(t, s+"\x00\xff"+s, want, we)
		f, e := bpdu.Wrap(api.Mac(r.Int63n(lastMac+1)), b)
		if e != api.OK {
			t.Fatalf("Wrap of %+v: %d", b, e)
		}
		seeOf(t, f, want, we)
		seeOf(t, passed(t, f), want, we)
	}
}

// passed answers f as it comes at the other end of a wire, on which a short frame is padded.
func passed(t *testing.T, f api.Frame) api.Frame {
	t.Helper()
	s, e := ether.Bytes(ether.Short(f))
	if e != api.OK {
		t.Fatalf("Bytes of %+v: %d", f, e)
	}
	back, e := ether.Read(s)
	if e != api.OK {
		t.Fatalf("Read of %+v: %d", f, e)
	}
	return back
}

// Whatever comes: what is read is right, and written it is read again (R1, R2, P6.4, P6.7).
func FuzzRead(f *testing.F) {
	for _, s := range []string{"", "\x00\x00\x00\x80", told(0, 0, 255, otherTimes), told(2, 2, 255, otherTimes) + "\xff"} {
		f.Add(s)
	}
	f.Fuzz(func(t *testing.T, s string) {
		b, e := bpdu.Read(s)
		want, we := carried(s, b, e)
		seeOf(t, frame(3+len(s), "\x42\x42\x03"+s), want, we)
		if e != api.OK {
			if b != (api.Bpdu{}) {
				t.Errorf("Read(%q): %+v beside %d", s, b, e)
			}
			return
		}
		seeRight(t, b, true)
		again, e := bpdu.Bytes(b)
		if e != api.OK {
			t.Errorf("Bytes(%+v): %d", b, e)
		}
		seeRead(t, again, b, api.OK)
	})
}

// carried is what a frame with s tells, if s tells b: nothing, if its length would be a type.
func carried(s string, b api.Bpdu, e api.Errno) (api.Bpdu, api.Errno) {
	if 3+len(s) > 1500 {
		return api.Bpdu{}, api.ErrType
	}
	return b, e
}
