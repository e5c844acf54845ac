package attr_test

import (
	"fmt"
	"math"
	"math/rand"
	"slices"
	"strings"
	"testing"

	"tipstaff/api"
	"tipstaff/attr"
)

// anyKinds are types that attributes have, and edges and wrong ones.
var anyKinds = []int{math.MinInt, -256, -255, -1, 0, 1, 2, 79, 254, 255, 256, 257, 511, 512, math.MaxInt}

func drawnText(r *rand.Rand, long int) string {
	out := make([]byte, long)
	r.Read(out)
	return string(out)
}

// drawnList answers attributes that are right, of few types, so that a type stands there more than once.
func drawnList(r *rand.Rand, most int) []api.Attr {
	l := make([]api.Attr, r.Intn(most+1))
	for i := range l {
		long := r.Intn(8)
		if r.Intn(8) == 0 {
			long = 250 + r.Intn(4)
		}
		l[i] = api.Attr{Type: 1 + r.Intn(5), Value: drawnText(r, long)}
	}
	return l
}

// many answers n attributes of type 7, without bytes.
func many(n int) []api.Attr { return slices.Repeat([]api.Attr{{Type: 7}}, n) }

func text(n int) string { return strings.Repeat("x", n) }

// with answers l with the attribute a put in at place i.
func with(l []api.Attr, i int, a api.Attr) []api.Attr {
	return slices.Insert(slices.Clone(l), i, a)
}

// told answers what v is, no longer than is of use.
func told(v any) string { return fmt.Sprintf("%.400s", fmt.Sprintf("%#v", v)) }

// P9.1

func TestRight(t *testing.T) {
	for _, c := range []struct {
		a    api.Attr
		want bool
	}{
		{api.Attr{}, false},
		{api.Attr{Type: 0, Value: "x"}, false},
		{api.Attr{Type: -1}, false},
		{api.Attr{Type: math.MinInt}, false},
		{api.Attr{Type: math.MinInt + 1}, false},
		{api.Attr{Type: 1}, true},
		{api.Attr{Type: 1, Value: "bob"}, true},
		{api.Attr{Type: 79, Value: "\x00\xff"}, true},
		{api.Attr{Type: 255}, true},
		{api.Attr{Type: 256}, false},
		{api.Attr{Type: 257}, false},
		{api.Attr{Type: math.MaxInt}, false},
		{api.Attr{Type: 1, Value: text(252)}, true},
		{api.Attr{Type: 1, Value: text(253)}, true},
		{api.Attr{Type: 255, Value: text(253)}, true},
		{api.Attr{Type: 1, Value: text(254)}, false},
		{api.Attr{Type: 1, Value: text(256)}, false},
		{api.Attr{Type: 1, Value: text(509)}, false},
		{api.Attr{Type: 1, Value: strings.Repeat("\u00fc", 126)}, true},
		{api.Attr{Type: 1, Value: strings.Repeat("\u00fc", 127)}, false},
		{api.Attr{Type: 0, Value: text(253)}, false},
		{api.Attr{Type: 256, Value: text(254)}, false},
	} {
		if got := attr.Right(c.a); got != c.want {
			t.Errorf("Right of type %d and %d bytes: %v", c.a.Type, len(c.a.Value), got)
		}
	}
}

func TestRightOfEachTypeAndLength(t *testing.T) {
	for kind := -300; kind <= 600; kind++ {
		if got, want := attr.Right(api.Attr{Type: kind, Value: "x"}), kind >= 1 && kind <= 255; got != want {
			t.Errorf("Right of type %d: %v", kind, got)
		}
	}
	for n := range 600 {
		if got, want := attr.Right(api.Attr{Type: 1, Value: text(n)}), n <= 253; got != want {
			t.Errorf("Right of %d bytes: %v", n, got)
		}
	}
}

// P9.2

func seeBytes(t *testing.T, l []api.Attr, want string, wantE api.Errno) {
	t.Helper()
	if got, e := attr.Bytes(l); got != want || e != wantE {
		t.Errorf("Bytes of %d attributes, %s: %s, %d, want %s, %d", len(l), told(l), told(got), e, told(want), wantE)
	}
}

func TestBytes(t *testing.T) {
	seeBytes(t, nil, "", api.OK)
	seeBytes(t, []api.Attr{}, "", api.OK)
	seeBytes(t, []api.Attr{{Type: 1}}, "\x01\x02", api.OK)
	seeBytes(t, []api.Attr{{Type: 1, Value: "bob"}}, "\x01\x05bob", api.OK)
	seeBytes(t, []api.Attr{{Type: 255, Value: "\x00\xff"}}, "\xff\x04\x00\xff", api.OK)
	seeBytes(t, []api.Attr{{Type: 128, Value: "\u00fc"}}, "\x80\x04\xc3\xbc", api.OK)
	seeBytes(t, []api.Attr{{Type: 2, Value: "b"}, {Type: 1, Value: "a"}, {Type: 2, Value: ""}, {Type: 2, Value: "b"}}, "\x02\x03b\x01\x03a\x02\x02\x02\x03b", api.OK)
	seeBytes(t, []api.Attr{{Type: 79, Value: text(253)}, {Type: 79, Value: "y"}}, "\x4f\xff"+text(253)+"\x4f\x03y", api.OK)
	seeBytes(t, []api.Attr{{Type: 1, Value: text(126)}}, "\x01\x80"+text(126), api.OK)
	seeBytes(t, many(64), strings.Repeat("\x07\x02", 64), api.OK)
	seeBytes(t, slices.Repeat([]api.Attr{{Type: 255, Value: text(253)}}, 64), strings.Repeat("\xff\xff"+text(253), 64), api.OK)
}

func TestBytesOfWrong(t *testing.T) {
	wrong := []api.Attr{{}, {Type: 0, Value: "x"}, {Type: -1}, {Type: 256}, {Type: math.MaxInt}, {Type: math.MinInt}, {Type: 1, Value: text(254)}, {Type: 1, Value: text(1000)}}
	for _, a := range wrong {
		seeBytes(t, []api.Attr{a}, "", api.ErrArg)
		for i := range 4 {
			seeBytes(t, with(many(3), i, a), "", api.ErrArg)
		}
		for _, i := range []int{0, 31, 63} {
			seeBytes(t, with(many(63), i, a), "", api.ErrArg)
		}
		for _, i := range []int{0, 31, 63, 64} {
			seeBytes(t, with(many(64), i, a), "", api.ErrLong) // too many is the first thing that is wrong
		}
	}
	seeBytes(t, many(65), "", api.ErrLong)
	seeBytes(t, many(128), "", api.ErrLong)
	seeBytes(t, many(5000), "", api.ErrLong)
	seeBytes(t, make([]api.Attr, 64), "", api.ErrArg)
	seeBytes(t, make([]api.Attr, 65), "", api.ErrLong)
}

// P9.3

func seeRead(t *testing.T, s string, want []api.Attr, wantE api.Errno) {
	t.Helper()
	got, e := attr.Read(s)
	if !slices.Equal(got, want) || e != wantE {
		t.Errorf("Read of %d bytes, %.200q: %s, %d, want %s, %d", len(s), s, told(got), e, told(want), wantE)
	}
}

func TestRead(t *testing.T) {
	seeRead(t, "", nil, api.OK)
	seeRead(t, "\x01\x02", []api.Attr{{Type: 1}}, api.OK)
	seeRead(t, "\x01\x05bob", []api.Attr{{Type: 1, Value: "bob"}}, api.OK)
	seeRead(t, "\xff\x04\x00\xff", []api.Attr{{Type: 255, Value: "\x00\xff"}}, api.OK)
	seeRead(t, "\x02\x03b\x01\x03a\x02\x02\x02\x03b", []api.Attr{{Type: 2, Value: "b"}, {Type: 1, Value: "a"}, {Type: 2}, {Type: 2, Value: "b"}}, api.OK)
	seeRead(t, "\x4f\xff"+text(253)+"\x4f\x03y", []api.Attr{{Type: 79, Value: text(253)}, {Type: 79, Value: "y"}}, api.OK)
	seeRead(t, strings.Repeat("\x07\x02", 64), many(64), api.OK)
	seeRead(t, strings.Repeat("\xff\xff"+text(253), 64), slices.Repeat([]api.Attr{{Type: 255, Value: text(253)}}, 64), api.OK)
}

func TestReadOfWrong(t *testing.T) {
	full := strings.Repeat("\x07\x02", 64)
	for _, c := range []struct {
		s    string
		want api.Errno
	}{
		{"\x01", api.ErrShort},
		{"\x00", api.ErrShort}, // one byte is left: ahead of the type that is 0
		{"\xff", api.ErrShort},
		{"\x00\x02", api.ErrForm},
		{"\x00\x03x", api.ErrForm},
		{"\x00\x00", api.ErrForm},
		{"\x01\x00", api.ErrForm},
		{"\x01\x01", api.ErrForm},
		{"\x01\x01x", api.ErrForm},
		{"\x01\x00\x02\x02", api.ErrForm},
		{"\x00\x09x", api.ErrForm}, // the type, ahead of the bytes that are missing
		{"\x01\x03", api.ErrShort},
		{"\x01\x04x", api.ErrShort},
		{"\x01\xff" + text(252), api.ErrShort},
		{"\x01\xff", api.ErrShort},
		{"\x01\x80" + text(125), api.ErrShort},
		{"\x01\x03x\x02", api.ErrShort},
		{"\x01\x03x\x00", api.ErrShort},
		{"\x01\x03x\x00\x02", api.ErrForm},
		{"\x01\x03x\x02\x01", api.ErrForm},
		{"\x01\x03x\x02\x03", api.ErrShort},
		{"\x00\x02\x01", api.ErrForm},           // the first attribute's fault, not the second one's
		{"\x01\x05\x00\x02", api.ErrShort},      // what lies within a value is not looked at
		{"\x01\x01\x01\x05", api.ErrForm},       // a length of 1 does not go on
		{full[2:] + "\x01", api.ErrShort},       // the last one that may be
		{full[2:] + "\x00\x02", api.ErrForm},    // as above
		{full[2:] + "\x01\x03", api.ErrShort},   // as above
		{full + "\x07\x02", api.ErrLong},        // one more
		{full + "\x01", api.ErrLong},            // there were enough, ahead of the one byte
		{full + "\x00\x00", api.ErrLong},        // as above
		{full + "\x01\x03", api.ErrLong},        // as above
		{full + full, api.ErrLong},              // twice as many
		{"\x00\x02" + full + full, api.ErrForm}, // the first one is met first
		{full[2:] + "\x00\x02" + full, api.ErrForm},
		{strings.Repeat("\xff\xff"+text(253), 65), api.ErrLong},
	} {
		seeRead(t, c.s, nil, c.want)
	}
	for n := range 64 {
		seeRead(t, full[:2*n], many(n), api.OK)
		seeRead(t, full[:2*n+1], nil, api.ErrShort)
	}
}

func TestReadOfEachHead(t *testing.T) {
	for kind := range 256 {
		for n := range 256 {
			for _, more := range []int{-1, 0} {
				rest := max(n-2+more, 0)
				s := string([]byte{byte(kind), byte(n)}) + text(rest)
				switch {
				case kind == 0 || n < 2:
					seeRead(t, s, nil, api.ErrForm)
				case rest < n-2:
					seeRead(t, s, nil, api.ErrShort)
				default:
					seeRead(t, s, []api.Attr{{Type: kind, Value: text(n - 2)}}, api.OK)
				}
			}
		}
	}
}

// P9.4

func TestAllAndFind(t *testing.T) {
	l := []api.Attr{{Type: 2, Value: "b"}, {Type: 1, Value: "a"}, {Type: 2, Value: ""}, {Type: 2, Value: "b"}, {Type: 3}, {Type: 255, Value: "\x00"}, {Type: 2, Value: "c"}}
	for _, c := range []struct {
		l    []api.Attr
		kind int
		want []string
	}{
		{nil, 1, nil},
		{[]api.Attr{}, 1, nil},
		{nil, 0, nil},
		{l, 1, []string{"a"}},
		{l, 2, []string{"b", "", "b", "c"}},
		{l, 3, []string{""}},
		{l, 4, nil},
		{l, 255, []string{"\x00"}},
		{l, 0, nil},
		{l, -1, nil},
		{l, 256, nil},
		{l, 257, nil}, // not type 1 again
		{l, 258, nil},
		{l, math.MaxInt, nil},
		{l, math.MinInt, nil},
		{[]api.Attr{{Type: 1}, {Type: 1, Value: "x"}}, 1, []string{"", "x"}},
		{[]api.Attr{{Type: 0, Value: "n"}, {Type: 256, Value: "m"}}, 0, []string{"n"}},
		{[]api.Attr{{Type: 0, Value: "n"}, {Type: 256, Value: "m"}}, 256, []string{"m"}},
		{[]api.Attr{{Type: 1, Value: text(300)}}, 1, []string{text(300)}},
	} {
		if got := attr.All(c.l, c.kind); !slices.Equal(got, c.want) {
			t.Errorf("All(%s, %d): %s, want %s", told(c.l), c.kind, told(got), told(c.want))
		}
		first, ok := "", len(c.want) > 0
		if ok {
			first = c.want[0]
		}
		if got, there := attr.Find(c.l, c.kind); got != first || there != ok {
			t.Errorf("Find(%s, %d): %s, %v, want %q, %v", told(c.l), c.kind, told(got), there, first, ok)
		}
	}
}

// P9.5

func TestSplit(t *testing.T) {
	at := func(n int) api.Attr { return api.Attr{Type: 79, Value: text(n)} }
	for _, c := range []struct {
		long int
		want []api.Attr
	}{
		{0, nil},
		{1, []api.Attr{at(1)}},
		{252, []api.Attr{at(252)}},
		{253, []api.Attr{at(253)}},
		{254, []api.Attr{at(253), at(1)}},
		{505, []api.Attr{at(253), at(252)}},
		{506, []api.Attr{at(253), at(253)}},
		{507, []api.Attr{at(253), at(253), at(1)}},
		{253 * 63, slices.Repeat([]api.Attr{at(253)}, 63)},
		{253*63 + 1, append(slices.Repeat([]api.Attr{at(253)}, 63), at(1))},
		{253*64 - 1, append(slices.Repeat([]api.Attr{at(253)}, 63), at(252))},
		{253 * 64, slices.Repeat([]api.Attr{at(253)}, 64)},
	} {
		if got, e := attr.Split(79, text(c.long)); !slices.Equal(got, c.want) || e != api.OK {
			t.Errorf("Split of %d bytes: %s, %d", c.long, told(got), e)
		}
	}
}

func TestSplitOfWrong(t *testing.T) {
	see := func(kind, long int, want api.Errno) {
		t.Helper()
		if got, e := attr.Split(kind, text(long)); len(got) != 0 || e != want {
			t.Errorf("Split(%d, ..) of %d bytes: %d attributes, %d, want %d", kind, long, len(got), e, want)
		}
	}
	for _, kind := range anyKinds {
		for _, long := range []int{0, 1, 253, 253 * 64, 253*64 + 1, 20000} {
			if kind < 1 || kind > 255 {
				see(kind, long, api.ErrArg) // the type's fault is the first one
			} else if long > 253*64 {
				see(kind, long, api.ErrLong)
			}
		}
	}
	see(1, 253*65, api.ErrLong)
	see(1, 255*64, api.ErrLong)
	see(1, 1<<20, api.ErrLong)
}

func TestSplitOfEachType(t *testing.T) {
	r := rand.New(rand.NewSource(1))
	for kind := 1; kind <= 255; kind++ {
		s := drawnText(r, r.Intn(253*64+1))
		l, e := attr.Split(kind, s)
		if e != api.OK {
			t.Fatalf("Split(%d, ..) of %d bytes: %d", kind, len(s), e)
		}
		for i, a := range l {
			want := api.Attr{Type: kind, Value: s[253*i : min(253*(i+1), len(s))]}
			if a != want || a.Value == "" {
				t.Errorf("Split(%d, ..)[%d]: %s, want %s", kind, i, told(a), told(want))
			}
		}
		if want := (len(s) + 252) / 253; len(l) != want {
			t.Errorf("Split(%d, ..) of %d bytes: %d attributes, want %d", kind, len(s), len(l), want)
		}
	}
}

// P9.6

func TestJoin(t *testing.T) {
	l := []api.Attr{{Type: 2, Value: "b"}, {Type: 1, Value: "a"}, {Type: 2}, {Type: 2, Value: "b"}, {Type: 0, Value: "n"}, {Type: 2, Value: "\x00c"}}
	for _, c := range []struct {
		l    []api.Attr
		kind int
		want string
	}{
		{nil, 2, ""},
		{[]api.Attr{}, 2, ""},
		{l, 2, "bb\x00c"},
		{l, 1, "a"},
		{l, 0, "n"},
		{l, 3, ""},
		{l, 258, ""},
		{l, -254, ""},
		{slices.Repeat([]api.Attr{{Type: 9, Value: text(300)}}, 100), 9, text(30000)},
	} {
		if got := attr.Join(c.l, c.kind); got != c.want {
			t.Errorf("Join(%s, %d): %s, want %s", told(c.l), c.kind, told(got), told(c.want))
		}
	}
}

// P9.7

func TestSame(t *testing.T) {
	a, b, c := api.Attr{Type: 1, Value: "a"}, api.Attr{Type: 2, Value: "b"}, api.Attr{Type: 2}
	for _, k := range []struct {
		a, b []api.Attr
		want bool
	}{
		{nil, nil, true},
		{nil, []api.Attr{}, true},
		{[]api.Attr{}, make([]api.Attr, 0, 9), true},
		{nil, []api.Attr{{}}, false},
		{[]api.Attr{{}}, []api.Attr{{}}, true},
		{[]api.Attr{{}}, []api.Attr{{}, {}}, false},
		{[]api.Attr{a}, []api.Attr{a}, true},
		{[]api.Attr{a}, []api.Attr{b}, false},
		{[]api.Attr{a}, []api.Attr{{Type: 1, Value: "A"}}, false},
		{[]api.Attr{a}, []api.Attr{{Type: 3, Value: "a"}}, false},
		{[]api.Attr{a}, []api.Attr{{Type: 257, Value: "a"}}, false},
		{[]api.Attr{a}, []api.Attr{{Type: 1, Value: "a\x00"}}, false},
		{[]api.Attr{b}, []api.Attr{c}, false},
		{[]api.Attr{a, b, c}, []api.Attr{a, b, c}, true},
		{[]api.Attr{a, b, c}, []api.Attr{a, c, b}, false},
		{[]api.Attr{a, b, c}, []api.Attr{b, a, c}, false},
		{[]api.Attr{a, b}, []api.Attr{a, b, c}, false},
		{[]api.Attr{b, c}, []api.Attr{a, b, c}, false},
		{[]api.Attr{{Type: 1, Value: "ab"}, {Type: 1}}, []api.Attr{{Type: 1, Value: "a"}, {Type: 1, Value: "b"}}, false},
		{many(100), many(100), true},
		{many(100), many(99), false},
		{many(100), with(many(99), 99, a), false},
	} {
		if got := attr.Same(k.a, k.b); got != k.want {
			t.Errorf("Same(%s, %s): %v", told(k.a), told(k.b), got)
		}
		if got := attr.Same(k.b, k.a); got != k.want {
			t.Errorf("Same(%s, %s): %v", told(k.b), told(k.a), got)
		}
	}
}

// P9.8

func TestCount(t *testing.T) {
	l := []api.Attr{{Type: 2, Value: "b"}, {Type: 1, Value: "a"}, {Type: 2}, {Type: 2, Value: "b"}, {Type: 0, Value: "n"}, {Type: 256}}
	for _, c := range []struct {
		l          []api.Attr
		kind, want int
	}{
		{nil, 1, 0},
		{[]api.Attr{}, 0, 0},
		{l, 2, 3},
		{l, 1, 1},
		{l, 0, 1},
		{l, 256, 1},
		{l, 3, 0},
		{l, 258, 0},
		{l, -254, 0},
		{l, math.MaxInt, 0},
		{l, math.MinInt, 0},
		{many(64), 7, 64},
		{many(1000), 7, 1000},
	} {
		if got := attr.Count(c.l, c.kind); got != c.want {
			t.Errorf("Count(%s, %d): %d, want %d", told(c.l), c.kind, got, c.want)
		}
	}
}

func TestCountIsHowManyAllHas(t *testing.T) {
	r := rand.New(rand.NewSource(2))
	for range 300 {
		l := drawnList(r, 70)
		for kind := range 7 {
			if got, want := attr.Count(l, kind), len(attr.All(l, kind)); got != want {
				t.Errorf("Count(%s, %d): %d, want %d", told(l), kind, got, want)
			}
		}
	}
}

// P9.9

func TestSwap(t *testing.T) {
	a, b, c, wrong := api.Attr{Type: 1, Value: "a"}, api.Attr{Type: 2, Value: "b"}, api.Attr{Type: 1, Value: "c"}, api.Attr{Type: -9, Value: text(300)}
	for _, k := range []struct {
		l    []api.Attr
		i, k int
		want []api.Attr
	}{
		{nil, 0, 0, nil},
		{nil, 0, 1, nil},
		{nil, -1, -1, nil},
		{[]api.Attr{}, 0, 0, nil},
		{[]api.Attr{a}, 0, 0, []api.Attr{a}},
		{[]api.Attr{a}, 0, 1, []api.Attr{a}},
		{[]api.Attr{a, b}, 0, 1, []api.Attr{b, a}},
		{[]api.Attr{a, b}, 1, 0, []api.Attr{b, a}},
		{[]api.Attr{a, b, c}, 0, 2, []api.Attr{c, b, a}},
		{[]api.Attr{a, b, c}, 1, 2, []api.Attr{a, c, b}},
		{[]api.Attr{a, b, c}, 1, 1, []api.Attr{a, b, c}},
		{[]api.Attr{a, b, c}, 2, 3, []api.Attr{a, b, c}},
		{[]api.Attr{a, b, c}, 3, 2, []api.Attr{a, b, c}},
		{[]api.Attr{a, b, c}, 3, 4, []api.Attr{a, b, c}},
		{[]api.Attr{a, b, c}, -1, 0, []api.Attr{a, b, c}},
		{[]api.Attr{a, b, c}, 0, -1, []api.Attr{a, b, c}},
		{[]api.Attr{a, b, c}, -1, 3, []api.Attr{a, b, c}},
		{[]api.Attr{a, b, c}, math.MinInt, 1, []api.Attr{a, b, c}},
		{[]api.Attr{a, b, c}, 1, math.MaxInt, []api.Attr{a, b, c}},
		{[]api.Attr{wrong, b}, 0, 1, []api.Attr{b, wrong}},
		{with(many(100), 100, a), 0, 100, with(many(100), 0, a)},
	} {
		if got := attr.Swap(k.l, k.i, k.k); !slices.Equal(got, k.want) {
			t.Errorf("Swap(%s, %d, %d): %s, want %s", told(k.l), k.i, k.k, told(got), told(k.want))
		}
	}
}

// P9.10

func TestLong(t *testing.T) {
	for _, c := range []struct {
		l    []api.Attr
		want int
	}{
		{nil, 0},
		{[]api.Attr{}, 0},
		{[]api.Attr{{}}, 2},
		{[]api.Attr{{Type: 1}}, 2},
		{[]api.Attr{{Type: 1, Value: "bob"}}, 5},
		{[]api.Attr{{Type: 1, Value: "\u00fc"}}, 4},
		{[]api.Attr{{Type: 1, Value: "bob"}, {Type: 1}, {Type: 2, Value: "x"}}, 10},
		{[]api.Attr{{Type: -1, Value: text(253)}}, 255},
		{[]api.Attr{{Type: 1, Value: text(254)}}, 256},
		{[]api.Attr{{Type: 1, Value: text(1000)}}, 1002},
		{many(64), 128},
		{many(65), 130},
		{slices.Repeat([]api.Attr{{Type: 1, Value: text(253)}}, 64), 16320},
	} {
		if got := attr.Long(c.l); got != c.want {
			t.Errorf("Long(%s): %d, want %d", told(c.l), got, c.want)
		}
	}
}

// P9.13

func TestLongOfWhatIsWritten(t *testing.T) {
	r := rand.New(rand.NewSource(3))
	for range 1000 {
		l := drawnList(r, 64)
		s, e := attr.Bytes(l)
		if e != api.OK || len(s) != attr.Long(l) {
			t.Errorf("Bytes(%s): %d bytes, %d; Long: %d", told(l), len(s), e, attr.Long(l))
		}
	}
}

// sorted answers the values in an order that places do not change.
func sorted(l []string) []string {
	slices.Sort(l)
	return l
}

func TestSwapSaysTheSame(t *testing.T) {
	r := rand.New(rand.NewSource(4))
	for range 200 {
		l := drawnList(r, 12)
		for i := range len(l) {
			for k := range len(l) {
				seeSwap(t, l, i, k)
			}
		}
	}
}

// seeSwap looks at each type, and, where other types' neighbours change places, at the order, too.
func seeSwap(t *testing.T, l []api.Attr, i, k int) {
	t.Helper()
	got := attr.Swap(l, i, k)
	if attr.Long(got) != attr.Long(l) {
		t.Errorf("Swap(%s, %d, %d): Long is %d, was %d", told(l), i, k, attr.Long(got), attr.Long(l))
	}
	if back := attr.Swap(got, i, k); !attr.Same(back, l) {
		t.Errorf("Swap(%s, %d, %d) twice: %s", told(l), i, k, told(back))
	}
	apart := (i-k == 1 || k-i == 1) && l[i].Type != l[k].Type
	for kind := range 7 {
		if !slices.Equal(sorted(attr.All(got, kind)), sorted(attr.All(l, kind))) || attr.Count(got, kind) != attr.Count(l, kind) {
			t.Errorf("Swap(%s, %d, %d): other values of type %d: %s", told(l), i, k, kind, told(got))
		}
		if apart && attr.Join(got, kind) != attr.Join(l, kind) {
			t.Errorf("Swap(%s, %d, %d): another order of type %d: %s", told(l), i, k, kind, told(got))
		}
	}
}

// P9.11

func seeBack(t *testing.T, l []api.Attr) {
	t.Helper()
	s, e := attr.Bytes(l)
	if e != api.OK {
		t.Errorf("Bytes(%s): %d", told(l), e)
		return
	}
	seeRead(t, s, l, api.OK)
}

func TestWrittenIsRead(t *testing.T) {
	seeBack(t, nil)
	seeBack(t, many(64))
	for kind := 1; kind <= 255; kind++ {
		seeBack(t, []api.Attr{{Type: kind, Value: "\x00"}, {Type: 256 - kind}, {Type: kind, Value: text(min(kind, 253))}})
	}
	r := rand.New(rand.NewSource(5))
	for range 1000 {
		seeBack(t, drawnList(r, 64))
	}
}

// seeForth writes what was read of s, if it could be read.
func seeForth(t *testing.T, s string) bool {
	t.Helper()
	l, e := attr.Read(s)
	if e != api.OK {
		if len(l) != 0 {
			t.Errorf("Read(%q): %s beside error %d", s, told(l), e)
		}
		return false
	}
	if got, e := attr.Bytes(l); got != s || e != api.OK {
		t.Errorf("what Read(%q) answers is written %q, %d", s, got, e)
	}
	return true
}

func TestReadIsWritten(t *testing.T) {
	r := rand.New(rand.NewSource(6))
	read := 0
	for range 20000 {
		s := []byte(drawnText(r, r.Intn(20)))
		for i := range s {
			s[i] %= 6 // small lengths, so that some can be read
		}
		if seeForth(t, string(s)) {
			read++
		}
	}
	if read < 500 {
		t.Errorf("just %d were read", read)
	}
}

// P9.12

func TestSplitIsJoined(t *testing.T) {
	r := rand.New(rand.NewSource(7))
	for _, long := range []int{0, 1, 2, 252, 253, 254, 505, 506, 507, 1024, 4096, 253*64 - 1, 253 * 64} {
		for range 5 {
			s := drawnText(r, long)
			kind := 1 + r.Intn(255)
			l, e := attr.Split(kind, s)
			if e != api.OK {
				t.Fatalf("Split(%d, ..) of %d bytes: %d", kind, long, e)
			}
			if got := attr.Join(l, kind); got != s {
				t.Errorf("Split(%d, ..) of %d bytes is joined to %d others", kind, long, len(got))
			}
			if got := attr.Join(between(r, l, kind), kind); got != s {
				t.Errorf("Split(%d, ..) of %d bytes, with others between, is joined to %d others", kind, long, len(got))
			}
		}
	}
}

// between answers l with attributes of other types, right ones and wrong ones, ahead of, between and behind those of kind.
func between(r *rand.Rand, l []api.Attr, kind int) []api.Attr {
	out := []api.Attr{{Type: kind + 1, Value: "ahead"}}
	for _, a := range l {
		out = append(out, a, api.Attr{Type: kind + 256, Value: "between"}, api.Attr{Type: kind - 1 - r.Intn(3), Value: text(r.Intn(300))})
	}
	return append(out, api.Attr{Type: -kind, Value: "behind"}, api.Attr{Type: kind - 1})
}

// R3: what is handed in stays as it was, behind its end too, and what is answered is new.

func TestListsAreNotChanged(t *testing.T) {
	room := []api.Attr{{Type: 1, Value: "a"}, {Type: 2, Value: "b"}, {Type: 1, Value: "c"}, {Type: 3, Value: "behind"}, {Type: 4, Value: "that"}}
	want := slices.Clone(room)
	l := room[:3]
	attr.Bytes(l)
	attr.Find(l, 1)
	attr.All(l, 1)
	attr.Join(l, 1)
	attr.Same(l, l)
	attr.Count(l, 1)
	attr.Long(l)
	for i := -1; i <= 4; i++ {
		for k := -1; k <= 4; k++ {
			out := attr.Swap(l, i, k)
			clear(out)
			_ = append(out, api.Attr{Type: 9}, api.Attr{Type: 9})
		}
	}
	if !slices.Equal(room, want) {
		t.Errorf("the list is changed: %s, want %s", told(room), told(want))
	}
}

func TestAnswersAreNew(t *testing.T) {
	const s = "\x01\x03a\x02\x03b"
	first, _ := attr.Read(s)
	clear(first)
	seeRead(t, s, []api.Attr{{Type: 1, Value: "a"}, {Type: 2, Value: "b"}}, api.OK)
	whole := []api.Attr{{Type: 1, Value: "a"}, {Type: 1, Value: "b"}}
	clear(attr.All(whole, 1))
	if got := attr.All(whole, 1); !slices.Equal(got, []string{"a", "b"}) {
		t.Errorf("All: %q", got)
	}
	split, _ := attr.Split(1, "a")
	clear(split)
	if again, _ := attr.Split(1, "a"); !slices.Equal(again, whole[:1]) {
		t.Errorf("Split: %s", told(again))
	}
}

// Whatever comes: nothing panics, and what could be read is written so.
func FuzzAttr(f *testing.F) {
	f.Add("", 1, 0, 0)
	f.Add("\x01\x02", 0, 0, 1)
	f.Add("\x01\x05bob\x02\x03x", 2, 1, 0)
	f.Add(strings.Repeat("\x07\x02", 65), 7, -1, 3)
	f.Add("\xff\xff"+text(253), 255, math.MinInt, math.MaxInt)
	f.Fuzz(func(t *testing.T, s string, kind, i, k int) {
		seeForth(t, s)
		l, e := attr.Split(kind, s)
		if (e == api.OK) != (kind >= 1 && kind <= 255 && len(s) <= 253*64) {
			t.Errorf("Split(%d, ..) of %d bytes: %d", kind, len(s), e)
		}
		if e == api.OK && attr.Join(l, kind) != s {
			t.Errorf("Split(%d, %q) is not joined again", kind, s)
		}
		if e == api.OK {
			seeBack(t, l)
		}
		read, _ := attr.Read(s)
		if got := attr.Swap(attr.Swap(read, i, k), k, i); !attr.Same(got, read) {
			t.Errorf("Swap(%s, %d, %d) twice: %s", told(read), i, k, told(got))
		}
	})
}
