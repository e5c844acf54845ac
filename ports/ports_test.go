package ports_test

import (
	"math"
	"math/rand"
	"slices"
	"strconv"
	"strings"
	"testing"

	"tipstaff/api"
	"tipstaff/ports"
)

// anyBits are bits that say nothing of ports, and none.
var anyBits = []int{0, 1 << 8, 1 << 9, 0xff00, 1 << 31, 1 << 32, 1 << 62, math.MaxInt &^ 255, math.MinInt, -256, -512, math.MinInt | 1<<40}

// noPorts are numbers that no port has.
var noPorts = []int{-1, -2, -7, -8, -9, -63, -64, -256, 8, 9, 15, 16, 31, 32, 63, 64, 65, 71, 255, 256, 1 << 32, 1<<32 + 3, -(1 << 32), math.MaxInt, math.MaxInt - 1, math.MinInt, math.MinInt + 1}

// wanted are the ports of a set, told anew.
func wanted(set int) []int {
	l := []int{}
	for p, bit := 0, 1; p < 8; p, bit = p+1, bit*2 {
		if set&bit != 0 {
			l = append(l, p)
		}
	}
	return l
}

// eachSet calls f with all sets, each with bits beside those of ports.
func eachSet(f func(set int)) {
	for _, more := range anyBits {
		for set := range 256 {
			f(more | set)
		}
	}
}

// text is what a set's Text is, told anew.
func text(set int) string {
	out := ""
	for _, p := range wanted(set) {
		out += strconv.Itoa(p)
	}
	if out == "" {
		return "-"
	}
	return out
}

// ranges is what a set's Ranges are, told anew: the ports are cut where one is not behind the other.
func ranges(set int) string {
	l := wanted(set)
	if len(l) == 0 {
		return "none"
	}
	items := []string{}
	for len(l) > 0 {
		n := 1
		for n < len(l) && l[n] == l[n-1]+1 {
			n++
		}
		item := strconv.Itoa(l[0])
		if n > 1 {
			item += "-" + strconv.Itoa(l[n-1])
		}
		items = append(items, item)
		l = l[n:]
	}
	return strings.Join(items, ",")
}

// eachText calls f with all texts of up to long runes of those given.
func eachText(runes []string, long int, f func(s string)) {
	f("")
	if long == 0 {
		return
	}
	for _, r := range runes {
		eachText(runes, long-1, func(s string) { f(r + s) })
	}
}

// written are all texts that write makes of sets, with the sets.
func written(write func(set int) string) map[string]int {
	all := map[string]int{}
	for set := range 256 {
		all[write(set)] = set
	}
	return all
}

// holds tells by a test whether read answers what is asked of s.
func holds(t *testing.T, what, s string, all map[string]int, read func(s string) (int, api.Errno)) {
	t.Helper()
	want, ok := all[s]
	got, e := read(s)
	switch {
	case ok && (got != want || e != api.OK):
		t.Fatalf("%s(%q): %d, %d, want %d, OK", what, s, got, e, want)
	case !ok && (got != 0 || e != api.ErrForm):
		t.Fatalf("%s(%q): %d, %d, want ErrForm", what, s, got, e)
	}
}

// P13.1

func TestHas(t *testing.T) {
	eachSet(func(set int) {
		l := wanted(set)
		for p := range 8 {
			if got := ports.Has(set, p); got != slices.Contains(l, p) {
				t.Fatalf("Has(%d, %d): %t", set, p, got)
			}
		}
		for _, p := range noPorts {
			if ports.Has(set, p) {
				t.Fatalf("Has(%d, %d): true, but there is no such port", set, p)
			}
		}
	})
}

func TestWith(t *testing.T) {
	for _, c := range []struct{ set, p, want int }{
		{0, 0, 1}, {0, 1, 2}, {0, 7, 128}, {1, 0, 1}, {3, 2, 7}, {127, 7, 255}, {255, 4, 255},
		{256, 0, 257}, {256, 8, 256}, {-1, 3, -1}, {-256, 0, -255}, {-256, 7, -128}, {math.MinInt, 1, math.MinInt + 2},
		{math.MaxInt, 5, math.MaxInt}, {math.MaxInt - 255, 0, math.MaxInt - 254}, {3, 8, 3}, {3, -1, 3}, {0, 64, 0},
	} {
		if got := ports.With(c.set, c.p); got != c.want {
			t.Errorf("With(%d, %d): %d, want %d", c.set, c.p, got, c.want)
		}
	}
}

func TestWithout(t *testing.T) {
	for _, c := range []struct{ set, p, want int }{
		{0, 0, 0}, {1, 0, 0}, {1, 1, 1}, {255, 7, 127}, {255, 0, 254}, {10, 3, 2}, {10, 2, 10},
		{256, 8, 256}, {257, 0, 256}, {511, 8, 511}, {-1, 3, -9}, {-1, 0, -2}, {-1, 7, -129}, {math.MinInt, 1, math.MinInt},
		{math.MaxInt, 5, math.MaxInt - 32}, {3, 8, 3}, {3, -1, 3}, {-1, 63, -1}, {1, 64, 1},
	} {
		if got := ports.Without(c.set, c.p); got != c.want {
			t.Errorf("Without(%d, %d): %d, want %d", c.set, c.p, got, c.want)
		}
	}
}

func TestWithAndWithoutChangeOnePortAlone(t *testing.T) {
	eachSet(func(set int) {
		for p := range 8 {
			with, without := ports.With(set, p), ports.Without(set, p)
			if !slices.Contains(wanted(with), p) || slices.Contains(wanted(without), p) || with-without != []int{1, 2, 4, 8, 16, 32, 64, 128}[p] {
				t.Fatalf("With, Without(%d, %d): %d, %d", set, p, with, without)
			}
			if with != set && without != set {
				t.Fatalf("With, Without(%d, %d): %d, %d: one of both is the set", set, p, with, without)
			}
		}
		for _, p := range noPorts {
			if with, without := ports.With(set, p), ports.Without(set, p); with != set || without != set {
				t.Fatalf("With, Without(%d, %d): %d, %d, want the set", set, p, with, without)
			}
		}
	})
}

// P13.2

func TestList(t *testing.T) {
	eachSet(func(set int) {
		if got := ports.List(set); !slices.Equal(got, wanted(set)) {
			t.Fatalf("List(%d): %v, want %v", set, got, wanted(set))
		}
	})
}

func TestCount(t *testing.T) {
	for _, c := range []struct{ set, want int }{
		{0, 0}, {1, 1}, {128, 1}, {10, 2}, {39, 4}, {254, 7}, {255, 8}, {256, 0}, {257, 1}, {511, 8},
		{-1, 8}, {-2, 7}, {-256, 0}, {math.MaxInt, 8}, {math.MinInt, 0}, {math.MinInt + 3, 2},
	} {
		if got := ports.Count(c.set); got != c.want {
			t.Errorf("Count(%d): %d, want %d", c.set, got, c.want)
		}
	}
	eachSet(func(set int) {
		if got := ports.Count(set); got != len(wanted(set)) {
			t.Fatalf("Count(%d): %d, want %d", set, got, len(wanted(set)))
		}
	})
}

// P13.3

func TestText(t *testing.T) {
	for _, c := range []struct {
		set  int
		want string
	}{
		{10, "13"}, {0, "-"}, {1, "0"}, {128, "7"}, {255, "01234567"}, {129, "07"}, {39, "0125"}, {-1, "01234567"}, {-2, "1234567"},
		{256, "-"}, {-256, "-"}, {math.MinInt, "-"}, {math.MaxInt, "01234567"}, {1 << 32, "-"}, {1<<32 + 4, "2"},
	} {
		if got := ports.Text(c.set); got != c.want {
			t.Errorf("Text(%d): %q, want %q", c.set, got, c.want)
		}
	}
	eachSet(func(set int) {
		if got := ports.Text(set); got != text(set) {
			t.Fatalf("Text(%d): %q, want %q", set, got, text(set))
		}
	})
}

// P13.4

func TestParse(t *testing.T) {
	for _, c := range []struct {
		s    string
		want int
		e    api.Errno
	}{
		{"-", 0, api.OK},
		{"0", 1, api.OK},
		{"7", 128, api.OK},
		{"13", 10, api.OK},
		{"0125", 39, api.OK},
		{"01234567", 255, api.OK},
		{"", 0, api.ErrForm},
		{"--", 0, api.ErrForm},
		{"-0", 0, api.ErrForm},
		{"0-", 0, api.ErrForm},
		{"31", 0, api.ErrForm},
		{"11", 0, api.ErrForm},
		{"131", 0, api.ErrForm},
		{"8", 0, api.ErrForm},
		{"9", 0, api.ErrForm},
		{"18", 0, api.ErrForm},
		{"/", 0, api.ErrForm},
		{"012345678", 0, api.ErrForm},
		{"012345677", 0, api.ErrForm},
		{" ", 0, api.ErrForm},
		{" 1", 0, api.ErrForm},
		{"1 ", 0, api.ErrForm},
		{"1\n", 0, api.ErrForm},
		{"1,3", 0, api.ErrForm},
		{"1-3", 0, api.ErrForm},
		{"+1", 0, api.ErrForm},
		{"x", 0, api.ErrForm},
		{"1x", 0, api.ErrForm},
		{"1\x00", 0, api.ErrForm},
		{"\x00", 0, api.ErrForm},
		{"\x01", 0, api.ErrForm},
		{"1\xff", 0, api.ErrForm},
		{"\xc21", 0, api.ErrForm},
		{"none", 0, api.ErrForm},
		{"\u2212", 0, api.ErrForm},
		{"\ufffd", 0, api.ErrForm},
		{"\u0661", 0, api.ErrForm},
		{"\uff11", 0, api.ErrForm},
		{"\u0130", 0, api.ErrForm},
		{"\U00010031", 0, api.ErrForm},
		{strings.Repeat("0", 100000), 0, api.ErrForm},
		{strings.Repeat("-", 100000), 0, api.ErrForm},
		{"01234567" + strings.Repeat(" ", 100000), 0, api.ErrForm},
	} {
		if got, e := ports.Parse(c.s); got != c.want || e != c.e {
			t.Errorf("Parse(%.40q): %d, %d, want %d, %d", c.s, got, e, c.want, c.e)
		}
	}
}

func TestParseOfAllShortTexts(t *testing.T) {
	all := written(text)
	if len(all) != 256 {
		t.Fatalf("%d texts", len(all))
	}
	eachText(strings.Split("0 1 2 3 4 5 6 7 8 9 - , x \xff", " "), 4, func(s string) { holds(t, "Parse", s, all, ports.Parse) })
}

func TestParseOfWhatIsNearlyAText(t *testing.T) {
	nearly(written(text), func(s string, all map[string]int) { holds(t, "Parse", s, all, ports.Parse) })
}

// nearly calls f with each text of all, and with each of them with one byte in another's place, one taken out, or one put in.
func nearly(all map[string]int, f func(s string, all map[string]int)) {
	for s := range all {
		f(s, all)
		for at := range len(s) + 1 {
			for _, more := range strings.Split("0 1 2 3 4 5 6 7 8 9 - , n x / : \x00 \x80 \xff", " ") {
				f(s[:at]+more+s[at:], all)
				if at < len(s) {
					f(s[:at]+more+s[at+1:], all)
				}
			}
			if at < len(s) {
				f(s[:at]+s[at+1:], all)
			}
		}
		f(s+s, all)
		f(" "+s, all)
		f(s+" ", all)
	}
}

// P13.5

func TestRanges(t *testing.T) {
	for _, c := range []struct {
		set  int
		want string
	}{
		{0, "none"}, {1, "0"}, {128, "7"}, {3, "0-1"}, {192, "6-7"}, {7, "0-2"}, {39, "0-2,5"}, {255, "0-7"}, {129, "0,7"},
		{85, "0,2,4,6"}, {170, "1,3,5,7"}, {219, "0-1,3-4,6-7"}, {254, "1-7"}, {127, "0-6"}, {126, "1-6"}, {10, "1,3"}, {183, "0-2,4-5,7"},
		{256, "none"}, {384, "7"}, {257, "0"}, {-1, "0-7"}, {-2, "1-7"}, {-256, "none"}, {-128, "7"}, {math.MaxInt, "0-7"}, {math.MinInt, "none"},
	} {
		if got := ports.Ranges(c.set); got != c.want {
			t.Errorf("Ranges(%d): %q, want %q", c.set, got, c.want)
		}
	}
	eachSet(func(set int) {
		if got := ports.Ranges(set); got != ranges(set) {
			t.Fatalf("Ranges(%d): %q, want %q", set, got, ranges(set))
		}
	})
}

// P13.6

func TestParseRanges(t *testing.T) {
	for _, c := range []struct {
		s    string
		want int
		e    api.Errno
	}{
		{"none", 0, api.OK},
		{"0", 1, api.OK},
		{"7", 128, api.OK},
		{"0-1", 3, api.OK},
		{"0-7", 255, api.OK},
		{"0-2,5", 39, api.OK},
		{"1,3", 10, api.OK},
		{"0-1,3-4,6-7", 219, api.OK},
		{"0,2,4,6", 85, api.OK},
		{"0,7", 129, api.OK},
		{"", 0, api.ErrForm},
		{"-", 0, api.ErrForm},
		{",", 0, api.ErrForm},
		{"None", 0, api.ErrForm},
		{"non", 0, api.ErrForm},
		{"none,0", 0, api.ErrForm},
		{"0,none", 0, api.ErrForm},
		{"nonenone", 0, api.ErrForm},
		{"nothing", 0, api.ErrForm},
		{"0,1", 0, api.ErrForm},
		{"0-1,2", 0, api.ErrForm},
		{"0,1-2", 0, api.ErrForm},
		{"0-1,2-3", 0, api.ErrForm},
		{"0-2,1-3", 0, api.ErrForm},
		{"0-1-2", 0, api.ErrForm},
		{"0-0", 0, api.ErrForm},
		{"1-0", 0, api.ErrForm},
		{"7-0", 0, api.ErrForm},
		{"5,0-2", 0, api.ErrForm},
		{"3,1", 0, api.ErrForm},
		{"0,0", 0, api.ErrForm},
		{"0-2,0", 0, api.ErrForm},
		{"0-", 0, api.ErrForm},
		{"0-2-", 0, api.ErrForm},
		{"-2", 0, api.ErrForm},
		{"0--2", 0, api.ErrForm},
		{"0-,2", 0, api.ErrForm},
		{"0,-2", 0, api.ErrForm},
		{"0,", 0, api.ErrForm},
		{",0", 0, api.ErrForm},
		{"0,,2", 0, api.ErrForm},
		{"0-2,", 0, api.ErrForm},
		{"02", 0, api.ErrForm},
		{"0125", 0, api.ErrForm},
		{"00", 0, api.ErrForm},
		{"0-8", 0, api.ErrForm},
		{"0-9", 0, api.ErrForm},
		{"8", 0, api.ErrForm},
		{"6-8", 0, api.ErrForm},
		{"0, 2", 0, api.ErrForm},
		{" 0", 0, api.ErrForm},
		{"0 ", 0, api.ErrForm},
		{"0 - 2", 0, api.ErrForm},
		{"0\u20112", 0, api.ErrForm},
		{"0\u20132", 0, api.ErrForm},
		{"0-2\xff", 0, api.ErrForm},
		{"\xff0-2", 0, api.ErrForm},
		{"0-2\x00", 0, api.ErrForm},
		{"0-\u0662", 0, api.ErrForm},
		{"0;2", 0, api.ErrForm},
		{strings.Repeat("0-7,", 100000) + "0-7", 0, api.ErrForm},
		{strings.Repeat("-", 100000), 0, api.ErrForm},
		{strings.Repeat("none", 100000), 0, api.ErrForm},
	} {
		if got, e := ports.ParseRanges(c.s); got != c.want || e != c.e {
			t.Errorf("ParseRanges(%.40q): %d, %d, want %d, %d", c.s, got, e, c.want, c.e)
		}
	}
}

func TestParseRangesOfAllShortTexts(t *testing.T) {
	all := written(ranges)
	if len(all) != 256 {
		t.Fatalf("%d texts", len(all))
	}
	eachText(strings.Split("0 1 2 5 6 7 8 - , n \xff", " "), 5, func(s string) { holds(t, "ParseRanges", s, all, ports.ParseRanges) })
	eachText(strings.Split("1 2 3 - ,", " "), 8, func(s string) { holds(t, "ParseRanges", s, all, ports.ParseRanges) })
}

func TestParseRangesOfWhatIsNearlyAText(t *testing.T) {
	nearly(written(ranges), func(s string, all map[string]int) { holds(t, "ParseRanges", s, all, ports.ParseRanges) })
}

// P13.7

func TestNext(t *testing.T) {
	for _, c := range []struct{ set, p, want int }{
		{39, 5, 0}, {4, 2, 2}, {0, 1, -1}, {39, 0, 1}, {39, 1, 2}, {39, 2, 5}, {39, 3, 5}, {39, 4, 5}, {39, 6, 0}, {39, 7, 0},
		{39, 8, 1}, {39, 13, 0}, {39, -1, 0}, {39, -3, 0}, {39, -4, 5}, {39, -8, 1}, {39, -6, 5}, {39, -7, 2},
		{255, 7, 0}, {255, 6, 7}, {255, 0, 1}, {1, 0, 0}, {1, 7, 0}, {1, 1, 0}, {128, 7, 7}, {128, 0, 7}, {128, 6, 7},
		{255, math.MaxInt, 0}, {255, math.MinInt, 1}, {255, math.MaxInt - 1, 7}, {255, math.MinInt + 1, 2}, {4, math.MaxInt, 2}, {4, math.MinInt, 2},
		{256, 0, -1}, {256, 7, -1}, {-256, 7, -1}, {math.MinInt, 3, -1}, {-1, 3, 4}, {-1, 7, 0}, {256 + 1, 7, 0}, {256 + 4, 2, 2},
	} {
		if got := ports.Next(c.set, c.p); got != c.want {
			t.Errorf("Next(%d, %d): %d, want %d", c.set, c.p, got, c.want)
		}
	}
}

func TestNextOfEachSet(t *testing.T) {
	eachSet(func(set int) {
		for p := -40; p <= 40; p++ {
			// told anew: the first of those above p modulo 8, else the first of all
			l, from, want := wanted(set), ((p%8)+8)%8, -1
			if len(l) > 0 {
				want = l[0]
			}
			if at := slices.IndexFunc(l, func(q int) bool { return q > from }); at >= 0 {
				want = l[at]
			}
			if got := ports.Next(set, p); got != want {
				t.Fatalf("Next(%d, %d): %d, want %d", set, p, got, want)
			}
		}
	})
}

func TestNextGoesRoundAll(t *testing.T) {
	eachSet(func(set int) {
		l := wanted(set)
		met, at := []int{}, 7
		for range l {
			at = ports.Next(set, at)
			met = append(met, at)
		}
		if !slices.Equal(met, l) || len(l) > 0 && ports.Next(set, at) != l[0] {
			t.Fatalf("Next of %d goes by %v, want %v", set, met, l)
		}
	})
}

// P13.9

func TestRangesAreReadBack(t *testing.T) {
	eachSet(func(set int) {
		s := ports.Ranges(set)
		back, e := ports.ParseRanges(s)
		if back != set&255 || e != api.OK || ports.Ranges(back) != s {
			t.Fatalf("ParseRanges(%q): %d, %d, want %d", s, back, e, set&255)
		}
	})
}

// P13.8

func TestTextsAreReadBack(t *testing.T) {
	eachSet(func(set int) {
		s := ports.Text(set)
		back, e := ports.Parse(s)
		if back != set&255 || e != api.OK || ports.Text(back) != s {
			t.Fatalf("Parse(%q): %d, %d, want %d", s, back, e, set&255)
		}
	})
}

func TestWhatIsReadIsWrittenSo(t *testing.T) {
	r := rand.New(rand.NewSource(1))
	for range 100000 {
		s := drawnText(r)
		if set, e := ports.Parse(s); e == api.OK && ports.Text(set) != s {
			t.Fatalf("Parse(%q): %d, whose Text is %q", s, set, ports.Text(set))
		}
		if set, e := ports.ParseRanges(s); e == api.OK && ports.Ranges(set) != s {
			t.Fatalf("ParseRanges(%q): %d, whose Ranges is %q", s, set, ports.Ranges(set))
		}
	}
}

func drawnText(r *rand.Rand) string {
	out := make([]byte, r.Intn(12))
	for i := range out {
		out[i] = "0123456789-,none"[r.Intn(16)]
	}
	return string(out)
}

// R3

func TestListsShareNoMemory(t *testing.T) {
	one, two := ports.List(255), ports.List(255)
	for i := range one {
		one[i] = 9
	}
	if !slices.Equal(two, wanted(255)) || !slices.Equal(ports.List(255), wanted(255)) {
		t.Errorf("List(255), when another of its answers was changed: %v, %v", two, ports.List(255))
	}
	_ = append(ports.List(1), 9)
	if got := ports.List(3); !slices.Equal(got, []int{0, 1}) {
		t.Errorf("List(3): %v", got)
	}
}

func FuzzPorts(f *testing.F) {
	f.Add("01234567", 255, 7)
	f.Add("-", 0, -1)
	f.Add("none", math.MinInt, 8)
	f.Add("0-2,5", 39, math.MinInt)
	f.Add("0,1\xff", -1, math.MaxInt)
	texts, asRanges := written(text), written(ranges)
	f.Fuzz(func(t *testing.T, s string, set, p int) {
		holds(t, "Parse", s, texts, ports.Parse)
		holds(t, "ParseRanges", s, asRanges, ports.ParseRanges)
		holds(t, "Parse", ports.Text(set), texts, ports.Parse)
		holds(t, "ParseRanges", ports.Ranges(set), asRanges, ports.ParseRanges)
		with, without := ports.With(set, p), ports.Without(set, p)
		has := slices.Contains(wanted(set), p)
		if ports.Has(set, p) != has || has && with != set || !has && without != set {
			t.Fatalf("Has, With, Without(%d, %d): %t, %d, %d", set, p, ports.Has(set, p), with, without)
		}
		if ports.Has(with, p) != (p >= 0 && p < 8) || ports.Has(without, p) {
			t.Fatalf("With, Without(%d, %d): %d, %d", set, p, with, without)
		}
		next := ports.Next(set, p)
		if next == -1 && len(wanted(set)) > 0 || next != -1 && !slices.Contains(wanted(set), next) {
			t.Fatalf("Next(%d, %d): %d", set, p, next)
		}
	})
}
