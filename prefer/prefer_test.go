package prefer_test

import (
	"fmt"
	"math"
	"math/big"
	"math/rand"
	"slices"
	"strings"
	"testing"

	"tipstaff/api"
	"tipstaff/prefer"
)

const (
	mostCost = 1<<32 - 1
	mostU    = math.MaxUint64
)

// told answers what v is, no longer than is of use.
func told(v any) string { return fmt.Sprintf("%.600s", fmt.Sprintf("%#v", v)) }

// vec answers a vector, from its fields in their order.
func vec(root, cost, bridge uint64, port int) api.Vector {
	return api.Vector{Root: root, Cost: cost, Bridge: bridge, Port: port}
}

// few answers all vectors whose fields are 0, 1 or 2.
func few() []api.Vector {
	l := []api.Vector{}
	for n := range 81 {
		l = append(l, vec(uint64(n/27), uint64(n/9%3), uint64(n/3%3), n%3))
	}
	return l
}

// better is Better, told anew.
func better(a, b api.Vector) bool {
	if a.Root != b.Root {
		return a.Root < b.Root
	}
	if a.Cost != b.Cost {
		return a.Cost < b.Cost
	}
	if a.Bridge != b.Bridge {
		return a.Bridge < b.Bridge
	}
	return a.Port < b.Port
}

// least is Least, told anew.
func least(l []api.Vector) int {
	for i, v := range l {
		if !slices.ContainsFunc(l, func(w api.Vector) bool { return better(w, v) }) {
			return i
		}
	}
	return -1
}

// sorted is Sorted, told anew: the least one of what is left comes next.
func sorted(l []api.Vector) []api.Vector {
	left, out := slices.Clone(l), []api.Vector{}
	for len(left) > 0 {
		i := least(left)
		out = append(out, left[i])
		left = slices.Delete(left, i, i+1)
	}
	return out
}

// drawn answers a vector whose fields are often those of another one.
func drawn(r *rand.Rand) api.Vector {
	some := []uint64{0, 1, 2, 1 << 31, mostCost, 1 << 32, 1 << 63, 1<<63 - 1, mostU}
	one := func() uint64 { return some[r.Intn(len(some))] }
	p := []int{0, 1, 2, 8, 256, -1, math.MaxInt, math.MinInt}
	return vec(one(), one(), one(), p[r.Intn(len(p))])
}

// drawnList answers some vectors, of which some may be the same.
func drawnList(r *rand.Rand) []api.Vector {
	l, from := []api.Vector{}, few()
	for range r.Intn(12) {
		switch {
		case r.Intn(3) == 0 && len(l) > 0:
			l = append(l, l[r.Intn(len(l))])
		case r.Intn(2) == 0:
			l = append(l, from[r.Intn(len(from))])
		default:
			l = append(l, drawn(r))
		}
	}
	return l
}

// P17.1

func TestBetter(t *testing.T) {
	for _, c := range []struct {
		name string
		a, b api.Vector // a is better
	}{
		{"the chapter's example", vec(1, mostCost, 0, 0), vec(2, 0, 0, 0)},
		{"a root, all else being worse", vec(1, 9, 9, 9), vec(2, 0, 0, 0)},
		{"a cost, all else being worse", vec(1, 1, 9, 9), vec(1, 2, 0, 0)},
		{"a bridge, the port being worse", vec(1, 1, 1, 9), vec(1, 1, 2, 0)},
		{"a port", vec(1, 1, 1, 1), vec(1, 1, 1, 2)},
		{"a root alone", vec(1, 5, 5, 5), vec(2, 5, 5, 5)},
		{"a cost alone", vec(5, 1, 5, 5), vec(5, 2, 5, 5)},
		{"a bridge alone", vec(5, 5, 1, 5), vec(5, 5, 2, 5)},
		{"nothing at all", vec(0, 0, 0, 0), vec(0, 0, 0, 1)},
		{"a root of the highest bit", vec(1, 0, 0, 0), vec(1<<63, 0, 0, 0)},
		{"roots of the highest bit", vec(mostU-1, mostU, 0, 0), vec(mostU, 0, 0, 0)},
		{"a root that differs above 32 bits", vec(5, 0, 0, 0), vec(1<<32, 0, 0, 0)},
		{"a cost of the highest bit", vec(1, 1, 9, 0), vec(1, 1<<63, 0, 0)},
		{"costs at the end", vec(1, mostCost-1, 9, 9), vec(1, mostCost, 0, 0)},
		{"a bridge of the highest bit", vec(1, 1, 1, 9), vec(1, 1, 1<<63, 0)},
		{"bridges of a priority", vec(1, 1, 0x8000020000000001, 9), vec(1, 1, 0x9000020000000000, 0)},
		{"a port below 0", vec(1, 1, 1, -1), vec(1, 1, 1, 0)},
		{"ports at the ends of int", vec(1, 1, 1, math.MinInt), vec(1, 1, 1, math.MaxInt)},
	} {
		if !prefer.Better(c.a, c.b) || prefer.Better(c.b, c.a) {
			t.Errorf("%s: %s and %s: %t, %t", c.name, told(c.a), told(c.b), prefer.Better(c.a, c.b), prefer.Better(c.b, c.a))
		}
		if prefer.Better(c.a, c.a) || prefer.Better(c.b, c.b) {
			t.Errorf("%s: one is better than itself", c.name)
		}
	}
}

func TestBetterOfFew(t *testing.T) {
	for _, a := range few() {
		for _, b := range few() {
			if got, want := prefer.Better(a, b), better(a, b); got != want {
				t.Fatalf("Better(%s, %s): %t", told(a), told(b), got)
			}
		}
	}
}

// P17.2

func TestLeast(t *testing.T) {
	one, two, three := vec(1, 9, 9, 9), vec(2, 0, 0, 0), vec(2, 0, 0, 1)
	for _, c := range []struct {
		name string
		l    []api.Vector
		want int
	}{
		{"nil", nil, -1},
		{"of nothing", []api.Vector{}, -1},
		{"one", []api.Vector{three}, 0},
		{"of zeros", []api.Vector{{}}, 0},
		{"the first", []api.Vector{one, two, three}, 0},
		{"in the midst", []api.Vector{two, one, three}, 1},
		{"the last", []api.Vector{three, two, one}, 2},
		{"two that are the same", []api.Vector{two, two}, 0},
		{"two that are the same, behind another", []api.Vector{three, one, two, one, one}, 1},
		{"by the port alone", []api.Vector{three, two, three}, 1},
	} {
		if got := prefer.Least(c.l); got != c.want {
			t.Errorf("%s: %d, want %d", c.name, got, c.want)
		}
	}
	r := rand.New(rand.NewSource(172))
	for range 20000 {
		l := drawnList(r)
		if got, want := prefer.Least(l), least(l); got != want {
			t.Fatalf("Least(%s): %d, want %d", told(l), got, want)
		}
	}
}

// P17.3

func TestOwn(t *testing.T) {
	for _, id := range []uint64{0, 1, 0x8000020000000001, 1 << 32, 1 << 63, mostU} {
		if got, want := prefer.Own(id), vec(id, 0, id, 0); got != want {
			t.Errorf("Own(%d): %s", id, told(got))
		}
	}
}

// P17.4

func TestVia(t *testing.T) {
	for _, c := range []struct {
		name             string
		had, cost, wants uint64
	}{
		{"nothing to nothing", 0, 0, 0},
		{"nothing", 7, 0, 7},
		{"something to nothing", 0, 200000, 200000},
		{"both", 20000, 200000, 220000},
		{"just within", mostCost - 1, 1, mostCost},
		{"one over", mostCost - 1, 2, mostCost},
		{"the most, and none", mostCost, 0, mostCost},
		{"none, and the most", 0, mostCost, mostCost},
		{"the most, and one", mostCost, 1, mostCost},
		{"the most, twice", mostCost, mostCost, mostCost},
		{"the halves", 1 << 31, 1<<31 - 1, mostCost},
		{"the halves, and one", 1 << 31, 1 << 31, mostCost},
		{"a cost above all", 5, 1 << 32, mostCost},
		{"a cost that would go round 32 bits", 5, 1<<32 + 1, mostCost},
		{"a cost that would go round 64 bits", 5, mostU, mostCost},
		{"a cost that would go round 64 bits to 0", 1, mostU, mostCost},
		{"halves that would go round 64 bits", 1 << 63, 1 << 63, mostCost},
		{"more than there is, and none", 1 << 32, 0, mostCost},
		{"more than there is", mostU, mostU, mostCost},
	} {
		if got, want := prefer.Via(vec(3, c.had, 4, 5), c.cost), vec(3, c.wants, 4, 5); got != want {
			t.Errorf("%s: %s, want %s", c.name, told(got), told(want))
		}
	}
	r := rand.New(rand.NewSource(174))
	for range 20000 {
		v, cost := drawn(r), drawn(r).Cost
		if r.Intn(2) == 0 {
			v.Cost, cost = r.Uint64()>>r.Intn(64), r.Uint64()>>r.Intn(64)
		}
		sum := new(big.Int).Add(new(big.Int).SetUint64(v.Cost), new(big.Int).SetUint64(cost))
		want := v
		want.Cost = mostCost
		if sum.Cmp(big.NewInt(mostCost)) < 0 {
			want.Cost = sum.Uint64()
		}
		if got := prefer.Via(v, cost); got != want {
			t.Fatalf("Via(%s, %d): %s", told(v), cost, told(got))
		}
	}
}

// P17.5

func TestDesignated(t *testing.T) {
	for _, c := range []struct {
		root api.Vector
		id   uint64
		port int
	}{
		{vec(1, 20000, 2, 3), 4, 5},
		{vec(0, 0, 0, 0), 0, 0},
		{vec(1, mostCost, 2, 3), mostU, 8},
		{vec(mostU, 1<<40, mostU, -1), 1 << 63, -1},
		{vec(1, 0, 1, 0), 1, math.MaxInt},
		{vec(1, 0, 1, 7), 1, math.MinInt},
	} {
		if got, want := prefer.Designated(c.root, c.id, c.port), vec(c.root.Root, c.root.Cost, c.id, c.port); got != want {
			t.Errorf("Designated(%s, %d, %d): %s", told(c.root), c.id, c.port, told(got))
		}
	}
}

// P17.6

func TestOlder(t *testing.T) {
	for age, want := range map[int]int{
		0: 1, 1: 2, 19: 20, 20: 21, 253: 254, 254: 255, // also where it is its MaxAge
		255: 255, 256: 256, 1000: 1000, math.MaxInt: math.MaxInt,
		-1: 0, -2: -1, math.MinInt: math.MinInt + 1,
	} {
		for _, x := range []api.Times{{MaxAge: 20, Hello: 2, Delay: 15}, {}, {MaxAge: -1, Hello: math.MaxInt, Delay: math.MinInt}} {
			was, is := x, x
			was.Age, is.Age = age, want
			if got := prefer.Older(was); got != is {
				t.Errorf("Older(%s): %s", told(was), told(got))
			}
		}
	}
}

// P17.7

func TestSorted(t *testing.T) {
	a, b, c, d, e := vec(1, 9, 9, 9), vec(2, 0, 9, 9), vec(2, 1, 0, 9), vec(2, 1, 1, 0), vec(2, 1, 1, 1)
	for _, x := range []struct {
		name    string
		l, want []api.Vector
	}{
		{"nil", nil, nil},
		{"nothing", []api.Vector{}, nil},
		{"one", []api.Vector{c}, []api.Vector{c}},
		{"two", []api.Vector{e, d}, []api.Vector{d, e}},
		{"as they stand", []api.Vector{a, b, c, d, e}, []api.Vector{a, b, c, d, e}},
		{"the other way round", []api.Vector{e, d, c, b, a}, []api.Vector{a, b, c, d, e}},
		{"mixed", []api.Vector{c, e, a, d, b}, []api.Vector{a, b, c, d, e}},
		{"with some twice", []api.Vector{c, a, e, c, a, a}, []api.Vector{a, a, a, c, c, e}},
		{"the same alone", []api.Vector{d, d, d}, []api.Vector{d, d, d}},
		{"of the highest bit", []api.Vector{vec(mostU, 0, 0, 0), vec(1, 0, 0, 0), vec(1<<63, 0, 0, 0), vec(1, 0, 0, -1)}, []api.Vector{vec(1, 0, 0, -1), vec(1, 0, 0, 0), vec(1<<63, 0, 0, 0), vec(mostU, 0, 0, 0)}},
	} {
		if got := prefer.Sorted(x.l); !slices.Equal(got, x.want) {
			t.Errorf("%s: %s, want %s", x.name, told(got), told(x.want))
		}
	}
}

func TestSortedOfMany(t *testing.T) {
	r := rand.New(rand.NewSource(177))
	want := few()
	for range 300 {
		l := few()
		r.Shuffle(len(l), func(i, j int) { l[i], l[j] = l[j], l[i] })
		if got := prefer.Sorted(l); !slices.Equal(got, want) {
			t.Fatalf("Sorted(%s): %s", told(l), told(got))
		}
	}
	for range 20000 {
		l := drawnList(r)
		if got, want := prefer.Sorted(l), sorted(l); !slices.Equal(got, want) {
			t.Fatalf("Sorted(%s): %s, want %s", told(l), told(got), told(want))
		}
	}
}

// P17.8

func TestText(t *testing.T) {
	for want, v := range map[string]api.Vector{
		"0/0/0/0":            {},
		"1/2/3/4":            vec(1, 2, 3, 4),
		"3/4294967294/4/1":   vec(3, 1<<32-2, 4, 1),
		"10/200000/100/65":   vec(10, 200000, 100, 65),
		"255/4096/65535/256": vec(255, 4096, 65535, 256),
		"9223372036854775808/0/9223372039002259457/8":                                        vec(1<<63, 0, 1<<63+1<<31+1, 8),
		"18446744073709551615/18446744073709551615/18446744073709551615/9223372036854775807": vec(mostU, mostU, mostU, math.MaxInt),
	} {
		if got := prefer.Text(v); got != want {
			t.Errorf("Text(%s): %q, want %q", told(v), got, want)
		}
	}
	for _, port := range []int{-1, -2, -65536, math.MinInt} {
		if got := prefer.Text(vec(1, 2, 3, port)); got != "1/2/3/0" {
			t.Errorf("of port %d: %q", port, got)
		}
	}
	r := rand.New(rand.NewSource(178))
	for range 5000 {
		v := drawn(r)
		if got, want := prefer.Text(v), strings.Join([]string{fmt.Sprint(v.Root), fmt.Sprint(v.Cost), fmt.Sprint(v.Bridge), fmt.Sprint(max(v.Port, 0))}, "/"); got != want {
			t.Fatalf("Text(%s): %q", told(v), got)
		}
	}
}

// P17.9

func TestHops(t *testing.T) {
	for _, c := range []struct{ maxAge, age, want int }{
		{6, 2, 3}, {6, 5, 0}, {6, 4, 1}, {6, 6, 0}, {6, 7, 0}, {6, 0, 5}, {6, math.MaxInt, 0},
		{20, 0, 19}, {20, 18, 1}, {20, 19, 0}, {40, 1, 38},
		{0, 0, 0}, {0, -1, 0}, {0, -2, 0}, {0, math.MinInt, 0}, {-1, 0, 0}, {-1, -9, 0}, {math.MinInt, 0, 0}, {math.MinInt, math.MinInt, 0}, {math.MinInt, math.MaxInt, 0},
		{1, 0, 0}, {1, 1, 0}, {1, -1, 0}, {2, 0, 1}, {2, 1, 0}, {2, -1, 1},
		{6, -1, 5}, {6, -300, 5}, {6, math.MinInt, 5}, // an age below 0 is as 0
		{255, 0, 254}, {255, 253, 1}, {255, 254, 0}, {255, 255, 0}, {254, 0, 253}, {254, 252, 1},
		{256, 0, 254}, {256, 254, 0}, {256, 253, 1}, {256, 255, 0}, // a MaxAge above 255 is as 255
		{300, 10, 244}, {300, 253, 1}, {300, 254, 0}, {300, 255, 0}, {300, 260, 0}, {300, 298, 0}, {300, 299, 0}, {300, -1, 254},
		{math.MaxInt, 0, 254}, {math.MaxInt, 253, 1}, {math.MaxInt, 1000, 0}, {math.MaxInt, math.MaxInt - 2, 0}, {math.MaxInt, math.MaxInt, 0}, {math.MaxInt, math.MinInt, 254},
	} {
		for _, rest := range []int{0, 2, -1, math.MaxInt} { // Hello and Delay say nothing here
			if got := prefer.Hops(api.Times{Age: c.age, MaxAge: c.maxAge, Hello: rest, Delay: rest}); got != c.want {
				t.Errorf("of MaxAge %d and Age %d: %d, want %d", c.maxAge, c.age, got, c.want)
			}
		}
	}
}

func TestHopsAreAsManyAsItGoes(t *testing.T) {
	for maxAge := range 256 {
		for age := range 256 {
			x := api.Times{Age: age, MaxAge: maxAge}
			want := 0
			for y := x; y.Age < y.MaxAge-1; y = prefer.Older(y) {
				want++
			}
			if got := prefer.Hops(x); got != want {
				t.Fatalf("of MaxAge %d and Age %d: %d, want %d", maxAge, age, got, want)
			}
		}
	}
}

// P17.10

func TestJustOneIsBetter(t *testing.T) {
	l, r := few(), rand.New(rand.NewSource(1710))
	for range 60 {
		l = append(l, drawn(r))
	}
	for _, a := range l {
		for _, b := range l {
			if one, other := prefer.Better(a, b), prefer.Better(b, a); (one != other) != (a != b) || one && other {
				t.Fatalf("%s and %s: %t, %t", told(a), told(b), one, other)
			}
		}
	}
}

func TestBetterThanWhatIsBetter(t *testing.T) {
	l, r := few(), rand.New(rand.NewSource(1711))
	for range 40 {
		l = append(l, drawn(r))
	}
	for _, a := range l {
		for _, b := range l {
			if !prefer.Better(a, b) {
				continue
			}
			for _, c := range l {
				if prefer.Better(b, c) && !prefer.Better(a, c) {
					t.Fatalf("%s, %s, %s", told(a), told(b), told(c))
				}
			}
		}
	}
}

// P17.11

func TestAWayOnIsNotBetter(t *testing.T) {
	r := rand.New(rand.NewSource(1712))
	worse := 0
	for range 20000 {
		v, cost := drawn(r), drawn(r).Cost
		v.Cost = min(v.Cost>>r.Intn(40), mostCost) // costs are that at most
		on := prefer.Via(v, cost)
		if prefer.Better(on, v) {
			t.Fatalf("%s at %d more: %s", told(v), cost, told(on))
		}
		if prefer.Better(v, on) {
			worse++
		}
		if (on == v) != (cost == 0 || v.Cost == mostCost) {
			t.Fatalf("%s at %d more: %s", told(v), cost, told(on))
		}
	}
	if worse < 1000 {
		t.Errorf("only %d were worse", worse)
	}
}

// P17.12

func TestWhatIsSorted(t *testing.T) {
	r := rand.New(rand.NewSource(1713))
	for range 20000 {
		l := drawnList(r)
		got := prefer.Sorted(l)
		if len(got) != len(l) || len(l) > 0 && got[0] != l[prefer.Least(l)] {
			t.Fatalf("Sorted(%s): %s", told(l), told(got))
		}
		count := map[api.Vector]int{}
		for i := range l {
			count[l[i]]++
			count[got[i]]--
			if i > 0 && prefer.Better(got[i], got[i-1]) {
				t.Fatalf("Sorted(%s): %s", told(l), told(got))
			}
		}
		for v, n := range count {
			if n != 0 {
				t.Fatalf("Sorted(%s): %s as often, and %d", told(l), told(v), -n)
			}
		}
	}
}

// R3

func TestMemory(t *testing.T) {
	room := []api.Vector{vec(5, 0, 0, 0), vec(3, 0, 0, 0), vec(4, 0, 0, 0), vec(2, 0, 0, 0), vec(1, 0, 0, 0)}
	was := slices.Clone(room)
	for n := range len(room) + 1 {
		l := room[:n] // what lies behind it is not its own
		got := prefer.Sorted(l)
		prefer.Least(l)
		again := prefer.Sorted(l)
		want := slices.Clone(again)
		for i := range got {
			got[i] = vec(9, 9, 9, 9)
		}
		_ = append(got, vec(8, 8, 8, 8))
		if !slices.Equal(room, was) {
			t.Fatalf("of %d: handed in: %s", n, told(room))
		}
		if !slices.Equal(again, want) {
			t.Fatalf("of %d: one answer is changed with another: %s", n, told(again))
		}
	}
}

// R1

func FuzzPrefer(f *testing.F) {
	f.Add(int64(1), uint64(0), uint64(0), 0, 0)
	f.Add(int64(2), uint64(mostCost), uint64(1), 20, 19)
	f.Add(int64(3), uint64(mostU), uint64(mostU), math.MinInt, math.MinInt)
	f.Add(int64(4), uint64(1), uint64(mostU), math.MaxInt, math.MaxInt)
	f.Fuzz(func(t *testing.T, seed int64, cost, more uint64, maxAge, age int) {
		l := drawnList(rand.New(rand.NewSource(seed)))
		v := prefer.Via(prefer.Designated(prefer.Own(cost), more, age), more)
		l = append(l, v, prefer.Via(vec(1, cost, 2, age), more))
		if got, want := prefer.Sorted(l), sorted(l); !slices.Equal(got, want) {
			t.Fatalf("Sorted(%s): %s", told(l), told(got))
		}
		if got, want := prefer.Least(l), least(l); got != want {
			t.Fatalf("Least(%s): %d", told(l), got)
		}
		for _, w := range l {
			if prefer.Better(v, w) != better(v, w) || prefer.Via(w, more).Cost > mostCost {
				t.Fatalf("%s and %s", told(v), told(w))
			}
			prefer.Text(w)
		}
		x := api.Times{Age: age, MaxAge: maxAge}
		if n := prefer.Hops(x); n < 0 || n > 254 || n > 0 && n >= maxAge {
			t.Fatalf("Hops(%s): %d", told(x), n)
		}
		if y := prefer.Older(x); y.Age < age {
			t.Fatalf("Older(%s): %s", told(x), told(y))
		}
	})
}
