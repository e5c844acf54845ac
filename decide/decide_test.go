package decide_test

import (
	"fmt"
	"math"
	"math/rand"
	"slices"
	"testing"

	"tipstaff/api"
	"tipstaff/decide"
	"tipstaff/mac"
	"tipstaff/member"
	"tipstaff/table"
)

const (
	bridges = api.Mac(0x0180c2000000)
	group   = api.Mac(1 << 40)
	wide    = api.Mac(1 << 48) // the first that has more than 48 bits
	all     = 255              // the set of all ports
)

// noPorts are numbers that no port has.
var noPorts = []int{-1, -8, 8, 9, 15, 16, 63, 64, 256, 1 << 32, 1<<32 + 1, math.MaxInt, math.MinInt}

// noVids are numbers that no VLAN has.
var noVids = []int{0, -1, -4094, 4095, 4096, 4097, 1 << 32, 1<<32 + 1, math.MaxInt, math.MinInt}

// told answers what v is, no longer than is of use.
func told(v any) string { return fmt.Sprintf("%.600s", fmt.Sprintf("%#v", v)) }

// set answers the set of those ports.
func set(l ...int) int {
	s := 0
	for _, p := range l {
		s |= 1 << p
	}
	return s
}

// entry answers an entry, from its fields in their order.
func entry(vid int, m api.Mac, port, age int) api.Entry {
	return api.Entry{Vid: vid, Mac: m, Port: port, Age: age}
}

// of answers a table with those entries.
func of(most int, l ...api.Entry) api.Table { return api.Table{Most: most, Long: 9, L: l} }

// some answers a table that is sound, with room, in which one address is at two ports, in two VLANs.
func some() api.Table {
	return of(9, entry(1, 20, 0, 4), entry(1, 21, 1, 3), entry(1, 22, 5, 0), entry(1, 27, 7, 2), entry(10, 20, 7, 8), entry(10, 23, 2, 1))
}

// plan answers one that is right: ports 0 to 4 of VLAN 1, 2 to 5 of VLAN 10, and 7 of both, with a tag; port 6 is of none.
func plan() api.Plan {
	return api.Plan{
		Own:   [8]int{1, 1, 1, 10, 10, 10, 30, 1},
		Take:  [8]int{api.TakeAll, api.TakeUntagged, api.TakeAll, api.TakeAll, api.TakeAll, api.TakeAll, api.TakeAll, api.TakeTagged},
		Vlans: []api.Vlan{{Vid: 1, Tagged: set(3, 4, 7), Untagged: set(0, 1, 2)}, {Vid: 10, Tagged: set(2, 7), Untagged: set(3, 4, 5)}, {Vid: 4094, Tagged: set(7)}},
	}
}

// frame answers one without a tag.
func frame(dst, src api.Mac) api.Frame {
	return api.Frame{Dst: dst, Src: src, Type: api.TypeIp, Body: "data"}
}

// tagged answers one with a tag of that VLAN.
func tagged(dst, src api.Mac, vid int) api.Frame {
	return api.Frame{Dst: dst, Src: src, Tagged: true, Prio: 5, Vid: vid, Type: api.TypeIp, Body: "data"}
}

// outs answers f as it goes out at each of those ports.
func outs(f api.Frame, l ...int) []api.Out {
	out := []api.Out{}
	for _, p := range l {
		out = append(out, api.Out{Port: p, Frame: f})
	}
	return out
}

// in tells whether there is a port p and it is in s.
func in(s, p int) bool { return p >= 0 && p <= 7 && s>>p%2 != 0 }

// kind is Kind, told anew.
func kind(f api.Frame) int {
	if f.Type == 0x888e {
		return 1
	}
	if f.Dst < bridges || f.Dst > bridges+15 {
		return 0
	}
	if f.Dst == bridges {
		return 2
	}
	return 3
}

// goes tells, anew, whether f, which came in at port, goes out at to.
func goes(t api.Table, p api.Plan, f api.Frame, vid, port, open, to int) bool {
	if kind(f) != 0 || !in(open, port) || !in(open, to) || to == port || !in(member.Of(p, vid), to) {
		return false
	}
	if f.Dst>>40%2 == 1 {
		return true
	}
	for _, e := range t.L {
		if e.Vid == vid && e.Mac == f.Dst {
			return e.Port == to
		}
	}
	return true
}

// forwarded is Forward, told anew.
func forwarded(t api.Table, p api.Plan, f api.Frame, port, learning, open int) (api.Table, []api.Out) {
	vid, ok := member.Takes(p, port, f)
	if !ok || kind(f) != 0 {
		return t, nil
	}
	if in(learning, port) {
		t, _ = table.Learn(t, vid, f.Src, port)
	}
	l := []api.Out{}
	for to := 0; to < 8; to++ {
		if goes(t, p, f, vid, port, open, to) {
			g, _ := member.Sends(p, to, vid, f)
			l = append(l, api.Out{Port: to, Frame: g})
		}
	}
	return t, l
}

func drawnMac(r *rand.Rand) api.Mac {
	some := []api.Mac{0, 1, 2, 3, 4, 0xfe0000000000, 0xffffffffffff, group, bridges, bridges + 3, bridges + 15, bridges + 16, bridges - 1, wide, wide + 1, wide + bridges}
	if r.Intn(3) > 0 {
		return some[r.Intn(6)]
	}
	return some[r.Intn(len(some))]
}

func drawnFrame(r *rand.Rand) api.Frame {
	f := api.Frame{Dst: drawnMac(r), Src: drawnMac(r), Type: []int{0, 39, 0x800, 0x86dd, 0x888d, 0x888f, 0x888e}[r.Intn(7)], Body: "x"}
	if r.Intn(2) == 0 {
		f.Tagged, f.Prio, f.Vid = true, r.Intn(8), r.Intn(7)
	}
	return f
}

// drawnPlan answers a plan that is right, of five VLANs at most.
func drawnPlan(r *rand.Rand) api.Plan {
	p := api.Plan{}
	for i := range p.Own {
		p.Own[i], p.Take[i] = 1+r.Intn(5), []int{0, 0, 1, 2}[r.Intn(4)]
	}
	for vid := 1; vid <= 5; vid++ {
		if r.Intn(5) > 0 {
			with := r.Intn(256)
			p.Vlans = append(p.Vlans, api.Vlan{Vid: vid, Tagged: with, Untagged: r.Intn(256) &^ with})
		}
	}
	return p
}

// drawnTable answers a table that is sound, with room or without.
func drawnTable(r *rand.Rand) api.Table {
	t := of(0)
	for range r.Intn(14) {
		t.Most = len(t.L) + 1
		t, _ = table.Learn(t, 1+r.Intn(5), []api.Mac{0, 1, 2, 3, 4, 0xfe0000000000}[r.Intn(6)], r.Intn(8))
	}
	t.Most = len(t.L) + r.Intn(2)
	return t
}

// drawnSet answers a set in which most ports are.
func drawnSet(r *rand.Rand) int { return r.Intn(256) | r.Intn(256) }

// P16.1

func TestKind(t *testing.T) {
	for _, c := range []struct {
		name string
		f    api.Frame
		want int
	}{
		{"data", frame(1, 2), 0},
		{"data with a tag", tagged(1, 2, 10), 0},
		{"nothing", api.Frame{}, 0},
		{"to all", frame(0xffffffffffff, 2), 0},
		{"to a group", frame(group, 2), 0},
		{"from the bridges' address", frame(1, bridges), 0},
		{"from what is reserved", frame(1, bridges+3), 0},
		{"of 802.1X", api.Frame{Dst: 1, Type: api.TypeEapol}, 1},
		{"of 802.1X, to the bridges", api.Frame{Dst: bridges, Type: api.TypeEapol}, 1},
		{"of 802.1X, to what is reserved", api.Frame{Dst: bridges + 3, Type: api.TypeEapol}, 1},
		{"of 802.1X, to a group", api.Frame{Dst: group, Type: api.TypeEapol}, 1},
		{"of 802.1X, with a tag", api.Frame{Dst: 1, Tagged: true, Vid: 10, Type: api.TypeEapol}, 1},
		{"a type less", api.Frame{Dst: 1, Type: api.TypeEapol - 1}, 0},
		{"a type more", api.Frame{Dst: 1, Type: api.TypeEapol + 1}, 0},
		{"a type of more bytes", api.Frame{Dst: 1, Type: api.TypeEapol + 1<<16}, 0},
		{"to the bridges", api.Frame{Dst: bridges, Type: 39}, 2},
		{"to the bridges, without a type", api.Frame{Dst: bridges, Type: api.TypeBpdu}, 2},
		{"to the bridges, of data", frame(bridges, 2), 2},
		{"to the bridges, with a tag", tagged(bridges, 2, 10), 2},
		{"ahead of the bridges' address", frame(bridges-1, 2), 0},
		{"behind what is reserved", frame(bridges+16, 2), 0},
		{"the bridges' address with a bit more", frame(bridges+wide, 2), 0},
		{"what is reserved with a bit more", frame(bridges+3+wide, 2), 0},
	} {
		if got := decide.Kind(c.f); got != c.want {
			t.Errorf("%s: %d, want %d", c.name, got, c.want)
		}
	}
	for m := bridges + 1; m < bridges+16; m++ {
		for _, f := range []api.Frame{frame(m, 2), tagged(m, 2, 1), {Dst: m, Type: 39}} {
			if got := decide.Kind(f); got != 3 {
				t.Errorf("%s: %d, want 3", told(f), got)
			}
		}
	}
}

// P16.2

func TestLearns(t *testing.T) {
	full := of(2, entry(1, 20, 0, 4), entry(1, 24, 1, 3))
	none := of(0)
	for _, c := range []struct {
		name                string
		t                   api.Table
		src                 api.Mac
		vid, port, learning int
		want                api.Table
	}{
		{"the first", of(1), 2, 10, 3, all, of(1, entry(10, 2, 3, 0))},
		{"that port alone learns", of(1), 2, 10, 3, set(3), of(1, entry(10, 2, 3, 0))},
		{"the ends", of(1), group - 1, 4094, 7, set(7), of(1, entry(4094, group-1, 7, 0))},
		{"one more", of(3, full.L...), 22, 1, 2, all, of(3, entry(1, 20, 0, 4), entry(1, 22, 2, 0), entry(1, 24, 1, 3))},
		{"of another VLAN", of(3, full.L...), 20, 2, 5, all, of(3, entry(1, 20, 0, 4), entry(1, 24, 1, 3), entry(2, 20, 5, 0))},
		{"it moves", full, 20, 1, 6, all, of(2, entry(1, 20, 6, 0), entry(1, 24, 1, 3))},
		{"it stays, and is as new", full, 20, 1, 0, all, of(2, entry(1, 20, 0, 0), entry(1, 24, 1, 3))},
		{"no room", full, 21, 1, 0, all, full},
		{"no room at all", none, 21, 1, 0, all, none},
		{"the port does not learn", of(3, full.L...), 21, 1, 0, all &^ set(0), of(3, full.L...)},
		{"it would move, the port does not learn", full, 20, 1, 6, set(0, 5, 7), full},
		{"no port learns", full, 20, 1, 0, 0, full},
		{"bits beside those of ports", full, 20, 1, 0, 256 | 1<<62, full},
		{"from a group", of(3, full.L...), 20 + group, 1, 0, all, of(3, full.L...)},
		{"from all", of(3, full.L...), 0xffffffffffff, 1, 0, all, of(3, full.L...)},
		{"from more than 48 bits", of(3, full.L...), wide, 1, 0, all, of(3, full.L...)},
	} {
		if got := decide.Learns(c.t, frame(99, c.src), c.vid, c.port, c.learning); !table.Same(got, c.want) {
			t.Errorf("%s: %s, want %s", c.name, told(got), told(c.want))
		}
	}
	for _, port := range noPorts {
		for _, learning := range []int{all, -1, math.MaxInt} {
			if got := decide.Learns(some(), frame(99, 30), 1, port, learning); !table.Same(got, some()) {
				t.Errorf("at port %d: %s", port, told(got))
			}
		}
	}
	for _, vid := range noVids {
		if got := decide.Learns(some(), frame(99, 30), vid, 0, all); !table.Same(got, some()) {
			t.Errorf("of VLAN %d: %s", vid, told(got))
		}
	}
}

func TestLearnsLooksAtTheSourceAlone(t *testing.T) {
	want := decide.Learns(some(), frame(99, 30), 1, 2, all)
	if e, ok := table.Find(want, 1, 30); !ok || e != entry(1, 30, 2, 0) {
		t.Errorf("found: %s, %t", told(e), ok)
	}
	// to whom it is, of which type, and of which VLAN its tag is says nothing here
	for _, f := range []api.Frame{tagged(99, 30, 10), tagged(99, 30, 4095), {Dst: bridges, Src: 30}, {Dst: bridges + 3, Src: 30}, {Dst: group, Src: 30, Type: api.TypeEapol}} {
		if got := decide.Learns(some(), f, 1, 2, all); !table.Same(got, want) {
			t.Errorf("%s: %s, want %s", told(f), told(got), told(want))
		}
	}
}

// P16.3

func TestPorts(t *testing.T) {
	usual, p := member.Usual(), plan()
	for _, c := range []struct {
		name            string
		p               api.Plan
		dst             api.Mac
		vid, port, open int
		want            int
	}{
		{"not found", p, 99, 1, 0, all, set(1, 2, 3, 4, 7)},
		{"not found, at the last port", p, 99, 1, 7, all, set(0, 1, 2, 3, 4)},
		{"not found, another VLAN", p, 99, 10, 3, all, set(2, 4, 5, 7)},
		{"not found, some are open", p, 99, 1, 0, set(0, 2, 5, 6, 7), set(2, 7)},
		{"not found, that port alone is open", p, 99, 1, 0, set(0), 0},
		{"not found, it is not open", p, 99, 1, 0, all &^ set(0), 0},
		{"not found, nothing is open", p, 99, 1, 0, 0, 0},
		{"not found, from a port that is not of the VLAN", p, 99, 1, 6, all, set(0, 1, 2, 3, 4, 7)},
		{"not found, of a VLAN with one port", p, 99, 4094, 7, all, 0},
		{"not found, of a VLAN that there is not", p, 99, 2, 0, all, 0},
		{"of Usual", usual, 99, 1, 0, all, all &^ set(0)},
		{"of Usual, with one port", usual, 99, 10, 7, all, 0},
		{"to a group", p, group, 1, 0, all, set(1, 2, 3, 4, 7)},
		{"to all", p, 0xffffffffffff, 10, 3, set(3, 4, 5, 6), set(4, 5)},
		{"to a group, it is not open", p, group, 1, 0, set(1, 2), 0},
		{"found", p, 21, 1, 0, all, set(1)},
		{"found at the last port", p, 27, 1, 0, all, set(7)},
		{"found in another VLAN at another port", p, 20, 10, 3, all, set(7)},
		{"found in another VLAN alone", p, 21, 10, 3, all, set(2, 4, 5, 7)},
		{"found where it came in", p, 20, 1, 0, all, 0},
		{"found at a port that is not open", p, 27, 1, 0, all &^ set(7), 0},
		{"found at a port that is not of the VLAN", p, 22, 1, 0, all, 0},
		{"found, it is not open", p, 21, 1, 0, all &^ set(0), 0},
		{"found, the two alone are open", p, 27, 1, 0, set(0, 7), set(7)},
		{"found with a bit more", p, 21 + wide, 1, 0, all, set(1, 2, 3, 4, 7)},
		{"to the bridges", p, bridges, 1, 0, all, 0},
		{"to what is reserved", p, bridges + 15, 1, 0, all, 0},
		{"behind what is reserved", p, bridges + 16, 1, 0, all, set(1, 2, 3, 4, 7)},
	} {
		for _, f := range []api.Frame{frame(c.dst, 99), tagged(c.dst, 99, 3)} { // a tag of its own says nothing here
			if got := decide.Ports(some(), c.p, f, c.vid, c.port, c.open); got != c.want {
				t.Errorf("%s: %d, want %d", c.name, got, c.want)
			}
		}
	}
}

func TestPortsOfWhatIsNone(t *testing.T) {
	for _, m := range []api.Mac{99, 21, group, bridges} {
		f := frame(m, 98)
		f.Type = api.TypeEapol
		if got := decide.Ports(some(), plan(), f, 1, 0, all); got != 0 {
			t.Errorf("of 802.1X to %x: %d", m, got)
		}
		for _, port := range noPorts {
			for _, open := range []int{all, -1, math.MaxInt} {
				if got := decide.Ports(some(), plan(), frame(m, 98), 1, port, open); got != 0 {
					t.Errorf("to %x at port %d: %d", m, port, got)
				}
			}
		}
		for _, vid := range noVids {
			if got := decide.Ports(some(), plan(), frame(m, 98), vid, 0, all); got != 0 {
				t.Errorf("to %x of VLAN %d: %d", m, vid, got)
			}
		}
	}
}

func TestPortsOfOtherBits(t *testing.T) {
	// bits of open that are no ports' let nothing go
	for open, want := range map[int]int{256 | set(0, 1): set(1), -1: set(1, 2, 3, 4, 7), 1 << 62: 0} {
		if got := decide.Ports(some(), plan(), frame(99, 98), 1, 0, open); got != want {
			t.Errorf("open %d: %d, want %d", open, got, want)
		}
	}
	// those that the VLAN has, too, stay, as chapter 13 says
	p := plan()
	p.Vlans[0].Tagged |= 256 | 512
	if got, want := decide.Ports(some(), p, frame(99, 98), 1, 0, 256|1024|set(0, 2)), 256|set(2); got != want {
		t.Errorf("of a VLAN with other bits: %d, want %d", got, want)
	}
	if _, l := decide.Forward(some(), p, frame(99, 20), 0, 0, -1); len(l) != 5 {
		t.Errorf("sent, of a VLAN with other bits: %s", told(l))
	}
}

func TestPortsOfATableThatIsNotSound(t *testing.T) {
	x := of(1, entry(10, 21, 4, 0), entry(1, group, 1, 0), entry(1, 21, 2, 99), entry(1, 21, 3, 0), entry(1, 25, -1, 0), entry(1, 26, 8, 0), entry(1, 28, math.MaxInt, 0), entry(1, bridges, 1, 0), entry(1, wide+1, 4, 0))
	for m, want := range map[api.Mac]int{
		group:    set(1, 2, 3, 4, 7), // a group is everywhere, whatever stands there of it
		21:       set(2),             // the first counts
		25:       0,
		26:       0,
		28:       0,
		bridges:  0,
		wide + 1: set(4),
	} {
		if got := decide.Ports(x, plan(), frame(m, 98), 1, 0, all); got != want {
			t.Errorf("to %x: %d, want %d", m, got, want)
		}
	}
}

func TestPortsDrawn(t *testing.T) {
	r := rand.New(rand.NewSource(163))
	one := 0
	for range 40000 {
		x, p, f := drawnTable(r), drawnPlan(r), drawnFrame(r)
		vid, port, open := r.Intn(7), r.Intn(10)-1, drawnSet(r)
		want := 0
		for to := range 8 {
			if goes(x, p, f, vid, port, open, to) {
				want += 1 << to
			}
		}
		if got := decide.Ports(x, p, f, vid, port, open); got != want {
			t.Fatalf("Ports(%s, %s, %s, %d, %d, %d): %d, want %d", told(x), told(p), told(f), vid, port, open, got, want)
		}
		if got := decide.Kind(f); got != kind(f) {
			t.Fatalf("Kind(%s): %d", told(f), got)
		}
		if _, found := table.Find(x, vid, f.Dst); found && want != 0 {
			one++
		}
	}
	if one < 500 {
		t.Errorf("only %d were found, and sent", one)
	}
}

// P16.4

func TestForward(t *testing.T) {
	learnt := func(vid int, m api.Mac, port int) api.Table {
		x, _ := table.Learn(some(), vid, m, port)
		return x
	}
	with := func(vid, prio int) api.Frame {
		f := tagged(99, 30, vid)
		f.Prio = prio
		return f
	}
	to := func(dst api.Mac, f api.Frame) api.Frame { f.Dst = dst; return f }
	from := func(src api.Mac, f api.Frame) api.Frame { f.Src = src; return f }
	plain := frame(99, 30)
	for _, c := range []struct {
		name                 string
		f                    api.Frame
		port, learning, open int
		want                 api.Table
		out                  []api.Out
	}{
		{"without a tag", plain, 0, all, all, learnt(1, 30, 0), append(outs(plain, 1, 2), outs(with(1, 0), 3, 4, 7)...)},
		{"with a tag", with(1, 5), 3, all, all, learnt(1, 30, 3), append(outs(plain, 0, 1, 2), outs(with(1, 5), 4, 7)...)},
		{"with a tag of another VLAN", with(10, 5), 7, all, all, learnt(10, 30, 7), append(outs(with(10, 5), 2), outs(plain, 3, 4, 5)...)},
		{"with a tag of a priority alone", with(0, 6), 0, all, all, learnt(1, 30, 0), append(outs(plain, 1, 2), outs(with(1, 6), 3, 4, 7)...)},
		{"without a tag, of the port's own VLAN", plain, 3, all, all, learnt(10, 30, 3), []api.Out{{Port: 2, Frame: with(10, 0)}, {Port: 4, Frame: plain}, {Port: 5, Frame: plain}, {Port: 7, Frame: with(10, 0)}}},
		{"some learn and are open", plain, 0, set(0), set(0, 2, 5, 6), learnt(1, 30, 0), outs(plain, 2)},
		{"it does not learn", plain, 0, all &^ set(0), all, some(), append(outs(plain, 1, 2), outs(with(1, 0), 3, 4, 7)...)},
		{"it learns, but is not open", plain, 0, set(0), all &^ set(0), learnt(1, 30, 0), nil},
		{"it neither learns nor is open", plain, 0, 0, 0, some(), nil},
		{"found", to(27, plain), 0, all, all, learnt(1, 30, 0), outs(to(27, with(1, 0)), 7)},
		{"found where it came in", to(20, plain), 0, all, all, learnt(1, 30, 0), nil},
		{"found at a port that is not open", to(27, plain), 0, all, 127, learnt(1, 30, 0), nil},
		{"found at a port that is not of the VLAN", to(22, plain), 0, all, all, learnt(1, 30, 0), nil},
		{"to itself", to(30, plain), 0, all, all, learnt(1, 30, 0), nil},
		{"to itself, who moved", to(21, from(21, plain)), 0, all, all, learnt(1, 21, 0), nil},
		{"to itself, who moved, where nothing learns", to(21, from(21, plain)), 0, 0, all, some(), outs(to(21, from(21, plain)), 1)},
		{"to itself, where nothing learns", to(30, plain), 0, 0, all, some(), append(outs(to(30, plain), 1, 2), outs(to(30, with(1, 0)), 3, 4, 7)...)},
		{"to a group", to(group, plain), 0, all, set(0, 1, 7), learnt(1, 30, 0), append(outs(to(group, plain), 1), outs(to(group, with(1, 0)), 7)...)},
		{"from a group", from(group+30, plain), 0, all, set(0, 1), some(), outs(from(group+30, plain), 1)},
		{"from more than 48 bits", from(wide, plain), 0, all, set(0, 1), some(), outs(from(wide, plain), 1)},
		{"of a VLAN with one port", with(4094, 5), 7, all, all, learnt(4094, 30, 7), nil},
	} {
		got, l := decide.Forward(some(), plan(), c.f, c.port, c.learning, c.open)
		if !table.Same(got, c.want) || !slices.Equal(l, c.out) {
			t.Errorf("%s: %s, %s, want %s, %s", c.name, told(got), told(l), told(c.want), told(c.out))
		}
	}
}

func TestForwardOfWhatIsNotTaken(t *testing.T) {
	kinds := []api.Frame{frame(bridges, 30), frame(bridges+3, 30), {Dst: 99, Src: 30, Type: api.TypeEapol}, tagged(bridges, 30, 1), {Dst: 21, Src: 30, Type: api.TypeEapol}}
	for _, c := range []struct {
		name string
		l    []api.Frame
		port int
	}{
		{"another kind", kinds, 0},
		{"a tag of another VLAN", []api.Frame{tagged(99, 30, 10), tagged(21, 30, 4094), tagged(group, 30, 2), tagged(99, 30, 4095)}, 0},
		{"a tag where none is taken", []api.Frame{tagged(99, 30, 1), tagged(20, 30, 10)}, 1},
		{"no tag where one is asked for", []api.Frame{frame(99, 30), tagged(21, 30, 0), frame(group, 30)}, 7},
		{"a port of no VLAN", []api.Frame{frame(99, 30), frame(21, 30), tagged(99, 30, 1), tagged(99, 30, 30)}, 6},
	} {
		for _, f := range c.l {
			if got, l := decide.Forward(some(), plan(), f, c.port, all, all); !table.Same(got, some()) || len(l) != 0 {
				t.Errorf("%s: %s: %s, %s", c.name, told(f), told(got), told(l))
			}
		}
	}
	for _, port := range noPorts {
		for _, sets := range []int{all, -1, math.MaxInt} {
			for _, f := range []api.Frame{frame(99, 30), frame(21, 30), tagged(99, 30, 1)} {
				if got, l := decide.Forward(some(), plan(), f, port, sets, sets); !table.Same(got, some()) || len(l) != 0 {
					t.Errorf("at port %d: %s, %s", port, told(got), told(l))
				}
			}
		}
	}
}

func TestForwardWhereAVlanIsNone(t *testing.T) {
	p := plan()
	p.Vlans = append(p.Vlans, api.Vlan{Vid: 0, Untagged: all}) // not right: what is not taken is not of this one
	for _, c := range []struct {
		f    api.Frame
		port int
	}{{tagged(99, 30, 10), 0}, {tagged(99, 30, 1), 1}, {frame(99, 30), 7}, {frame(99, 30), 6}} {
		if got, l := decide.Forward(some(), p, c.f, c.port, all, all); !table.Same(got, some()) || len(l) != 0 {
			t.Errorf("%s at port %d: %s, %s", told(c.f), c.port, told(got), told(l))
		}
	}
}

func TestForwardOfUsual(t *testing.T) { // the chapter's example
	x, e := table.New(16, 30)
	if e != api.OK {
		t.Fatal(e)
	}
	f := frame(99, 30)
	y, l := decide.Forward(x, member.Usual(), f, 2, all, all)
	if want := outs(f, 0, 1, 3, 4, 5, 6, 7); !slices.Equal(l, want) || !table.Same(y, api.Table{Most: 16, Long: 30, L: []api.Entry{entry(1, 30, 2, 0)}}) {
		t.Errorf("%s, %s", told(y), told(l))
	}
	back := frame(30, 99)
	if _, l = decide.Forward(y, member.Usual(), back, 7, all, all); !slices.Equal(l, outs(back, 2)) {
		t.Errorf("back: %s", told(l))
	}
}

func TestForwardDrawn(t *testing.T) {
	r := rand.New(rand.NewSource(164))
	sent := 0
	for range 40000 {
		x, p, f := drawnTable(r), drawnPlan(r), drawnFrame(r)
		port, learning, open := r.Intn(10)-1, drawnSet(r), drawnSet(r)
		want, out := forwarded(x, p, f, port, learning, open)
		got, l := decide.Forward(x, p, f, port, learning, open)
		if !table.Same(got, want) || !slices.Equal(l, out) {
			t.Fatalf("Forward(%s, %s, %s, %d, %d, %d): %s, %s, want %s, %s", told(x), told(p), told(f), port, learning, open, told(got), told(l), told(want), told(out))
		}
		sent += len(l)
	}
	if sent < 1000 {
		t.Errorf("only %d were sent", sent)
	}
}

// P16.5

func TestWhatFollows(t *testing.T) {
	r := rand.New(rand.NewSource(165))
	one := 0
	for range 400 {
		p := drawnPlan(r)
		x, e := table.New(r.Intn(10), 1+r.Intn(20))
		if e != api.OK {
			t.Fatal(e)
		}
		for range 60 {
			f, port, learning, open := drawnFrame(r), r.Intn(8), drawnSet(r), drawnSet(r)
			y, l := decide.Forward(x, p, f, port, learning, open)
			one += held(t, p, f, port, open, y, l)
			if !table.Sound(y) {
				t.Fatalf("%s is not sound", told(y))
			}
			x = y
		}
	}
	if one < 200 {
		t.Errorf("only %d were to an address that was learnt", one)
	}
}

// held holds what went out to what follows, and answers 1, if it was to an address that was learnt, and went out.
func held(t *testing.T, p api.Plan, f api.Frame, port, open int, x api.Table, l []api.Out) int {
	t.Helper()
	vid, _ := member.Takes(p, port, f)
	last := -1
	for _, o := range l {
		g, ok := member.Sends(p, o.Port, vid, f)
		if o.Port == port || !in(open, o.Port) || !in(member.Of(p, vid), o.Port) || !ok || o.Frame != g || o.Port <= last {
			t.Fatalf("%s at port %d of VLAN %d, open %d: %s", told(f), port, vid, open, told(l))
		}
		last = o.Port
	}
	_, found := table.Find(x, vid, f.Dst)
	if found && len(l) > 1 {
		t.Fatalf("%s with %s: %s", told(f), told(x), told(l))
	}
	if found && len(l) == 1 {
		return 1
	}
	return 0
}

func TestWithoutRoomItIsSent(t *testing.T) {
	r := rand.New(rand.NewSource(166))
	held := 0
	for range 20000 {
		roomy, p, f := drawnTable(r), drawnPlan(r), drawnFrame(r)
		full := roomy
		roomy.Most, full.Most = api.MaxTable, len(full.L)
		if f.Dst == f.Src { // with room it is found where it came in
			continue
		}
		port, open := r.Intn(8), drawnSet(r)
		x, a := decide.Forward(roomy, p, f, port, all, open)
		y, b := decide.Forward(full, p, f, port, all, open)
		if !slices.Equal(a, b) || len(y.L) != len(full.L) {
			t.Fatalf("%s at port %d of %s, open %d: with room %s, without %s", told(f), port, told(p), open, told(a), told(b))
		}
		if len(x.L) > len(y.L) && len(b) > 0 {
			held++
		}
	}
	if held < 500 {
		t.Errorf("only %d were not learnt, and sent", held)
	}
}

// R3

func TestMemory(t *testing.T) {
	room := append(some().L, entry(20, 1, 1, 1), entry(30, 2, 2, 2), entry(40, 3, 3, 3))
	x := of(20, room[:6]...)
	p := plan()
	vlans := append(p.Vlans, api.Vlan{Vid: 4000, Tagged: 1}, api.Vlan{Vid: 4001, Untagged: 2})
	p.Vlans = vlans[:3]
	entries, others := slices.Clone(room), slices.Clone(vlans)
	for _, f := range []api.Frame{frame(99, 30), frame(21, 20), frame(group, 20), frame(bridges, 20), tagged(99, 1, 1), tagged(99, 40, 1)} {
		y := decide.Learns(x, f, 1, 0, all)
		z, l := decide.Forward(x, p, f, 0, all, all)
		decide.Ports(x, p, f, 1, 0, all)
		decide.Kind(f)
		if decide.Kind(f) == 0 { // others are answered as they were handed in
			for i := range z.L {
				z.L[i] = entry(5, 5, 5, 5)
			}
			_ = append(z.L, entry(6, 6, 6, 6))
		}
		for i := range y.L {
			y.L[i] = entry(7, 7, 7, 7)
		}
		_ = append(y.L, entry(8, 8, 8, 8))
		for i := range l {
			l[i].Frame.Body = "other"
		}
		if !slices.Equal(room, entries) || !slices.Equal(vlans, others) {
			t.Fatalf("%s: handed in: %s, %s", told(f), told(room), told(vlans))
		}
	}
	_, a := decide.Forward(x, p, frame(99, 30), 0, all, all)
	was := slices.Clone(a)
	_, b := decide.Forward(x, p, frame(98, 31), 0, all, all)
	if !slices.Equal(a, was) || slices.Equal(a, b) {
		t.Errorf("one answer is changed with another: %s, %s", told(a), told(b))
	}
}

// R1

// anyOf answers a table and a plan that need be neither sound nor right.
func anyOf(r *rand.Rand) (api.Table, api.Plan) {
	some := []int{0, 1, 2, 3, -1, 7, 8, 4094, 4095, 4096, math.MaxInt, math.MinInt}
	one := func() int { return some[r.Intn(len(some))] }
	x, p := api.Table{Most: one(), Long: one()}, api.Plan{}
	for range r.Intn(6) {
		x.L = append(x.L, entry(one(), drawnMac(r), one(), one()))
	}
	for i := range p.Own {
		p.Own[i], p.Take[i] = one(), one()
	}
	for range r.Intn(6) {
		p.Vlans = append(p.Vlans, api.Vlan{Vid: one(), Tagged: r.Intn(1<<10) - 256, Untagged: r.Intn(1<<10) - 256})
	}
	return x, p
}

func FuzzDecide(f *testing.F) {
	f.Add(int64(1), 0, 1, 255, 255)
	f.Add(int64(2), 7, 4094, 0, 255)
	f.Add(int64(3), -1, math.MinInt, -1, -1)
	f.Add(int64(4), 8, math.MaxInt, math.MaxInt, math.MinInt)
	f.Fuzz(func(t *testing.T, seed int64, port, vid, learning, open int) {
		r := rand.New(rand.NewSource(seed))
		frame := drawnFrame(r)
		x, p := anyOf(r)
		if seed%2 == 0 {
			x, p = drawnTable(r), drawnPlan(r)
			want, out := forwarded(x, p, frame, port, learning, open)
			if got, l := decide.Forward(x, p, frame, port, learning, open); !table.Same(got, want) || !slices.Equal(l, out) {
				t.Fatalf("Forward(%s, %s, %s, %d, %d, %d): %s, %s, want %s, %s", told(x), told(p), told(frame), port, learning, open, told(got), told(l), told(want), told(out))
			}
		}
		frame.Vid = vid
		decide.Forward(x, p, frame, port, learning, open)
		decide.Ports(x, p, frame, vid, port, open)
		decide.Learns(x, frame, vid, port, learning)
		if decide.Kind(frame) == 0 && mac.Reserved(frame.Dst) {
			t.Fatalf("Kind(%s): 0", told(frame))
		}
	})
}
