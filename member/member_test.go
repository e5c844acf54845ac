package member_test

import (
	"fmt"
	"math"
	"math/rand"
	"slices"
	"testing"

	"tipstaff/api"
	"tipstaff/ether"
	"tipstaff/member"
)

// noPorts are numbers that no port has.
var noPorts = []int{-1, -8, 8, 9, 15, 16, 63, 64, 256, 1 << 32, 1<<32 + 1, math.MaxInt, math.MinInt}

// noVids are numbers that no VLAN has.
var noVids = []int{0, -1, -4094, 4095, 4096, 4097, 8190, 1 << 32, 1<<32 + 1, math.MaxInt, math.MinInt}

// told answers what v is, no longer than is of use.
func told(v any) string { return fmt.Sprintf("%.500s", fmt.Sprintf("%#v", v)) }

// vlan answers a VLAN, from its fields in their order.
func vlan(vid, tagged, untagged int) api.Vlan {
	return api.Vlan{Vid: vid, Tagged: tagged, Untagged: untagged}
}

// plan answers one with those VLANs, whose ports take all, and are of VLAN 1 of their own.
func plan(l ...api.Vlan) api.Plan {
	return api.Plan{Own: [8]int{1, 1, 1, 1, 1, 1, 1, 1}, Vlans: l}
}

// some answers a plan that is right: ports of several VLANs, of none, and those that take frames of one kind alone.
func some() api.Plan {
	return api.Plan{
		Own:   [8]int{1, 10, 1, 10, 20, 4094, 30, 1},
		Take:  [8]int{api.TakeAll, api.TakeAll, api.TakeTagged, api.TakeUntagged, api.TakeUntagged, api.TakeTagged, api.TakeAll, api.TakeAll},
		Vlans: []api.Vlan{vlan(1, 128, 1|4), vlan(10, 4|128, 2|8), vlan(20, 1|128, 16), vlan(4094, 32, 0)},
	}
}

// untagged answers a frame without a tag.
func untagged() api.Frame {
	return api.Frame{Dst: 1, Src: 2, Type: api.TypeIp, Body: "data"}
}

// tagged answers a frame with a tag of that VLAN.
func tagged(vid int) api.Frame {
	return api.Frame{Dst: 1, Src: 2, Tagged: true, Prio: 5, Vid: vid, Type: api.TypeIp, Body: "data"}
}

// drawnPlan answers a plan that is right.
func drawnPlan(r *rand.Rand) api.Plan {
	p := api.Plan{}
	for i := range p.Own {
		p.Own[i], p.Take[i] = 1+r.Intn(8), r.Intn(3)
	}
	for vid := 1; vid <= 8; vid++ {
		if r.Intn(3) > 0 {
			set := r.Intn(256)
			p.Vlans = append(p.Vlans, vlan(vid, set, r.Intn(256)&^set))
		}
	}
	return p
}

// anyPlan answers a plan that need not be right.
func anyPlan(r *rand.Rand) api.Plan {
	some := []int{0, 1, 2, 3, -1, 4094, 4095, 4096, math.MaxInt, math.MinInt}
	p := api.Plan{}
	for i := range p.Own {
		p.Own[i], p.Take[i] = some[r.Intn(len(some))], some[r.Intn(len(some))]
	}
	for range r.Intn(9) {
		p.Vlans = append(p.Vlans, vlan(some[r.Intn(len(some))], r.Intn(1<<10)-256, r.Intn(1<<10)-256))
	}
	return p
}

// anyFrame answers a frame, of no VLAN or of some, that need not be right.
func anyFrame(r *rand.Rand) api.Frame {
	vids := []int{0, 0, 1, 2, 3, 4, 8, 9, -1, 4094, 4095, 4096, math.MaxInt, math.MinInt}
	return api.Frame{Dst: 3, Src: 4, Tagged: r.Intn(2) == 0, Prio: r.Intn(8), Vid: vids[r.Intn(len(vids))], Type: r.Intn(1 << 16), Body: "x"}
}

// in tells whether there is a port p and it is in set, told anew.
func in(set, p int) bool {
	for i, bit := 0, 1; i < 8; i, bit = i+1, bit*2 {
		if i == p {
			return set&bit != 0
		}
	}
	return false
}

// first is Find, told anew.
func first(p api.Plan, vid int) (api.Vlan, bool) {
	for _, v := range p.Vlans {
		if v.Vid == vid {
			return v, true
		}
	}
	return api.Vlan{}, false
}

// taken is Takes, told anew.
func taken(p api.Plan, port int, f api.Frame) (int, bool) {
	if port < 0 || port > 7 {
		return 0, false
	}
	own, vid := false, p.Own[port]
	if f.Tagged && f.Vid > 0 {
		own, vid = true, f.Vid
	}
	if own && p.Take[port] == 2 || !own && p.Take[port] == 1 || vid > 4094 {
		return 0, false
	}
	v, _ := first(p, vid)
	if !in(v.Tagged, port) && !in(v.Untagged, port) {
		return 0, false
	}
	return vid, true
}

// sent is Sends, told anew.
func sent(p api.Plan, port, vid int, f api.Frame) (api.Frame, bool) {
	v, ok := first(p, vid)
	if ok && in(v.Tagged, port) {
		f.Tagged, f.Vid = true, vid
		return f, true
	}
	if ok && in(v.Untagged, port) {
		f.Tagged, f.Vid, f.Prio = false, 0, 0
		return f, true
	}
	return api.Frame{}, false
}

// P15.1

func TestRight(t *testing.T) {
	for _, p := range []api.Plan{
		some(), member.Usual(), plan(), plan(vlan(1, 0, 0)), plan(vlan(1, 255, 0)), plan(vlan(1, 0, 255)), plan(vlan(4094, 0xf0, 0x0f)), plan(vlan(1, 0x55, 0xaa), vlan(2, 0x55, 0xaa)),
		plan(vlan(4093, 1, 0), vlan(4094, 1, 0)), plan(vlan(1, 0, 1), vlan(2, 0, 1), vlan(4094, 0, 1)), {Own: [8]int{4094, 4094, 4094, 4094, 4094, 4094, 4094, 4094}, Take: [8]int{0, 1, 2, 0, 1, 2, 0, 1}, Vlans: []api.Vlan{}},
	} {
		if !member.Right(p) {
			t.Errorf("Right(%s): false", told(p))
		}
	}
}

func TestWrong(t *testing.T) {
	for _, l := range [][]api.Vlan{
		{vlan(1, 1, 1)}, {vlan(1, 255, 128)}, {vlan(1, 3, 2)}, {vlan(1, 1, 255)},
		{vlan(1, 256, 0)}, {vlan(1, 0, 256)}, {vlan(1, -1, 0)}, {vlan(1, 0, -1)}, {vlan(1, -256, 0)}, {vlan(1, 0, -256)}, {vlan(1, math.MaxInt, 0)}, {vlan(1, 0, math.MinInt)}, {vlan(1, math.MinInt, math.MaxInt)}, {vlan(1, 1<<32, 0)}, {vlan(1, 0, 1<<32)}, {vlan(1, 256, 255)}, {vlan(1, 255, 256)},
		{vlan(1, 1, 0), vlan(1, 1, 0)}, {vlan(1, 1, 0), vlan(1, 2, 0)}, {vlan(2, 1, 0), vlan(1, 1, 0)}, {vlan(1, 1, 0), vlan(3, 1, 0), vlan(2, 1, 0)}, {vlan(1, 1, 0), vlan(3, 1, 0), vlan(3, 1, 0)}, {vlan(4094, 0, 0), vlan(1, 0, 0)},
		{vlan(1, 1, 0), vlan(2, 1, 0), vlan(3, 1, 3)}, {vlan(1, 1, 0), vlan(2, 1, 256)}, {vlan(1, 1, 1), vlan(2, 1, 0)},
	} {
		if member.Right(plan(l...)) {
			t.Errorf("Right of the VLANs %s: true", told(l))
		}
	}
	for _, vid := range noVids {
		for _, l := range [][]api.Vlan{{vlan(vid, 1, 2)}, {vlan(2, 0, 0), vlan(vid, 1, 2)}, {vlan(vid, 1, 2), vlan(2, 0, 0)}} {
			if member.Right(plan(l...)) {
				t.Errorf("Right of the VLANs %s: true", told(l))
			}
		}
	}
}

func TestWrongPort(t *testing.T) {
	for port := range 8 {
		for _, vid := range noVids {
			p := some()
			if p.Own[port] = vid; member.Right(p) {
				t.Errorf("Right, Own of port %d being %d: true", port, vid)
			}
		}
		for _, vid := range []int{1, 2, 4093, 4094} { // there need not be such a VLAN
			p := some()
			if p.Own[port] = vid; !member.Right(p) {
				t.Errorf("Right, Own of port %d being %d: false", port, vid)
			}
		}
		for _, take := range []int{-1, 3, 4, -3, 256, 1 << 32, math.MaxInt, math.MinInt} {
			p := some()
			if p.Take[port] = take; member.Right(p) {
				t.Errorf("Right, Take of port %d being %d: true", port, take)
			}
		}
		for _, take := range []int{api.TakeAll, api.TakeTagged, api.TakeUntagged} {
			p := some()
			if p.Take[port] = take; !member.Right(p) {
				t.Errorf("Right, Take of port %d being %d: false", port, take)
			}
		}
	}
}

func TestMostVlans(t *testing.T) {
	for _, n := range []int{0, 1, 63, 64, 65, 66, 128, 4094} {
		p := plan()
		for i := range n {
			p.Vlans = append(p.Vlans, vlan(4094-n+1+i, 1, 2))
		}
		if got := member.Right(p); got != (n <= 64) {
			t.Errorf("Right of %d VLANs: %t", n, got)
		}
	}
}

func TestRightSets(t *testing.T) {
	for tag := range 256 {
		for un := range 256 {
			if got := member.Right(plan(vlan(7, tag, un))); got != (tag&un == 0) {
				t.Fatalf("Right of the sets %d and %d: %t", tag, un, got)
			}
		}
	}
}

// P15.2, P15.3

func TestFindOf(t *testing.T) {
	twice := plan(vlan(10, 1, 2), vlan(3, 4, 8), vlan(10, 16, 32), vlan(3, 0, 0), vlan(0, 64, 0), vlan(-1, 0, 128), vlan(5000, 3, 3))
	for _, c := range []struct {
		p    api.Plan
		vid  int
		want api.Vlan
		ok   bool
		set  int
	}{
		{some(), 1, vlan(1, 128, 1|4), true, 133},
		{some(), 10, vlan(10, 4|128, 2|8), true, 142},
		{some(), 20, vlan(20, 1|128, 16), true, 145},
		{some(), 4094, vlan(4094, 32, 0), true, 32},
		{some(), 2, api.Vlan{}, false, 0},
		{some(), 30, api.Vlan{}, false, 0},
		{some(), 0, api.Vlan{}, false, 0},
		{some(), -10, api.Vlan{}, false, 0},
		{some(), 1<<32 + 10, api.Vlan{}, false, 0},
		{some(), math.MaxInt, api.Vlan{}, false, 0},
		{some(), math.MinInt, api.Vlan{}, false, 0},
		{twice, 10, vlan(10, 1, 2), true, 3},
		{twice, 3, vlan(3, 4, 8), true, 12},
		{twice, 0, vlan(0, 64, 0), true, 64},
		{twice, -1, vlan(-1, 0, 128), true, 128},
		{twice, 5000, vlan(5000, 3, 3), true, 3},
		{plan(vlan(2, 0, 0)), 2, vlan(2, 0, 0), true, 0},
		{plan(vlan(2, 0, 0), vlan(2, 1, 2)), 2, vlan(2, 0, 0), true, 0},
		{plan(vlan(2, 256|1, 512|2)), 2, vlan(2, 257, 514), true, 771}, // other bits go with the set
		{plan(), 1, api.Vlan{}, false, 0},
		{api.Plan{}, 0, api.Vlan{}, false, 0},
	} {
		if got, ok := member.Find(c.p, c.vid); got != c.want || ok != c.ok {
			t.Errorf("Find(%s, %d): %s, %t, want %s, %t", told(c.p), c.vid, told(got), ok, told(c.want), c.ok)
		}
		if got := member.Of(c.p, c.vid); got != c.set {
			t.Errorf("Of(%s, %d): %d, want %d", told(c.p), c.vid, got, c.set)
		}
	}
}

func TestFindDrawn(t *testing.T) {
	r := rand.New(rand.NewSource(151))
	for range 3000 {
		p := drawnPlan(r)
		if r.Intn(2) == 0 {
			p = anyPlan(r)
		}
		for vid := -2; vid < 10; vid++ {
			want, wantOk := first(p, vid)
			if got, ok := member.Find(p, vid); got != want || ok != wantOk {
				t.Fatalf("Find(%s, %d): %s, %t, want %s, %t", told(p), vid, told(got), ok, told(want), wantOk)
			}
			if got := member.Of(p, vid); got != want.Tagged|want.Untagged {
				t.Fatalf("Of(%s, %d): %d, want %d", told(p), vid, got, want.Tagged|want.Untagged)
			}
		}
	}
}

// P15.4

func TestTakes(t *testing.T) {
	for _, c := range []struct {
		name string
		port int
		f    api.Frame
		vid  int
		ok   bool
	}{
		{"none, of its own VLAN", 0, untagged(), 1, true},
		{"none, of its own VLAN, another one", 1, untagged(), 10, true},
		{"none, where it is sent with a tag", 7, untagged(), 1, true},
		{"a tag of its own VLAN", 0, tagged(1), 1, true},
		{"a tag of another VLAN", 0, tagged(20), 20, true},
		{"a tag of another VLAN, at a port of all", 7, tagged(10), 10, true},
		{"a tag of a VLAN that it is not of", 0, tagged(10), 0, false},
		{"a tag of a VLAN that there is not", 0, tagged(30), 0, false},
		{"a tag of 0", 0, tagged(0), 1, true},
		{"a tag below 0", 0, tagged(-1), 1, true},
		{"a tag of 4095", 0, tagged(4095), 0, false},
		{"a number without a tag", 0, api.Frame{Vid: 20}, 1, true},
		{"tagged alone: none", 2, untagged(), 0, false},
		{"tagged alone: a tag of 0", 2, tagged(0), 0, false},
		{"tagged alone: a tag below 0", 2, tagged(-1), 0, false},
		{"tagged alone: a number without a tag", 2, api.Frame{Vid: 10}, 0, false},
		{"tagged alone: a tag", 2, tagged(10), 10, true},
		{"tagged alone: a tag of its own VLAN", 2, tagged(1), 1, true},
		{"tagged alone: a tag of a VLAN that it is not of", 2, tagged(20), 0, false},
		{"tagged alone: the last VLAN", 5, tagged(4094), 4094, true},
		{"untagged alone: none", 3, untagged(), 10, true},
		{"untagged alone: none, another one", 4, untagged(), 20, true},
		{"untagged alone: a tag of 0", 3, tagged(0), 10, true},
		{"untagged alone: a number without a tag", 3, api.Frame{Vid: 20}, 10, true},
		{"untagged alone: a tag of its own VLAN", 3, tagged(10), 0, false},
		{"untagged alone: a tag of 1", 3, tagged(1), 0, false},
		{"its own VLAN is none", 6, untagged(), 0, false},
		{"its own VLAN is none, a tag", 6, tagged(30), 0, false},
	} {
		if vid, ok := member.Takes(some(), c.port, c.f); vid != c.vid || ok != c.ok {
			t.Errorf("%s: %d, %t, want %d, %t", c.name, vid, ok, c.vid, c.ok)
		}
	}
	for _, port := range noPorts {
		for _, f := range []api.Frame{untagged(), tagged(0), tagged(1), tagged(10)} {
			if vid, ok := member.Takes(some(), port, f); vid != 0 || ok {
				t.Errorf("at port %d: %d, %t", port, vid, ok)
			}
		}
	}
}

func TestTakesOwn(t *testing.T) {
	all := plan(vlan(0, 255, 0), vlan(-1, 0, 255), vlan(4094, 255, 0), vlan(4095, 255, 0), vlan(4096, 0, 255), vlan(math.MaxInt, 255, 0))
	for _, c := range []struct {
		own  int
		f    api.Frame
		want int
		ok   bool
	}{
		{4094, untagged(), 4094, true}, {4095, untagged(), 0, false}, {4096, untagged(), 0, false}, {math.MaxInt, untagged(), 0, false},
		{4095, tagged(0), 0, false}, {4095, tagged(4094), 4094, true}, {4094, tagged(4095), 0, false}, {4094, tagged(4096), 0, false}, {4094, tagged(math.MaxInt), 0, false},
		{0, untagged(), 0, true}, {-1, untagged(), -1, true}, {-1, tagged(0), -1, true}, {-2, untagged(), 0, false}, {4094, tagged(-1), 4094, true},
	} {
		p := all
		p.Own[3] = c.own
		if vid, ok := member.Takes(p, 3, c.f); vid != c.want || ok != c.ok {
			t.Errorf("own %d, %s: %d, %t, want %d, %t", c.own, told(c.f), vid, ok, c.want, c.ok)
		}
	}
	// of two of a number the first counts: the port is of the second alone
	if vid, ok := member.Takes(plan(vlan(1, 1, 2), vlan(1, 8, 0)), 3, untagged()); vid != 0 || ok {
		t.Errorf("of the second alone: %d, %t", vid, ok)
	}
	// bits beside those of ports are no ports
	if vid, ok := member.Takes(plan(vlan(1, 256, -256)), 0, untagged()); vid != 0 || ok {
		t.Errorf("of other bits: %d, %t", vid, ok)
	}
	for _, take := range []int{-1, 3, math.MaxInt, math.MinInt} { // it says of no frame that it is not taken
		p := plan(vlan(1, 0, 1))
		p.Take[0] = take
		a, okA := member.Takes(p, 0, untagged())
		b, okB := member.Takes(p, 0, tagged(1))
		if a != 1 || b != 1 || !okA || !okB {
			t.Errorf("Take %d: %d, %t, %d, %t", take, a, okA, b, okB)
		}
	}
}

func TestTakesDrawn(t *testing.T) {
	r := rand.New(rand.NewSource(154))
	for i := range 30000 {
		p, f := drawnPlan(r), anyFrame(r)
		if i%3 == 0 {
			p = anyPlan(r)
		}
		port := r.Intn(11) - 1
		want, wantOk := taken(p, port, f)
		if vid, ok := member.Takes(p, port, f); vid != want || ok != wantOk {
			t.Fatalf("Takes(%s, %d, %s): %d, %t, want %d, %t", told(p), port, told(f), vid, ok, want, wantOk)
		}
	}
}

// P15.5

func TestSends(t *testing.T) {
	with := tagged(99) // a tag of before goes
	for _, c := range []struct {
		name      string
		port, vid int
		f         api.Frame
		want      api.Frame
		ok        bool
	}{
		{"without a tag", 0, 1, untagged(), untagged(), true},
		{"without the tag that it had", 0, 1, with, untagged(), true},
		{"without a tag of that VLAN", 1, 10, tagged(10), untagged(), true},
		{"with a tag", 7, 1, untagged(), ether.Retag(untagged(), true, 1), true},
		{"with another tag", 7, 20, with, tagged(20), true},
		{"with the tag that it had", 7, 10, tagged(10), tagged(10), true},
		{"with a tag of the last VLAN", 5, 4094, with, tagged(4094), true},
		{"with a tag at a port that takes none", 0, 20, with, tagged(20), true},
		{"at a port that is not of it", 2, 20, with, api.Frame{}, false},
		{"at a port of none", 6, 1, with, api.Frame{}, false},
		{"of a VLAN that there is not", 7, 30, with, api.Frame{}, false},
		{"of none", 0, 0, untagged(), api.Frame{}, false},
		{"of one below 0", 0, -1, untagged(), api.Frame{}, false},
		{"of one above all", 7, 4095, untagged(), api.Frame{}, false},
	} {
		if got, ok := member.Sends(some(), c.port, c.vid, c.f); got != c.want || ok != c.ok {
			t.Errorf("%s: %s, %t, want %s, %t", c.name, told(got), ok, told(c.want), c.ok)
		}
	}
	for _, port := range noPorts {
		for _, vid := range []int{0, 1, 10, 20, 30, 4094} {
			if got, ok := member.Sends(plan(vlan(1, 255, 0), vlan(10, 0, 255), vlan(20, -1, -1)), port, vid, with); got != (api.Frame{}) || ok {
				t.Errorf("at port %d of VLAN %d: %s, %t", port, vid, told(got), ok)
			}
		}
	}
	// of two of a number the first counts
	if got, ok := member.Sends(plan(vlan(1, 0, 1), vlan(1, 2, 0)), 1, 1, untagged()); got != (api.Frame{}) || ok {
		t.Errorf("of the second alone: %s, %t", told(got), ok)
	}
}

func TestSendsDrawn(t *testing.T) {
	r := rand.New(rand.NewSource(155))
	for i := range 30000 {
		p, f := drawnPlan(r), anyFrame(r)
		if i%3 == 0 {
			p = anyPlan(r)
		}
		port, vid := r.Intn(11)-1, r.Intn(12)-2
		want, wantOk := sent(p, port, vid, f)
		if got, ok := member.Sends(p, port, vid, f); got != want || ok != wantOk {
			t.Fatalf("Sends(%s, %d, %d, %s): %s, %t, want %s, %t", told(p), port, vid, told(f), told(got), ok, told(want), wantOk)
		}
	}
}

// P15.6

func TestUsual(t *testing.T) {
	p := member.Usual()
	if want := []api.Vlan{{Vid: 1, Untagged: 255}, {Vid: 10, Tagged: 128}, {Vid: 20, Tagged: 128}, {Vid: 30, Tagged: 128}}; !slices.Equal(p.Vlans, want) {
		t.Errorf("VLANs: %s", told(p.Vlans))
	}
	if p.Own != [8]int{1, 1, 1, 1, 1, 1, 1, 1} || p.Take != [8]int{} {
		t.Errorf("ports: %s", told(p))
	}
	if vid, ok := member.Takes(p, 0, tagged(10)); vid != 0 || ok { // the chapter's example
		t.Errorf("Takes at port 0: %d, %t", vid, ok)
	}
	p.Vlans[0], p.Own[3] = vlan(5, 1, 2), 9
	if q := member.Usual(); q.Vlans[0] != vlan(1, 0, 255) || q.Own[3] != 1 {
		t.Errorf("one answer is changed with another: %s", told(q))
	}
}

// P15.7

func TestSentIsTaken(t *testing.T) {
	r := rand.New(rand.NewSource(157))
	both := 0
	for range 20000 {
		p, f := drawnPlan(r), anyFrame(r)
		port, vid := r.Intn(8), 1+r.Intn(8)
		g, ok := member.Sends(p, port, vid, f)
		if !ok || !g.Tagged && p.Own[port] != vid {
			continue
		}
		// the other one: of another switch with the same plan
		if p.Take[port] == api.TakeAll || p.Take[port] == api.TakeTagged == g.Tagged {
			both++
			if got, ok := member.Takes(p, port, g); got != vid || !ok {
				t.Fatalf("%s, sent at port %d of VLAN %d: %s: %d, %t", told(p), port, vid, told(g), got, ok)
			}
		} else if got, ok := member.Takes(p, port, g); got != 0 || ok {
			t.Fatalf("%s, sent at port %d of VLAN %d: %s: %d, %t", told(p), port, vid, told(g), got, ok)
		}
	}
	if both < 1000 {
		t.Errorf("only %d were sent and taken", both)
	}
}

// R3, R4

func TestMemory(t *testing.T) {
	room := []api.Vlan{vlan(1, 128, 5), vlan(10, 132, 10), vlan(4000, 1, 1), vlan(1, 3, 3)}
	before := slices.Clone(room)
	p := some()
	p.Vlans = room[:2]
	member.Right(p)
	member.Find(p, 10)
	member.Of(p, 10)
	member.Takes(p, 7, tagged(10))
	member.Sends(p, 7, 10, untagged())
	if !slices.Equal(room, before) {
		t.Errorf("handed in: %s, behind: %s", told(before), told(room))
	}
	if v, ok := member.Find(p, 4000); ok {
		t.Errorf("found behind the list's end: %s", told(v))
	}
}

// R1

func FuzzMember(f *testing.F) {
	f.Add(int64(1), 0, 1)
	f.Add(int64(2), 7, 4094)
	f.Add(int64(3), -1, math.MinInt)
	f.Add(int64(4), 8, math.MaxInt)
	f.Fuzz(func(t *testing.T, seed int64, port, vid int) {
		r := rand.New(rand.NewSource(seed))
		p, frame := anyPlan(r), anyFrame(r)
		if seed%2 == 0 {
			p = drawnPlan(r)
			if !member.Right(p) {
				t.Fatalf("Right(%s): false", told(p))
			}
		}
		frame.Vid = vid
		want, wantOk := taken(p, port, frame)
		if got, ok := member.Takes(p, port, frame); got != want || ok != wantOk {
			t.Fatalf("Takes(%s, %d, %s): %d, %t, want %d, %t", told(p), port, told(frame), got, ok, want, wantOk)
		}
		out, outOk := sent(p, port, vid, frame)
		if got, ok := member.Sends(p, port, vid, frame); got != out || ok != outOk {
			t.Fatalf("Sends(%s, %d, %d, %s): %s, %t, want %s, %t", told(p), port, vid, told(frame), told(got), ok, told(out), outOk)
		}
	})
}
