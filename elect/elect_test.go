package elect_test

import (
	"fmt"
	"math"
	"math/rand"
	"slices"
	"testing"

	"tipstaff/api"
	"tipstaff/elect"
	"tipstaff/prefer"
	"tipstaff/rstpport"
)

const (
	mostCost = 1<<32 - 1
	mostU    = math.MaxUint64
	me       = 50 // the number of the bridge of most tests
)

// told answers what v is, no longer than is of use.
func told(v any) string { return fmt.Sprintf("%.3000s", fmt.Sprintf("%+v", v)) }

// vec answers a vector, from its fields in their order.
func vec(root, cost, bridge uint64, port int) api.Vector {
	return api.Vector{Root: root, Cost: cost, Bridge: bridge, Port: port}
}

// with answers x, changed.
func with[T any](x T, change func(*T)) T {
	change(&x)
	return x
}

// What a bridge has of its own, and what comes from others.
var (
	own   = api.Times{MaxAge: 20, Hello: 2, Delay: 15}
	heard = api.Times{Age: 1, MaxAge: 18, Hello: 3, Delay: 12}
	later = api.Times{Age: 4, MaxAge: 16, Hello: 1, Delay: 9}
)

// hears answers a port that is up, and has heard v.
func hears(v api.Vector, cost uint64) api.Cord {
	return api.Cord{Up: true, Cost: cost, Info: api.InfoReceived, Vector: v, Times: heard}
}

// full answers a port that has all that there is, and has heard v.
func full(v api.Vector) api.Cord {
	return api.Cord{
		Up: true, Admin: true, Edge: true, Cost: 77, Info: api.InfoReceived, Vector: v, Times: heard,
		Role: api.RoleAlternate, State: api.StateForwarding, Agreed: true, Agree: true, Proposing: true, Proposed: true,
		Sync: true, Synced: true, Rapid: true, Tell: true, Ack: true,
		Heard: 101, Wait: 102, Recent: 103, Change: 104, Quiet: 105, Sense: 106, Hello: 107,
	}
}

// bridge answers a bridge with these ports, and all else that its election is to change.
func bridge(id uint64, cords ...api.Cord) api.Tree {
	t := api.Tree{Id: id, Own: own, Root: vec(7, 7, 7, 7), Times: later, Port: 6}
	copy(t.Cords[:], cords)
	return t
}

// rootIs holds Root against what is wanted.
func rootIs(t *testing.T, name string, b api.Tree, v api.Vector, times api.Times, port int) {
	t.Helper()
	if gotV, gotTimes, gotPort := elect.Root(b); gotV != v || gotTimes != times || gotPort != port {
		t.Errorf("%s: %s, %s, %d, want %s, %s, %d", name, told(gotV), told(gotTimes), gotPort, told(v), told(times), port)
	}
}

// root is Root, told anew: what is offered, all of it, and the least of that.
func root(b api.Tree) (api.Vector, api.Times, int) {
	l, from := []api.Vector{vec(b.Id, 0, b.Id, 0)}, []int{-1}
	for i := range 8 {
		c := b.Cords[i]
		if !c.Up || c.Info != api.InfoReceived || c.Vector.Bridge == b.Id {
			continue
		}
		l, from = append(l, prefer.Via(c.Vector, c.Cost)), append(from, i)
	}
	at := prefer.Least(l)
	if at == 0 {
		return l[0], b.Own, -1
	}
	return l[at], b.Cords[from[at]].Times, from[at]
}

// roles is Roles, told anew.
func roles(b api.Tree) (l [8]int) {
	v, _, port := root(b)
	for i := range 8 {
		c := b.Cords[i]
		mine := vec(v.Root, v.Cost, b.Id, 1+i)
		l[i] = api.RoleDesignated
		if c.Info == api.InfoReceived && (mine == c.Vector || prefer.Better(c.Vector, mine)) {
			l[i] = api.RoleAlternate
		}
		if i == port {
			l[i] = api.RoleRoot
		}
		if !c.Up {
			l[i] = api.RoleNone
		}
	}
	return l
}

// elected is Elect, told anew.
func elected(b api.Tree) api.Tree {
	l := roles(b)
	b.Root, b.Times, b.Port = root(b)
	for i := range 8 {
		c := &b.Cords[i]
		c.Role = l[i]
		mine := vec(b.Root.Root, b.Root.Cost, b.Id, 1+i)
		if c.Role == api.RoleDesignated && (c.Info != api.InfoMine || c.Vector != mine || c.Times != b.Times) {
			c.Info, c.Vector, c.Times, c.Tell = api.InfoMine, mine, b.Times, true
			c.Agreed, c.Synced, c.Agree, c.Proposed = false, false, false, false
		}
		if c.Role == api.RoleRoot || c.Role == api.RoleAlternate {
			c.Proposing = false
		}
		if c.Role == api.RoleNone {
			b.Cords[i] = api.Cord{Admin: c.Admin, Cost: c.Cost}
		}
	}
	return b
}

// pick answers one of l.
func pick[T any](r *rand.Rand, l ...T) T { return l[r.Intn(len(l))] }

// coin answers true as often as false.
func coin(r *rand.Rand) bool { return r.Intn(2) == 0 }

// drawnVector answers a vector that is often near what a bridge of that number tells.
func drawnVector(r *rand.Rand, id uint64) api.Vector {
	one := func() uint64 { return pick[uint64](r, 0, 1, 2, id, id-1, id+1, mostCost, 1<<63, mostU) }
	port := func() int { return pick(r, 0, 1, 2, 3, 4, 5, 6, 7, 8, -1, math.MaxInt, math.MinInt) }
	if coin(r) {
		return vec(pick(r, id, id-1, 1), uint64(r.Intn(3)), pick(r, id, 1, 2), port())
	}
	return vec(one(), one(), one(), port())
}

// drawnCord answers a port, which need not be one that there can be.
func drawnCord(r *rand.Rand, id uint64) api.Cord {
	return api.Cord{
		Up: r.Intn(5) > 0, Admin: coin(r), Edge: coin(r), Cost: pick[uint64](r, 0, 1, 1, 2, 3, mostCost, mostU),
		Info: pick(r, 0, 1, 1, 2, 2, 2, 3, -1), Vector: drawnVector(r, id), Times: pick(r, own, heard, later, api.Times{}),
		Role: pick(r, 0, 1, 2, 3, 4, -1), State: pick(r, 0, 1, 2, 3, -1), Agreed: coin(r), Agree: coin(r), Proposing: coin(r), Proposed: coin(r),
		Sync: coin(r), Synced: coin(r), Rapid: coin(r), Tell: coin(r), Ack: coin(r),
		Heard: r.Intn(9) - 1, Wait: r.Intn(9) - 1, Recent: r.Intn(9) - 1, Change: r.Intn(9) - 1, Quiet: r.Intn(9) - 1, Sense: r.Intn(9) - 1, Hello: r.Intn(9) - 1,
	}
}

// drawnTree answers a bridge, of which some ports tell what they would of the root it has.
func drawnTree(r *rand.Rand) api.Tree {
	id := pick[uint64](r, 0, 1, 2, 3, me, 1<<63, mostU)
	b := api.Tree{Id: id, Own: pick(r, own, heard, api.Times{}), Root: drawnVector(r, id), Times: pick(r, own, heard, later), Port: r.Intn(11) - 2}
	for i := range b.Cords {
		b.Cords[i] = drawnCord(r, id)
	}
	v, times, _ := root(b)
	for i := range b.Cords {
		c := &b.Cords[i]
		if c.Info == api.InfoMine && coin(r) {
			c.Vector, c.Times = vec(v.Root, v.Cost, id, i+1), times
		}
	}
	return b
}

// P19.1

func TestRootOfOneThatHearsNothing(t *testing.T) {
	for _, id := range []uint64{0, 1, me, 1 << 63, mostU} {
		for _, times := range []api.Times{own, later, {}} {
			b := with(bridge(id, api.Cord{Up: true}, api.Cord{}, api.Cord{Up: true, Info: api.InfoMine, Vector: vec(id, 0, id, 3)}), func(b *api.Tree) { b.Own = times })
			rootIs(t, fmt.Sprint("id ", id), b, vec(id, 0, id, 0), times, -1)
		}
	}
	rootIs(t, "nothing at all", api.Tree{}, api.Vector{}, api.Times{}, -1)
}

func TestRootByOnePort(t *testing.T) {
	for _, c := range []struct {
		name string
		cord api.Cord
		want api.Vector // with a Root of 0: that of the bridge stays
	}{
		{"a better root", hears(vec(1, 20, 2, 3), 5), vec(1, 25, 2, 3)},
		{"a better root at no cost", hears(vec(1, 0, 1, 1), 0), vec(1, 0, 1, 1)},
		{"a better root of a bridge above", hears(vec(1, 0, 99, 1), 5), vec(1, 5, 99, 1)},
		{"a root just better", hears(vec(me-1, mostCost, 99, 9), 5), vec(me-1, mostCost, 99, 9)},
		{"a cost above all", hears(vec(1, mostCost-1, 2, 1), 2), vec(1, mostCost, 2, 1)},
		{"a port's cost above all", hears(vec(1, 7, 2, 1), mostU), vec(1, mostCost, 2, 1)},
		{"a port's number below 0", hears(vec(1, 7, 2, -3), 1), vec(1, 8, 2, -3)},
		{"a worse root", hears(vec(me+1, 0, me+1, 1), 5), api.Vector{}},
		{"a worse root of a bridge below", hears(vec(me+1, 0, 1, 1), 0), api.Vector{}},
		{"this root, from a bridge below, behind a cost", hears(vec(me, 0, 1, 1), 5), api.Vector{}},
		{"this root, from a bridge above, behind no cost", hears(vec(me, 0, 99, 1), 0), api.Vector{}},
		{"this root, from a bridge below, behind no cost", hears(vec(me, 0, 1, 1), 0), vec(me, 0, 1, 1)},
		{"a better root that this bridge tells", hears(vec(1, 0, me, 1), 5), api.Vector{}},
		{"this root at a port below 0, that this bridge tells", hears(vec(me, 0, me, -1), 0), api.Vector{}},
		{"of a port that is down", with(hears(vec(1, 0, 1, 1), 5), func(c *api.Cord) { c.Up = false }), api.Vector{}},
		{"too old", with(hears(vec(1, 0, 1, 1), 5), func(c *api.Cord) { c.Info = api.InfoNone }), api.Vector{}},
		{"told by the port itself", with(hears(vec(1, 0, 1, 1), 5), func(c *api.Cord) { c.Info = api.InfoMine }), api.Vector{}},
		{"of no kind of information", with(hears(vec(1, 0, 1, 1), 5), func(c *api.Cord) { c.Info = 3 }), api.Vector{}},
		{"below all kinds of information", with(hears(vec(1, 0, 1, 1), 5), func(c *api.Cord) { c.Info = -1 }), api.Vector{}},
		{"of a port that has all", full(vec(1, 20, 2, 3)), vec(1, 97, 2, 3)},
		{"of a port that has all, but is of no role", with(full(vec(1, 20, 2, 3)), func(c *api.Cord) { c.Role = api.RoleNone }), vec(1, 97, 2, 3)},
		{"of a designated port", with(full(vec(1, 20, 2, 3)), func(c *api.Cord) { c.Role = api.RoleDesignated }), vec(1, 97, 2, 3)},
	} {
		for i := range 8 {
			b := bridge(me)
			b.Cords[i] = c.cord
			if c.want == (api.Vector{}) {
				rootIs(t, c.name, b, vec(me, 0, me, 0), own, -1)
			} else {
				rootIs(t, c.name, b, c.want, heard, i)
			}
		}
	}
}

func TestRootBySomePorts(t *testing.T) {
	down := with(hears(vec(0, 0, 0, 0), 0), func(c *api.Cord) { c.Up = false })
	for _, c := range []struct {
		name  string
		cords []api.Cord
		want  api.Vector
		port  int
	}{
		{"by the root", []api.Cord{hears(vec(2, 0, 2, 1), 1), hears(vec(1, 900, 9, 9), 900)}, vec(1, 1800, 9, 9), 1},
		{"by the cost that was told", []api.Cord{hears(vec(1, 6, 2, 1), 5), hears(vec(1, 5, 9, 9), 5)}, vec(1, 10, 9, 9), 1},
		{"by the cost of the port", []api.Cord{hears(vec(1, 5, 2, 1), 6), hears(vec(1, 5, 9, 9), 5)}, vec(1, 10, 9, 9), 1},
		{"by both costs together", []api.Cord{hears(vec(1, 0, 1, 1), 30), hears(vec(1, 20, 9, 9), 9)}, vec(1, 29, 9, 9), 1},
		{"by the bridge", []api.Cord{hears(vec(1, 5, 3, 1), 5), hears(vec(1, 5, 2, 9), 5)}, vec(1, 10, 2, 9), 1},
		{"by the bridge, the costs being above all", []api.Cord{hears(vec(1, mostCost, 3, 1), 0), hears(vec(1, 9, 2, 9), mostU)}, vec(1, mostCost, 2, 9), 1},
		{"by the port of the other", []api.Cord{hears(vec(1, 5, 2, 2), 5), hears(vec(1, 5, 2, 1), 5)}, vec(1, 10, 2, 1), 1},
		{"as they stand", []api.Cord{hears(vec(1, 5, 2, 1), 5), hears(vec(1, 5, 2, 2), 5)}, vec(1, 10, 2, 1), 0},
		{"the best in the midst", []api.Cord{hears(vec(3, 0, 3, 1), 5), hears(vec(1, 0, 1, 1), 5), hears(vec(2, 0, 2, 1), 5)}, vec(1, 5, 1, 1), 1},
		{"the best one being down", []api.Cord{hears(vec(2, 0, 2, 1), 5), down, hears(vec(1, 5, 2, 1), 5)}, vec(1, 10, 2, 1), 2},
		{"the best one being its own", []api.Cord{hears(vec(0, 0, me, 5), 5), hears(vec(2, 0, 2, 1), 5), hears(vec(1, 5, 2, 1), 5)}, vec(1, 10, 2, 1), 2},
		{"one better than its own, one worse", []api.Cord{hears(vec(me+1, 0, 1, 1), 5), hears(vec(me-1, 0, 99, 1), 5)}, vec(me-1, 5, 99, 1), 1},
	} {
		rootIs(t, c.name, bridge(me, c.cords...), c.want, heard, c.port)
	}
}

func TestRootOfTheSame(t *testing.T) {
	for i := range 8 {
		for j := range i {
			for _, c := range [][2]api.Cord{
				{hears(vec(1, 20, 2, 3), 5), hears(vec(1, 20, 2, 3), 5)},
				{hears(vec(1, 5, 2, 3), 20), hears(vec(1, 20, 2, 3), 5)},
				{hears(vec(1, mostCost, 2, 3), 20), hears(vec(1, 20, 2, 3), mostU)},
			} {
				b := bridge(me)
				b.Cords[j], b.Cords[i] = c[0], c[1]
				b.Cords[j].Times, b.Cords[i].Times = later, heard
				rootIs(t, fmt.Sprint("ports ", j, " and ", i), b, prefer.Via(c[0].Vector, c[0].Cost), later, j)
				b.Cords[j], b.Cords[i] = c[1], c[0]
				rootIs(t, fmt.Sprint("ports ", j, " and ", i, ", the other way round"), b, prefer.Via(c[0].Vector, c[0].Cost), heard, j)
			}
		}
	}
}

// P19.2

func TestRoles(t *testing.T) {
	const none, alternate, toRoot, designated = api.RoleNone, api.RoleAlternate, api.RoleRoot, api.RoleDesignated
	up, down := api.Cord{Up: true}, with(full(vec(0, 0, 0, 0)), func(c *api.Cord) { c.Up = false })
	best := hears(vec(1, 0, 1, 1), 10)
	as := func(c api.Cord, info int) api.Cord { c.Info = info; return c }
	for _, c := range []struct {
		name  string
		cords []api.Cord
		want  [8]int
	}{
		{"nothing", nil, [8]int{}},
		{"the chapter's example", []api.Cord{up, up, up, up, up, up, up, up}, [8]int{3, 3, 3, 3, 3, 3, 3, 3}},
		{"some are down", []api.Cord{down, up, {}, up}, [8]int{none, designated, none, designated}},
		{"one root", []api.Cord{up, best, up}, [8]int{designated, toRoot, designated}},
		{"a root that is down", []api.Cord{up, down, up}, [8]int{designated, none, designated}},
		{"two ways, as good", []api.Cord{best, best}, [8]int{toRoot, alternate}},
		{"two ways, the second better", []api.Cord{hears(vec(1, 0, 1, 2), 10), best}, [8]int{alternate, toRoot}},
		{"a worse root behind it", []api.Cord{best, hears(vec(2, 0, 2, 1), 10)}, [8]int{toRoot, designated}},
		{"a worse root behind a bridge that is the root", []api.Cord{hears(vec(me, 1, 1, 1), 10), hears(vec(me+1, 0, 1, 1), 10)}, [8]int{designated, designated}},
		{"the other is nearer the root", []api.Cord{best, hears(vec(1, 9, 99, 9), 10)}, [8]int{toRoot, alternate}},
		{"the other is as near, and below", []api.Cord{best, hears(vec(1, 10, me-1, 9), 10)}, [8]int{toRoot, alternate}},
		{"the other is as near, and above", []api.Cord{best, hears(vec(1, 10, me+1, 0), 10)}, [8]int{toRoot, designated}},
		{"the other is farther", []api.Cord{best, hears(vec(1, 11, 2, 0), 10)}, [8]int{toRoot, designated}},
		{"the other is farther, but a way at no cost", []api.Cord{best, hears(vec(1, 11, 2, 0), 0)}, [8]int{toRoot, designated}},
		{"two of its own ports, the other below", []api.Cord{best, up, hears(vec(1, 10, me, 2), 10)}, [8]int{toRoot, designated, alternate}},
		{"two of its own ports, the other above", []api.Cord{best, hears(vec(1, 10, me, 3), 10), up}, [8]int{toRoot, designated, designated}},
		{"what the port itself would tell", []api.Cord{best, hears(vec(1, 10, me, 2), 10)}, [8]int{toRoot, alternate}},
		{"two ports of the root", []api.Cord{up, hears(vec(me, 0, me, 1), 10), hears(vec(me, 0, me, 4), 10)}, [8]int{designated, alternate, designated}},
		{"the first port's number is 1", []api.Cord{hears(vec(me, 0, me, 0), 10)}, [8]int{alternate}},
		{"the first port's number is not 2", []api.Cord{hears(vec(me, 0, me, 1), 10)}, [8]int{alternate}},
		{"the first port's number is below 2", []api.Cord{hears(vec(me, 0, me, 2), 10)}, [8]int{designated}},
		{"better ones that were not heard", []api.Cord{best, as(best, api.InfoNone), as(best, api.InfoMine), as(best, 3), as(best, -1)}, [8]int{toRoot, designated, designated, designated, designated}},
		{"roles of before say nothing", []api.Cord{with(up, func(c *api.Cord) { c.Role = toRoot }), with(best, func(c *api.Cord) { c.Role = alternate }), {Role: designated}}, [8]int{designated, toRoot, none}},
	} {
		if got := elect.Roles(bridge(me, c.cords...)); got != c.want {
			t.Errorf("%s: %v, want %v", c.name, got, c.want)
		}
	}
}

func TestRolesAtTheLastPort(t *testing.T) {
	for i := range 8 {
		for port, want := range map[int]int{i: api.RoleAlternate, i + 1: api.RoleAlternate, i + 2: api.RoleDesignated} {
			b := bridge(me)
			b.Cords[i] = hears(vec(me, 0, me, port), 1)
			if got := elect.Roles(b); got[i] != want {
				t.Errorf("port %d hears port %d: %d, want %d", i, port, got[i], want)
			}
		}
	}
}

// P19.3

func TestElectTakesTheRoot(t *testing.T) {
	b := elect.Elect(bridge(me, api.Cord{Up: true}, hears(vec(1, 20, 2, 3), 5)))
	if b.Root != vec(1, 25, 2, 3) || b.Times != heard || b.Port != 1 || b.Id != me || b.Own != own {
		t.Errorf("a root: %s", told(b))
	}
	b = elect.Elect(bridge(me, api.Cord{Up: true}))
	if b.Root != vec(me, 0, me, 0) || b.Times != own || b.Port != -1 || b.Id != me || b.Own != own {
		t.Errorf("the bridge itself: %s", told(b))
	}
	if b = elect.Elect(api.Tree{}); b != (api.Tree{Port: -1}) {
		t.Errorf("nothing: %s", told(b))
	}
}

func TestElectOfPortsThatAreDown(t *testing.T) {
	for _, admin := range []bool{false, true} {
		c := with(full(vec(1, 20, 2, 3)), func(c *api.Cord) { c.Up, c.Admin = false, admin })
		for i := range 8 {
			b := bridge(me)
			b.Cords[i] = c
			b = elect.Elect(b)
			if want := (api.Cord{Admin: admin, Cost: 77}); b.Cords[i] != want || b.Port != -1 {
				t.Errorf("port %d: %s", i, told(b.Cords[i]))
			}
		}
	}
}

func TestElectOfRootAndAlternatePorts(t *testing.T) {
	for _, proposing := range []bool{false, true} {
		change := func(c *api.Cord) { c.Proposing = proposing }
		rich, poor := with(full(vec(1, 20, 2, 3)), change), with(hears(vec(1, 20, 2, 3), 77), change)
		for _, c := range []api.Cord{rich, poor} {
			b := elect.Elect(bridge(me, c, c))
			c.Proposing = false
			for i, role := range []int{api.RoleRoot, api.RoleAlternate} {
				if c.Role = role; b.Cords[i] != c {
					t.Errorf("of role %d: %s, want %s", role, told(b.Cords[i]), told(c))
				}
			}
		}
	}
}

func TestElectOfDesignatedPorts(t *testing.T) {
	mine := vec(1, 25, me, 2)
	settled := with(full(mine), func(c *api.Cord) { c.Info, c.Tell = api.InfoMine, false })
	for _, c := range []struct {
		name   string
		change func(*api.Cord)
		stays  bool
	}{
		{"as it was", func(c *api.Cord) {}, true},
		{"as it was, with something to tell", func(c *api.Cord) { c.Tell = true }, true},
		{"as it was, with nothing agreed", func(c *api.Cord) { c.Agreed, c.Synced, c.Agree, c.Proposed = false, false, false, false }, true},
		{"as it was, not proposing", func(c *api.Cord) { c.Proposing = false }, true},
		{"too old", func(c *api.Cord) { c.Info = api.InfoNone }, false},
		{"too old, with nothing of others", func(c *api.Cord) { c.Info, c.Vector, c.Times = api.InfoNone, vec(0, 0, 0, 0), api.Times{} }, false},
		{"of no kind of information", func(c *api.Cord) { c.Info = 3 }, false},
		{"heard, worse", func(c *api.Cord) { c.Info, c.Vector.Port = api.InfoReceived, 3 }, false},
		{"another root", func(c *api.Cord) { c.Vector.Root = 0 }, false},
		{"another cost", func(c *api.Cord) { c.Vector.Cost = 24 }, false},
		{"another bridge", func(c *api.Cord) { c.Vector.Bridge = 1 }, false},
		{"another port", func(c *api.Cord) { c.Vector.Port = 1 }, false},
		{"another age", func(c *api.Cord) { c.Times.Age++ }, false},
		{"another MaxAge", func(c *api.Cord) { c.Times.MaxAge++ }, false},
		{"another Hello", func(c *api.Cord) { c.Times.Hello++ }, false},
		{"another Delay", func(c *api.Cord) { c.Times.Delay++ }, false},
		{"the bridge's own times, which are not the root's", func(c *api.Cord) { c.Times = own }, false},
		{"not proposing, and another root", func(c *api.Cord) { c.Proposing, c.Vector.Root = false, 2 }, false},
		{"with something to tell, and another root", func(c *api.Cord) { c.Tell, c.Vector.Root = true, 2 }, false},
	} {
		was := with(settled, c.change)
		want := with(was, func(w *api.Cord) { w.Role = api.RoleDesignated })
		if !c.stays {
			want.Info, want.Vector, want.Times, want.Tell = api.InfoMine, mine, heard, true
			want.Agreed, want.Synced, want.Agree, want.Proposed = false, false, false, false
		}
		if got := elect.Elect(bridge(me, hears(vec(1, 20, 2, 3), 5), was)); got.Cords[1] != want {
			t.Errorf("%s: %s, want %s", c.name, told(got.Cords[1]), told(want))
		}
	}
}

func TestElectOfARoot(t *testing.T) {
	b := bridge(me)
	for i := range b.Cords {
		b.Cords[i] = api.Cord{Up: true, Cost: 9}
	}
	got := elect.Elect(b)
	for i, c := range got.Cords {
		if want := (api.Cord{Up: true, Cost: 9, Info: api.InfoMine, Vector: vec(me, 0, me, i+1), Times: own, Role: api.RoleDesignated, Tell: true}); c != want {
			t.Errorf("port %d: %s, want %s", i, told(c), told(want))
		}
	}
}

func TestElectOfMany(t *testing.T) {
	r := rand.New(rand.NewSource(193))
	seen, stays := map[int]int{}, 0
	for range 60000 {
		b := drawnTree(r)
		wantV, wantTimes, wantPort := root(b)
		if v, times, port := elect.Root(b); v != wantV || times != wantTimes || port != wantPort {
			t.Fatalf("Root(%s): %s, %s, %d, want %s, %s, %d", told(b), told(v), told(times), port, told(wantV), told(wantTimes), wantPort)
		}
		if got, want := elect.Roles(b), roles(b); got != want {
			t.Fatalf("Roles(%s): %v, want %v", told(b), got, want)
		}
		got, want := elect.Elect(b), elected(b)
		if got != want {
			t.Fatalf("Elect(%s): %s, want %s", told(b), told(got), told(want))
		}
		for i, c := range got.Cords {
			seen[c.Role]++
			if c.Role == api.RoleDesignated && c.Agreed {
				stays++
			}
			if was := b.Cords[i]; was.Up != c.Up || was.Admin != c.Admin || was.Cost != c.Cost {
				t.Fatalf("Elect(%s): port %d: %s", told(b), i, told(c))
			}
		}
	}
	for _, n := range []int{seen[api.RoleNone], seen[api.RoleAlternate], seen[api.RoleRoot], seen[api.RoleDesignated], stays} {
		if n < 5000 {
			t.Errorf("too few of some: %v, %d", seen, stays)
		}
	}
}

// P19.4

func TestActive(t *testing.T) {
	wants := map[int]bool{api.RoleRoot: true, api.RoleDesignated: true}
	for _, role := range []int{api.RoleNone, api.RoleAlternate, api.RoleRoot, api.RoleDesignated, 4, -1, math.MaxInt, math.MinInt} {
		for i := range 8 {
			for _, c := range []api.Cord{{}, full(vec(1, 20, 2, 3))} { // its state, and what it knows, say nothing
				c.Role, c.Up = role, true
				b := bridge(me)
				b.Cords[i] = c
				want := 0
				if wants[role] {
					want = 1 << i
				}
				if got := elect.Active(b); got != want {
					t.Errorf("port %d of role %d: %d, want %d", i, role, got, want)
				}
				b.Cords[i].Up = false
				if got := elect.Active(b); got != 0 {
					t.Errorf("port %d of role %d, down: %d", i, role, got)
				}
			}
		}
	}
}

func TestActiveOfSome(t *testing.T) {
	up := func(role int) api.Cord { return api.Cord{Up: true, Role: role} }
	b := bridge(me, up(api.RoleDesignated), up(api.RoleAlternate), up(api.RoleRoot), up(api.RoleNone), api.Cord{Role: api.RoleDesignated}, up(api.RoleRoot), up(api.RoleDesignated), up(api.RoleDesignated))
	if got := elect.Active(b); got != 1+4+32+64+128 {
		t.Errorf("some: %d", got)
	}
	if got := elect.Active(api.Tree{}); got != 0 {
		t.Errorf("none: %d", got)
	}
	r := rand.New(rand.NewSource(194))
	for range 5000 {
		b, want := drawnTree(r), 0
		for i, c := range b.Cords {
			if c.Up && (c.Role == 2 || c.Role == 3) {
				want += 1 << i
			}
		}
		if got := elect.Active(b); got != want {
			t.Fatalf("Active(%s): %d, want %d", told(b), got, want)
		}
	}
}

// P19.5

func TestOneRootPortAtMost(t *testing.T) {
	r := rand.New(rand.NewSource(195))
	for range 20000 {
		b := elect.Elect(drawnTree(r))
		n := 0
		for i, c := range b.Cords {
			if c.Role == api.RoleRoot {
				n++
				if i != b.Port {
					t.Fatalf("%s: port %d", told(b), i)
				}
			}
		}
		isRoot := b.Root == prefer.Own(b.Id)
		if n > 1 || (n == 0) != isRoot || (b.Port == -1) != isRoot {
			t.Fatalf("%s: %d root ports", told(b), n)
		}
	}
}

func TestElectedAgain(t *testing.T) {
	r := rand.New(rand.NewSource(1950))
	for range 20000 {
		b := elect.Elect(drawnTree(r))
		if again := elect.Elect(b); again != b {
			t.Fatalf("%s, again: %s", told(b), told(again))
		}
		for i, role := range elect.Roles(b) {
			if b.Cords[i].Role != role {
				t.Fatalf("%s: port %d is of role %d in the end", told(b), i, role)
			}
		}
	}
}

// ring answers bridges, each of which is joined by port 0 to port 1 of the next one in the list, the last to the first.
func ring(ids ...uint64) []api.Tree {
	l := []api.Tree{}
	for _, id := range ids {
		b := api.Tree{Id: id, Own: own}
		b.Cords[0], b.Cords[1] = api.Cord{Up: true, Rapid: true, Cost: 10}, api.Cord{Up: true, Rapid: true, Cost: 10}
		l = append(l, elect.Elect(b))
	}
	return l
}

// tell lets each bridge of a ring tell both its neighbours what it knows, and elects.
func tell(l []api.Tree) {
	for i := range l {
		for p := range 2 {
			to, at := (i+1)%len(l), 1-p
			if p == 1 {
				to = (i + len(l) - 1) % len(l)
			}
			l[to].Cords[at], _ = rstpport.Receive(l[to].Cords[at], rstpport.Message(l[i].Cords[p]))
			l[to] = elect.Elect(l[to])
		}
	}
}

func TestARing(t *testing.T) {
	const alternate, toRoot, designated = api.RoleAlternate, api.RoleRoot, api.RoleDesignated
	for _, c := range []struct {
		ids  []uint64
		want [][2]int // the roles of ports 0 and 1
	}{
		{[]uint64{1, 2}, [][2]int{{designated, designated}, {alternate, toRoot}}},
		{[]uint64{1, 2, 3}, [][2]int{{designated, designated}, {designated, toRoot}, {toRoot, alternate}}},
		{[]uint64{3, 2, 1}, [][2]int{{alternate, toRoot}, {toRoot, designated}, {designated, designated}}},
		{[]uint64{2, 1, 4, 3}, [][2]int{{toRoot, designated}, {designated, designated}, {designated, toRoot}, {toRoot, alternate}}},
		{[]uint64{1}, [][2]int{{designated, alternate}}},
	} {
		l := ring(c.ids...)
		for range 10 {
			tell(l)
		}
		for i, b := range l {
			if got := [2]int{b.Cords[0].Role, b.Cords[1].Role}; got != c.want[i] || b.Root.Root != 1 {
				t.Errorf("%v: bridge %d: %v of root %s, want %v", c.ids, b.Id, got, prefer.Text(b.Root), c.want[i])
			}
		}
		was := slices.Clone(l)
		if tell(l); !slices.Equal(l, was) {
			t.Errorf("%v: it is not at rest", c.ids)
		}
	}
}

// R1

func FuzzElect(f *testing.F) {
	f.Add(int64(1), uint64(0), uint64(0), 0, 0)
	f.Add(int64(2), uint64(mostU), uint64(mostU), math.MinInt, math.MaxInt)
	f.Add(int64(3), uint64(1<<63), uint64(mostCost), math.MaxInt, math.MinInt)
	f.Fuzz(func(t *testing.T, seed int64, id, cost uint64, number, port int) {
		r := rand.New(rand.NewSource(seed))
		b := drawnTree(r)
		b.Port = port
		for i := range b.Cords {
			if coin(r) {
				b.Cords[i].Vector = vec(pick(r, id, id-1, id+1), pick(r, cost, cost+1), pick(r, id, b.Id, 1), number)
				b.Cords[i].Cost = cost
			}
		}
		if got, want := elect.Elect(b), elected(b); got != want || elect.Elect(got) != want {
			t.Fatalf("Elect(%s): %s, want %s", told(b), told(got), told(want))
		}
	})
}
