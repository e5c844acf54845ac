package ripple_test

import (
	"fmt"
	"math"
	"math/rand"
	"slices"
	"testing"

	"tipstaff/api"
	"tipstaff/elect"
	"tipstaff/ripple"
	"tipstaff/rstpport"
)

const (
	none, alternate, root, designated = api.RoleNone, api.RoleAlternate, api.RoleRoot, api.RoleDesignated
	discarding, learning, forwarding  = api.StateDiscarding, api.StateLearning, api.StateForwarding
)

// told answers what v is, no longer than is of use.
func told(v any) string { return fmt.Sprintf("%.3000s", fmt.Sprintf("%+v", v)) }

// with answers x, changed.
func with[T any](x T, change func(*T)) T {
	change(&x)
	return x
}

// pick answers one of l.
func pick[T any](r *rand.Rand, l ...T) T { return l[r.Intn(len(l))] }

// coin answers true as often as false.
func coin(r *rand.Rand) bool { return r.Intn(2) == 0 }

// port answers a port that is up, of that role and in that state, whose Delay is 15.
func port(role, state int) api.Cord {
	return api.Cord{
		Up: true, Cost: 77, Info: api.InfoReceived, Vector: api.Vector{Root: 1, Cost: 2, Bridge: 3, Port: 4}, Times: api.Times{Age: 1, MaxAge: 20, Hello: 2, Delay: 15},
		Role: role, State: state, Heard: 101, Wait: 102, Change: 104, Quiet: 105, Sense: 106, Hello: 107,
	}
}

// bridge answers a bridge with these ports, and all else that there is of it.
func bridge(cords ...api.Cord) api.Tree {
	t := api.Tree{Id: 9, Own: api.Times{MaxAge: 6}, Root: api.Vector{Root: 1, Cost: 5}, Times: api.Times{Hello: 3}, Port: 2}
	copy(t.Cords[:], cords)
	return t
}

// discards makes of c one that discards.
func discards(c *api.Cord) {
	if c.State != 0 {
		c.Tell = true
	}
	c.State, c.Wait = 0, c.Times.Delay
}

// forwards makes of c one that forwards.
func forwards(c *api.Cord) {
	if c.State != 2 {
		c.Tell = true
	}
	c.State, c.Wait = 2, 0
}

// others answers the ports of t but i that are up, RoleDesignated, and no Edge.
func others(t api.Tree, i int) (l []int) {
	for k := range 8 {
		if c := t.Cords[k]; k != i && c.Up && c.Role == 3 && !c.Edge {
			l = append(l, k)
		}
	}
	return l
}

// held is Held, told anew.
func held(t api.Tree, but int) bool {
	n := 0
	for _, k := range others(t, but) {
		if c := t.Cords[k]; c.State != 0 && (!c.Agreed || !c.Synced) {
			n++
		}
	}
	return n == 0
}

// step is Step, told anew.
func step(t api.Tree, i int) api.Tree {
	if i < 0 || i > 7 || !t.Cords[i].Up {
		return t
	}
	c := &t.Cords[i]
	if c.Role == 2 && c.Proposed {
		for _, k := range others(t, i) {
			o := &t.Cords[k]
			if o.Synced = true; o.State != 0 && !o.Agreed {
				discards(o)
			}
		}
		if held(t, i) {
			c.Proposed, c.Agree, c.Tell = false, true, true
		}
	}
	if c.Role == 2 && c.State != 2 {
		for _, k := range others(t, i) {
			if o := &t.Cords[k]; !o.Agreed && o.Recent > 0 {
				discards(o)
				o.Recent = 0
			}
		}
		forwards(c)
	}
	if c.Role == 2 {
		if c.Recent = c.Times.Delay; c.Recent < 1 {
			c.Recent = 1
		}
	}
	if c.Role == 3 && c.State != 2 && !c.Edge && !c.Agreed {
		if !c.Proposing {
			c.Tell = true
		}
		c.Proposing = true
	} else if c.Role == 3 {
		c.Proposing = false
		if c.State != 2 {
			forwards(c)
		}
	}
	if c.Role == 1 {
		if c.State != 0 {
			discards(c)
		}
		if c.Proposed {
			c.Proposed, c.Agree, c.Tell = false, true, true
		}
	}
	return t
}

// settled is Settle, told anew.
func settled(t api.Tree) api.Tree {
	for range 4 {
		was := t
		for i := range 8 {
			t = step(t, i)
		}
		if t == was {
			break
		}
	}
	return t
}

// drawnCord answers a port, which need not be one that there can be.
func drawnCord(r *rand.Rand) api.Cord {
	return api.Cord{
		Up: r.Intn(6) > 0, Admin: coin(r), Edge: r.Intn(4) == 0, Cost: uint64(r.Intn(9)), Info: r.Intn(3),
		Vector: api.Vector{Root: uint64(r.Intn(9))}, Times: api.Times{MaxAge: r.Intn(9), Delay: pick(r, -7, 0, 1, 2, 15, 30, math.MaxInt, math.MinInt)},
		Role: pick(r, 0, 1, 2, 2, 3, 3, 3, 4, -1), State: pick(r, 0, 0, 1, 2, 2, 3, -1), Agreed: coin(r), Agree: coin(r), Proposing: coin(r), Proposed: coin(r),
		Sync: coin(r), Synced: coin(r), Rapid: coin(r), Tell: r.Intn(4) == 0, Ack: coin(r),
		Heard: r.Intn(9) - 1, Wait: r.Intn(9) - 1, Recent: pick(r, -1, 0, 0, 1, 2, 15, math.MaxInt, math.MinInt), Change: r.Intn(9), Quiet: r.Intn(9), Sense: r.Intn(9), Hello: r.Intn(9),
	}
}

// drawnTree answers a bridge with ports that are drawn; of some there is but one root port.
func drawnTree(r *rand.Rand) api.Tree {
	t := api.Tree{Id: uint64(r.Intn(9)), Own: api.Times{Hello: r.Intn(9)}, Root: api.Vector{Cost: uint64(r.Intn(9))}, Times: api.Times{Delay: r.Intn(9)}, Port: r.Intn(11) - 2}
	one := coin(r)
	for i := range t.Cords {
		t.Cords[i] = drawnCord(r)
		if one && t.Cords[i].Role == root {
			t.Cords[i].Role = designated
		}
	}
	if one {
		t.Cords[r.Intn(8)].Role = root
	}
	return t
}

// P20.1

func TestHeldByOnePort(t *testing.T) {
	for _, c := range []struct {
		name   string
		change func(*api.Cord)
		held   bool
	}{
		{"forwarding", func(c *api.Cord) {}, false},
		{"learning", func(c *api.Cord) { c.State = learning }, false},
		{"in no state", func(c *api.Cord) { c.State = 3 }, false},
		{"below all states", func(c *api.Cord) { c.State = -1 }, false},
		{"discarding", func(c *api.Cord) { c.State = discarding }, true},
		{"down", func(c *api.Cord) { c.Up = false }, true},
		{"an edge", func(c *api.Cord) { c.Edge = true }, true},
		{"said to be an edge, which it is not", func(c *api.Cord) { c.Admin = true }, false},
		{"of no role", func(c *api.Cord) { c.Role = none }, true},
		{"alternate", func(c *api.Cord) { c.Role = alternate }, true},
		{"a root port", func(c *api.Cord) { c.Role = root }, true},
		{"of another role", func(c *api.Cord) { c.Role = 4 }, true},
		{"of a role below all", func(c *api.Cord) { c.Role = -3 }, true},
		{"agreed", func(c *api.Cord) { c.Agreed = true }, false},
		{"synced", func(c *api.Cord) { c.Synced = true }, false},
		{"agreed and synced", func(c *api.Cord) { c.Agreed, c.Synced = true, true }, true},
		{"agreeing, and to be synced", func(c *api.Cord) { c.Agree, c.Sync = true, true }, false},
		{"agreeing and synced", func(c *api.Cord) { c.Agree, c.Synced = true, true }, false},
		{"agreed, synced and discarding", func(c *api.Cord) { c.Agreed, c.Synced, c.State = true, true, discarding }, true},
		{"proposing", func(c *api.Cord) { c.Proposing = true }, false},
		{"proposed", func(c *api.Cord) { c.Proposed = true }, false},
	} {
		for i := range 8 {
			b := bridge()
			b.Cords[i] = with(port(designated, forwarding), c.change)
			for _, but := range []int{-1, 8, (i + 1) % 8, math.MaxInt, math.MinInt, i - 8, i + 8} {
				if got := ripple.Held(b, but); got != c.held {
					t.Errorf("port %d is %s, but %d: %t", i, c.name, but, got)
				}
			}
			if !ripple.Held(b, i) {
				t.Errorf("port %d is %s, but itself: not held", i, c.name)
			}
		}
	}
}

func TestHeldBySomePorts(t *testing.T) {
	bad, good := port(designated, forwarding), port(designated, discarding)
	for _, c := range []struct {
		name  string
		cords []api.Cord
		but   int
		want  bool
	}{
		{"nothing", nil, -1, true},
		{"nothing, but a port", nil, 3, true},
		{"all are good", []api.Cord{good, good, good, good, good, good, good, good}, -1, true},
		{"the last one is bad", []api.Cord{good, good, good, good, good, good, good, bad}, 0, false},
		{"the first one is bad", []api.Cord{bad, good, good, good, good, good, good, good}, 7, false},
		{"the first one is bad, but it", []api.Cord{bad, good, good, good, good, good, good, good}, 0, true},
		{"two are bad, but one", []api.Cord{bad, good, bad}, 0, false},
		{"two are bad, but the other", []api.Cord{bad, good, bad}, 2, false},
	} {
		if got := ripple.Held(bridge(c.cords...), c.but); got != c.want {
			t.Errorf("%s: %t", c.name, got)
		}
	}
}

// P20.2

// stepIs holds Step of port i against what is wanted, told by its ports.
func stepIs(t *testing.T, name string, b api.Tree, i int, want [8]api.Cord) {
	t.Helper()
	wanted := b
	wanted.Cords = want
	if got := ripple.Step(b, i); got != wanted {
		t.Errorf("%s: port %d: %s, want %s", name, i, told(got), told(wanted))
	}
}

func TestStepOfNoPort(t *testing.T) {
	b := bridge()
	for i := range b.Cords {
		b.Cords[i] = with(port(designated, discarding), func(c *api.Cord) { c.Agreed, c.Proposed = true, true })
	}
	for _, i := range []int{-1, 8, 9, -8, 16, math.MaxInt, math.MinInt} {
		stepIs(t, "no port", b, i, b.Cords)
	}
}

func TestStepOfNoRole(t *testing.T) {
	for _, state := range []int{discarding, learning, forwarding} {
		for _, role := range []int{none, 4, -1, math.MaxInt, math.MinInt} {
			b := bridge()
			for i := range b.Cords {
				b.Cords[i] = with(port(role, state), func(c *api.Cord) { c.Agreed, c.Proposed, c.Proposing, c.Recent = true, true, true, 3 })
				stepIs(t, fmt.Sprint("role ", role), b, i, b.Cords)
			}
		}
		for _, role := range []int{alternate, root, designated} {
			b := bridge()
			for i := range b.Cords {
				b.Cords[i] = with(port(role, state), func(c *api.Cord) { c.Up, c.Agreed, c.Proposed, c.Proposing, c.Recent = false, true, true, true, 3 })
				stepIs(t, fmt.Sprint("down, of role ", role), b, i, b.Cords)
			}
		}
	}
}

func TestStepOfADesignatedPort(t *testing.T) {
	type cord = api.Cord
	for _, c := range []struct {
		name        string
		state       int
		was, become func(*cord)
	}{
		{"forwarding", forwarding, func(c *cord) {}, func(c *cord) {}},
		{"forwarding and proposing", forwarding, func(c *cord) { c.Proposing = true }, func(c *cord) { c.Proposing = false }},
		{"forwarding and agreed", forwarding, func(c *cord) { c.Agreed = true }, func(c *cord) {}},
		{"forwarding, an edge that is proposing", forwarding, func(c *cord) { c.Edge, c.Proposing = true, true }, func(c *cord) { c.Proposing = false }},
		{"forwarding, with something to tell", forwarding, func(c *cord) { c.Tell = true }, func(c *cord) {}},
		{"discarding", discarding, func(c *cord) {}, func(c *cord) { c.Proposing, c.Tell = true, true }},
		{"discarding, and said to be an edge", discarding, func(c *cord) { c.Admin = true }, func(c *cord) { c.Proposing, c.Tell = true, true }},
		{"discarding and proposing", discarding, func(c *cord) { c.Proposing = true }, func(c *cord) {}},
		{"discarding and synced", discarding, func(c *cord) { c.Synced, c.Agree = true, true }, func(c *cord) { c.Proposing, c.Tell = true, true }},
		{"discarding, an edge", discarding, func(c *cord) { c.Edge = true }, func(c *cord) { c.State, c.Wait, c.Tell = forwarding, 0, true }},
		{"discarding, an edge that is proposing", discarding, func(c *cord) { c.Edge, c.Proposing = true, true }, func(c *cord) { c.Proposing, c.State, c.Wait, c.Tell = false, forwarding, 0, true }},
		{"discarding and agreed", discarding, func(c *cord) { c.Agreed = true }, func(c *cord) { c.State, c.Wait, c.Tell = forwarding, 0, true }},
		{"discarding, proposing and agreed", discarding, func(c *cord) { c.Agreed, c.Proposing = true, true }, func(c *cord) { c.Proposing, c.State, c.Wait, c.Tell = false, forwarding, 0, true }},
		{"discarding and proposed", discarding, func(c *cord) { c.Proposed = true }, func(c *cord) { c.Proposing, c.Tell = true, true }},
		{"discarding, a root port of late", discarding, func(c *cord) { c.Recent = 5 }, func(c *cord) { c.Proposing, c.Tell = true, true }},
		{"learning", learning, func(c *cord) {}, func(c *cord) { c.Proposing, c.Tell = true, true }},
		{"learning and proposing", learning, func(c *cord) { c.Proposing = true }, func(c *cord) {}},
		{"learning and agreed", learning, func(c *cord) { c.Agreed = true }, func(c *cord) { c.State, c.Wait, c.Tell = forwarding, 0, true }},
		{"learning, an edge", learning, func(c *cord) { c.Edge = true }, func(c *cord) { c.State, c.Wait, c.Tell = forwarding, 0, true }},
		{"in no state", 3, func(c *cord) {}, func(c *cord) { c.Proposing, c.Tell = true, true }},
		{"in no state, and agreed", 3, func(c *cord) { c.Agreed = true }, func(c *cord) { c.State, c.Wait, c.Tell = forwarding, 0, true }},
	} {
		for i := range 8 {
			b := bridge()
			for k := range b.Cords { // the others say nothing, and nothing comes of them
				b.Cords[k] = with(port(designated, learning), func(c *cord) { c.Agreed, c.Recent = true, 5 })
			}
			b.Cords[i] = with(port(designated, c.state), c.was)
			want := b.Cords
			c.become(&want[i])
			stepIs(t, c.name, b, i, want)
		}
	}
}

func TestStepOfAnAlternatePort(t *testing.T) {
	for _, state := range []int{discarding, learning, forwarding, 3, -1} {
		for _, delay := range []int{15, 0, 1, -4} {
			for _, proposed := range []bool{false, true} {
				for _, tell := range []bool{false, true} {
					for i := range 8 {
						b := bridge()
						for k := range b.Cords {
							b.Cords[k] = with(port(designated, forwarding), func(c *api.Cord) { c.Recent = 5 })
						}
						b.Cords[i] = with(port(alternate, state), func(c *api.Cord) {
							c.Times.Delay, c.Proposed, c.Tell, c.Edge, c.Agreed, c.Recent = delay, proposed, tell, true, true, 4
						})
						want := b.Cords
						if state != discarding {
							want[i].State, want[i].Wait, want[i].Tell = discarding, delay, true
						}
						if proposed {
							want[i].Proposed, want[i].Agree, want[i].Tell = false, true, true
						}
						stepIs(t, fmt.Sprint("state ", state, ", delay ", delay, ", proposed ", proposed), b, i, want)
					}
				}
			}
		}
	}
}

// A root port that is not proposed to leaves the others as they are, unless they were root ports of late.
func TestStepOfARootPort(t *testing.T) {
	for _, c := range []struct {
		state, delay, recent int
	}{
		{forwarding, 15, 15}, {forwarding, 1, 1}, {forwarding, 0, 1}, {forwarding, -9, 1}, {forwarding, math.MinInt, 1}, {forwarding, math.MaxInt, math.MaxInt},
		{discarding, 15, 15}, {discarding, 0, 1}, {learning, 15, 15}, {learning, -1, 1}, {3, 2, 2}, {-1, 2, 2},
	} {
		for i := range 8 {
			b := bridge()
			for k := range b.Cords {
				b.Cords[k] = with(port(designated, forwarding), func(c *api.Cord) { c.Recent = -k })
			}
			b.Cords[i] = with(port(root, c.state), func(o *api.Cord) { o.Times.Delay, o.Recent, o.Agreed = c.delay, 3, true })
			want := b.Cords
			want[i].Recent = c.recent
			if c.state != forwarding {
				want[i].State, want[i].Wait, want[i].Tell = forwarding, 0, true
			}
			stepIs(t, fmt.Sprint(c), b, i, want)
		}
	}
}

// What a root port makes of each other port: by a proposal, by its beginning to forward, and by both.
func TestStepOfARootPortAndOthers(t *testing.T) {
	type cord = api.Cord
	leave := func(c *cord) {}
	sync := func(c *cord) { c.Synced = true }
	syncDiscards := func(c *cord) { c.Synced, c.State, c.Wait, c.Tell = true, discarding, 15, true }
	stops := func(c *cord) { c.State, c.Wait, c.Tell, c.Recent = discarding, 15, true, 0 }
	both := func(c *cord) { syncDiscards(c); c.Recent = 0 }
	waits := func(c *cord) { c.Wait, c.Recent = 15, 0 }
	syncWaits := func(c *cord) { waits(c); c.Synced = true }
	for _, c := range []struct {
		name                     string
		was                      cord
		proposed, begins, atOnce func(*cord)
	}{
		{"forwarding", port(designated, forwarding), syncDiscards, leave, syncDiscards},
		{"learning", port(designated, learning), syncDiscards, leave, syncDiscards},
		{"in no state", port(designated, 3), syncDiscards, leave, syncDiscards},
		{"discarding", port(designated, discarding), sync, leave, sync},
		{"forwarding, of late", with(port(designated, forwarding), func(c *cord) { c.Recent = 1 }), syncDiscards, stops, both},
		{"learning, of late", with(port(designated, learning), func(c *cord) { c.Recent = 7 }), syncDiscards, stops, both},
		{"discarding, of late", with(port(designated, discarding), func(c *cord) { c.Recent = 2 }), sync, waits, syncWaits},
		{"agreed", with(port(designated, forwarding), func(c *cord) { c.Agreed = true }), sync, leave, sync},
		{"agreed, of late", with(port(designated, forwarding), func(c *cord) { c.Agreed, c.Recent = true, 1 }), sync, leave, sync},
		{"agreed and discarding, of late", with(port(designated, discarding), func(c *cord) { c.Agreed, c.Recent = true, 1 }), sync, leave, sync},
		{"synced", with(port(designated, forwarding), func(c *cord) { c.Synced = true }), syncDiscards, leave, syncDiscards},
		{"synced, of late", with(port(designated, forwarding), func(c *cord) { c.Synced, c.Recent = true, 1 }), syncDiscards, stops, both},
		{"proposing", with(port(designated, learning), func(c *cord) { c.Proposing, c.Proposed = true, true }), syncDiscards, leave, syncDiscards},
		{"an edge", with(port(designated, forwarding), func(c *cord) { c.Edge, c.Recent = true, 1 }), leave, leave, leave},
		{"said to be an edge", with(port(designated, forwarding), func(c *cord) { c.Admin, c.Recent = true, 1 }), syncDiscards, stops, both},
		{"down", with(port(designated, forwarding), func(c *cord) { c.Up, c.Recent = false, 1 }), leave, leave, leave},
		{"of no role", with(port(none, forwarding), func(c *cord) { c.Recent = 1 }), leave, leave, leave},
		{"alternate", with(port(alternate, forwarding), func(c *cord) { c.Recent = 1 }), leave, leave, leave},
		{"a root port, too", with(port(root, forwarding), func(c *cord) { c.Recent = 1 }), leave, leave, leave},
		{"of another role", with(port(4, forwarding), func(c *cord) { c.Recent = 1 }), leave, leave, leave},
	} {
		for i := range 8 {
			for k := range 8 {
				if i == k {
					continue
				}
				for n, become := range []func(*cord){leave, c.proposed, c.begins, c.atOnce} {
					b := bridge()
					b.Cords[k] = c.was
					mine := with(port(root, forwarding), func(c *cord) { c.Proposed = n%2 == 1 })
					if n > 1 {
						mine.State = learning
					}
					b.Cords[i] = mine
					want := b.Cords
					become(&want[k])
					if n%2 == 1 {
						want[i].Proposed, want[i].Agree, want[i].Tell = false, true, true
					}
					if n > 1 {
						want[i].State, want[i].Wait, want[i].Tell = forwarding, 0, true
					}
					want[i].Recent = 15
					stepIs(t, fmt.Sprint(c.name, ", way ", n), b, i, want)
				}
			}
		}
	}
}

// Each port has its own Delay, and waits by that.
func TestStepGoesByEachPortsDelay(t *testing.T) {
	b := bridge()
	for k := range b.Cords {
		b.Cords[k] = with(port(designated, forwarding), func(c *api.Cord) { c.Times.Delay, c.Recent = k+4, k%2 })
	}
	b.Cords[3] = with(port(root, learning), func(c *api.Cord) { c.Times.Delay = 23 })
	want := b.Cords
	for k := range want {
		if k != 3 && k%2 == 1 {
			want[k].State, want[k].Wait, want[k].Tell, want[k].Recent = discarding, k+4, true, 0
		}
	}
	want[3].State, want[3].Wait, want[3].Tell, want[3].Recent = forwarding, 0, true, 23
	stepIs(t, "begins to forward", b, 3, want)
	b.Cords[3].Proposed = true
	for k := range want {
		if k != 3 {
			want[k].State, want[k].Wait, want[k].Tell, want[k].Synced = discarding, k+4, true, true
		}
	}
	want[3].Agree = true
	stepIs(t, "is proposed to", b, 3, want)
}

func TestStepOfMany(t *testing.T) {
	r := rand.New(rand.NewSource(202))
	changed := map[int]int{}
	for range 60000 {
		b := drawnTree(r)
		i := r.Intn(10) - 1
		got := ripple.Step(b, i)
		if want := step(b, i); got != want {
			t.Fatalf("Step(%s, %d): %s, want %s", told(b), i, told(got), told(want))
		}
		if got != b {
			changed[b.Cords[i].Role]++
		}
		if but := r.Intn(10) - 1; ripple.Held(b, but) != held(b, but) {
			t.Fatalf("Held(%s, %d): %t", told(b), but, !held(b, but))
		}
	}
	if len(changed) != 3 || changed[alternate] < 1000 || changed[root] < 1000 || changed[designated] < 1000 {
		t.Errorf("too few of some: %v", changed)
	}
}

// P20.3

func TestSettleGoesRound(t *testing.T) {
	for _, at := range []int{0, 3, 7} {
		for _, other := range []int{0, 3, 7} {
			if at == other {
				continue
			}
			b := bridge()
			b.Cords[at] = with(port(root, discarding), func(c *api.Cord) { c.Proposed = true })
			b.Cords[other] = port(designated, forwarding)
			want := b
			want.Cords[at].Proposed, want.Cords[at].Agree, want.Cords[at].Tell = false, true, true
			want.Cords[at].State, want.Cords[at].Wait, want.Cords[at].Recent = forwarding, 0, 15
			// what the proposal made discard proposes in its turn, whichever of the two comes first
			want.Cords[other].Synced, want.Cords[other].State, want.Cords[other].Wait = true, discarding, 15
			want.Cords[other].Proposing, want.Cords[other].Tell = true, true
			if got := ripple.Settle(b); got != want {
				t.Errorf("root port %d, other port %d: %s, want %s", at, other, told(got), told(want))
			}
		}
	}
}

func TestSettleOfAllPorts(t *testing.T) {
	b := bridge(
		with(port(root, learning), func(c *api.Cord) { c.Recent = 3 }),
		port(alternate, forwarding),
		with(port(alternate, discarding), func(c *api.Cord) { c.Proposed = true }),
		with(port(designated, forwarding), func(c *api.Cord) { c.Recent = 4 }),
		with(port(designated, discarding), func(c *api.Cord) { c.Edge = true }),
		with(port(designated, learning), func(c *api.Cord) { c.Agreed, c.Proposing = true, true }),
		port(designated, discarding),
		with(port(designated, discarding), func(c *api.Cord) { c.Up = false }),
	)
	want := b
	l := &want.Cords
	l[0].State, l[0].Wait, l[0].Tell, l[0].Recent = forwarding, 0, true, 15
	l[1].State, l[1].Wait, l[1].Tell = discarding, 15, true
	l[2].Proposed, l[2].Agree, l[2].Tell = false, true, true
	l[3].State, l[3].Wait, l[3].Tell, l[3].Recent, l[3].Proposing = discarding, 15, true, 0, true
	l[4].State, l[4].Wait, l[4].Tell = forwarding, 0, true
	l[5].State, l[5].Wait, l[5].Tell, l[5].Proposing = forwarding, 0, true, false
	l[6].Proposing, l[6].Tell = true, true
	if got := ripple.Settle(b); got != want {
		t.Errorf("%s, want %s", told(got), told(want))
	}
}

func TestSettleOfNothing(t *testing.T) {
	for _, b := range []api.Tree{{}, bridge(), bridge(api.Cord{Up: true}, api.Cord{Role: designated}, with(port(4, forwarding), func(c *api.Cord) { c.Proposed = true }))} {
		if got := ripple.Settle(b); got != b {
			t.Errorf("%s: %s", told(b), told(got))
		}
	}
}

func TestSettleOfMany(t *testing.T) {
	r := rand.New(rand.NewSource(203))
	for range 40000 {
		b := drawnTree(r)
		got := ripple.Settle(b)
		if want := settled(b); got != want {
			t.Fatalf("Settle(%s): %s, want %s", told(b), told(got), told(want))
		}
		if again := ripple.Settle(got); again != got {
			t.Fatalf("%s, again: %s", told(got), told(again))
		}
		for i := range 8 {
			if ripple.Step(got, i) != got {
				t.Fatalf("Settle(%s): port %d goes on", told(b), i)
			}
		}
	}
}

// P20.4

func TestOpenAndLearning(t *testing.T) {
	for _, c := range []struct{ state, open, learns int }{
		{discarding, 0, 0}, {learning, 0, 1}, {forwarding, 1, 1}, {3, 0, 1}, {-1, 0, 0}, {math.MaxInt, 0, 1}, {math.MinInt, 0, 0},
	} {
		for _, role := range []int{none, alternate, root, designated, 4} { // the role says nothing
			for i := range 8 {
				b := bridge()
				b.Cords[i] = port(role, c.state)
				if open, learns := ripple.Open(b), ripple.Learning(b); open != c.open<<i || learns != c.learns<<i {
					t.Errorf("role %d, state %d, port %d: %d, %d", role, c.state, i, open, learns)
				}
				b.Cords[i].Up = false
				if open, learns := ripple.Open(b), ripple.Learning(b); open != 0 || learns != 0 {
					t.Errorf("role %d, state %d, port %d, down: %d, %d", role, c.state, i, open, learns)
				}
			}
		}
	}
	if open, learns := ripple.Open(api.Tree{}), ripple.Learning(api.Tree{}); open != 0 || learns != 0 {
		t.Errorf("nothing: %d, %d", open, learns)
	}
}

func TestOpenAndLearningOfMany(t *testing.T) {
	r := rand.New(rand.NewSource(204))
	for range 20000 {
		b := drawnTree(r)
		open, learns := 0, 0
		for i, c := range b.Cords {
			if c.Up && c.State == 2 {
				open += 1 << i
			}
			if c.Up && c.State > 0 {
				learns += 1 << i
			}
		}
		if gotOpen, gotLearns := ripple.Open(b), ripple.Learning(b); gotOpen != open || gotLearns != learns {
			t.Fatalf("%s: %d, %d, want %d, %d", told(b), gotOpen, gotLearns, open, learns)
		}
	}
}

// P20.5

func TestBehindSettle(t *testing.T) {
	r := rand.New(rand.NewSource(205))
	for range 40000 {
		b := drawnTree(r)
		got := ripple.Settle(b)
		for i, c := range got.Cords {
			was := b.Cords[i]
			if c.Up != was.Up || c.Role != was.Role {
				t.Fatalf("Settle(%s): port %d: %s", told(b), i, told(c))
			}
			if !c.Up {
				continue
			}
			open, learns := ripple.Open(got)>>i&1 == 1, ripple.Learning(got)>>i&1 == 1
			if c.Role == root && (c.State != forwarding || !open || !learns) || c.Role == alternate && (c.State != discarding || open || learns) {
				t.Fatalf("Settle(%s): port %d: %s", told(b), i, told(c))
			}
			if c.Proposed && (c.Role == root || c.Role == alternate) {
				t.Fatalf("Settle(%s): port %d is proposed to: %s", told(b), i, told(c))
			}
		}
	}
}

// joined answers bridges that stand in a ring, each joined by port 0 to port 1 of the next one in the list.
func joined(ids ...uint64) []api.Tree {
	l := []api.Tree{}
	for _, id := range ids {
		b := api.Tree{Id: id, Own: api.Times{MaxAge: 20, Hello: 2, Delay: 15}}
		b.Cords[0], b.Cords[1] = api.Cord{Up: true, Rapid: true, Cost: 10}, api.Cord{Up: true, Rapid: true, Cost: 10}
		b.Cords[2] = api.Cord{Up: true, Rapid: true, Cost: 10, Edge: true}
		l = append(l, ripple.Settle(elect.Elect(b)))
	}
	return l
}

// tell lets each bridge of a ring tell both its neighbours what it is to, and reports whether anything was told.
func tell(l []api.Tree) bool {
	any := false
	for i := range l {
		for p := range 2 {
			if !l[i].Cords[p].Tell {
				continue
			}
			any = true
			l[i].Cords[p].Tell = false
			to := (i + 1) % len(l)
			if p == 1 {
				to = (i + len(l) - 1) % len(l)
			}
			l[to].Cords[1-p], _ = rstpport.Receive(l[to].Cords[1-p], rstpport.Message(l[i].Cords[p]))
			l[to] = ripple.Settle(elect.Elect(l[to]))
		}
	}
	return any
}

// closes tells whether frames may go round a ring.
func closes(l []api.Tree) bool {
	for _, b := range l {
		if ripple.Open(b)&3 != 3 {
			return false
		}
	}
	return true
}

// A ring comes to forward by what is told alone, no tick being waited for, with one port at most that does not, and never all round.
func TestARing(t *testing.T) {
	for _, ids := range [][]uint64{{1, 2}, {1, 2, 3}, {3, 2, 1}, {2, 1, 4, 3}, {5, 3, 1, 2, 4}} {
		l := joined(ids...)
		for range 50 {
			if !tell(l) {
				break
			}
			if closes(l) {
				t.Errorf("%v: it is closed", ids)
			}
		}
		if tell(l) {
			t.Errorf("%v: it is not at rest", ids)
		}
		var closed []int
		for _, b := range l {
			for _, c := range b.Cords[:3] {
				if c.State != forwarding {
					closed = append(closed, c.Role)
				}
			}
		}
		if !slices.Equal(closed, []int{alternate}) {
			t.Errorf("%v: closed are ports of the roles %v", ids, closed)
		}
	}
}

// R1

func FuzzRipple(f *testing.F) {
	f.Add(int64(1), 0, 0, 0, 0)
	f.Add(int64(2), math.MinInt, math.MaxInt, math.MinInt, math.MaxInt)
	f.Add(int64(3), math.MaxInt, math.MinInt, math.MaxInt, math.MinInt)
	f.Fuzz(func(t *testing.T, seed int64, i, role, state, delay int) {
		r := rand.New(rand.NewSource(seed))
		b := drawnTree(r)
		for k := range b.Cords {
			if r.Intn(4) == 0 {
				b.Cords[k].Role, b.Cords[k].State = role, state
				b.Cords[k].Times.Delay, b.Cords[k].Recent = delay, i
			}
		}
		if got, want := ripple.Step(b, i), step(b, i); got != want {
			t.Fatalf("Step(%s, %d): %s, want %s", told(b), i, told(got), told(want))
		}
		if got, want := ripple.Settle(b), settled(b); got != want {
			t.Fatalf("Settle(%s): %s, want %s", told(b), told(got), told(want))
		}
		if ripple.Held(b, i) != held(b, i) {
			t.Fatalf("Held(%s, %d): %t", told(b), i, !held(b, i))
		}
	})
}
