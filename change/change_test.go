package change_test

import (
	"fmt"
	"math"
	"math/rand"
	"testing"

	"tipstaff/api"
	"tipstaff/change"
	"tipstaff/clock"
	"tipstaff/elect"
	"tipstaff/ripple"
	"tipstaff/rstpport"
)

const (
	none, alternate, root, designated = api.RoleNone, api.RoleAlternate, api.RoleRoot, api.RoleDesignated
	discarding, learning, forwarding  = api.StateDiscarding, api.StateLearning, api.StateForwarding
	config, notice, rapid             = api.BpduConfig, api.BpduChange, api.BpduRapid
)

// told answers what v is, no longer than is of use.
func told(v any) string { return fmt.Sprintf("%.3000s", fmt.Sprintf("%+v", v)) }

// with answers x, changed.
func with[T any](x T, change func(*T)) T {
	change(&x)
	return x
}

// pick answers one of l.
func pick[T any](r *rand.Rand, l ...T) T { return l[r.Intn(len(l))] }

// coin answers true as often as false.
func coin(r *rand.Rand) bool { return r.Intn(2) == 0 }

// port answers a port that is up, of that role and in that state, which tells no change, and would tell one for 23 ticks, or, if it were Rapid, for 4.
func port(role, state int) api.Cord {
	return api.Cord{
		Up: true, Cost: 77, Info: api.InfoMine, Vector: api.Vector{Root: 1, Cost: 2, Bridge: 3, Port: 4}, Times: api.Times{Age: 1, MaxAge: 14, Hello: 3, Delay: 9},
		Role: role, State: state, Heard: 101, Wait: 102, Recent: 103, Quiet: 105, Sense: 106, Hello: 107,
	}
}

// bridge answers a bridge with these ports, and all else that there is of it.
func bridge(cords ...api.Cord) api.Tree {
	t := api.Tree{Id: 9, Own: api.Times{MaxAge: 6}, Root: api.Vector{Root: 1, Cost: 5}, Times: api.Times{Hello: 7, MaxAge: 8, Delay: 9}, Port: 2}
	copy(t.Cords[:], cords)
	return t
}

// full answers a bridge whose ports are all as c.
func full(c api.Cord) api.Tree {
	return bridge(c, c, c, c, c, c, c, c)
}

// at answers t with the port i as c.
func at(t api.Tree, i int, c api.Cord) api.Tree {
	t.Cords[i] = c
	return t
}

// leads is what Ports asks of a port, told anew.
func leads(c api.Cord) bool {
	return c.Up && !c.Edge && (c.Role == 2 || c.Role == 3)
}

// portsOf is Ports, told anew.
func portsOf(t api.Tree, but int) int {
	set := 0
	for i := range 8 {
		if leads(t.Cords[i]) && i != but {
			set += 1 << i
		}
	}
	return set
}

// clamped answers n, 1 at least and 255 at most.
func clamped(n int) int {
	if n < 1 {
		return 1
	}
	if n > 255 {
		return 255
	}
	return n
}

// ticks answers for how long c tells a change, told anew.
func ticks(c api.Cord) int {
	if !c.Rapid {
		return clamped(c.Times.MaxAge) + clamped(c.Times.Delay)
	}
	return 1 + clamped(c.Times.Hello)
}

// started is Start, told anew.
func started(t api.Tree, set int) api.Tree {
	for i := range 8 {
		if c := &t.Cords[i]; set&(1<<i) != 0 && c.Change == 0 {
			c.Tell = true
			c.Change = ticks(*c)
		}
	}
	return t
}

// heard is Hear, told anew.
func heard(t api.Tree, i int, b api.Bpdu) (api.Tree, int) {
	if i < 0 || i > 7 || !t.Cords[i].Up {
		return t, 0
	}
	c := &t.Cords[i]
	if b.Kind == 128 {
		c.Ack = c.Role == 3
		c.Tell = true
	} else if b.Ack {
		c.Change = 0
	}
	if b.Kind == 128 || b.Change {
		set := portsOf(t, i)
		return started(t, set), set
	}
	return t, 0
}

// flushed is Flush, told anew.
func flushed(old, now api.Tree) (api.Tree, int) {
	set := 0
	for i := range 8 {
		o, n := old.Cords[i], now.Cords[i]
		if o.Up && !n.Up || o.State != 0 && n.State == 0 {
			set |= 1 << i
		} else if o.State != 2 && n.State == 2 && !n.Edge {
			now = started(now, 1<<i)
			now = started(now, portsOf(now, i))
			set |= portsOf(now, i)
		}
	}
	return now, set
}

// drawnCord answers a port, which need not be one that there can be.
func drawnCord(r *rand.Rand) api.Cord {
	time := func() int {
		return pick(r, -1, 0, 1, 2, 15, 40, 254, 255, 256, math.MaxInt, math.MinInt)
	}
	return api.Cord{
		Up: r.Intn(6) > 0, Admin: coin(r), Edge: r.Intn(4) == 0, Cost: uint64(r.Intn(9)), Info: r.Intn(3),
		Vector: api.Vector{Root: uint64(r.Intn(9))}, Times: api.Times{Age: r.Intn(9), MaxAge: time(), Hello: time(), Delay: time()},
		Role: pick(r, 0, 1, 2, 2, 3, 3, 3, 4, -1), State: pick(r, 0, 0, 1, 2, 2, 3, -1), Agreed: coin(r), Agree: coin(r), Proposing: coin(r), Proposed: coin(r),
		Sync: coin(r), Synced: coin(r), Rapid: coin(r), Tell: r.Intn(4) == 0, Ack: coin(r),
		Heard: r.Intn(9) - 1, Wait: r.Intn(9) - 1, Recent: r.Intn(9) - 1, Change: pick(r, 0, 0, 0, 1, 2, 35, -1, math.MaxInt, math.MinInt), Quiet: r.Intn(9), Sense: r.Intn(9), Hello: r.Intn(9),
	}
}

// drawnTree answers a bridge with ports that are drawn.
func drawnTree(r *rand.Rand) api.Tree {
	t := api.Tree{Id: uint64(r.Intn(9)), Own: api.Times{Hello: r.Intn(9)}, Root: api.Vector{Cost: uint64(r.Intn(9))}, Times: api.Times{Hello: r.Intn(300), MaxAge: r.Intn(300), Delay: r.Intn(300)}, Port: r.Intn(11) - 2}
	for i := range t.Cords {
		t.Cords[i] = drawnCord(r)
	}
	return t
}

// later answers t with some of its ports changed, a little or altogether.
func later(r *rand.Rand, t api.Tree) api.Tree {
	for i := range t.Cords {
		c := &t.Cords[i]
		switch r.Intn(6) {
		case 0:
			*c = drawnCord(r)
		case 1:
			c.State = pick(r, 0, 1, 2)
		case 2:
			c.Up = coin(r)
		case 3:
			c.Edge, c.Role = coin(r), r.Intn(4)
		case 4:
			c.Tell, c.Change = true, 0
		}
	}
	return t
}

// drawnBpdu answers a BPDU, which need not be one that there can be.
func drawnBpdu(r *rand.Rand) api.Bpdu {
	return api.Bpdu{
		Kind: pick(r, 0, 2, 2, 128, 1, -1, 3), Change: coin(r), Proposal: coin(r), Role: r.Intn(5) - 1, Learning: coin(r), Forwarding: coin(r), Agreement: coin(r), Ack: coin(r),
		Vector: api.Vector{Root: uint64(r.Intn(9))}, Age: r.Intn(9), MaxAge: r.Intn(300), Hello: r.Intn(300), Delay: r.Intn(300),
	}
}

// P22.1

func TestPortsOfOnePort(t *testing.T) {
	type cord = api.Cord
	for _, c := range []struct {
		name string
		was  func(*cord)
		in   bool
	}{
		{"designated", func(c *cord) {}, true},
		{"a root port", func(c *cord) { c.Role = root }, true},
		{"alternate", func(c *cord) { c.Role = alternate }, false},
		{"of no role", func(c *cord) { c.Role = none }, false},
		{"of another role", func(c *cord) { c.Role = 4 }, false},
		{"of a role below all", func(c *cord) { c.Role = -1 }, false},
		{"down", func(c *cord) { c.Up = false }, false},
		{"a root port that is down", func(c *cord) { c.Role, c.Up = root, false }, false},
		{"an edge", func(c *cord) { c.Edge = true }, false},
		{"a root port that is an edge", func(c *cord) { c.Role, c.Edge = root, true }, false},
		{"said to be an edge, which it is not", func(c *cord) { c.Admin = true }, true},
		{"discarding", func(c *cord) { c.State = discarding }, true},
		{"learning", func(c *cord) { c.State = learning }, true},
		{"telling a change", func(c *cord) { c.Change = 3 }, true},
		{"with something to tell", func(c *cord) { c.Tell = true }, true},
		{"rapid", func(c *cord) { c.Rapid = true }, true},
		{"with nothing heard", func(c *cord) { c.Info = api.InfoNone }, true},
	} {
		for i := range 8 {
			b := at(bridge(), i, with(port(designated, forwarding), c.was))
			want := 0
			if c.in {
				want = 1 << i
			}
			for _, but := range []int{-1, 8, (i + 1) % 8, (i + 7) % 8, i + 8, i - 8, math.MaxInt, math.MinInt} {
				if got := change.Ports(b, but); got != want {
					t.Errorf("port %d is %s, but %d: %d, want %d", i, c.name, but, got, want)
				}
			}
			if got := change.Ports(b, i); got != 0 {
				t.Errorf("port %d is %s, but itself: %d", i, c.name, got)
			}
		}
	}
}

func TestPortsOfAll(t *testing.T) {
	d, r, a := port(designated, forwarding), port(root, forwarding), port(alternate, discarding)
	e := with(d, func(c *api.Cord) { c.Edge = true })
	for _, c := range []struct {
		name  string
		b     api.Tree
		but   int
		wants int
	}{
		{"nothing", api.Tree{}, -1, 0},
		{"nothing, but a port", api.Tree{}, 3, 0},
		{"all are designated", full(d), -1, 255},
		{"all are designated, but the first", full(d), 0, 254},
		{"all are designated, but the last", full(d), 7, 127},
		{"all are designated, but one in the middle", full(d), 4, 239},
		{"all are designated, but none", full(d), 8, 255},
		{"all are alternate", full(a), -1, 0},
		{"of each kind some", bridge(a, d, e, r, api.Cord{}, d, a, e), -1, 42},
		{"of each kind some, but the root port", bridge(a, d, e, r, api.Cord{}, d, a, e), 3, 34},
		{"of each kind some, but an edge", bridge(a, d, e, r, api.Cord{}, d, a, e), 2, 42},
	} {
		if got := change.Ports(c.b, c.but); got != c.wants {
			t.Errorf("%s: %d, want %d", c.name, got, c.wants)
		}
	}
}

// P22.2

// startIs holds Start against what is wanted, told by its ports.
func startIs(t *testing.T, name string, b api.Tree, set int, want [8]api.Cord) {
	t.Helper()
	wanted := b
	wanted.Cords = want
	if got := change.Start(b, set); got != wanted {
		t.Errorf("%s: Start of %d: %s, want %s", name, set, told(got), told(wanted))
	}
}

// How long a port tells a change hangs on its own times, held to what they may be.
func TestStartTellsForAWhile(t *testing.T) {
	for _, c := range []struct {
		rapid                bool
		hello, maxAge, delay int
		want                 int
	}{
		{true, 2, 20, 15, 3}, {true, 1, 20, 15, 2}, {true, 10, 20, 15, 11}, {true, 0, 20, 15, 2}, {true, -1, 20, 15, 2}, {true, math.MinInt, 20, 15, 2},
		{true, 254, 0, 0, 255}, {true, 255, 0, 0, 256}, {true, 256, 0, 0, 256}, {true, math.MaxInt, 0, 0, 256}, {true, 0, 0, 0, 2},
		{true, 2, math.MaxInt, math.MaxInt, 3}, {true, 2, math.MinInt, math.MinInt, 3},
		{false, 2, 20, 15, 35}, {false, 2, 6, 4, 10}, {false, 2, 40, 30, 70}, {false, 2, 1, 1, 2}, {false, 2, 0, 0, 2}, {false, 2, 0, 15, 16}, {false, 2, 20, 0, 21},
		{false, 2, -9, 15, 16}, {false, 2, 20, -9, 21}, {false, 2, math.MinInt, math.MinInt, 2}, {false, 2, 255, 255, 510}, {false, 2, 254, 255, 509}, {false, 2, 255, 254, 509},
		{false, 2, 256, 3, 258}, {false, 2, 3, 256, 258}, {false, 2, 300, 300, 510}, {false, 2, math.MaxInt, math.MaxInt, 510}, {false, math.MaxInt, 20, 15, 35}, {false, math.MinInt, 20, 15, 35},
	} {
		for i := range 8 {
			b := full(port(designated, forwarding))
			b.Cords[i].Rapid, b.Cords[i].Times = c.rapid, api.Times{Age: 3, MaxAge: c.maxAge, Hello: c.hello, Delay: c.delay}
			want := b.Cords
			want[i].Change, want[i].Tell = c.want, true
			startIs(t, fmt.Sprint(c), b, 1<<i, want)
		}
	}
}

// Whatever a port is, it is started if it is of the set, and tells no change.
func TestStartOfOnePort(t *testing.T) {
	type cord = api.Cord
	for _, c := range []struct {
		name   string
		was    func(*cord)
		starts bool
	}{
		{"designated", func(c *cord) {}, true},
		{"a root port", func(c *cord) { c.Role = root }, true},
		{"alternate", func(c *cord) { c.Role = alternate }, true},
		{"of no role", func(c *cord) { c.Role = none }, true},
		{"down", func(c *cord) { c.Up = false }, true},
		{"an edge", func(c *cord) { c.Edge = true }, true},
		{"with something to tell", func(c *cord) { c.Tell = true }, true},
		{"telling a change for a tick yet", func(c *cord) { c.Change = 1 }, false},
		{"telling a change for as long", func(c *cord) { c.Change = 23 }, false},
		{"telling a change for longer", func(c *cord) { c.Change = 500 }, false},
		{"telling a change, and with something to tell", func(c *cord) { c.Change, c.Tell = 7, true }, false},
		{"telling a change for ever", func(c *cord) { c.Change = math.MaxInt }, false},
		{"telling a change for less than no tick", func(c *cord) { c.Change = -1 }, false},
	} {
		for i := range 8 {
			b := at(full(port(root, learning)), i, with(port(designated, forwarding), c.was))
			want := b.Cords
			if c.starts {
				want[i].Change, want[i].Tell = 23, true
			}
			startIs(t, c.name, b, 1<<i, want)
		}
	}
}

func TestStartOfSets(t *testing.T) {
	b := bridge(
		port(designated, forwarding),
		with(port(root, forwarding), func(c *api.Cord) { c.Rapid = true }),
		with(port(designated, forwarding), func(c *api.Cord) { c.Change = 5 }),
		port(alternate, discarding),
		api.Cord{},
		with(port(designated, learning), func(c *api.Cord) { c.Times = api.Times{MaxAge: 30, Delay: 2} }),
	)
	lasts := [8]int{23, 4, 5, 23, 2, 32, 2, 2}
	for set := range 256 {
		want := b.Cords
		for i := range 8 {
			if set>>i&1 == 1 {
				want[i].Change, want[i].Tell = lasts[i], i != 2
			}
		}
		// bits that are no ports' say nothing
		for _, more := range []int{0, 256, 1 << 20, 1 << 62, math.MinInt, -256} {
			startIs(t, "of each kind some", b, set|more, want)
		}
		again := change.Start(b, set)
		startIs(t, "again", again, set, again.Cords)
	}
}

// P22.3

// flushIs holds Flush against what is wanted.
func flushIs(t *testing.T, name string, old, now, want api.Tree, set int) {
	t.Helper()
	if got, gotSet := change.Flush(old, now); got != want || gotSet != set {
		t.Errorf("%s: %s, %d, want %s, %d", name, told(got), gotSet, told(want), set)
	}
}

func TestFlushOfAPortThatCloses(t *testing.T) {
	type cord = api.Cord
	leave := func(c *cord) {}
	state := func(n int) func(*cord) { return func(c *cord) { c.State = n } }
	for _, c := range []struct {
		name     string
		was, now func(*cord)
		closes   bool
	}{
		{"it was up", leave, func(c *cord) { c.Up = false }, true},
		{"it was up, and keeps nothing", leave, func(c *cord) { *c = cord{} }, true},
		{"it was up, an edge", func(c *cord) { c.Edge = true }, func(c *cord) { c.Edge, c.Up = true, false }, true},
		{"it was up and discarding", state(discarding), func(c *cord) { c.Up, c.State = false, discarding }, true},
		{"it was up, and forwards, being down", state(discarding), func(c *cord) { c.Up, c.State = false, forwarding }, true},
		{"it was down, and comes up", func(c *cord) { c.Up = false }, leave, false},
		{"it was down, and comes up discarding", func(c *cord) { *c = cord{} }, state(discarding), false},
		{"it was down and is", func(c *cord) { c.Up = false }, func(c *cord) { c.Up, c.Cost = false, 3 }, false},
		{"it was forwarding", leave, state(discarding), true},
		{"it was learning", state(learning), state(discarding), true},
		{"it was in no state", state(3), state(discarding), true},
		{"it was below all states", state(-1), state(discarding), true},
		{"it was discarding", state(discarding), func(c *cord) { c.State, c.Wait = discarding, 7 }, false},
		{"it was forwarding, and learns", leave, state(learning), false},
		{"it was discarding, and learns", state(discarding), state(learning), false},
		{"it was learning and does", state(learning), func(c *cord) { c.State, c.Wait = learning, 7 }, false},
		{"it was forwarding, an edge", func(c *cord) { c.Edge = true }, func(c *cord) { c.State, c.Edge = discarding, true }, true},
		{"it was forwarding, and is alternate", leave, func(c *cord) { c.State, c.Role = discarding, alternate }, true},
		{"it was forwarding, and down", func(c *cord) { c.Up = false }, func(c *cord) { c.State, c.Up = discarding, false }, true},
		{"it was forwarding and does", leave, func(c *cord) { c.Role, c.Tell = root, true }, false},
		{"it becomes an edge", leave, func(c *cord) { c.Edge = true }, false},
		{"it is no edge any more", func(c *cord) { c.Edge = true }, leave, false},
	} {
		for i := range 8 {
			base := full(port(designated, forwarding))
			old := at(base, i, with(port(designated, forwarding), c.was))
			now := at(base, i, with(port(designated, forwarding), c.now))
			set := 0
			if c.closes {
				set = 1 << i
			}
			flushIs(t, fmt.Sprint("port ", i, ": ", c.name), old, now, now, set)
		}
	}
}

func TestFlushOfAPortThatOpens(t *testing.T) {
	type cord = api.Cord
	leave := func(c *cord) {}
	state := func(n int) func(*cord) { return func(c *cord) { c.State = n } }
	for _, c := range []struct {
		name     string
		was, now func(*cord)
		opens    bool
	}{
		{"it was discarding", state(discarding), leave, true},
		{"it was learning", state(learning), leave, true},
		{"it was in no state", state(3), leave, true},
		{"it was below all states", state(-1), leave, true},
		{"it was down", func(c *cord) { *c = cord{} }, leave, true},
		{"it was down and learning", func(c *cord) { c.Up, c.State = false, learning }, leave, true},
		{"it is a root port", func(c *cord) { c.Role, c.State = alternate, discarding }, func(c *cord) { c.Role = root }, true},
		{"it is alternate", state(discarding), func(c *cord) { c.Role = alternate }, true},
		{"it was discarding, an edge, and is none", func(c *cord) { c.State, c.Edge = discarding, true }, leave, true},
		{"it is said to be an edge", state(discarding), func(c *cord) { c.Admin = true }, true},
		{"it is an edge", state(discarding), func(c *cord) { c.Edge = true }, false},
		{"it was and is an edge", func(c *cord) { c.State, c.Edge = discarding, true }, func(c *cord) { c.Edge = true }, false},
		{"it was learning, and is an edge", state(learning), func(c *cord) { c.Edge = true }, false},
		{"it was forwarding", leave, func(c *cord) { c.Tell = true }, false},
		{"it was forwarding, an edge, and is none", func(c *cord) { c.Edge = true }, leave, false},
		{"it comes to learn", state(discarding), state(learning), false},
		{"it comes to no state", state(learning), state(3), false},
	} {
		for i := range 8 {
			k, l := (i+3)%8, (i+6)%8
			base := bridge()
			base.Cords[k], base.Cords[l] = port(root, discarding), with(port(designated, learning), func(c *cord) { c.Rapid = true })
			base.Cords[(i+1)%8], base.Cords[(i+2)%8] = with(port(designated, forwarding), func(c *cord) { c.Edge = true }), port(alternate, discarding)
			old := at(base, i, with(port(designated, forwarding), c.was))
			now := at(base, i, with(port(designated, forwarding), c.now))
			want, set := now, 0
			if c.opens {
				set = 1<<k | 1<<l
				want.Cords[i].Change, want.Cords[k].Change, want.Cords[l].Change = 23, 23, 4
				want.Cords[i].Tell, want.Cords[k].Tell, want.Cords[l].Tell = true, true, true
			}
			flushIs(t, fmt.Sprint("port ", i, ": ", c.name), old, now, want, set)
		}
	}
}

// What tells a change already goes on with that, and is forgotten all the same.
func TestFlushOfPortsThatTellAlready(t *testing.T) {
	tells := with(port(designated, forwarding), func(c *api.Cord) { c.Change = 2 })
	for i := range 8 {
		now := full(tells)
		old := at(now, i, with(tells, func(c *api.Cord) { c.State = learning }))
		flushIs(t, fmt.Sprint("port ", i), old, now, now, 255&^(1<<i))
		want := at(now, i, with(tells, func(c *api.Cord) { c.Change, c.Tell = 23, true }))
		now.Cords[i].Change = 0
		flushIs(t, fmt.Sprint("port ", i, ", which tells none"), old, now, want, 255&^(1<<i))
	}
}

// What other ports were says nothing of whether they are told, and forgotten.
func TestFlushGoesByWhatIsNow(t *testing.T) {
	d := port(designated, forwarding)
	e := with(d, func(c *api.Cord) { c.Edge = true })
	old := bridge(port(designated, learning), e, d, port(alternate, discarding), d)
	now := bridge(d, d, e, port(designated, discarding), port(alternate, forwarding))
	want := now
	for _, i := range []int{0, 1, 3} {
		want.Cords[i].Change, want.Cords[i].Tell = 23, true
	}
	flushIs(t, "edges and roles change", old, now, want, 10)
}

func TestFlushOfSomePorts(t *testing.T) {
	d, r := port(designated, forwarding), port(root, forwarding)
	stop := func(c api.Cord) api.Cord { c.State = discarding; return c }
	edge := func(c api.Cord) api.Cord { c.Edge = true; return c }
	tell := func(c api.Cord) api.Cord { c.Change, c.Tell = 23, true; return c }
	for _, c := range []struct {
		name           string
		old, now, want api.Tree
		set            int
	}{
		{"the root port is another one", bridge(r, stop(r), d), bridge(stop(d), r, d), bridge(tell(stop(d)), tell(r), tell(d)), 5},
		{"the root port is another one, behind", bridge(stop(r), r, d), bridge(r, stop(d), d), bridge(tell(r), tell(stop(d)), tell(d)), 6},
		{"two open", bridge(stop(r), stop(d)), bridge(r, d), bridge(tell(r), tell(d)), 3},
		{"two open, and there is another one", bridge(stop(r), d, stop(d)), bridge(r, d, d), bridge(tell(r), tell(d), tell(d)), 7},
		{"one opens, alone", bridge(stop(d)), bridge(d), bridge(tell(d)), 0},
		{"one opens, with edges", bridge(edge(d), stop(d), edge(d)), bridge(edge(d), d, edge(d)), bridge(edge(d), tell(d), edge(d)), 0},
		{"an edge opens", bridge(d, edge(stop(d)), r), bridge(d, edge(d), r), bridge(d, edge(d), r), 0},
		{"an edge closes", bridge(d, edge(d), r), bridge(d, edge(stop(d)), r), bridge(d, edge(stop(d)), r), 2},
		{"two close", bridge(d, d, r), bridge(stop(d), r, api.Cord{}), bridge(stop(d), r, api.Cord{}), 5},
		{"one goes down, an alternate one opens", bridge(r, stop(r), d), bridge(api.Cord{}, r, d), bridge(api.Cord{}, tell(r), tell(d)), 5},
		{"all close", full(d), full(stop(d)), full(stop(d)), 255},
		{"all go down", full(d), bridge(), bridge(), 255},
		{"all open", full(stop(d)), full(d), full(tell(d)), 255},
	} {
		flushIs(t, c.name, c.old, c.now, c.want, c.set)
	}
}

// All that is no port's is that of now.
func TestFlushAnswersNow(t *testing.T) {
	old, now := bridge(port(designated, learning)), bridge(port(designated, forwarding))
	old.Id, old.Own, old.Root, old.Times, old.Port = 3, api.Times{Hello: 9}, api.Vector{Root: 3}, api.Times{MaxAge: 3}, -1
	want := now
	want.Cords[0].Change, want.Cords[0].Tell = 23, true
	flushIs(t, "a new root", old, now, want, 0)
}

func TestFlushOfMany(t *testing.T) {
	r := rand.New(rand.NewSource(223))
	same, some := 0, 0
	for range 60000 {
		old := drawnTree(r)
		now := later(r, old)
		got, set := change.Flush(old, now)
		want, wantSet := flushed(old, now)
		if got != want || set != wantSet {
			t.Fatalf("Flush(%s, %s): %s, %d, want %s, %d", told(old), told(now), told(got), set, told(want), wantSet)
		}
		if got == now {
			same++
		}
		if set != 0 && set != 255 {
			some++
		}
	}
	if same < 1000 || some < 10000 {
		t.Errorf("too few of some: %d, %d", same, some)
	}
}

// P22.4

// hearIs holds Hear against what is wanted.
func hearIs(t *testing.T, name string, b api.Tree, i int, p api.Bpdu, want api.Tree, set int) {
	t.Helper()
	if got, gotSet := change.Hear(b, i, p); got != want || gotSet != set {
		t.Errorf("%s: port %d: %s, %d, want %s, %d", name, i, told(got), gotSet, told(want), set)
	}
}

func TestHearOfNoPort(t *testing.T) {
	bpdus := []api.Bpdu{{Kind: notice}, {Kind: config, Change: true, Ack: true}, {Kind: config, Ack: true}, {Kind: rapid, Change: true}, {}}
	b := full(with(port(designated, forwarding), func(c *api.Cord) { c.Change = 5 }))
	for _, p := range bpdus {
		for _, i := range []int{-1, 8, 9, -8, 16, 256, math.MaxInt, math.MinInt} {
			hearIs(t, "no port", b, i, p, b, 0)
		}
		for i := range 8 {
			for _, role := range []int{none, alternate, root, designated} {
				down := at(b, i, with(port(role, forwarding), func(c *api.Cord) { c.Up, c.Change = false, 5 }))
				hearIs(t, fmt.Sprint("down, of role ", role), down, i, p, down, 0)
			}
		}
	}
}

// A BpduChange is acknowledged by a designated port alone, whatever else it tells.
func TestHearOfABpduChange(t *testing.T) {
	for _, role := range []int{none, alternate, root, designated, 4, -1} {
		for _, ack := range []bool{false, true} {
			for _, p := range []api.Bpdu{{Kind: notice}, {Kind: notice, Change: true}, {Kind: notice, Ack: true}, {Kind: notice, Role: root, Ack: true, Change: true}} {
				for i := range 8 {
					b := full(port(designated, forwarding))
					b.Cords[i] = with(port(role, forwarding), func(c *api.Cord) { c.Ack, c.Change = ack, 5 })
					want := full(with(port(designated, forwarding), func(c *api.Cord) { c.Change, c.Tell = 23, true }))
					want.Cords[i] = b.Cords[i]
					want.Cords[i].Ack, want.Cords[i].Tell = role == designated, true
					hearIs(t, fmt.Sprint("role ", role, ", ack ", ack, ", ", told(p)), b, i, p, want, 255&^(1<<i))
				}
			}
		}
	}
}

// What is no BpduChange leaves the port as it is, but that with Ack its Change is over.
func TestHearOfOthers(t *testing.T) {
	for _, kind := range []int{config, rapid, 1, 127, 129, -128} {
		for _, role := range []int{none, alternate, root, designated, 4} {
			for _, tells := range []bool{false, true} {
				for _, ack := range []bool{false, true} {
					for _, n := range []int{0, 1, 5, 510, -1} {
						for i := range 8 {
							p := api.Bpdu{Kind: kind, Change: tells, Ack: ack, Role: designated, Hello: 200, MaxAge: 200, Delay: 200}
							b := full(port(designated, forwarding))
							b.Cords[i] = with(port(role, forwarding), func(c *api.Cord) { c.Change, c.Ack = n, true })
							want, set := b, 0
							if tells {
								want, set = full(with(port(designated, forwarding), func(c *api.Cord) { c.Change, c.Tell = 23, true })), 255&^(1<<i)
							}
							want.Cords[i] = b.Cords[i]
							if ack {
								want.Cords[i].Change = 0
							}
							hearIs(t, fmt.Sprint("role ", role, ", Change ", n, ", ", told(p)), b, i, p, want, set)
						}
					}
				}
			}
		}
	}
}

// Who hears of a change tells it on by Ports alone; those that tell one already are forgotten, too.
func TestHearTellsOthers(t *testing.T) {
	b := bridge(
		port(root, forwarding),
		port(designated, forwarding),
		with(port(designated, forwarding), func(c *api.Cord) { c.Edge = true }),
		port(alternate, discarding),
		with(port(designated, discarding), func(c *api.Cord) { c.Rapid = true }),
		with(port(designated, forwarding), func(c *api.Cord) { c.Change = 2 }),
		with(port(designated, forwarding), func(c *api.Cord) { c.Up = false }),
	)
	lasts := map[int]int{0: 23, 1: 23, 4: 4}
	for i, set := range map[int]int{0: 50, 1: 49, 2: 51, 3: 51, 4: 35, 5: 19} {
		for _, p := range []api.Bpdu{{Kind: config, Change: true}, {Kind: rapid, Change: true}, {Kind: notice}} {
			want := b
			for k, n := range lasts {
				if k != i {
					want.Cords[k].Change, want.Cords[k].Tell = n, true
				}
			}
			if p.Kind == notice {
				want.Cords[i].Ack, want.Cords[i].Tell = i != 0 && i != 3, true
			}
			hearIs(t, told(p), b, i, p, want, set)
		}
	}
}

func TestHearAlone(t *testing.T) {
	alone := bridge(port(designated, forwarding))
	hearIs(t, "alone", alone, 0, api.Bpdu{Kind: rapid, Change: true}, alone, 0)
	want := alone
	want.Cords[0].Ack, want.Cords[0].Tell = true, true
	hearIs(t, "alone", alone, 0, api.Bpdu{Kind: notice}, want, 0)
}

func TestHearOfMany(t *testing.T) {
	r := rand.New(rand.NewSource(224))
	some := 0
	for range 60000 {
		b, i, p := drawnTree(r), r.Intn(10)-1, drawnBpdu(r)
		got, set := change.Hear(b, i, p)
		want, wantSet := heard(b, i, p)
		if got != want || set != wantSet {
			t.Fatalf("Hear(%s, %d, %s): %s, %d, want %s, %d", told(b), i, told(p), told(got), set, told(want), wantSet)
		}
		if set != 0 {
			some++
		}
		if got := change.Ports(b, i); got != portsOf(b, i) {
			t.Fatalf("Ports(%s, %d): %d", told(b), i, got)
		}
		n := r.Intn(1024) - 512
		if got := change.Start(b, n); got != started(b, n) {
			t.Fatalf("Start(%s, %d): %s, want %s", told(b), n, told(got), told(started(b, n)))
		}
	}
	if some < 10000 {
		t.Errorf("too few: %d", some)
	}
}

// P22.5

func TestNothingChanges(t *testing.T) {
	flushIs(t, "nothing", api.Tree{}, api.Tree{}, api.Tree{}, 0)
	r := rand.New(rand.NewSource(225))
	for range 20000 {
		b := drawnTree(r)
		flushIs(t, "as before", b, b, b, 0)
		// nor where no port's link, state or place at the edge does
		now := b
		for i := range now.Cords {
			c := &now.Cords[i]
			was := *c
			*c = drawnCord(r)
			c.Up, c.State, c.Edge = was.Up, was.State, was.Edge
		}
		flushIs(t, "but for what says nothing of it", b, now, now, 0)
		if got, set := change.Hear(b, r.Intn(10)-1, api.Bpdu{Kind: pick(r, config, rapid)}); got != b || set != 0 {
			t.Fatalf("told of nothing: %s, %d, want %s", told(got), set, told(b))
		}
	}
}

func TestAPortThatComesToDiscard(t *testing.T) {
	r := rand.New(rand.NewSource(2250))
	for range 20000 {
		old := drawnTree(r)
		now := later(r, old)
		i := r.Intn(8)
		old.Cords[i].State, now.Cords[i].State = pick(r, learning, forwarding), discarding
		if _, set := change.Flush(old, now); set>>i&1 != 1 {
			t.Fatalf("Flush(%s, %s): port %d is not of %d", told(old), told(now), i, set)
		}
	}
}

// The chapter's example.
func TestAnEdgeThatComesToForward(t *testing.T) {
	for i := range 8 {
		b := api.Tree{Id: 9, Own: api.Times{MaxAge: 20, Hello: 2, Delay: 15}}
		for k := range b.Cords {
			b.Cords[k] = api.Cord{Up: true, Cost: 5, Rapid: true, Agreed: true, Info: api.InfoMine}
		}
		b = ripple.Settle(elect.Elect(b))
		b.Cords[i] = api.Cord{Up: true, Cost: 5, Rapid: true, Edge: true}
		now := ripple.Settle(elect.Elect(b))
		if now.Cords[i].State != forwarding {
			t.Fatalf("port %d does not forward: %s", i, told(now))
		}
		flushIs(t, fmt.Sprint("port ", i), b, now, now, 0)
	}
}

// A port that was told to tell a change tells it in each of its ticks, and then no more.
func TestAChangeIsOver(t *testing.T) {
	for hello := 1; hello <= 10; hello++ {
		for _, quick := range []bool{false, true} {
			b := full(with(port(designated, forwarding), func(c *api.Cord) { c.Rapid, c.Times.Hello = quick, hello }))
			b = change.Start(b, 16)
			want := 23
			if quick {
				want = hello + 1
			}
			n := 0
			for c := b.Cords[4]; rstpport.Message(c).Change && n < 1000; n++ {
				c, _ = clock.Tick(c)
			}
			if n != want {
				t.Errorf("Hello %d, rapid %t: told for %d ticks, want %d", hello, quick, n, want)
			}
		}
	}
}

// An old bridge tells the root of a change till that acknowledges it, and is told of it then.
func TestAChangeIsAcknowledged(t *testing.T) {
	below := bridge(port(root, forwarding), port(designated, forwarding), with(port(designated, forwarding), func(c *api.Cord) { c.Edge = true }))
	above := bridge(port(designated, forwarding), port(designated, forwarding), port(designated, forwarding))
	below, set := change.Flush(at(below, 1, port(designated, learning)), below)
	if set != 1 || below.Cords[0].Change != 23 || below.Cords[1].Change != 23 {
		t.Fatalf("below: %s, %d", told(below), set)
	}
	above, set = change.Hear(above, 2, api.Bpdu{Kind: notice})
	p := rstpport.Message(above.Cords[2])
	if set != 3 || !p.Ack || p.Change || above.Cords[0].Change != 23 || above.Cords[1].Change != 23 {
		t.Fatalf("above: %s, %d", told(above), set)
	}
	below, set = change.Hear(below, 0, p)
	if set != 0 || below.Cords[0].Change != 0 || below.Cords[1].Change != 23 {
		t.Fatalf("below, acknowledged: %s, %d", told(below), set)
	}
	below, set = change.Hear(below, 0, rstpport.Message(above.Cords[1]))
	if set != 2 || below.Cords[0].Change != 0 {
		t.Fatalf("below, told of it: %s, %d", told(below), set)
	}
}

// row answers rapid bridges in a row, each joined by port 1 to port 0 of the next one, all forwarding, with edges at port 2.
func row(n int) []api.Tree {
	l := []api.Tree{}
	for i := range n {
		b := bridge(port(root, forwarding), port(designated, forwarding), with(port(designated, forwarding), func(c *api.Cord) { c.Edge = true }))
		if i == 0 {
			b.Cords[0] = api.Cord{}
		}
		if i == n-1 {
			b.Cords[1] = api.Cord{}
		}
		for k := range b.Cords {
			b.Cords[k].Rapid = b.Cords[k].Up
		}
		l = append(l, b)
	}
	return l
}

// A change anywhere in a row is told to its ends, at each bridge on the side that is away from it, and comes to rest by itself.
func TestAChangeGoesThroughARow(t *testing.T) {
	for n := 2; n <= 7; n++ {
		for from := range n {
			for side := range 2 {
				l, forgotten := row(n), make([]int, n)
				if !l[from].Cords[side].Up {
					continue
				}
				old := l[from]
				old.Cords[side].State = discarding
				l[from], forgotten[from] = change.Flush(old, l[from])
				rest := goRound(l, forgotten)
				if !rest {
					t.Fatalf("%d bridges, from %d by port %d: it is not at rest", n, from, side)
				}
				for i, set := range forgotten {
					want := 3 &^ (1 << side) // at from itself, all but the port that opened
					if i < from {
						want = 1
					} else if i > from {
						want = 2
					}
					if want &= change.Ports(l[i], -1); set != want {
						t.Errorf("%d bridges, from %d by port %d: at %d %d is forgotten, want %d", n, from, side, i, set, want)
					}
				}
			}
		}
	}
}

// goRound lets each bridge of a row tell its neighbours what it is to, until there is nothing, and reports whether that came to be.
func goRound(l []api.Tree, forgotten []int) bool {
	for range 100 {
		rest := true
		for i := range l {
			for p := range 2 {
				to := i - 1 + 2*p
				if !l[i].Cords[p].Tell || to < 0 || to >= len(l) {
					continue
				}
				rest = false
				l[i].Cords[p].Tell = false
				var set int
				l[to], set = change.Hear(l[to], 1-p, rstpport.Message(l[i].Cords[p]))
				forgotten[to] |= set
			}
		}
		if rest {
			return true
		}
	}
	return false
}

// R1

func FuzzChange(f *testing.F) {
	f.Add(int64(1), 0, 0, 0, 0)
	f.Add(int64(2), math.MinInt, math.MaxInt, math.MinInt, math.MaxInt)
	f.Add(int64(3), math.MaxInt, math.MinInt, math.MaxInt, math.MinInt)
	f.Fuzz(func(t *testing.T, seed int64, i, set, time, kind int) {
		r := rand.New(rand.NewSource(seed))
		old := drawnTree(r)
		for k := range old.Cords {
			if r.Intn(4) == 0 {
				old.Cords[k].Times = api.Times{Age: time, MaxAge: time, Hello: time, Delay: time}
				old.Cords[k].Role, old.Cords[k].State, old.Cords[k].Change = kind, set, i
			}
		}
		now := later(r, old)
		if got, want := change.Ports(now, i), portsOf(now, i); got != want {
			t.Fatalf("Ports(%s, %d): %d, want %d", told(now), i, got, want)
		}
		if got, want := change.Start(now, set), started(now, set); got != want {
			t.Fatalf("Start(%s, %d): %s, want %s", told(now), set, told(got), told(want))
		}
		p := drawnBpdu(r)
		if coin(r) {
			p.Kind = kind
		}
		got, gotSet := change.Hear(now, i, p)
		if want, wantSet := heard(now, i, p); got != want || gotSet != wantSet {
			t.Fatalf("Hear(%s, %d, %s): %s, %d, want %s, %d", told(now), i, told(p), told(got), gotSet, told(want), wantSet)
		}
		got, gotSet = change.Flush(old, now)
		if want, wantSet := flushed(old, now); got != want || gotSet != wantSet {
			t.Fatalf("Flush(%s, %s): %s, %d, want %s, %d", told(old), told(now), told(got), gotSet, told(want), wantSet)
		}
	})
}
