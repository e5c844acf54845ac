package clock_test

import (
	"fmt"
	"math"
	"math/rand"
	"testing"

	"tipstaff/api"
	"tipstaff/clock"
	"tipstaff/ripple"
	"tipstaff/rstpport"
)

const (
	none, alternate, root, designated = api.RoleNone, api.RoleAlternate, api.RoleRoot, api.RoleDesignated
	discarding, learning, forwarding  = api.StateDiscarding, api.StateLearning, api.StateForwarding
)

// told answers what v is, no longer than is of use.
func told(v any) string { return fmt.Sprintf("%.3000s", fmt.Sprintf("%+v", v)) }

// with answers x, changed.
func with[T any](x T, change func(*T)) T {
	change(&x)
	return x
}

// pick answers one of l.
func pick[T any](r *rand.Rand, l ...T) T { return l[r.Intn(len(l))] }

// coin answers true as often as false.
func coin(r *rand.Rand) bool { return r.Intn(2) == 0 }

// port answers a port that is up, of that role and in that state, whose Delay is 15, and whose timers all have a while to go.
func port(role, state int) api.Cord {
	return api.Cord{
		Up: true, Cost: 77, Info: api.InfoReceived, Vector: api.Vector{Root: 1, Cost: 2, Bridge: 3, Port: 4}, Times: api.Times{Age: 1, MaxAge: 20, Hello: 2, Delay: 15},
		Role: role, State: state, Heard: 101, Wait: 102, Recent: 103, Change: 104, Quiet: 105, Sense: 106, Hello: 107,
	}
}

// down is Down, told anew.
func down(n int) int {
	if n < 1 {
		n = 1
	}
	return n - 1
}

// moved is Moves, told anew.
func moved(c api.Cord) api.Cord {
	if c.Up && c.Role == 3 && c.State < 2 && c.Wait < 1 {
		if c.State != 1 {
			c.Wait = c.Times.Delay
		}
		c.State, c.Tell = c.State+1, true
	}
	return c
}

// edged is Edges, told anew.
func edged(c api.Cord) api.Cord {
	c.Edge = c.Edge || c.Up && c.Role == 3 && c.Proposing && c.State != 2 && c.Quiet == 0
	return c
}

// ticked is Tick, told anew.
func ticked(c api.Cord) (api.Cord, bool) {
	if !c.Up {
		return c, false
	}
	c.Wait, c.Change, c.Quiet, c.Sense = down(c.Wait), down(c.Change), down(c.Quiet), down(c.Sense)
	c.Hello, c.Heard = down(c.Hello), down(c.Heard)
	if c.Role != 2 {
		c.Recent = down(c.Recent)
	}
	old := false
	if c.Info == 2 && c.Heard == 0 {
		c.Info, old = 0, true
	}
	return edged(moved(c)), old
}

// drawnCord answers a port, which need not be one that there can be.
func drawnCord(r *rand.Rand) api.Cord {
	timer := func() int { return pick(r, -1, 0, 0, 1, 1, 2, 3, 15, math.MaxInt, math.MinInt) }
	return api.Cord{
		Up: r.Intn(6) > 0, Admin: coin(r), Edge: r.Intn(4) == 0, Cost: uint64(r.Intn(9)), Info: pick(r, 0, 1, 2, 2, 2, 3, -1),
		Vector: api.Vector{Root: uint64(r.Intn(9))}, Times: api.Times{Age: r.Intn(9), MaxAge: r.Intn(9), Hello: r.Intn(9), Delay: pick(r, -7, 0, 1, 2, 15, 30, math.MaxInt, math.MinInt)},
		Role: pick(r, 0, 1, 2, 2, 3, 3, 3, 3, 4, -1), State: pick(r, 0, 0, 1, 1, 2, 2, 3, -1, math.MinInt, math.MaxInt), Agreed: coin(r), Agree: coin(r), Proposing: coin(r), Proposed: coin(r),
		Sync: coin(r), Synced: coin(r), Rapid: coin(r), Tell: r.Intn(4) == 0, Ack: coin(r),
		Heard: timer(), Wait: timer(), Recent: timer(), Change: timer(), Quiet: timer(), Sense: timer(), Hello: timer(),
	}
}

// P21.1

func TestDown(t *testing.T) {
	for _, c := range []struct{ n, want int }{
		{0, 0}, {1, 0}, {2, 1}, {3, 2}, {15, 14}, {255, 254}, {256, 255}, {1 << 30, 1<<30 - 1}, {math.MaxInt, math.MaxInt - 1},
		{-1, 0}, {-2, 0}, {-255, 0}, {math.MinInt, 0}, {math.MinInt + 1, 0},
	} {
		if got := clock.Down(c.n); got != c.want {
			t.Errorf("Down(%d): %d, want %d", c.n, got, c.want)
		}
	}
	for n, k := 300, 0; k < 400; k++ {
		if n != max(300-k, 0) {
			t.Fatalf("300, %d times: %d", k, n)
		}
		n = clock.Down(n)
	}
}

// P21.2

func TestMoves(t *testing.T) {
	type cord = api.Cord
	leave := func(c *cord) {}
	for _, c := range []struct {
		name        string
		state, wait int
		was, become func(*cord)
	}{
		{"discarding, its time is over", discarding, 0, leave, func(c *cord) { c.State, c.Tell, c.Wait = learning, true, 15 }},
		{"learning, its time is over", learning, 0, leave, func(c *cord) { c.State, c.Tell = forwarding, true }},
		{"forwarding", forwarding, 0, leave, leave},
		{"in no state", 3, 0, leave, leave},
		{"above all states", math.MaxInt, 0, leave, leave},
		{"below all states", -1, 0, leave, func(c *cord) { c.State, c.Tell, c.Wait = discarding, true, 15 }},
		{"far below all states", math.MinInt, 0, leave, func(c *cord) { c.State, c.Tell, c.Wait = math.MinInt+1, true, 15 }},
		{"discarding, a tick to go", discarding, 1, leave, leave},
		{"learning, a tick to go", learning, 1, leave, leave},
		{"discarding, many ticks to go", discarding, math.MaxInt, leave, leave},
		{"discarding, long over", discarding, -1, leave, func(c *cord) { c.State, c.Tell, c.Wait = learning, true, 15 }},
		{"learning, long over", learning, -1, leave, func(c *cord) { c.State, c.Tell = forwarding, true }},
		{"learning, since ever", learning, math.MinInt, leave, func(c *cord) { c.State, c.Tell = forwarding, true }},
		{"discarding, without a delay", discarding, 0, func(c *cord) { c.Times.Delay = 0 }, func(c *cord) { c.State, c.Tell, c.Wait = learning, true, 0 }},
		{"discarding, with a delay of 1", discarding, 0, func(c *cord) { c.Times.Delay = 1 }, func(c *cord) { c.State, c.Tell, c.Wait = learning, true, 1 }},
		{"discarding, with a delay of 30", discarding, 0, func(c *cord) { c.Times.Delay = 30 }, func(c *cord) { c.State, c.Tell, c.Wait = learning, true, 30 }},
		{"discarding, with a delay below 0", discarding, 0, func(c *cord) { c.Times.Delay = -4 }, func(c *cord) { c.State, c.Tell, c.Wait = learning, true, -4 }},
		{"down", discarding, 0, func(c *cord) { c.Up = false }, leave},
		{"of no role", discarding, 0, func(c *cord) { c.Role = none }, leave},
		{"alternate", discarding, 0, func(c *cord) { c.Role = alternate }, leave},
		{"a root port", discarding, 0, func(c *cord) { c.Role = root }, leave},
		{"of another role", discarding, 0, func(c *cord) { c.Role = 4 }, leave},
		{"an edge", discarding, 0, func(c *cord) { c.Edge = true }, func(c *cord) { c.State, c.Tell, c.Wait = learning, true, 15 }},
		{"with something to tell", learning, 0, func(c *cord) { c.Tell = true }, func(c *cord) { c.State = forwarding }},
		{"with something to tell, and a tick to go", learning, 1, func(c *cord) { c.Tell = true }, leave},
		{"proposing", learning, 0, func(c *cord) { c.Proposing = true }, func(c *cord) { c.State, c.Tell = forwarding, true }},
		{"proposing, and quiet", discarding, 0, func(c *cord) { c.Proposing, c.Quiet = true, 0 }, func(c *cord) { c.State, c.Tell, c.Wait = learning, true, 15 }},
		{"with nothing heard", discarding, 0, func(c *cord) { c.Heard = 0 }, func(c *cord) { c.State, c.Tell, c.Wait = learning, true, 15 }},
	} {
		in := with(port(designated, c.state), func(p *cord) { p.Wait = c.wait; c.was(p) })
		if got, want := clock.Moves(in), with(in, c.become); got != want {
			t.Errorf("%s: %s, want %s", c.name, told(got), told(want))
		}
	}
}

func TestMovesOfMany(t *testing.T) {
	r := rand.New(rand.NewSource(212))
	changed := map[int]int{}
	for range 40000 {
		c := drawnCord(r)
		got := clock.Moves(c)
		if want := moved(c); got != want {
			t.Fatalf("Moves(%s): %s, want %s", told(c), told(got), told(want))
		}
		if got != c {
			changed[c.State]++
		}
	}
	if changed[discarding] < 500 || changed[learning] < 500 || changed[forwarding] > 0 {
		t.Errorf("too few, or too many, of some: %v", changed)
	}
}

// P21.3

func TestEdges(t *testing.T) {
	type cord = api.Cord
	for _, c := range []struct {
		name string
		was  func(*cord)
		edge bool
	}{
		{"discarding", func(c *cord) {}, true},
		{"learning", func(c *cord) { c.State = learning }, true},
		{"forwarding", func(c *cord) { c.State = forwarding }, false},
		{"in no state", func(c *cord) { c.State = 3 }, true},
		{"below all states", func(c *cord) { c.State = -1 }, true},
		{"not proposing", func(c *cord) { c.Proposing = false }, false},
		{"proposed to, and not proposing", func(c *cord) { c.Proposing, c.Proposed = false, true }, false},
		{"a tick to go", func(c *cord) { c.Quiet = 1 }, false},
		{"three ticks to go", func(c *cord) { c.Quiet = 3 }, false},
		{"quiet below 0", func(c *cord) { c.Quiet = -1 }, false},
		{"quiet far below 0", func(c *cord) { c.Quiet = math.MinInt }, false},
		{"down", func(c *cord) { c.Up = false }, false},
		{"of no role", func(c *cord) { c.Role = none }, false},
		{"alternate", func(c *cord) { c.Role = alternate }, false},
		{"a root port", func(c *cord) { c.Role = root }, false},
		{"of another role", func(c *cord) { c.Role = 4 }, false},
		{"said to be an edge", func(c *cord) { c.Admin = true }, true},
		{"said to be an edge, a tick to go", func(c *cord) { c.Admin, c.Quiet = true, 1 }, false},
		{"all its timers over", func(c *cord) { c.Wait, c.Heard, c.Recent, c.Change, c.Sense, c.Hello = 0, 0, 0, 0, 0, 0 }, true},
		{"an edge, and forwarding", func(c *cord) { c.Edge, c.State = true, forwarding }, true},
		{"an edge, a tick to go", func(c *cord) { c.Edge, c.Quiet = true, 1 }, true},
		{"an edge, alternate", func(c *cord) { c.Edge, c.Role = true, alternate }, true},
		{"an edge, down", func(c *cord) { c.Edge, c.Up = true, false }, true},
		{"agreed", func(c *cord) { c.Agreed = true }, true},
		{"not rapid", func(c *cord) { c.Rapid = false }, true},
		{"rapid", func(c *cord) { c.Rapid = true }, true},
	} {
		in := with(port(designated, discarding), func(p *cord) { p.Proposing, p.Quiet = true, 0; c.was(p) })
		if got, want := clock.Edges(in), with(in, func(p *cord) { p.Edge = c.edge }); got != want {
			t.Errorf("%s: %s, want %s", c.name, told(got), told(want))
		}
	}
}

func TestEdgesOfMany(t *testing.T) {
	r := rand.New(rand.NewSource(213))
	changed := 0
	for range 40000 {
		c := drawnCord(r)
		got := clock.Edges(c)
		if want := edged(c); got != want {
			t.Fatalf("Edges(%s): %s, want %s", told(c), told(got), told(want))
		}
		if got != c {
			changed++
		}
	}
	if changed < 500 {
		t.Errorf("too few: %d", changed)
	}
}

// P21.4

// tickIs holds Tick against what is wanted.
func tickIs(t *testing.T, name string, c, want api.Cord, old bool) {
	t.Helper()
	if got, gotOld := clock.Tick(c); got != want || gotOld != old {
		t.Errorf("%s: %s, %t, want %s, %t", name, told(got), gotOld, told(want), old)
	}
}

func TestTickOfAPortThatIsDown(t *testing.T) {
	for _, role := range []int{none, alternate, root, designated, 4} {
		for _, info := range []int{api.InfoNone, api.InfoMine, api.InfoReceived} {
			for _, left := range []int{-1, 0, 1, 2, 9} {
				c := with(port(role, discarding), func(c *api.Cord) {
					c.Up, c.Info, c.Proposing = false, info, true
					c.Heard, c.Wait, c.Recent, c.Change, c.Quiet, c.Sense, c.Hello = left, left, left, left, left, left, left
				})
				tickIs(t, fmt.Sprint("role ", role, ", info ", info, ", timers ", left), c, c, false)
			}
		}
	}
	tickIs(t, "nothing", api.Cord{}, api.Cord{}, false)
}

func TestTickOfTheTimers(t *testing.T) {
	for _, role := range []int{none, alternate, root, designated, 4, -1} {
		c := port(role, forwarding)
		want := c
		want.Heard, want.Wait, want.Change, want.Quiet, want.Sense, want.Hello = 100, 101, 103, 104, 105, 106
		if want.Recent = 102; role == root {
			want.Recent = 103
		}
		tickIs(t, fmt.Sprint("role ", role), c, want, false)
	}
}

// Each timer goes down by itself, whatever the others are, and never below 0.
func TestTickOfEachTimer(t *testing.T) {
	timers := []struct {
		name string
		of   func(*api.Cord) *int
	}{
		{"Wait", func(c *api.Cord) *int { return &c.Wait }},
		{"Change", func(c *api.Cord) *int { return &c.Change }},
		{"Quiet", func(c *api.Cord) *int { return &c.Quiet }},
		{"Sense", func(c *api.Cord) *int { return &c.Sense }},
		{"Hello", func(c *api.Cord) *int { return &c.Hello }},
		{"Heard", func(c *api.Cord) *int { return &c.Heard }},
		{"Recent", func(c *api.Cord) *int { return &c.Recent }},
	}
	for _, timer := range timers {
		for _, role := range []int{none, alternate, root, designated} {
			for _, c := range []struct{ n, want int }{{-3, 0}, {0, 0}, {1, 0}, {2, 1}, {255, 254}, {math.MaxInt, math.MaxInt - 1}, {math.MinInt, 0}} {
				in := api.Cord{Up: true, Role: role, State: forwarding, Info: api.InfoMine}
				*timer.of(&in) = c.n
				want := in
				if *timer.of(&want) = c.want; timer.name == "Recent" && role == root {
					want = in
				}
				tickIs(t, fmt.Sprint(timer.name, " ", c.n, " of role ", role), in, want, false)
			}
		}
	}
}

func TestTickOfWhatIsTooOld(t *testing.T) {
	for _, role := range []int{none, alternate, root, designated, 4} {
		for _, c := range []struct {
			name        string
			info, heard int
			old         bool
		}{
			{"a tick to go", api.InfoReceived, 1, true},
			{"no tick to go", api.InfoReceived, 0, true},
			{"below 0", api.InfoReceived, -1, true},
			{"far below 0", api.InfoReceived, math.MinInt, true},
			{"two ticks to go", api.InfoReceived, 2, false},
			{"many ticks to go", api.InfoReceived, 255, false},
			{"its own, a tick to go", api.InfoMine, 1, false},
			{"its own", api.InfoMine, 0, false},
			{"none, a tick to go", api.InfoNone, 1, false},
			{"none", api.InfoNone, 0, false},
			{"of another kind", 3, 1, false},
			{"of a kind below all", -1, 0, false},
		} {
			in := with(port(role, forwarding), func(p *api.Cord) { p.Info, p.Heard = c.info, c.heard })
			want := in
			want.Heard, want.Wait, want.Change, want.Quiet, want.Sense, want.Hello = max(c.heard, 1)-1, 101, 103, 104, 105, 106
			if role != root {
				want.Recent = 102
			}
			if c.old {
				want.Info = api.InfoNone
			}
			tickIs(t, fmt.Sprint(c.name, ", role ", role), in, want, c.old)
		}
	}
}

// The timers go down first: what has one tick to go is over in this tick.
func TestTickMovesAndMakesEdges(t *testing.T) {
	type cord = api.Cord
	leave := func(c *cord) {}
	for _, c := range []struct {
		name        string
		was, become func(*cord)
		old         bool
	}{
		{"a tick to wait", func(c *cord) { c.Wait = 1 }, func(c *cord) { c.State, c.Tell, c.Wait = learning, true, 15 }, false},
		{"no tick to wait", func(c *cord) { c.Wait = 0 }, func(c *cord) { c.State, c.Tell, c.Wait = learning, true, 15 }, false},
		{"below 0 to wait", func(c *cord) { c.Wait = -2 }, func(c *cord) { c.State, c.Tell, c.Wait = learning, true, 15 }, false},
		{"two ticks to wait", func(c *cord) { c.Wait = 2 }, func(c *cord) { c.Wait = 1 }, false},
		{"learning, a tick to wait", func(c *cord) { c.State, c.Wait = learning, 1 }, func(c *cord) { c.State, c.Tell, c.Wait = forwarding, true, 0 }, false},
		{"learning, below 0 to wait", func(c *cord) { c.State, c.Wait = learning, -3 }, func(c *cord) { c.State, c.Tell, c.Wait = forwarding, true, 0 }, false},
		{"forwarding, a tick to wait", func(c *cord) { c.State, c.Wait = forwarding, 1 }, func(c *cord) { c.Wait = 0 }, false},
		{"alternate, a tick to wait", func(c *cord) { c.Role, c.Wait = alternate, 1 }, func(c *cord) { c.Wait = 0 }, false},
		{"without a delay, no tick to wait", func(c *cord) { c.Times.Delay, c.Wait = 0, 0 }, func(c *cord) { c.State, c.Tell, c.Wait = learning, true, 0 }, false},
		{"a tick to be quiet", func(c *cord) { c.Proposing, c.Quiet = true, 1 }, func(c *cord) { c.Edge, c.Quiet = true, 0 }, false},
		{"no tick to be quiet", func(c *cord) { c.Proposing, c.Quiet = true, 0 }, func(c *cord) { c.Edge, c.Quiet = true, 0 }, false},
		{"below 0 to be quiet", func(c *cord) { c.Proposing, c.Quiet = true, -1 }, func(c *cord) { c.Edge, c.Quiet = true, 0 }, false},
		{"two ticks to be quiet", func(c *cord) { c.Proposing, c.Quiet = true, 2 }, func(c *cord) { c.Quiet = 1 }, false},
		{"a tick to be quiet, not proposing", func(c *cord) { c.Quiet = 1 }, func(c *cord) { c.Quiet = 0 }, false},
		{"a tick to be quiet, a root port", func(c *cord) { c.Role, c.Proposing, c.Quiet = root, true, 1 }, func(c *cord) { c.Quiet, c.Recent = 0, 103 }, false},
		{"a tick to be quiet and to wait", func(c *cord) { c.Proposing, c.Quiet, c.Wait = true, 1, 1 }, func(c *cord) { c.State, c.Tell, c.Wait, c.Edge, c.Quiet = learning, true, 15, true, 0 }, false},
		// Moves comes ahead of Edges: what has come to forward needs not be an edge
		{"a tick to be quiet and to learn", func(c *cord) { c.State, c.Proposing, c.Quiet, c.Wait = learning, true, 1, 1 }, func(c *cord) { c.State, c.Tell, c.Wait, c.Quiet = forwarding, true, 0, 0 }, false},
		{"a tick to be heard", func(c *cord) { c.Heard = 1 }, func(c *cord) { c.Heard, c.Info = 0, api.InfoNone }, true},
		{"a tick to be heard and to wait", func(c *cord) { c.Heard, c.Wait = 1, 1 }, func(c *cord) { c.Heard, c.Info, c.State, c.Tell, c.Wait = 0, api.InfoNone, learning, true, 15 }, true},
		{"a tick to tell again", func(c *cord) { c.Hello = 1 }, func(c *cord) { c.Hello = 0 }, false},
		{"a tick to tell a change", func(c *cord) { c.Change = 1 }, func(c *cord) { c.Change = 0 }, false},
		{"ticks to go", leave, leave, false},
	} {
		in := with(port(designated, discarding), c.was)
		want := in
		for _, p := range []*int{&want.Heard, &want.Wait, &want.Recent, &want.Change, &want.Quiet, &want.Sense, &want.Hello} {
			if *p > 100 { // those that the case leaves alone
				*p--
			}
		}
		c.become(&want)
		tickIs(t, c.name, in, want, c.old)
	}
}

func TestTickOfMany(t *testing.T) {
	r := rand.New(rand.NewSource(214))
	olds, moves, edges := 0, 0, 0
	for range 60000 {
		c := drawnCord(r)
		got, old := clock.Tick(c)
		if want, wantOld := ticked(c); got != want || old != wantOld {
			t.Fatalf("Tick(%s): %s, %t, want %s, %t", told(c), told(got), old, told(want), wantOld)
		}
		if old {
			olds++
		}
		if got.State != c.State {
			moves++
		}
		if got.Edge != c.Edge {
			edges++
		}
	}
	if olds < 1000 || moves < 1000 || edges < 1000 {
		t.Errorf("too few of some: %d, %d, %d", olds, moves, edges)
	}
}

// P21.5

// lasts answers behind how many ticks what c heard is too old, up to a limit.
func lasts(c api.Cord, most int) (api.Cord, int) {
	old := false
	for n := 1; n <= most; n++ {
		if c, old = clock.Tick(c); old {
			return c, n
		}
	}
	return c, most + 1
}

// hello answers what a better bridge tells, of that kind and with that Hello.
func hello(kind, every int) api.Bpdu {
	return api.Bpdu{Kind: kind, Role: designated, Vector: api.Vector{Root: 1, Cost: 2, Bridge: 3, Port: 4}, Age: 1, MaxAge: 20, Hello: every, Delay: 15}
}

func TestWhatIsNotHeardAgain(t *testing.T) {
	for _, role := range []int{none, alternate, root, designated} {
		for _, n := range []int{1, 2, 3, 6, 30, 255} {
			c := with(port(role, discarding), func(c *api.Cord) { c.Heard = n })
			c, got := lasts(c, 300)
			if got != n || c.Info != api.InfoNone {
				t.Errorf("role %d, good for %d ticks: %d, %s", role, n, got, told(c))
			}
			if _, again := lasts(c, 300); again != 301 { // what is too old is so once
				t.Errorf("role %d, good for %d ticks: again behind %d", role, n, again)
			}
		}
		for _, n := range []int{0, -1, math.MinInt} {
			if _, got := lasts(with(port(role, discarding), func(c *api.Cord) { c.Heard = n }), 3); got != 1 {
				t.Errorf("role %d, good for %d ticks: %d", role, n, got)
			}
		}
	}
	for _, kind := range []int{api.BpduConfig, api.BpduRapid} {
		for every := 1; every <= 10; every++ {
			c, sort := rstpport.Receive(with(port(alternate, discarding), func(c *api.Cord) { c.Info = api.InfoNone }), hello(kind, every))
			if _, got := lasts(c, 300); sort != api.SortSuperior || got != 3*every {
				t.Errorf("kind %d, Hello %d: sort %d, too old behind %d ticks", kind, every, sort, got)
			}
		}
	}
}

func TestWhatIsHeardAgain(t *testing.T) {
	for _, role := range []int{alternate, root, designated} {
		for every := 1; every <= 10; every++ {
			for _, pause := range []int{1, every, 2 * every, 3*every - 1} { // one or two may be lost
				b := hello(api.BpduRapid, every)
				c, _ := rstpport.Receive(with(port(role, discarding), func(c *api.Cord) { c.Info = api.InfoNone }), b)
				for n := 1; n <= 400; n++ {
					var old bool
					if c, old = clock.Tick(c); old || c.Info != api.InfoReceived {
						t.Fatalf("role %d, Hello %d, told each %d ticks: too old behind %d", role, every, pause, n)
					}
					if n%pause == 0 {
						sort := 0
						if c, sort = rstpport.Receive(c, b); sort != api.SortRepeated {
							t.Fatalf("role %d, Hello %d, told each %d ticks: sort %d", role, every, pause, sort)
						}
					}
				}
			}
		}
	}
}

// forwardsBehind answers behind how many ticks c forwards, up to a limit, what follows being done behind each.
func forwardsBehind(c api.Cord, most int, follow func(api.Cord) api.Cord) int {
	for n := 1; n <= most; n++ {
		c, _ = clock.Tick(c)
		if c = follow(c); c.State == forwarding {
			return n
		}
	}
	return most + 1
}

// settled answers c as the one port of a bridge that has settled.
func settled(c api.Cord) api.Cord {
	b := api.Tree{}
	b.Cords[0] = c
	return ripple.Settle(b).Cords[0]
}

func TestADesignatedPortForwards(t *testing.T) {
	alone := func(c api.Cord) api.Cord { return c }
	for delay := 1; delay <= 30; delay++ {
		c := with(port(designated, discarding), func(c *api.Cord) { c.Times.Delay, c.Wait = delay, delay })
		if n := forwardsBehind(c, 100, alone); n != 2*delay {
			t.Errorf("delay %d: behind %d ticks", delay, n)
		}
		c.State = learning
		if n := forwardsBehind(c, 100, alone); n != delay {
			t.Errorf("delay %d, from learning on: behind %d ticks", delay, n)
		}
		for wait := -1; wait <= delay; wait++ {
			c.State, c.Wait = discarding, wait
			if n := forwardsBehind(c, 100, alone); n != max(wait, 1)+delay || n > 2*delay {
				t.Errorf("delay %d, %d to wait: behind %d ticks", delay, wait, n)
			}
		}
		// a port that asks whether a bridge is there, and hears of none, is an edge, which forwards at once
		c.State, c.Wait, c.Quiet = discarding, delay, 3
		if n := forwardsBehind(settled(c), 100, settled); n != min(2*delay, 3) {
			t.Errorf("delay %d, proposing: behind %d ticks", delay, n)
		}
	}
	for _, role := range []int{none, alternate, root} {
		c := with(port(role, discarding), func(c *api.Cord) { c.Times.Delay, c.Wait = 2, 2 })
		if n := forwardsBehind(c, 100, alone); n != 101 {
			t.Errorf("role %d: behind %d ticks", role, n)
		}
	}
}

// R1

func FuzzClock(f *testing.F) {
	f.Add(int64(1), 0, 0, 0, 0)
	f.Add(int64(2), math.MinInt, math.MaxInt, math.MinInt, math.MaxInt)
	f.Add(int64(3), math.MaxInt, math.MinInt, math.MaxInt, math.MinInt)
	f.Fuzz(func(t *testing.T, seed int64, role, state, timer, delay int) {
		r := rand.New(rand.NewSource(seed))
		c := drawnCord(r)
		if coin(r) {
			c.Role, c.State = role, state
		}
		c.Times.Delay = delay
		for _, p := range []*int{&c.Heard, &c.Wait, &c.Recent, &c.Change, &c.Quiet, &c.Sense, &c.Hello} {
			if coin(r) {
				*p = timer
			}
		}
		got, old := clock.Tick(c)
		if want, wantOld := ticked(c); got != want || old != wantOld {
			t.Fatalf("Tick(%s): %s, %t, want %s, %t", told(c), told(got), old, told(want), wantOld)
		}
		if got, want := clock.Moves(c), moved(c); got != want {
			t.Fatalf("Moves(%s): %s, want %s", told(c), told(got), told(want))
		}
		if got, want := clock.Edges(c), edged(c); got != want {
			t.Fatalf("Edges(%s): %s, want %s", told(c), told(got), told(want))
		}
		if got := clock.Down(timer); got != down(timer) {
			t.Fatalf("Down(%d): %d", timer, got)
		}
	})
}
