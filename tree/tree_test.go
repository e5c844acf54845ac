package tree_test

import (
	"fmt"
	"math"
	"math/rand"
	"slices"
	"testing"

	"tipstaff/api"
	"tipstaff/bpdu"
	"tipstaff/change"
	"tipstaff/clock"
	"tipstaff/elect"
	"tipstaff/ripple"
	"tipstaff/rstpport"
	"tipstaff/tree"
)

const (
	none, alternate, root, designated = api.RoleNone, api.RoleAlternate, api.RoleRoot, api.RoleDesignated
	discarding, learning, forwarding  = api.StateDiscarding, api.StateLearning, api.StateForwarding
	config, notice, rapid             = api.BpduConfig, api.BpduChange, api.BpduRapid
)

// usual are the times of most bridges here.
var usual = api.Times{MaxAge: 6, Hello: 1, Delay: 3}

// told answers what v is, no longer than is of use.
func told(v any) string { return fmt.Sprintf("%.3000s", fmt.Sprintf("%+v", v)) }

// with answers x, changed.
func with[T any](x T, change func(*T)) T {
	change(&x)
	return x
}

// pick answers one of l.
func pick[T any](r *rand.Rand, l ...T) T { return l[r.Intn(len(l))] }

// coin answers true as often as false.
func coin(r *rand.Rand) bool { return r.Intn(2) == 0 }

// made answers the bridge id with the usual times.
func made(t testing.TB, id uint64) api.Tree {
	t.Helper()
	b, e := tree.New(id, usual)
	if e != api.OK {
		t.Fatalf("New(%d): %d", id, e)
	}
	return b
}

// raised answers b with these ports up, no edges, at a cost of 10.
func raised(b api.Tree, ports ...int) api.Tree {
	for _, i := range ports {
		b, _, _ = tree.Link(b, i, true, false, 10)
	}
	return b
}

// ticked answers b n ticks later.
func ticked(b api.Tree, n int) api.Tree {
	for range n {
		b, _, _ = tree.Tick(b)
	}
	return b
}

// hears answers b when its port i has heard p.
func hears(b api.Tree, i int, p api.Bpdu) api.Tree {
	b, _, _ = tree.Receive(b, i, p)
	return b
}

// offer answers what the root 1 tells at its port 1, with times unlike the usual ones.
func offer(change func(*api.Bpdu)) api.Bpdu {
	return with(api.Bpdu{Kind: rapid, Role: designated, Vector: api.Vector{Root: 1, Bridge: 1, Port: 1}, MaxAge: 20, Hello: 2, Delay: 15}, change)
}

// plain leaves a BPDU as it is.
func plain(*api.Bpdu) {}

// answer is what the calls answer.
type answer struct {
	tree api.Tree
	out  []api.Told
	set  int
}

// of answers what a call has answered.
func of(t api.Tree, out []api.Told, set int) answer { return answer{t, out, set} }

// unlike tells how what a call has answered is unlike what is wanted; "", if it is not.
func unlike(got, want answer) string {
	same := got.tree == want.tree && got.set == want.set && slices.Equal(got.out, want.out)
	if same {
		return ""
	}
	return fmt.Sprintf("%s, %s, %d, want %s, %s, %d", told(got.tree), told(got.out), got.set, told(want.tree), told(want.out), want.set)
}

// is holds what a call has answered against what is wanted.
func is(t *testing.T, name string, got, want answer) {
	t.Helper()
	if how := unlike(got, want); how != "" {
		t.Fatalf("%s: %s", name, how)
	}
}

// clamped answers n, 1 at least and 255 at most.
func clamped(n int) int {
	if n < 1 {
		return 1
	}
	if n > 255 {
		return 255
	}
	return n
}

// sent is Sends, told anew.
func sent(t api.Tree) (api.Tree, []api.Told) {
	out := []api.Told{}
	for i := range 8 {
		c := &t.Cords[i]
		n := len(out)
		if c.Tell && c.Up {
			if c.Role == 3 || c.Role != 0 && c.Rapid {
				out = append(out, api.Told{Port: i, Bpdu: rstpport.Message(*c)})
			} else if c.Role == 2 && c.Change > 0 {
				out = append(out, api.Told{Port: i, Bpdu: api.Bpdu{Kind: 128}})
			}
		}
		if len(out) > n {
			c.Hello, c.Ack = clamped(c.Times.Hello), false
		}
		c.Tell = false
	}
	return t, out
}

// settled is how all is settled, told anew.
func settled(before, now api.Tree, set int) answer {
	now = elect.Elect(now)
	now = ripple.Settle(now)
	now, more := change.Flush(before, now)
	now, out := sent(now)
	return answer{now, out, set | more}
}

// linked is Link, told anew.
func linked(t api.Tree, i int, up, admin bool, cost uint64) answer {
	if i < 0 || i > 7 {
		return answer{tree: t}
	}
	if cost == 0 {
		cost = 1
	}
	if cost > 1<<28 {
		cost = 1 << 28
	}
	now := t
	now.Cords[i] = api.Cord{Admin: admin, Cost: cost}
	if up {
		now.Cords[i] = api.Cord{Up: true, Admin: admin, Edge: admin, Cost: cost, Rapid: true, Sense: 3, Quiet: 3, Wait: t.Times.Delay}
	}
	return settled(t, now, 0)
}

// received is Receive, told anew.
func received(t api.Tree, i int, b api.Bpdu) answer {
	if i < 0 || i > 7 || !t.Cords[i].Up || !bpdu.Right(b) {
		return answer{tree: t}
	}
	now := t
	now.Cords[i] = rstpport.Protocol(now.Cords[i], b)
	if b.Kind != 128 {
		now.Cords[i], _ = rstpport.Receive(now.Cords[i], b)
	}
	now, set := change.Hear(now, i, b)
	return settled(t, now, set)
}

// later is Tick, told anew.
func later(t api.Tree) answer {
	now := t
	for i := range 8 {
		now.Cords[i], _ = clock.Tick(now.Cords[i])
	}
	for i := range 8 {
		if c := &now.Cords[i]; c.Up && c.Role == 3 && c.Hello == 0 {
			c.Tell = true
		}
	}
	return settled(t, now, 0)
}

// drawnVector answers a vector near to those of others.
func drawnVector(r *rand.Rand) api.Vector {
	return api.Vector{Root: uint64(r.Intn(5)), Cost: uint64(pick(r, 0, 1, 10, 20, 1<<32-1)), Bridge: uint64(r.Intn(5)), Port: pick(r, 0, 1, 2, 65535)}
}

// drawnTimes answers times that need not be right.
func drawnTimes(r *rand.Rand) api.Times {
	time := func() int { return pick(r, 0, 1, 2, 3, 6, 20, 255, 256, -1, math.MaxInt, math.MinInt) }
	if coin(r) {
		return usual
	}
	return api.Times{Age: pick(r, 0, 1, 2, 5, 254, 255), MaxAge: time(), Hello: time(), Delay: time()}
}

// drawnCord answers a port, which need not be one that there can be.
func drawnCord(r *rand.Rand) api.Cord {
	return api.Cord{
		Up: r.Intn(6) > 0, Admin: coin(r), Edge: r.Intn(4) == 0, Cost: uint64(r.Intn(9)), Info: r.Intn(3),
		Vector: drawnVector(r), Times: drawnTimes(r),
		Role: pick(r, 0, 1, 2, 2, 3, 3, 3, 4, -1), State: pick(r, 0, 0, 1, 2, 2, 3, -1), Agreed: coin(r), Agree: coin(r), Proposing: coin(r), Proposed: coin(r),
		Sync: coin(r), Synced: coin(r), Rapid: coin(r), Tell: r.Intn(3) == 0, Ack: coin(r),
		Heard: r.Intn(6) - 1, Wait: r.Intn(6) - 1, Recent: r.Intn(6) - 1, Change: pick(r, 0, 0, 0, 1, 2, 35, -1, math.MaxInt, math.MinInt), Quiet: r.Intn(5) - 1, Sense: r.Intn(5) - 1, Hello: pick(r, -1, 0, 1, 2, math.MinInt),
	}
}

// drawnTree answers a bridge with ports that are drawn.
func drawnTree(r *rand.Rand) api.Tree {
	t := api.Tree{Id: uint64(r.Intn(6)), Own: drawnTimes(r), Root: drawnVector(r), Times: drawnTimes(r), Port: r.Intn(11) - 2}
	for i := range t.Cords {
		t.Cords[i] = drawnCord(r)
	}
	return t
}

// drawnBpdu answers a BPDU that is right mostly.
func drawnBpdu(r *rand.Rand) api.Bpdu {
	time := func() int { return pick(r, 0, 1, 2, 3, 6, 20, 254, 255) }
	b := api.Bpdu{Kind: pick(r, config, rapid, rapid, rapid), Change: r.Intn(3) == 0, Vector: drawnVector(r), Age: pick(r, 0, 0, 1, 2, 5, 255), MaxAge: time(), Hello: time(), Delay: time()}
	if coin(r) {
		b.Age, b.MaxAge, b.Hello, b.Delay = r.Intn(3), usual.MaxAge, usual.Hello, usual.Delay
	}
	if b.Kind == rapid {
		b.Role, b.Proposal, b.Learning, b.Forwarding, b.Agreement = pick(r, 3, 3, 2, 1, 0), coin(r), coin(r), coin(r), coin(r)
	} else {
		b.Ack = coin(r)
	}
	switch r.Intn(10) {
	case 0:
		b = api.Bpdu{Kind: notice}
	case 1:
		b.Kind = pick(r, 1, -1, notice, config, rapid)
	case 2:
		b.Age = pick(r, -1, 256, math.MaxInt, math.MinInt, 3)
	}
	return b
}

// drawnLife answers a bridge after some of what may come to it.
func drawnLife(t testing.TB, r *rand.Rand) api.Tree {
	b := made(t, uint64(1+r.Intn(5)))
	for range r.Intn(30) {
		switch r.Intn(6) {
		case 0, 1:
			b, _, _ = tree.Link(b, r.Intn(8), r.Intn(4) > 0, r.Intn(3) == 0, uint64(r.Intn(30)))
		case 2:
			b, _, _ = tree.Tick(b)
		default:
			b, _, _ = tree.Receive(b, r.Intn(8), drawnBpdu(r))
		}
	}
	return b
}

// drawn answers a bridge that there can be, or one that need not be.
func drawn(t testing.TB, r *rand.Rand) api.Tree {
	if r.Intn(3) == 0 {
		return drawnTree(r)
	}
	return drawnLife(t, r)
}

// P23.1

func TestNewOfTimes(t *testing.T) {
	for _, c := range []struct {
		own  api.Times
		want api.Errno
	}{
		{usual, api.OK},
		{api.Times{MaxAge: 20, Hello: 2, Delay: 15}, api.OK},
		{api.Times{MaxAge: 3, Hello: 1, Delay: 1}, api.OK},
		{api.Times{MaxAge: 40, Hello: 10, Delay: 30}, api.OK},
		{api.Times{MaxAge: 40, Hello: 1, Delay: 30}, api.OK},
		{api.Times{MaxAge: 40, Hello: 10, Delay: 1}, api.OK},
		{api.Times{}, api.ErrArg},
		{api.Times{Age: 1, MaxAge: 6, Hello: 1, Delay: 3}, api.ErrArg},
		{api.Times{Age: -1, MaxAge: 6, Hello: 1, Delay: 3}, api.ErrArg},
		{api.Times{Age: math.MinInt, MaxAge: 6, Hello: 1, Delay: 3}, api.ErrArg},
		{api.Times{MaxAge: 2, Hello: 1, Delay: 3}, api.ErrArg},
		{api.Times{MaxAge: 41, Hello: 1, Delay: 3}, api.ErrArg},
		{api.Times{MaxAge: 0, Hello: 1, Delay: 3}, api.ErrArg},
		{api.Times{MaxAge: -6, Hello: 1, Delay: 3}, api.ErrArg},
		{api.Times{MaxAge: math.MaxInt, Hello: 1, Delay: 3}, api.ErrArg},
		{api.Times{MaxAge: math.MinInt, Hello: 1, Delay: 3}, api.ErrArg},
		{api.Times{MaxAge: 6, Hello: 0, Delay: 3}, api.ErrArg},
		{api.Times{MaxAge: 6, Hello: -1, Delay: 3}, api.ErrArg},
		{api.Times{MaxAge: 40, Hello: 11, Delay: 3}, api.ErrArg},
		{api.Times{MaxAge: 40, Hello: math.MaxInt, Delay: 3}, api.ErrArg},
		{api.Times{MaxAge: 40, Hello: math.MinInt, Delay: 3}, api.ErrArg},
		{api.Times{MaxAge: 6, Hello: 1, Delay: 0}, api.ErrArg},
		{api.Times{MaxAge: 6, Hello: 1, Delay: -1}, api.ErrArg},
		{api.Times{MaxAge: 6, Hello: 1, Delay: 31}, api.ErrArg},
		{api.Times{MaxAge: 6, Hello: 1, Delay: math.MaxInt}, api.ErrArg},
		{api.Times{MaxAge: 6, Hello: 1, Delay: math.MinInt}, api.ErrArg},
		{api.Times{MaxAge: 4, Hello: 2, Delay: 3}, api.ErrArg},
		{api.Times{MaxAge: 5, Hello: 2, Delay: 3}, api.OK},
		{api.Times{MaxAge: 6, Hello: 3, Delay: 3}, api.ErrArg},
		{api.Times{MaxAge: 7, Hello: 3, Delay: 3}, api.OK},
		{api.Times{MaxAge: 20, Hello: 10, Delay: 3}, api.ErrArg},
		{api.Times{MaxAge: 21, Hello: 10, Delay: 3}, api.OK},
	} {
		newIs(t, 9, c.own, c.want)
		newIs(t, 0, c.own, api.ErrArg)
	}
}

// newIs holds New against a bridge that is told here, or against nothing beside an error.
func newIs(t *testing.T, id uint64, own api.Times, want api.Errno) {
	t.Helper()
	b := api.Tree{}
	if want == api.OK {
		b = api.Tree{Id: id, Own: own, Root: api.Vector{Root: id, Bridge: id}, Times: own, Port: -1}
	}
	if got, e := tree.New(id, own); got != b || e != want {
		t.Errorf("New(%d, %s): %s, %d, want %s, %d", id, told(own), told(got), e, told(b), want)
	}
}

func TestNewOfIds(t *testing.T) {
	for _, id := range []uint64{1, 2, 9, 1 << 48, 0x8000020000000001, math.MaxInt64, 1 << 63, math.MaxUint64} {
		newIs(t, id, usual, api.OK)
		newIs(t, id, api.Times{}, api.ErrArg)
	}
	newIs(t, 0, usual, api.ErrArg)
}

func TestNewOfAllTimes(t *testing.T) {
	right := 0
	for maxAge := -1; maxAge <= 45; maxAge++ {
		for hello := -1; hello <= 12; hello++ {
			for _, delay := range []int{0, 1, 17, 30, 31} {
				want := api.ErrArg
				if maxAge >= 3 && maxAge <= 40 && hello >= 1 && hello <= 10 && delay >= 1 && delay <= 30 && maxAge > 2*hello {
					want, right = api.OK, right+1
				}
				newIs(t, 5, api.Times{MaxAge: maxAge, Hello: hello, Delay: delay}, want)
			}
		}
	}
	if right != 3*290 {
		t.Errorf("%d were right", right)
	}
}

// P23.2

// firstCord answers what the port i of the bridge 9 is when it has come up, and told of that.
func firstCord(i int, edge bool) api.Cord {
	c := api.Cord{
		Up: true, Cost: 77, Info: api.InfoMine, Vector: api.Vector{Root: 9, Bridge: 9, Port: i + 1}, Times: usual, Role: designated,
		Proposing: true, Rapid: true, Wait: 3, Quiet: 3, Sense: 3, Hello: 1,
	}
	if edge {
		c.Admin, c.Edge, c.Proposing, c.State, c.Wait = true, true, false, forwarding, 0
	}
	return c
}

// firstTold answers what the port i of the bridge 9 tells when it has come up.
func firstTold(i int, edge bool) api.Told {
	b := api.Bpdu{Kind: rapid, Role: designated, Proposal: !edge, Learning: edge, Forwarding: edge, Vector: api.Vector{Root: 9, Bridge: 9, Port: i + 1}, MaxAge: 6, Hello: 1, Delay: 3}
	return api.Told{Port: i, Bpdu: b}
}

func TestLinkOfANewBridge(t *testing.T) {
	b := made(t, 9)
	for i := range 8 {
		for _, edge := range []bool{false, true} {
			want := b
			want.Cords[i] = firstCord(i, edge)
			is(t, fmt.Sprint("port ", i, ", edge ", edge), of(tree.Link(b, i, true, edge, 77)), answer{want, []api.Told{firstTold(i, edge)}, 0})
			want.Cords[i] = api.Cord{Admin: edge, Cost: 77}
			is(t, fmt.Sprint("port ", i, " down, edge ", edge), of(tree.Link(b, i, false, edge, 77)), answer{want, nil, 0})
		}
	}
}

func TestLinkOfNoPort(t *testing.T) {
	r := rand.New(rand.NewSource(2320))
	for range 200 {
		b := drawn(t, r)
		b.Cords[3].Up, b.Cords[3].Role, b.Cords[3].Tell = true, designated, true
		for _, i := range []int{-1, 8, 9, -8, 16, 256, math.MaxInt, math.MinInt} {
			is(t, fmt.Sprint("port ", i), of(tree.Link(b, i, coin(r), coin(r), 5)), answer{tree: b})
		}
	}
}

func TestLinkOfCosts(t *testing.T) {
	b := made(t, 9)
	for _, c := range []struct{ cost, want uint64 }{
		{0, 1}, {1, 1}, {2, 2}, {10, 10}, {1<<28 - 1, 1<<28 - 1}, {1 << 28, 1 << 28}, {1<<28 + 1, 1 << 28}, {1 << 32, 1 << 28}, {1<<32 + 5, 1 << 28}, {1 << 63, 1 << 28}, {math.MaxUint64, 1 << 28},
	} {
		for _, up := range []bool{false, true} {
			for i := range 8 {
				got, _, _ := tree.Link(b, i, up, false, c.cost)
				if got.Cords[i].Cost != c.want || got.Cords[i].Up != up {
					t.Errorf("port %d, up %t, cost %d: %s, want %d", i, up, c.cost, told(got.Cords[i]), c.want)
				}
			}
		}
	}
}

// Whatever the port was is gone; where it did forward, or goes down, its addresses are forgotten.
func TestLinkAnew(t *testing.T) {
	for i := range 8 {
		closed := with(made(t, 9), func(b *api.Tree) { *b, _, _ = tree.Link(*b, i, true, false, 5) })
		open, _, _ := tree.Link(closed, i, true, true, 6)
		slow := hears(closed, i, api.Bpdu{Kind: notice})
		learns := with(closed, func(b *api.Tree) { b.Cords[i].State = learning })
		for _, c := range []struct {
			name string
			b    api.Tree
			up   bool
			set  int
		}{
			{"discarding, then up", closed, true, 0}, {"discarding, then down", closed, false, 1 << i},
			{"forwarding, then up", open, true, 1 << i}, {"forwarding, then down", open, false, 1 << i},
			{"told of a change, then up", slow, true, 0}, {"told of a change, then down", slow, false, 1 << i},
			{"learning, then up", learns, true, 1 << i}, {"learning, then down", learns, false, 1 << i},
		} {
			want := answer{with(made(t, 9), func(b *api.Tree) { b.Cords[i].Cost = 77 }), nil, c.set}
			if c.up {
				want.tree.Cords[i], want.out = firstCord(i, false), []api.Told{firstTold(i, false)}
			}
			is(t, fmt.Sprint("port ", i, ", ", c.name), of(tree.Link(c.b, i, c.up, false, 77)), want)
		}
	}
}

// An edge that is linked anew forwards on: nobody is forgotten.
func TestLinkAnEdgeAnew(t *testing.T) {
	for i := range 8 {
		b, _, _ := tree.Link(made(t, 9), i, true, true, 5)
		want := made(t, 9)
		want.Cords[i] = firstCord(i, true)
		is(t, fmt.Sprint("port ", i), of(tree.Link(b, i, true, true, 77)), answer{want, []api.Told{firstTold(i, true)}, 0})
	}
}

// A port waits as long as the root asks for, not as the bridge itself would.
func TestLinkWaitsAsTheRootAsks(t *testing.T) {
	b := hears(raised(made(t, 9), 0), 0, offer(plain))
	got, out, set := tree.Link(b, 1, true, false, 5)
	c := got.Cords[1]
	if c.Wait != 15 || c.Times.Delay != 15 || c.Times.Age != 1 || c.Vector != (api.Vector{Root: 1, Cost: 10, Bridge: 9, Port: 2}) || len(out) != 1 || out[0].Port != 1 || set != 0 {
		t.Errorf("%s, %s, %d", told(c), told(out), set)
	}
	// where the link of the root port is new the root of before was asked
	got, out, set = tree.Link(b, 0, true, false, 5)
	if c := got.Cords[0]; c.Wait != 15 || c.Times != usual || c.Role != designated || got.Port != -1 || len(out) != 1 || set != 1 {
		t.Errorf("%s, %s, %d", told(got), told(out), set)
	}
}

// When the root port goes down another port takes over in the same step, and the change is told.
func TestLinkOfTheRootPort(t *testing.T) {
	b := raised(made(t, 9), 0, 1, 2)
	b = hears(b, 0, offer(plain))
	b = hears(b, 1, offer(func(p *api.Bpdu) { p.Vector.Bridge, p.Vector.Cost, p.Vector.Port = 2, 7, 4 }))
	if b.Cords[0].Role != root || b.Cords[1].Role != alternate || b.Cords[2].Role != designated {
		t.Fatalf("the roles are others: %s", told(b))
	}
	got, out, set := tree.Link(b, 0, false, false, 5)
	if got.Port != 1 || got.Cords[0] != (api.Cord{Cost: 5}) || got.Cords[1].State != forwarding || got.Cords[1].Change != 3 || got.Cords[2].Change != 3 || set != 5 {
		t.Errorf("%s, %d", told(got), set)
	}
	if len(out) != 2 || out[0].Port != 1 || out[1].Port != 2 || !out[0].Bpdu.Change || !out[1].Bpdu.Change || out[0].Bpdu.Role != root || out[1].Bpdu.Vector.Cost != 17 {
		t.Errorf("%s", told(out))
	}
}

func TestLinkOfMany(t *testing.T) {
	r := rand.New(rand.NewSource(232))
	outs, sets := 0, 0
	for range 30000 {
		b, i, up, admin, cost := drawn(t, r), r.Intn(10)-1, coin(r), coin(r), pick[uint64](r, 0, 1, 2, 10, 1<<28, 1<<28+1, math.MaxUint64)
		got, want := of(tree.Link(b, i, up, admin, cost)), linked(b, i, up, admin, cost)
		if how := unlike(got, want); how != "" {
			t.Fatalf("Link(%s, %d, %t, %t, %d): %s", told(b), i, up, admin, cost, how)
		}
		if len(got.out) > 1 {
			outs++
		}
		if got.set != 0 {
			sets++
		}
	}
	if outs < 5000 || sets < 5000 {
		t.Errorf("too few of some: %d, %d", outs, sets)
	}
}

// P23.3

func TestReceiveOfNothing(t *testing.T) {
	b := raised(made(t, 9), 0, 1, 3, 4, 5, 6, 7)
	b.Cords[0].Tell, b.Cords[1].Tell = true, true
	for _, i := range []int{-1, 8, 9, -8, 16, 256, math.MaxInt, math.MinInt, 2} {
		for _, p := range []api.Bpdu{offer(plain), {Kind: notice}, {Kind: config, Change: true, MaxAge: 20, Hello: 2}} {
			is(t, fmt.Sprint("port ", i, ", ", told(p)), of(tree.Receive(b, i, p)), answer{tree: b})
		}
	}
	type bpdus = api.Bpdu
	for name, p := range map[string]bpdus{
		"of no kind":                {Kind: 1},
		"of a kind below all":       {Kind: -1},
		"a change with more":        {Kind: notice, Change: true},
		"a change with a time":      {Kind: notice, Hello: 1},
		"a config with a role":      {Kind: config, Role: designated, MaxAge: 20},
		"a config with a proposal":  {Kind: config, Proposal: true, MaxAge: 20},
		"a rapid one with an ack":   offer(func(p *bpdus) { p.Ack = true }),
		"of a role above all":       offer(func(p *bpdus) { p.Role = 4 }),
		"of a role below all":       offer(func(p *bpdus) { p.Role = -1 }),
		"with too much a cost":      offer(func(p *bpdus) { p.Vector.Cost = 1 << 32 }),
		"with too high a port":      offer(func(p *bpdus) { p.Vector.Port = 65536 }),
		"with a port below all":     offer(func(p *bpdus) { p.Vector.Port = -1 }),
		"with too great an age":     offer(func(p *bpdus) { p.Age = 256 }),
		"with too great a max age":  offer(func(p *bpdus) { p.MaxAge = 256 }),
		"with too long a hello":     offer(func(p *bpdus) { p.Hello = 256 }),
		"with too long a delay":     offer(func(p *bpdus) { p.Delay = 256 }),
		"with less than no delay":   offer(func(p *bpdus) { p.Delay = -1 }),
		"with times above all ints": offer(func(p *bpdus) { p.Age, p.MaxAge, p.Hello, p.Delay = math.MaxInt, math.MaxInt, math.MaxInt, math.MaxInt }),
		"with times below all ints": offer(func(p *bpdus) { p.Age, p.MaxAge, p.Hello, p.Delay = math.MinInt, math.MinInt, math.MinInt, math.MinInt }),
	} {
		for i := range 8 {
			is(t, fmt.Sprint(name, " at port ", i), of(tree.Receive(b, i, p)), answer{tree: b})
		}
	}
}

// What another bridge tells of the root 1 makes the port that hears it the root port, which forwards at once.
func TestReceiveOfABetterRoot(t *testing.T) {
	for i := range 8 {
		k := (i + 3) % 8
		b := raised(made(t, 9), i, k)
		p := offer(func(p *api.Bpdu) { p.Proposal = true })
		times := api.Times{Age: 1, MaxAge: 20, Hello: 2, Delay: 15}
		want := b
		want.Root, want.Times, want.Port = api.Vector{Root: 1, Cost: 10, Bridge: 1, Port: 1}, times, i
		want.Cords[i] = api.Cord{
			Up: true, Cost: 10, Info: api.InfoReceived, Vector: p.Vector, Times: times, Role: root, State: forwarding, Agree: true, Rapid: true,
			Heard: 6, Recent: 15, Change: 3, Quiet: 3, Sense: 3, Hello: 2,
		}
		want.Cords[k] = api.Cord{
			Up: true, Cost: 10, Info: api.InfoMine, Vector: api.Vector{Root: 1, Cost: 10, Bridge: 9, Port: k + 1}, Times: times, Role: designated, Proposing: true, Synced: true, Rapid: true,
			Wait: 3, Change: 3, Quiet: 3, Sense: 3, Hello: 2,
		}
		out := [2]api.Told{
			{Port: i, Bpdu: api.Bpdu{Kind: rapid, Change: true, Role: root, Learning: true, Forwarding: true, Agreement: true, Vector: p.Vector, Age: 1, MaxAge: 20, Hello: 2, Delay: 15}},
			{Port: k, Bpdu: api.Bpdu{Kind: rapid, Change: true, Proposal: true, Role: designated, Vector: want.Cords[k].Vector, Age: 1, MaxAge: 20, Hello: 2, Delay: 15}},
		}
		if k < i {
			out[0], out[1] = out[1], out[0]
		}
		is(t, fmt.Sprint("port ", i), of(tree.Receive(b, i, p)), answer{want, out[:], 1 << k})
	}
}

// What is told again changes nothing but for how long it is good.
func TestReceiveAgain(t *testing.T) {
	b := hears(raised(made(t, 9), 0, 1), 0, offer(plain))
	later := ticked(b, 1)
	want := later
	want.Cords[0].Heard, want.Cords[0].Quiet = 6, 3
	is(t, "again", of(tree.Receive(later, 0, offer(plain))), answer{want, nil, 0})
}

// Who tells something worse is told of what is better at once.
func TestReceiveOfAWorseRoot(t *testing.T) {
	for i := range 8 {
		b := raised(made(t, 9), i)
		p := offer(func(p *api.Bpdu) { p.Vector.Root, p.Vector.Bridge = 12, 12 })
		is(t, fmt.Sprint("port ", i), of(tree.Receive(b, i, p)), answer{b, []api.Told{firstTold(i, false)}, 0})
		// where it learns, too, the port holds still
		edge, _, _ := tree.Link(made(t, 9), i, true, true, 10)
		p.Learning = true
		want := b
		want.Cords[i].Admin, want.Cords[i].Proposing = true, true
		is(t, fmt.Sprint("port ", i, ", an edge"), of(tree.Receive(edge, i, p)), answer{want, []api.Told{firstTold(i, false)}, 1 << i})
	}
}

// Who agrees lets a designated port forward, of which the others are told.
func TestReceiveOfAnAgreement(t *testing.T) {
	b := raised(made(t, 9), 0, 1)
	p := api.Bpdu{Kind: rapid, Role: root, Agreement: true, Vector: b.Cords[0].Vector, MaxAge: 6, Hello: 1, Delay: 3}
	want := b
	for i := range 2 {
		want.Cords[i].Change = 2
	}
	c := &want.Cords[0]
	c.Agreed, c.Proposing, c.State, c.Wait = true, false, forwarding, 0
	first, second := firstTold(0, true), firstTold(1, false)
	first.Bpdu.Change, second.Bpdu.Change = true, true
	is(t, "agreed", of(tree.Receive(b, 0, p)), answer{want, []api.Told{first, second}, 2})
	is(t, "with a worse vector", of(tree.Receive(b, 0, with(p, func(p *api.Bpdu) { p.Vector.Cost = 5 }))), answer{want, []api.Told{first, second}, 2})
	is(t, "with a better vector", of(tree.Receive(b, 0, with(p, func(p *api.Bpdu) { p.Vector.Port = 0 }))), answer{b, nil, 0})
	is(t, "without agreement", of(tree.Receive(b, 0, with(p, func(p *api.Bpdu) { p.Agreement = false }))), answer{b, nil, 0})
}

// A BpduChange tells of no way to a root: it is answered, and told on.
func TestReceiveOfABpduChange(t *testing.T) {
	for i := range 8 {
		k := (i + 5) % 8
		b := raised(made(t, 9), i, k)
		b.Cords[i].Sense, b.Cords[k].State = 0, forwarding
		b.Cords[k].Proposing = false
		want := b
		c := &want.Cords[i]
		c.Rapid, c.Sense, c.Quiet = false, 3, 3
		want.Cords[k].Change = 2
		first, second := api.Told{Port: i, Bpdu: api.Bpdu{Kind: config, Ack: true, Vector: c.Vector, MaxAge: 6, Hello: 1, Delay: 3}}, firstTold(k, true)
		second.Bpdu.Change = true
		out := []api.Told{first, second}
		if k < i {
			out = []api.Told{second, first}
		}
		is(t, fmt.Sprint("port ", i), of(tree.Receive(b, i, api.Bpdu{Kind: notice})), answer{want, out, 1 << k})
	}
}

// Whatever comes, the port where it comes is no edge any more.
func TestReceiveAtAnEdge(t *testing.T) {
	for _, p := range []api.Bpdu{offer(plain), {Kind: notice}, {Kind: config, MaxAge: 20}, {Kind: rapid}} {
		b, _, _ := tree.Link(made(t, 9), 2, true, true, 5)
		b = ticked(b, 2)
		got := hears(b, 2, p)
		if c := got.Cords[2]; !b.Cords[2].Edge || c.Edge || c.Quiet != 3 || !c.Admin {
			t.Errorf("%s: %s", told(p), told(c))
		}
	}
}

// What is told at once when a port is asked to discard, or a change is heard, is forgotten, too: both together.
func TestReceiveForgetsBoth(t *testing.T) {
	b := raised(made(t, 9), 0, 1, 2)
	for i := range 3 {
		b = hears(b, i, api.Bpdu{Kind: rapid, Role: root, Agreement: true, Vector: b.Cords[i].Vector, MaxAge: 6, Hello: 1, Delay: 3})
	}
	b = ticked(b, 3)
	if ripple.Open(b) != 7 || b.Cords[0].Change+b.Cords[1].Change+b.Cords[2].Change != 0 {
		t.Fatalf("not at rest: %s", told(b))
	}
	// a worse bridge that learns lets the port 1 discard, and with its change the others are forgotten
	p := offer(func(p *api.Bpdu) { p.Vector.Root, p.Vector.Bridge, p.Learning, p.Change = 12, 12, true, true })
	got, out, set := tree.Receive(b, 1, p)
	if set != 7 || got.Cords[1].State != discarding || got.Cords[0].Change != 2 || got.Cords[1].Change != 0 || got.Cords[2].Change != 2 || len(out) != 3 {
		t.Errorf("%s, %s, %d", told(got), told(out), set)
	}
	_, _, set = tree.Receive(b, 1, with(p, func(p *api.Bpdu) { p.Change = false }))
	if set != 2 {
		t.Errorf("without a change: %d", set)
	}
	_, _, set = tree.Receive(b, 1, with(p, func(p *api.Bpdu) { p.Learning = false }))
	if set != 5 {
		t.Errorf("without learning: %d", set)
	}
}

func TestReceiveOfMany(t *testing.T) {
	r := rand.New(rand.NewSource(233))
	same, outs, sets := 0, 0, 0
	for range 60000 {
		b, i, p := drawn(t, r), r.Intn(10)-1, drawnBpdu(r)
		if i >= 0 && i < 8 && r.Intn(4) == 0 { // of the port's own, so that it is repeated, or agreed to
			p.Vector = b.Cords[i].Vector
		}
		got, want := of(tree.Receive(b, i, p)), received(b, i, p)
		if how := unlike(got, want); how != "" {
			t.Fatalf("Receive(%s, %d, %s): %s", told(b), i, told(p), how)
		}
		if got.tree == b {
			same++
		}
		if len(got.out) > 1 {
			outs++
		}
		if got.set != 0 {
			sets++
		}
	}
	if same < 5000 || outs < 10000 || sets < 10000 {
		t.Errorf("too few of some: %d, %d, %d", same, outs, sets)
	}
}

// P23.4

func TestTickOfADownBridge(t *testing.T) {
	for _, id := range []uint64{1, 9, math.MaxUint64} {
		b := made(t, id)
		is(t, "nothing up", of(tree.Tick(b)), answer{b, nil, 0})
	}
	is(t, "nothing", of(tree.Tick(api.Tree{})), answer{api.Tree{Port: -1}, nil, 0})
}

// A port that nobody answers is an edge when it has been quiet for long enough, in its third tick, and tells in each of its Hello ticks.
func TestTickOfAPort(t *testing.T) {
	for i := range 8 {
		b, _ := tree.New(9, api.Times{MaxAge: 20, Hello: 2, Delay: 5})
		b, _, _ = tree.Link(b, i, true, false, 77)
		c := b.Cords[i]
		for n, tells := range []bool{false, true, true, false, true, false} {
			later, out, set := tree.Tick(b)
			c.Quiet, c.Wait, c.Sense, c.Hello = max(c.Quiet-1, 0), max(c.Wait-1, 0), max(c.Sense-1, 0), 1
			if tells {
				c.Hello = 2
			}
			if n == 2 {
				c.Edge, c.Proposing, c.State, c.Wait = true, false, forwarding, 0
			}
			if later.Cords[i] != c || (len(out) == 1) != tells || len(out) > 1 || set != 0 {
				t.Fatalf("port %d, tick %d: %s, %s, %d, want %s", i, n, told(later.Cords[i]), told(out), set, told(c))
			}
			b = later
		}
	}
}

// A designated port where somebody is, but does not agree, waits for its Delay twice.
func TestTickTillForwarding(t *testing.T) {
	b, _ := tree.New(9, api.Times{MaxAge: 20, Hello: 2, Delay: 5})
	b, _, _ = tree.Link(b, 4, true, false, 5)
	b, _, _ = tree.Link(b, 6, true, true, 5)
	worse := api.Bpdu{Kind: config, Vector: api.Vector{Root: 12, Bridge: 12}, MaxAge: 20, Hello: 2, Delay: 5}
	for n := 1; n <= 12; n++ {
		later, _, set := tree.Tick(b)
		want := min(n/5, 2)
		if later.Cords[4].State != want || set != 0 || later.Cords[4].Edge {
			t.Errorf("tick %d: %s, %d, want the state %d", n, told(later.Cords[4]), set, want)
		}
		b = hears(later, 4, worse)
	}
}

// What was heard grows too old, and the bridge is its own root again.
func TestTickTillTooOld(t *testing.T) {
	b := hears(raised(made(t, 9), 0, 1), 0, offer(plain))
	for n := 1; n <= 6; n++ {
		later, out, set := tree.Tick(b)
		switch {
		case n < 6 && (later.Port != 0 || later.Root.Root != 1 || set != 0):
			t.Errorf("tick %d: %s, %d", n, told(later), set)
		case n == 6 && (later.Port != -1 || later.Root.Root != 9 || later.Times != usual || len(out) != 2 || out[0].Bpdu.Vector != (api.Vector{Root: 9, Bridge: 9, Port: 1})):
			t.Errorf("tick %d: %s, %s", n, told(later), told(out))
		}
		b = later
	}
}

// Just a designated port that is up tells because it is time.
func TestTickTellsOfDesignatedPorts(t *testing.T) {
	b := raised(made(t, 9), 0, 1, 2, 3)
	b = hears(b, 0, offer(plain))
	b = hears(b, 1, offer(func(p *api.Bpdu) { p.Vector.Bridge, p.Vector.Cost, p.Vector.Port = 2, 7, 4 }))
	for i := range b.Cords {
		b.Cords[i].Hello = 1
	}
	b.Cords[3].Hello = 2
	got, out, set := tree.Tick(b)
	if len(out) != 1 || out[0].Port != 2 || set != 0 {
		t.Errorf("%s, %d", told(out), set)
	}
	for i, want := range []int{0, 0, 2, 1, 0} {
		if got.Cords[i].Hello != want && i < 4 {
			t.Errorf("port %d: %s, want %d", i, told(got.Cords[i]), want)
		}
	}
}

func TestTickOfMany(t *testing.T) {
	r := rand.New(rand.NewSource(234))
	outs, sets := 0, 0
	for range 30000 {
		b := drawn(t, r)
		got, want := of(tree.Tick(b)), later(b)
		if how := unlike(got, want); how != "" {
			t.Fatalf("Tick(%s): %s", told(b), how)
		}
		if len(got.out) > 1 {
			outs++
		}
		if got.set != 0 {
			sets++
		}
	}
	if outs < 5000 || sets < 5000 {
		t.Errorf("too few of some: %d, %d", outs, sets)
	}
}

// P23.5

// teller answers a port with something to tell.
func teller(role int, quick bool) api.Cord {
	return api.Cord{
		Up: true, Cost: 77, Info: api.InfoMine, Vector: api.Vector{Root: 1, Cost: 2, Bridge: 3, Port: 4}, Times: api.Times{Age: 1, MaxAge: 14, Hello: 3, Delay: 9},
		Role: role, State: learning, Proposing: true, Agree: true, Rapid: quick, Tell: true, Ack: true, Heard: 101, Wait: 102, Recent: 103, Change: 5, Quiet: 105, Sense: 106, Hello: 107,
	}
}

func TestSendsOfOnePort(t *testing.T) {
	type cord = api.Cord
	vector := api.Vector{Root: 1, Cost: 2, Bridge: 3, Port: 4}
	quick := func(role int, proposal bool) api.Bpdu {
		return api.Bpdu{Kind: rapid, Change: true, Proposal: proposal, Role: role, Learning: true, Agreement: true, Vector: vector, Age: 1, MaxAge: 14, Hello: 3, Delay: 9}
	}
	slow := api.Bpdu{Kind: config, Change: true, Ack: true, Vector: vector, Age: 1, MaxAge: 14, Hello: 3, Delay: 9}
	silent := api.Bpdu{Kind: -1}
	leave := func(c *cord) {}
	for _, c := range []struct {
		name  string
		role  int
		rapid bool
		was   func(*cord)
		want  api.Bpdu
	}{
		{"designated", designated, true, leave, quick(designated, true)},
		{"root", root, true, leave, quick(root, false)},
		{"alternate", alternate, true, leave, quick(alternate, false)},
		{"of no role", none, true, leave, silent},
		{"designated, slow", designated, false, leave, slow},
		{"root, slow", root, false, leave, api.Bpdu{Kind: notice}},
		{"alternate, slow", alternate, false, leave, silent},
		{"of no role, slow", none, false, leave, silent},
		{"root, slow, with no change", root, false, func(c *cord) { c.Change = 0 }, silent},
		{"root, slow, with less than no change", root, false, func(c *cord) { c.Change = -1 }, silent},
		{"root, slow, with a tick of a change", root, false, func(c *cord) { c.Change = 1 }, api.Bpdu{Kind: notice}},
		{"root, with no change", root, true, func(c *cord) { c.Change = 0 }, with(quick(root, false), func(b *api.Bpdu) { b.Change = false })},
		{"alternate, with no change", alternate, true, func(c *cord) { c.Change = 0 }, with(quick(alternate, false), func(b *api.Bpdu) { b.Change = false })},
		{"designated, slow, with no change", designated, false, func(c *cord) { c.Change, c.Ack = 0, false }, with(slow, func(b *api.Bpdu) { b.Change, b.Ack = false, false })},
		{"designated, nothing to tell", designated, true, func(c *cord) { c.Tell = false }, silent},
		{"root, nothing to tell", root, true, func(c *cord) { c.Tell = false }, silent},
		{"root, slow, nothing to tell", root, false, func(c *cord) { c.Tell = false }, silent},
		{"designated, slow, nothing to tell", designated, false, func(c *cord) { c.Tell = false }, silent},
		{"designated, down", designated, true, func(c *cord) { c.Up = false }, silent},
		{"root, slow, down", root, false, func(c *cord) { c.Up = false }, silent},
		{"root, down", root, true, func(c *cord) { c.Up = false }, silent},
		{"designated, an edge", designated, true, func(c *cord) { c.Edge = true }, quick(designated, true)},
	} {
		for i := range 8 {
			b := api.Tree{Id: 9, Own: usual, Root: vector, Times: usual, Port: 3}
			b.Cords[i] = with(teller(c.role, c.rapid), c.was)
			want := answer{tree: b}
			want.tree.Cords[i].Tell = false
			if c.want != silent {
				want.tree.Cords[i].Ack, want.tree.Cords[i].Hello = false, 3
				want.out = []api.Told{{Port: i, Bpdu: c.want}}
			}
			got, out := tree.Sends(b)
			is(t, fmt.Sprint(c.name, ", port ", i), answer{got, out, 0}, want)
			again, out := tree.Sends(got)
			is(t, fmt.Sprint(c.name, ", port ", i, ", again"), answer{again, out, 0}, answer{tree: got})
		}
	}
}

// A port tells again when its own times say so, 1 to 255 ticks later.
func TestSendsSaysWhenItTellsAgain(t *testing.T) {
	for _, c := range []struct{ hello, want int }{
		{1, 1}, {2, 2}, {10, 10}, {0, 1}, {-1, 1}, {math.MinInt, 1}, {254, 254}, {255, 255}, {256, 255}, {math.MaxInt, 255},
	} {
		for _, role := range []int{designated, root} {
			for _, quick := range []bool{false, true} {
				b := api.Tree{Own: api.Times{Hello: 7}, Times: api.Times{Hello: 8}}
				b.Cords[5] = with(teller(role, quick), func(p *api.Cord) { p.Times.Hello = c.hello })
				if got, out := tree.Sends(b); got.Cords[5].Hello != c.want || len(out) != 1 {
					t.Errorf("Hello %d, role %d, rapid %t: %s, %s, want %d", c.hello, role, quick, told(got.Cords[5]), told(out), c.want)
				}
			}
		}
	}
}

func TestSendsOfAllPorts(t *testing.T) {
	b := api.Tree{Id: 9}
	for i := range b.Cords {
		b.Cords[i] = teller(designated, true)
	}
	got, out := tree.Sends(b)
	if len(out) != 8 {
		t.Fatalf("%s", told(out))
	}
	for i, o := range out {
		if o.Port != i || o.Bpdu != rstpport.Message(b.Cords[i]) || got.Cords[i].Tell {
			t.Errorf("port %d: %s, %s", i, told(o), told(got.Cords[i]))
		}
	}
}

func TestSendsOfMany(t *testing.T) {
	r := rand.New(rand.NewSource(235))
	outs := 0
	for range 30000 {
		b := drawnTree(r)
		got, out := tree.Sends(b)
		want, wantOut := sent(b)
		if how := unlike(answer{got, out, 0}, answer{want, wantOut, 0}); how != "" {
			t.Fatalf("Sends(%s): %s", told(b), how)
		}
		if len(out) > 1 {
			outs++
		}
	}
	if outs < 10000 {
		t.Errorf("too few: %d", outs)
	}
}

// What was handed in is as it was, and what is answered is no two calls' memory.
func TestAnswersAreNew(t *testing.T) {
	b := raised(made(t, 9), 0, 1, 2)
	for i := range b.Cords {
		b.Cords[i].Tell = true
	}
	was := b
	_, one := tree.Sends(b)
	_, two := tree.Sends(b)
	one[0].Port = 99
	if two[0].Port != 0 || b != was {
		t.Errorf("%s, %s", told(two), told(b))
	}
}

// P23.6

// sound tells what is wrong with a bridge, and what goes out of it, behind a call; "", if nothing is.
func sound(a answer) string {
	roles := elect.Roles(a.tree)
	for i, c := range a.tree.Cords {
		switch {
		case c.Role != roles[i]:
			return fmt.Sprint("port ", i, " has another role")
		case c.Role == root && (c.State != forwarding || a.tree.Port != i):
			return fmt.Sprint("port ", i, " should forward")
		case c.Role == alternate && c.State != discarding:
			return fmt.Sprint("port ", i, " should discard")
		case c.Tell:
			return fmt.Sprint("port ", i, " has something to tell yet")
		}
	}
	last := -1
	for _, o := range a.out {
		if !bpdu.Right(o.Bpdu) {
			return "what goes out is not right: " + told(o)
		}
		if o.Port <= last || o.Port > 7 || !a.tree.Cords[o.Port].Up {
			return "it goes out elsewhere: " + told(a.out)
		}
		last = o.Port
	}
	if a.set < 0 || a.set > 255 {
		return fmt.Sprint("there are no such ports: ", a.set)
	}
	return ""
}

// P23.7, and P23.6: whatever comes to a bridge.
func TestWhateverComes(t *testing.T) {
	r := rand.New(rand.NewSource(236))
	count := map[string]int{}
	for range 1500 {
		own := pick(r, usual, api.Times{MaxAge: 40, Hello: 10, Delay: 30}, api.Times{MaxAge: 3, Hello: 1, Delay: 1})
		b, e := tree.New(pick[uint64](r, 1, 3, math.MaxUint64), own)
		if e != api.OK {
			t.Fatal(e)
		}
		for range 60 {
			a := answer{}
			switch r.Intn(8) {
			case 0, 1:
				a = of(tree.Link(b, r.Intn(8), r.Intn(4) > 0, coin(r), pick[uint64](r, 0, 1, 10, 1<<28, math.MaxUint64)))
			case 2:
				a = of(tree.Tick(b))
			case 3:
				u, out := tree.Sends(b)
				a = answer{u, out, 0}
				if len(out) != 0 || u != b {
					t.Fatalf("something was left to tell: %s", told(out))
				}
			default:
				p := drawnBpdu(r)
				i := r.Intn(8)
				if r.Intn(4) == 0 {
					p.Vector = b.Cords[i].Vector
				}
				a = of(tree.Receive(b, i, p))
			}
			if wrong := sound(a); wrong != "" {
				t.Fatalf("%s: %s, behind %s", wrong, told(a), told(b))
			}
			b = a.tree
			for _, o := range a.out {
				count[fmt.Sprint("kind ", o.Bpdu.Kind, " role ", o.Bpdu.Role)]++
			}
			for _, c := range b.Cords {
				count[fmt.Sprint("role ", c.Role)]++
			}
		}
	}
	for _, what := range []string{"kind 0 role 0", "kind 128 role 0", "kind 2 role 1", "kind 2 role 2", "kind 2 role 3", "role 0", "role 1", "role 2", "role 3"} {
		if count[what] < 100 {
			t.Errorf("too few of %s: %d", what, count[what])
		}
	}
}

// net is bridges that are joined, each by its port to one of another, and what is on its way.
type net struct {
	bridges []api.Tree
	ends    map[[2]int][2]int
	mail    [][2]int
	bpdus   []api.Bpdu
}

// post puts what the bridge a tells on its way.
func (n *net) post(a int, out []api.Told) {
	for _, o := range out {
		if to, ok := n.ends[[2]int{a, o.Port}]; ok {
			n.mail, n.bpdus = append(n.mail, to), append(n.bpdus, o.Bpdu)
		}
	}
}

// join joins the port p of the bridge a and the port q of the bridge b.
func (n *net) join(a, p, b, q int) {
	n.ends[[2]int{a, p}], n.ends[[2]int{b, q}] = [2]int{b, q}, [2]int{a, p}
	for _, end := range [][2]int{{a, p}, {b, q}} {
		u, out, _ := tree.Link(n.bridges[end[0]], end[1], true, false, 10)
		n.bridges[end[0]] = u
		n.post(end[0], out)
	}
}

// cut takes away the wire at the port p of the bridge a.
func (n *net) cut(a, p int) {
	one := [2]int{a, p}
	other := n.ends[one]
	delete(n.ends, one)
	delete(n.ends, other)
	n.mail, n.bpdus = nil, nil
	for _, end := range [][2]int{one, other} {
		u, out, _ := tree.Link(n.bridges[end[0]], end[1], false, false, 10)
		n.bridges[end[0]] = u
		n.post(end[0], out)
	}
}

// run lets all come that is on its way, and answers how many BPDUs that were.
func (n *net) run(t *testing.T) int {
	count := 0
	for ; len(n.mail) > 0 && count < 10000; count++ {
		to, p := n.mail[0], n.bpdus[0]
		n.mail, n.bpdus = n.mail[1:], n.bpdus[1:]
		a := of(tree.Receive(n.bridges[to[0]], to[1], p))
		if wrong := sound(a); wrong != "" {
			t.Fatalf("%s: %s", wrong, told(a))
		}
		n.bridges[to[0]] = a.tree
		n.post(to[0], a.out)
	}
	return count
}

// tick lets a tick pass, and all come.
func (n *net) tick(t *testing.T) int {
	for i, b := range n.bridges {
		a := of(tree.Tick(b))
		if wrong := sound(a); wrong != "" {
			t.Fatalf("%s: %s", wrong, told(a))
		}
		n.bridges[i] = a.tree
		n.post(i, a.out)
	}
	return n.run(t)
}

// roles answers the ports' roles of each bridge, a letter each.
func (n *net) roles() string {
	s := ""
	for _, b := range n.bridges {
		for _, c := range b.Cords {
			s += "-ard"[c.Role : c.Role+1]
		}
		s += fmt.Sprint(" ", ripple.Open(b), "\n")
	}
	return s
}

// newNet answers bridges with these ids.
func newNet(t *testing.T, ids ...uint64) *net {
	n := &net{ends: map[[2]int][2]int{}}
	for _, id := range ids {
		n.bridges = append(n.bridges, made(t, id))
	}
	return n
}

// Two bridges agree at once, without a tick: no port waits.
func TestTwoBridgesAgree(t *testing.T) {
	n := newNet(t, 7, 4)
	n.join(0, 2, 1, 5)
	if c := n.run(t); c == 0 || c > 20 {
		t.Errorf("%d BPDUs were told", c)
	}
	if got, want := n.roles(), "--r----- 4\n-----d-- 32\n"; got != want {
		t.Errorf("%s, want %s", got, want)
	}
	for range 20 {
		n.tick(t)
		if got, want := n.roles(), "--r----- 4\n-----d-- 32\n"; got != want {
			t.Errorf("%s, want %s", got, want)
		}
	}
	// when there is nothing new the root tells in each Hello tick, and nobody else
	if c := n.tick(t); c != 1 {
		t.Errorf("%d BPDUs were told", c)
	}
}

// The ninth example of the whole: one port of a ring does not forward; where the ring is cut it takes over.
func TestThreeBridgesInARing(t *testing.T) {
	n := newNet(t, 1, 2, 3)
	n.join(0, 1, 1, 0)
	n.join(1, 1, 2, 0)
	n.join(2, 1, 0, 0)
	for range 20 {
		n.tick(t)
	}
	if got, want := n.roles(), "dd------ 3\nrd------ 3\nar------ 2\n"; got != want {
		t.Errorf("%s, want %s", got, want)
	}
	n.cut(2, 1)
	n.run(t)
	if got, want := n.roles(), "-d------ 2\nrd------ 3\nr------- 1\n"; got != want {
		t.Errorf("cut, and told: %s, want %s", got, want)
	}
	for range 40 {
		n.tick(t)
	}
	if got, want := n.roles(), "-d------ 2\nrd------ 3\nr------- 1\n"; got != want {
		t.Errorf("cut: %s, want %s", got, want)
	}
}

// A change is told once to each, and comes to rest.
func TestAChangeComesToRest(t *testing.T) {
	n := newNet(t, 1, 2, 3)
	n.join(0, 1, 1, 0)
	n.join(1, 1, 2, 0)
	for range 20 {
		n.tick(t)
	}
	for i, b := range n.bridges {
		for k, c := range b.Cords {
			if c.Change != 0 || c.Tell {
				t.Errorf("bridge %d, port %d: %s", i, k, told(c))
			}
		}
	}
}

// To an old bridge, that knows of no rapid BPDUs, a bridge tells as that does from its fourth tick on, and it forwards behind twice its Delay.
func TestAnOldBridge(t *testing.T) {
	b := raised(made(t, 1), 0)
	old := api.Bpdu{Kind: config, Vector: api.Vector{Root: 5, Bridge: 5, Port: 1}, MaxAge: 6, Hello: 1, Delay: 3}
	for n := 1; n <= 8; n++ {
		later, out, _ := tree.Tick(hears(b, 0, old))
		kind := rapid
		if n > 3 {
			kind = config
		}
		if c := later.Cords[0]; c.State != min(n/3, 2) || c.Rapid != (kind == rapid) || len(out) != 1 || out[0].Bpdu.Kind != kind {
			t.Errorf("tick %d: %s, %s", n, told(c), told(out))
		}
		b = later
	}
	_, out, _ := tree.Receive(b, 0, api.Bpdu{Kind: notice})
	want := api.Bpdu{Kind: config, Change: true, Ack: true, Vector: api.Vector{Root: 1, Bridge: 1, Port: 1}, MaxAge: 6, Hello: 1, Delay: 3}
	if len(out) != 1 || out[0].Bpdu != want {
		t.Errorf("acknowledged: %s", told(out))
	}
}

// A root port whose other end is old tells it of a change by a BpduChange, till that is acknowledged.
func TestAChangeIsToldToAnOldRoot(t *testing.T) {
	b := raised(made(t, 9), 0, 1)
	old := api.Bpdu{Kind: config, Vector: api.Vector{Root: 5, Bridge: 5, Port: 1}, MaxAge: 20, Hello: 2, Delay: 15}
	b = ticked(b, 3)
	b = hears(b, 0, old)
	if c := b.Cords[0]; c.Rapid || c.Role != root || c.Change != 0 {
		t.Fatalf("%s", told(b))
	}
	b, _, _ = tree.Link(b, 2, true, true, 5)
	later, out, set := tree.Receive(b, 1, api.Bpdu{Kind: notice})
	if len(out) < 1 || out[0] != (api.Told{Port: 0, Bpdu: api.Bpdu{Kind: notice}}) || set&1 == 0 || later.Cords[0].Change != 35 {
		t.Fatalf("%s, %s, %d", told(later), told(out), set)
	}
	done := hears(later, 0, with(old, func(p *api.Bpdu) { p.Ack = true }))
	if done.Cords[0].Change != 0 {
		t.Errorf("%s", told(done))
	}
}

// The chapter's example.
func TestOnePortTellsAtOnce(t *testing.T) {
	b, _ := tree.New(9, api.Times{MaxAge: 20, Hello: 2, Delay: 15})
	_, out, _ := tree.Link(b, 3, true, false, 20000)
	want := api.Bpdu{Kind: rapid, Role: designated, Proposal: true, Vector: api.Vector{Root: 9, Bridge: 9, Port: 4}, MaxAge: 20, Hello: 2, Delay: 15}
	if len(out) != 1 || out[0] != (api.Told{Port: 3, Bpdu: want}) {
		t.Errorf("%s", told(out))
	}
}

// R1: whatever a bridge is, and whatever comes to it, each call ends.
func FuzzCalls(f *testing.F) {
	f.Add(int64(1), 3, true, uint64(10))
	f.Add(int64(-7), -1, false, uint64(math.MaxUint64))
	f.Add(int64(math.MaxInt64), 8, true, uint64(0))
	f.Fuzz(func(t *testing.T, seed int64, i int, up bool, cost uint64) {
		r := rand.New(rand.NewSource(seed))
		b, p := drawn(t, r), drawnBpdu(r)
		is(t, "Link", of(tree.Link(b, i, up, !up, cost)), linked(b, i, up, !up, cost))
		is(t, "Receive", of(tree.Receive(b, i, p)), received(b, i, p))
		is(t, "Tick", of(tree.Tick(b)), later(b))
		tree.New(cost, api.Times{Age: r.Intn(2), MaxAge: i, Hello: i, Delay: i})
	})
}
