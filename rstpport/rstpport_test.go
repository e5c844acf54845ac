package rstpport_test

import (
	"fmt"
	"math"
	"math/rand"
	"testing"

	"tipstaff/api"
	"tipstaff/bpdu"
	"tipstaff/prefer"
	"tipstaff/rstpport"
)

// told answers what v is, no longer than is of use.
func told(v any) string { return fmt.Sprintf("%.1200s", fmt.Sprintf("%+v", v)) }

// vec answers a vector, from its fields in their order.
func vec(root, cost, bridge uint64, port int) api.Vector {
	return api.Vector{Root: root, Cost: cost, Bridge: bridge, Port: port}
}

// What a port knows by port, what is better and worse than that from others, and what the one it is from tells.
var (
	known       = vec(5, 50, 500, 5)
	better      = vec(5, 49, 900, 9)
	worse       = vec(5, 51, 100, 1)
	sameBetter  = vec(4, 90, 500, 5)
	sameWorse   = vec(6, 10, 500, 5)
	worseBridge = vec(6, 10, 501, 5)
	worsePort   = vec(6, 10, 500, 6)
	heard       = api.Times{Age: 3, MaxAge: 20, Hello: 2, Delay: 15}
)

// full answers a port that has all that there is, and heard known.
func full() api.Cord {
	return api.Cord{
		Up: true, Admin: true, Edge: true, Cost: 77, Info: api.InfoReceived, Vector: known, Times: heard,
		Role: api.RoleDesignated, State: api.StateForwarding, Agreed: true, Agree: true, Proposing: true, Proposed: true,
		Sync: true, Synced: true, Rapid: true, Tell: true, Ack: true,
		Heard: 101, Wait: 102, Recent: 103, Change: 104, Quiet: 105, Sense: 106, Hello: 107,
	}
}

// bare answers a port that has nothing but what it heard.
func bare() api.Cord {
	return api.Cord{Info: api.InfoReceived, Vector: known, Times: heard}
}

// says answers what is heard as known is, of a vector, by a designated port of the rapid protocol.
func says(v api.Vector) api.Bpdu {
	return api.Bpdu{Kind: api.BpduRapid, Role: api.RoleDesignated, Vector: v, Age: 2, MaxAge: 20, Hello: 2, Delay: 15}
}

// with answers x, changed.
func with[T any](x T, change func(*T)) T {
	change(&x)
	return x
}

// as answers b of a kind.
func as(b api.Bpdu, kind int) api.Bpdu {
	b.Kind = kind
	return b
}

// from answers b of a role.
func from(b api.Bpdu, role int) api.Bpdu {
	b.Role = role
	return b
}

// info answers c with that information.
func info(c api.Cord, n int) api.Cord {
	c.Info = n
	return c
}

// sorted tells what Sort answers, and holds what Receive tells against it.
func sorted(t *testing.T, c api.Cord, b api.Bpdu) int {
	t.Helper()
	s := rstpport.Sort(c, b)
	if _, n := rstpport.Receive(c, b); n != s {
		t.Errorf("Receive(%s, %s): told as %d, Sort says %d", told(c), told(b), n, s)
	}
	return s
}

// lasts is for how many ticks a BPDU is good, told anew.
func lasts(b api.Bpdu) int {
	if b.MaxAge <= 0 || b.Age > b.MaxAge-2 {
		return 0
	}
	if b.Hello < 1 {
		return 3
	}
	if b.Hello > 255 {
		return 765
	}
	return b.Hello + b.Hello + b.Hello
}

// aged answers the times of b, a hop on.
func aged(b api.Bpdu) api.Times {
	return prefer.Older(api.Times{Age: b.Age, MaxAge: b.MaxAge, Hello: b.Hello, Delay: b.Delay})
}

// sortOf is Sort, told anew.
func sortOf(c api.Cord, b api.Bpdu) int {
	isBetter, isWorse := prefer.Better(b.Vector, c.Vector), prefer.Better(c.Vector, b.Vector)
	if b.Kind == api.BpduRapid && b.Role != api.RoleDesignated {
		if (b.Role == api.RoleRoot || b.Role == api.RoleAlternate) && !isBetter {
			return api.SortAgreement
		}
		return api.SortOther
	}
	received := c.Info == api.InfoReceived
	if received && !isBetter && !isWorse && aged(b) == c.Times {
		return api.SortRepeated
	}
	one := c.Vector.Bridge == b.Vector.Bridge && c.Vector.Port == b.Vector.Port
	if isBetter || received && one || c.Info == api.InfoNone {
		return api.SortSuperior
	}
	if isWorse {
		return api.SortInferior
	}
	return api.SortOther
}

// receive is Receive, told anew.
func receive(c api.Cord, b api.Bpdu) (api.Cord, int) {
	isRapid, sort := b.Kind == api.BpduRapid, sortOf(c, b)
	if sort == api.SortSuperior {
		c.Vector, c.Times = b.Vector, aged(b)
		c.Agreed, c.Agree, c.Proposing, c.Synced = false, false, false, false
		c.Proposed, c.Heard, c.Info = isRapid && b.Proposal, lasts(b), api.InfoReceived
		if c.Heard == 0 {
			c.Info = api.InfoNone
		}
	}
	if sort == api.SortRepeated {
		c.Heard = lasts(b)
		if isRapid && b.Proposal {
			c.Proposed = true
		}
	}
	if sort == api.SortInferior {
		c.Tell = true
		if isRapid && b.Learning && !c.Edge {
			c.Agreed, c.State = false, api.StateDiscarding
			if c.Wait < c.Times.Delay {
				c.Wait = c.Times.Delay
			}
		}
	}
	if sort == api.SortAgreement && b.Agreement && c.Role == api.RoleDesignated {
		c.Agreed, c.Proposing = true, false
	}
	return c, sort
}

// message is Message, told anew.
func message(c api.Cord) api.Bpdu {
	b := api.Bpdu{Vector: c.Vector, Age: c.Times.Age, MaxAge: c.Times.MaxAge, Hello: c.Times.Hello, Delay: c.Times.Delay, Change: c.Change > 0}
	if c.Rapid {
		b.Kind, b.Role, b.Agreement = api.BpduRapid, c.Role, c.Agree
		b.Learning, b.Forwarding = c.State > 0, c.State == 2
		b.Proposal = c.Role == api.RoleDesignated && c.Proposing
	} else {
		b.Kind, b.Ack = api.BpduConfig, c.Ack
	}
	return b
}

// pick answers one of l.
func pick[T any](r *rand.Rand, l ...T) T { return l[r.Intn(len(l))] }

// coin answers true as often as false.
func coin(r *rand.Rand) bool { return r.Intn(2) == 0 }

// drawnNumber answers a number of ticks, often at an edge.
func drawnNumber(r *rand.Rand) int {
	return pick(r, 0, 1, 2, 3, 15, 19, 20, 21, 84, 85, 86, 253, 254, 255, 256, -1, math.MaxInt, math.MinInt)
}

// drawnVector answers a vector that is often one of those near known.
func drawnVector(r *rand.Rand) api.Vector {
	if r.Intn(4) > 0 {
		return pick(r, known, known, better, worse, sameBetter, sameWorse, worseBridge, worsePort)
	}
	one := func() uint64 { return pick[uint64](r, 0, 1, 5, 50, 500, 1<<32, 1<<63, math.MaxUint64) }
	return vec(one(), one(), one(), pick(r, 0, 5, 6, -1, math.MaxInt, math.MinInt))
}

// drawnBpdu answers a BPDU, which need not be right.
func drawnBpdu(r *rand.Rand) api.Bpdu {
	b := api.Bpdu{
		Kind:   pick(r, api.BpduRapid, api.BpduRapid, api.BpduRapid, api.BpduConfig, api.BpduChange, 1, -1),
		Role:   pick(r, api.RoleDesignated, api.RoleDesignated, api.RoleRoot, api.RoleAlternate, api.RoleNone, 4, -1),
		Change: coin(r), Proposal: coin(r), Learning: coin(r), Forwarding: coin(r), Agreement: coin(r), Ack: coin(r),
		Vector: drawnVector(r), Age: 2, MaxAge: 20, Hello: 2, Delay: 15,
	}
	if coin(r) {
		b.Age, b.MaxAge, b.Hello, b.Delay = drawnNumber(r), drawnNumber(r), drawnNumber(r), drawnNumber(r)
	}
	return b
}

// drawnCord answers a port, which need not be one that there can be.
func drawnCord(r *rand.Rand) api.Cord {
	c := api.Cord{
		Up: coin(r), Admin: coin(r), Edge: coin(r), Cost: r.Uint64(), Info: pick(r, 0, 1, 2, 2, 2, 3, -1), Vector: drawnVector(r), Times: heard,
		Role: pick(r, 0, 1, 2, 3, 3, 4, -1), State: pick(r, 0, 1, 2, 3, -1), Agreed: coin(r), Agree: coin(r), Proposing: coin(r), Proposed: coin(r),
		Sync: coin(r), Synced: coin(r), Rapid: coin(r), Tell: coin(r), Ack: coin(r),
		Heard: drawnNumber(r), Wait: drawnNumber(r), Recent: drawnNumber(r), Change: drawnNumber(r), Quiet: drawnNumber(r), Sense: drawnNumber(r), Hello: drawnNumber(r),
	}
	if r.Intn(4) == 0 {
		c.Times = api.Times{Age: drawnNumber(r), MaxAge: drawnNumber(r), Hello: drawnNumber(r), Delay: drawnNumber(r)}
	}
	return c
}

// P18.1

func TestSortOfADesignatedPort(t *testing.T) {
	mine, none := info(bare(), api.InfoMine), info(bare(), api.InfoNone)
	for _, c := range []struct {
		name string
		c    api.Cord
		b    api.Bpdu
		want int
	}{
		{"the chapter's example", bare(), says(better), api.SortSuperior},
		{"a better one where it tells itself", mine, says(better), api.SortSuperior},
		{"a better one of information of no kind", info(bare(), 7), says(better), api.SortSuperior},
		{"as it was", bare(), says(known), api.SortRepeated},
		{"with another age", bare(), with(says(known), func(b *api.Bpdu) { b.Age = 3 }), api.SortSuperior},
		{"with another MaxAge", bare(), with(says(known), func(b *api.Bpdu) { b.MaxAge = 21 }), api.SortSuperior},
		{"with another Hello", bare(), with(says(known), func(b *api.Bpdu) { b.Hello = 1 }), api.SortSuperior},
		{"with another Delay", bare(), with(says(known), func(b *api.Bpdu) { b.Delay = 14 }), api.SortSuperior},
		{"as it was, with other flags", bare(), with(says(known), func(b *api.Bpdu) { b.Proposal, b.Learning, b.Change = true, true, true }), api.SortRepeated},
		{"as it was, of the oldest age", with(bare(), func(c *api.Cord) { c.Times.Age = 255 }), with(says(known), func(b *api.Bpdu) { b.Age = 255 }), api.SortRepeated},
		{"as it tells itself", mine, says(known), api.SortOther},
		{"as it tells itself, with other times", mine, with(says(known), func(b *api.Bpdu) { b.Age = 9 }), api.SortOther},
		{"as it was, of information of no kind", info(bare(), -1), says(known), api.SortOther},
		{"as it was, where it is too old", none, says(known), api.SortSuperior},
		{"from the same one, better", bare(), says(sameBetter), api.SortSuperior},
		{"from the same one, worse", bare(), says(sameWorse), api.SortSuperior},
		{"worse, from another bridge's port of that number", bare(), says(worseBridge), api.SortInferior},
		{"worse, from another port of the bridge", bare(), says(worsePort), api.SortInferior},
		{"worse, of its own number, where it tells itself", mine, says(sameWorse), api.SortInferior},
		{"worse, of its own number, of information of no kind", info(bare(), 3), says(sameWorse), api.SortInferior},
		{"worse", bare(), says(worse), api.SortInferior},
		{"worse, where it tells itself", mine, says(worse), api.SortInferior},
		{"worse, where it knows nothing", none, says(worse), api.SortSuperior},
		{"where a port is new", api.Cord{}, says(worse), api.SortSuperior},
		{"nothing at all where a port is new", api.Cord{}, api.Bpdu{}, api.SortSuperior},
	} {
		if got := sorted(t, c.c, c.b); got != c.want {
			t.Errorf("%s: %d, want %d", c.name, got, c.want)
		}
	}
}

func TestSortOfOtherKinds(t *testing.T) {
	mine := info(bare(), api.InfoMine)
	for _, kind := range []int{api.BpduConfig, api.BpduChange, 1, 3, -2} {
		for _, r := range []int{api.RoleNone, api.RoleAlternate, api.RoleRoot, api.RoleDesignated, 9} { // what stands there says nothing
			for _, c := range []struct {
				c    api.Cord
				v    api.Vector
				want int
			}{
				{bare(), better, api.SortSuperior}, {bare(), known, api.SortRepeated}, {bare(), worse, api.SortInferior},
				{bare(), sameWorse, api.SortSuperior}, {mine, known, api.SortOther}, {mine, worse, api.SortInferior}, {info(bare(), api.InfoNone), worse, api.SortSuperior},
			} {
				if got := sorted(t, c.c, from(as(says(c.v), kind), r)); got != c.want {
					t.Errorf("kind %d of role %d, %s: %d, want %d", kind, r, told(c.v), got, c.want)
				}
			}
		}
	}
}

func TestSortOfOtherRoles(t *testing.T) {
	for _, n := range []int{api.InfoNone, api.InfoMine, api.InfoReceived, 4} {
		c := info(bare(), n) // what it knows, and from whom, says nothing
		for _, x := range []struct {
			v    api.Vector
			want int
		}{
			{known, api.SortAgreement}, {worse, api.SortAgreement}, {sameWorse, api.SortAgreement}, {worsePort, api.SortAgreement},
			{better, api.SortOther}, {sameBetter, api.SortOther},
		} {
			for _, r := range []int{api.RoleRoot, api.RoleAlternate} {
				if got := sorted(t, c, from(says(x.v), r)); got != x.want {
					t.Errorf("role %d, information %d, %s: %d, want %d", r, n, told(x.v), got, x.want)
				}
			}
			for _, r := range []int{api.RoleNone, 4, -1, math.MaxInt, math.MinInt} {
				if got := sorted(t, c, from(says(x.v), r)); got != api.SortOther {
					t.Errorf("role %d, information %d, %s: %d", r, n, told(x.v), got)
				}
			}
		}
	}
}

// P18.2

// same holds an answer of Receive against what is wanted.
func same(t *testing.T, name string, c api.Cord, b api.Bpdu, want api.Cord, sort int) {
	t.Helper()
	if got, n := rstpport.Receive(c, b); got != want || n != sort {
		t.Errorf("%s: %d, %s, want %d, %s", name, n, told(got), sort, told(want))
	}
}

func TestReceiveSuperior(t *testing.T) {
	asks := with(says(better), func(b *api.Bpdu) {
		b.Proposal, b.Agreement, b.Learning, b.Forwarding, b.Change = true, true, true, true, true
	})
	for _, c := range []api.Cord{full(), bare(), info(full(), api.InfoMine), info(full(), api.InfoNone)} {
		want := c
		want.Vector, want.Times, want.Info, want.Heard = better, heard, api.InfoReceived, 6
		want.Agreed, want.Agree, want.Proposing, want.Synced, want.Proposed = false, false, false, false, false
		same(t, "rapid", c, says(better), want, api.SortSuperior)
		same(t, "config", c, as(says(better), api.BpduConfig), want, api.SortSuperior)
		same(t, "config that seems to ask", c, as(asks, api.BpduConfig), want, api.SortSuperior)
		old, wantOld := with(asks, func(b *api.Bpdu) { b.Age = 19 }), want
		want.Proposed, wantOld.Proposed = true, true
		same(t, "rapid that asks", c, asks, want, api.SortSuperior)
		wantOld.Info, wantOld.Heard, wantOld.Times.Age = api.InfoNone, 0, 20
		same(t, "rapid that is too old", c, old, wantOld, api.SortSuperior)
	}
	worseNow := full() // the one it is from tells worse
	worseNow.Vector, worseNow.Heard = sameWorse, 6
	worseNow.Agreed, worseNow.Agree, worseNow.Proposing, worseNow.Synced, worseNow.Proposed = false, false, false, false, false
	same(t, "from the same one", full(), says(sameWorse), worseNow, api.SortSuperior)
}

func TestHowLongItIsGood(t *testing.T) {
	for _, x := range []struct{ age, maxAge, hello, want int }{
		{0, 20, 2, 6}, {18, 20, 2, 6}, {19, 20, 2, 0}, {20, 20, 2, 0}, {21, 20, 2, 0},
		{4, 6, 1, 3}, {5, 6, 1, 0}, {0, 2, 1, 3}, {1, 2, 1, 0}, {0, 1, 1, 0}, {-1, 1, 1, 3},
		{0, 0, 1, 0}, {-1, 0, 1, 0}, {-2, 0, 1, 0}, {-9, -1, 1, 0}, {math.MinInt, 0, 1, 0}, {math.MinInt, math.MinInt, 1, 0}, {0, math.MinInt, 1, 0},
		{math.MinInt, 1, 1, 3}, {math.MaxInt, math.MaxInt, 1, 0}, {math.MaxInt - 1, math.MaxInt, 1, 0}, {math.MaxInt - 2, math.MaxInt, 1, 3}, {254, 300, 1, 3}, {298, 300, 1, 3}, {299, 300, 1, 0},
		{0, 20, 0, 3}, {0, 20, 1, 3}, {0, 20, -1, 3}, {0, 20, math.MinInt, 3}, {19, 20, 0, 0},
		{0, 20, 10, 30}, {0, 20, 84, 252}, {0, 20, 85, 255}, {0, 20, 86, 258}, {0, 20, 254, 762}, {0, 20, 255, 765}, {0, 20, 256, 765}, {0, 20, math.MaxInt, 765},
	} {
		b := with(says(better), func(b *api.Bpdu) { b.Age, b.MaxAge, b.Hello = x.age, x.maxAge, x.hello })
		wanted := api.InfoReceived
		if x.want == 0 {
			wanted = api.InfoNone
		}
		first, _ := rstpport.Receive(full(), b)
		if first.Heard != x.want || first.Info != wanted || first.Vector != better || first.Times != aged(b) {
			t.Errorf("Age %d, MaxAge %d, Hello %d: %s, want %d", x.age, x.maxAge, x.hello, told(first), x.want)
		}
		c := with(full(), func(c *api.Cord) { c.Vector, c.Times, c.Heard = better, aged(b), 999 })
		again, sort := rstpport.Receive(c, b)
		if sort != api.SortRepeated || again.Heard != x.want || again.Info != api.InfoReceived {
			t.Errorf("Age %d, MaxAge %d, Hello %d, again: %d, %s, want %d", x.age, x.maxAge, x.hello, sort, told(again), x.want)
		}
	}
}

func TestReceiveRepeated(t *testing.T) {
	asks := with(says(known), func(b *api.Bpdu) { b.Proposal = true })
	for _, c := range []api.Cord{full(), bare()} {
		want := c
		want.Heard = 6
		same(t, "rapid", c, says(known), want, api.SortRepeated)
		same(t, "config", c, as(says(known), api.BpduConfig), want, api.SortRepeated)
		same(t, "config that seems to ask", c, as(asks, api.BpduConfig), want, api.SortRepeated)
		want.Proposed = true
		same(t, "rapid that asks", c, asks, want, api.SortRepeated)
		c.Times.Age, want.Times.Age, want.Heard = 20, 20, 0
		same(t, "rapid that is too old", c, with(asks, func(b *api.Bpdu) { b.Age = 19 }), want, api.SortRepeated)
	}
}

func TestReceiveInferior(t *testing.T) {
	learns := with(says(worse), func(b *api.Bpdu) { b.Learning = true })
	for _, c := range []api.Cord{full(), bare(), info(full(), api.InfoMine), with(full(), func(c *api.Cord) { c.Edge = false }), with(full(), func(c *api.Cord) { c.Role = api.RoleRoot })} {
		want := c
		want.Tell = true
		same(t, "rapid", c, says(worse), want, api.SortInferior)
		same(t, "rapid that forwards, asks and agrees", c, with(says(worse), func(b *api.Bpdu) { b.Forwarding, b.Proposal, b.Agreement = true, true, true }), want, api.SortInferior)
		same(t, "config", c, as(says(worse), api.BpduConfig), want, api.SortInferior)
		same(t, "config that seems to learn", c, as(learns, api.BpduConfig), want, api.SortInferior)
		c.Edge, want.Edge = true, true
		same(t, "one that learns, at an edge", c, learns, want, api.SortInferior)
		c.Edge, want.Edge = false, false
		want.Agreed, want.State, want.Wait = false, api.StateDiscarding, max(c.Wait, 15)
		same(t, "one that learns", c, learns, want, api.SortInferior)
	}
}

func TestWaitOfOneThatIsWorse(t *testing.T) {
	learns := with(says(worse), func(b *api.Bpdu) { b.Learning, b.Delay = true, 30 }) // its own Delay says nothing
	for _, x := range []struct{ wait, delay, want int }{
		{0, 15, 15}, {14, 15, 15}, {15, 15, 15}, {16, 15, 16}, {0, 0, 0}, {3, 0, 3}, {-1, 0, 0}, {0, -1, 0}, {-2, -1, -1},
		{math.MinInt, 15, 15}, {math.MaxInt, 15, math.MaxInt}, {0, math.MaxInt, math.MaxInt}, {0, math.MinInt, 0},
	} {
		for _, state := range []int{api.StateDiscarding, api.StateLearning, api.StateForwarding, 3} {
			c := with(full(), func(c *api.Cord) {
				c.Edge, c.Tell, c.State, c.Wait, c.Times.Delay = false, false, state, x.wait, x.delay
			})
			want := with(c, func(c *api.Cord) { c.Tell, c.Agreed, c.State, c.Wait = true, false, api.StateDiscarding, x.want })
			same(t, fmt.Sprint("wait ", x.wait, ", delay ", x.delay), c, learns, want, api.SortInferior)
		}
	}
}

func TestReceiveAgreement(t *testing.T) {
	for _, v := range []api.Vector{known, worse, sameWorse} {
		for _, r := range []int{api.RoleRoot, api.RoleAlternate} {
			plain := from(says(v), r)
			agrees := with(plain, func(b *api.Bpdu) { b.Agreement = true })
			for _, c := range []api.Cord{full(), with(full(), func(c *api.Cord) { c.Agreed = false }), with(bare(), func(c *api.Cord) { c.Role = api.RoleDesignated })} {
				same(t, "without an agreement", c, plain, c, api.SortAgreement)
				same(t, "with all but an agreement", c, with(plain, func(b *api.Bpdu) { b.Proposal, b.Learning, b.Forwarding, b.Change = true, true, true, true }), c, api.SortAgreement)
				want := c
				want.Agreed, want.Proposing = true, false
				same(t, "with an agreement", c, agrees, want, api.SortAgreement)
				for _, role := range []int{api.RoleNone, api.RoleAlternate, api.RoleRoot, 4, -1} {
					c := with(c, func(c *api.Cord) { c.Role = role })
					same(t, fmt.Sprint("with an agreement, to role ", role), c, agrees, c, api.SortAgreement)
				}
			}
		}
	}
}

func TestReceiveOther(t *testing.T) {
	all := func(v api.Vector, role int) api.Bpdu {
		return with(from(says(v), role), func(b *api.Bpdu) {
			b.Proposal, b.Learning, b.Forwarding, b.Agreement, b.Change, b.Ack = true, true, true, true, true, true
		})
	}
	for _, c := range []api.Cord{full(), bare(), info(full(), api.InfoMine), info(full(), api.InfoNone), with(full(), func(c *api.Cord) { c.Edge = false })} {
		same(t, "better, from a root port", c, all(better, api.RoleRoot), c, api.SortOther)
		same(t, "better, from an alternate port", c, all(better, api.RoleAlternate), c, api.SortOther)
		same(t, "of no role", c, all(better, api.RoleNone), c, api.SortOther)
		same(t, "of no role, worse", c, all(worse, api.RoleNone), c, api.SortOther)
		same(t, "of a role that there isn't", c, all(known, 4), c, api.SortOther)
		mine := info(c, api.InfoMine)
		same(t, "what it tells itself", mine, all(known, api.RoleDesignated), mine, api.SortOther)
	}
}

func TestReceiveOfMany(t *testing.T) {
	r := rand.New(rand.NewSource(182))
	seen := map[int]int{}
	for range 60000 {
		c, b := drawnCord(r), drawnBpdu(r)
		if coin(r) {
			c.Times = aged(b)
		}
		want, sort := receive(c, b)
		if got, n := rstpport.Receive(c, b); got != want || n != sort || rstpport.Sort(c, b) != sort {
			t.Fatalf("Receive(%s, %s): %d, %s, want %d, %s", told(c), told(b), n, told(got), sort, told(want))
		}
		seen[sort]++
	}
	for _, sort := range []int{api.SortOther, api.SortSuperior, api.SortRepeated, api.SortInferior, api.SortAgreement} {
		if seen[sort] < 1000 {
			t.Errorf("of sort %d only %d", sort, seen[sort])
		}
	}
}

// P18.3

func TestMessage(t *testing.T) {
	plain := api.Bpdu{Vector: known, Age: 3, MaxAge: 20, Hello: 2, Delay: 15}
	rapidly := func(change func(*api.Bpdu)) api.Bpdu { return with(as(plain, api.BpduRapid), change) }
	some := func(change func(*api.Cord)) api.Cord { return with(bare(), change) }
	for _, c := range []struct {
		name string
		c    api.Cord
		want api.Bpdu
	}{
		{"nothing", api.Cord{}, api.Bpdu{}},
		{"config", bare(), plain},
		{"config with an ack", some(func(c *api.Cord) { c.Ack = true }), with(plain, func(b *api.Bpdu) { b.Ack = true })},
		{"config of a port that has all", with(full(), func(c *api.Cord) { c.Rapid = false }), with(plain, func(b *api.Bpdu) { b.Ack, b.Change = true, true })},
		{"config with a change of one tick", some(func(c *api.Cord) { c.Change = 1 }), with(plain, func(b *api.Bpdu) { b.Change = true })},
		{"config with a change below 0", some(func(c *api.Cord) { c.Change = -1 }), plain},
		{"rapid", some(func(c *api.Cord) { c.Rapid = true }), rapidly(func(*api.Bpdu) {})},
		{"rapid with an ack", some(func(c *api.Cord) { c.Rapid, c.Ack = true, true }), rapidly(func(*api.Bpdu) {})},
		{"rapid with a change of one tick", some(func(c *api.Cord) { c.Rapid, c.Change = true, 1 }), rapidly(func(b *api.Bpdu) { b.Change = true })},
		{"rapid with a change below 0", some(func(c *api.Cord) { c.Rapid, c.Change = true, math.MinInt }), rapidly(func(*api.Bpdu) {})},
		{"rapid that agrees", some(func(c *api.Cord) { c.Rapid, c.Agree = true, true }), rapidly(func(b *api.Bpdu) { b.Agreement = true })},
		{"rapid that is agreed to", some(func(c *api.Cord) { c.Rapid, c.Agreed = true, true }), rapidly(func(*api.Bpdu) {})},
		{"rapid that was asked", some(func(c *api.Cord) { c.Rapid, c.Proposed, c.Role = true, true, api.RoleDesignated }), rapidly(func(b *api.Bpdu) { b.Role = api.RoleDesignated })},
		{"rapid of a port that has all", full(), rapidly(func(b *api.Bpdu) {
			b.Role, b.Change, b.Proposal, b.Learning, b.Forwarding, b.Agreement = api.RoleDesignated, true, true, true, true, true
		})},
		{"what it tells itself", api.Cord{Rapid: true, Info: api.InfoMine, Vector: known, Times: heard, Role: api.RoleDesignated}, rapidly(func(b *api.Bpdu) { b.Role = api.RoleDesignated })},
	} {
		if got := rstpport.Message(c.c); got != c.want {
			t.Errorf("%s: %s, want %s", c.name, told(got), told(c.want))
		}
	}
}

func TestMessageByRoleAndState(t *testing.T) {
	for _, r := range []int{api.RoleNone, api.RoleAlternate, api.RoleRoot, api.RoleDesignated, 4, -1} {
		for _, state := range []int{api.StateDiscarding, api.StateLearning, api.StateForwarding, 3, -1, math.MaxInt, math.MinInt} {
			for _, proposing := range []bool{false, true} {
				c := api.Cord{Rapid: true, Role: r, State: state, Proposing: proposing}
				want := api.Bpdu{Kind: api.BpduRapid, Role: r, Proposal: proposing && r == 3, Learning: state >= 1, Forwarding: state == 2}
				if got := rstpport.Message(c); got != want {
					t.Errorf("Message(%s): %s", told(c), told(got))
				}
				c.Rapid = false
				if got := rstpport.Message(c); got != (api.Bpdu{}) {
					t.Errorf("Message(%s): %s", told(c), told(got))
				}
			}
		}
	}
}

func TestMessageOfMany(t *testing.T) {
	r := rand.New(rand.NewSource(183))
	for range 20000 {
		c := drawnCord(r)
		if got, want := rstpport.Message(c), message(c); got != want {
			t.Fatalf("Message(%s): %s, want %s", told(c), told(got), told(want))
		}
	}
}

func TestMessageCanBeTold(t *testing.T) {
	r := rand.New(rand.NewSource(1830))
	for range 20000 {
		c := drawnCord(r)
		c.Role, c.Vector = r.Intn(4), vec(r.Uint64(), uint64(r.Uint32()), r.Uint64(), r.Intn(65536))
		c.Times = api.Times{Age: r.Intn(256), MaxAge: r.Intn(256), Hello: r.Intn(256), Delay: r.Intn(256)}
		if b := rstpport.Message(c); !bpdu.Right(b) {
			t.Fatalf("Message(%s): %s is not right", told(c), told(b))
		}
	}
}

// P18.4

func TestProtocol(t *testing.T) {
	for _, kind := range []int{api.BpduRapid, api.BpduConfig, api.BpduChange, 1, -1} {
		is := kind == api.BpduRapid
		b := as(says(better), kind)
		for _, was := range []bool{false, true} {
			for _, sense := range []int{3, 2, 1, 0, -1, math.MaxInt, math.MinInt} {
				for _, c := range []api.Cord{full(), bare(), {}} {
					c.Rapid, c.Sense = was, sense
					want := c
					want.Edge, want.Quiet = false, 3
					if sense <= 0 && was != is {
						want.Rapid, want.Sense = is, 3
					}
					if got := rstpport.Protocol(c, b); got != want {
						t.Errorf("kind %d, Rapid %t, Sense %d: %s, want %s", kind, was, sense, told(got), told(want))
					}
				}
			}
		}
	}
	for _, quiet := range []int{0, 2, 4, -1, math.MaxInt, math.MinInt} {
		c := with(bare(), func(c *api.Cord) { c.Quiet, c.Edge = quiet, true })
		want := with(bare(), func(c *api.Cord) { c.Quiet = 3 })
		if got := rstpport.Protocol(c, api.Bpdu{}); got != want {
			t.Errorf("Quiet %d: %s", quiet, told(got))
		}
	}
}

func TestProtocolTurnsOnceAWhile(t *testing.T) {
	old, now := as(says(better), api.BpduConfig), says(better)
	c := rstpport.Protocol(api.Cord{Rapid: true}, old)
	if c.Rapid || c.Sense != 3 {
		t.Fatalf("at first: %s", told(c))
	}
	if c = rstpport.Protocol(c, now); c.Rapid || c.Sense != 3 {
		t.Fatalf("at once: %s", told(c))
	}
	c.Sense = 0
	if c = rstpport.Protocol(c, old); c.Rapid || c.Sense != 0 {
		t.Fatalf("of the same: %s", told(c))
	}
	if c = rstpport.Protocol(c, now); !c.Rapid || c.Sense != 3 {
		t.Fatalf("in the end: %s", told(c))
	}
}

// P18.5

func TestWhatIsToldIsThere(t *testing.T) {
	r := rand.New(rand.NewSource(185))
	for range 20000 {
		c := drawnCord(r)
		if c.Role = api.RoleDesignated; coin(r) {
			c.Rapid, c.Role = false, r.Intn(4)
		}
		c.Times = api.Times{Age: r.Intn(20), MaxAge: 22 + r.Intn(20), Hello: 1 + r.Intn(10), Delay: 1 + r.Intn(30)}
		b := rstpport.Message(c)
		other := with(drawnCord(r), func(c *api.Cord) { c.Info = api.InfoNone })
		knows, sort := rstpport.Receive(other, b)
		if sort != api.SortSuperior || knows.Info != api.InfoReceived || knows.Vector != c.Vector || knows.Times != prefer.Older(c.Times) || knows.Heard != 3*c.Times.Hello || knows.Proposed != (c.Rapid && c.Proposing) {
			t.Fatalf("%s tells, %s hears: %d, %s", told(c), told(other), sort, told(knows))
		}
		if again, sort := rstpport.Receive(knows, b); sort != api.SortRepeated || again != knows {
			t.Fatalf("%s tells, %s hears again: %d, %s", told(c), told(knows), sort, told(again))
		}
	}
}

func TestTwoPortsAgree(t *testing.T) {
	one := api.Cord{Up: true, Rapid: true, Role: api.RoleDesignated, Proposing: true, Info: api.InfoMine, Vector: vec(1, 0, 1, 1), Times: api.Times{MaxAge: 20, Hello: 2, Delay: 15}}
	other := api.Cord{Up: true, Rapid: true, Role: api.RoleDesignated, Proposing: true, Info: api.InfoMine, Vector: vec(2, 0, 2, 1), Times: api.Times{MaxAge: 20, Hello: 2, Delay: 15}}
	if c, sort := rstpport.Receive(one, rstpport.Message(other)); sort != api.SortInferior || c != with(one, func(c *api.Cord) { c.Tell = true }) {
		t.Errorf("the better one hears the worse: %d, %s", sort, told(c))
	}
	other, sort := rstpport.Receive(other, rstpport.Message(one))
	if sort != api.SortSuperior || !other.Proposed || other.Proposing {
		t.Fatalf("the worse one hears the better: %d, %s", sort, told(other))
	}
	other.Role, other.Proposed, other.Agree = api.RoleRoot, false, true
	one, sort = rstpport.Receive(one, rstpport.Message(other))
	if sort != api.SortAgreement || !one.Agreed || one.Proposing {
		t.Errorf("the better one hears that the worse agrees: %d, %s", sort, told(one))
	}
}

// R1

func FuzzRstpport(f *testing.F) {
	f.Add(int64(1), 0, 0, 0, 0, 0)
	f.Add(int64(2), 19, 20, 2, 15, 3)
	f.Add(int64(3), math.MinInt, math.MinInt, math.MinInt, math.MinInt, math.MinInt)
	f.Add(int64(4), math.MaxInt, math.MaxInt, math.MaxInt, math.MaxInt, math.MaxInt)
	f.Add(int64(5), math.MinInt, 1, math.MaxInt, math.MinInt, math.MaxInt)
	f.Fuzz(func(t *testing.T, seed int64, age, maxAge, hello, delay, wait int) {
		r := rand.New(rand.NewSource(seed))
		c, b := drawnCord(r), drawnBpdu(r)
		b.Age, b.MaxAge, b.Hello, b.Delay, c.Wait = age, maxAge, hello, delay, wait
		want, sort := receive(c, b)
		got, n := rstpport.Receive(c, b)
		if got != want || n != sort || rstpport.Sort(c, b) != sort {
			t.Fatalf("Receive(%s, %s): %d, %s, want %d, %s", told(c), told(b), n, told(got), sort, told(want))
		}
		if m := rstpport.Message(got); m != message(got) {
			t.Fatalf("Message(%s): %s", told(got), told(m))
		}
		if p := rstpport.Protocol(got, b); p.Edge || p.Quiet != 3 || (p.Rapid != got.Rapid) != (got.Sense <= 0 && got.Rapid != (b.Kind == api.BpduRapid)) {
			t.Fatalf("Protocol(%s, %s): %s", told(got), told(b), told(p))
		}
	})
}
