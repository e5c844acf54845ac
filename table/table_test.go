package table_test

import (
	"fmt"
	"math"
	"math/rand"
	"slices"
	"sort"
	"strings"
	"testing"

	"tipstaff/api"
	"tipstaff/table"
)

const (
	group = api.Mac(1 << 40)
	wide  = api.Mac(1 << 48) // the first that has more than 48 bits
	top   = wide - 1 - group // the last address that is no group
)

// noPorts are numbers that no port has.
var noPorts = []int{-1, -8, 8, 9, 16, 64, 256, 1 << 32, math.MaxInt, math.MinInt}

// noVids are numbers that no VLAN has.
var noVids = []int{0, -1, 4095, 4096, 4097, 8190, 1 << 32, math.MaxInt, math.MinInt}

// told answers what v is, no longer than is of use.
func told(v any) string { return fmt.Sprintf("%.400s", fmt.Sprintf("%#v", v)) }

// entry answers an entry, from its fields in their order.
func entry(vid int, m api.Mac, port, age int) api.Entry {
	return api.Entry{Vid: vid, Mac: m, Port: port, Age: age}
}

// of answers a table with those entries.
func of(most, long int, l ...api.Entry) api.Table { return api.Table{Most: most, Long: long, L: l} }

// some answers a table that is sound, of entries of two VLANs at three ports.
func some() api.Table {
	return of(9, 5, entry(1, 2, 0, 4), entry(1, 4, 7, 0), entry(2, 2, 3, 2), entry(2, 6, 7, 4), entry(3, 0, 3, 1))
}

// alike is Same, told anew: nil and an empty list are the same one.
func alike(a, b api.Table) bool {
	if a.Most != b.Most || a.Long != b.Long || len(a.L) != len(b.L) {
		return false
	}
	for i := range a.L {
		if a.L[i].Vid != b.L[i].Vid || a.L[i].Mac != b.L[i].Mac || a.L[i].Port != b.L[i].Port || a.L[i].Age != b.L[i].Age {
			return false
		}
	}
	return true
}

// sorted puts entries in order, by another way than the program's.
func sorted(l []api.Entry) {
	sort.SliceStable(l, func(i, j int) bool {
		return l[i].Vid < l[j].Vid || l[i].Vid == l[j].Vid && l[i].Mac < l[j].Mac
	})
}

// without answers the entries of l of which f does not say that they go, and how many did.
func without(l []api.Entry, f func(e api.Entry) bool) ([]api.Entry, int) {
	rest := []api.Entry{}
	for _, e := range l {
		if !f(e) {
			rest = append(rest, e)
		}
	}
	return rest, len(l) - len(rest)
}

func drawnMac(r *rand.Rand) api.Mac {
	return []api.Mac{0, 1, 2, 3, 0x0200000000ff, 0xfe0000000000, top, 5}[r.Intn(8)]
}

func drawnVid(r *rand.Rand) int { return []int{1, 2, 10, 4094}[r.Intn(4)] }

// drawnTable answers a table that is sound, with room or without.
func drawnTable(r *rand.Rand) api.Table {
	long := 1 + r.Intn(6)
	l := []api.Entry{}
	for range r.Intn(12) {
		e := entry(drawnVid(r), drawnMac(r), r.Intn(8), r.Intn(long))
		if !slices.ContainsFunc(l, func(o api.Entry) bool { return o.Vid == e.Vid && o.Mac == e.Mac }) {
			l = append(l, e)
		}
	}
	sorted(l)
	return of(len(l)+r.Intn(3), long, l...)
}

// anyTable answers a table that need not be sound, with numbers that don't overflow.
func anyTable(r *rand.Rand) api.Table {
	l := make([]api.Entry, r.Intn(8))
	for i := range l {
		l[i] = entry(r.Intn(4)-1, api.Mac(r.Intn(3))<<uint(r.Intn(50)), r.Intn(11)-1, r.Intn(8)-2)
	}
	return of(r.Intn(10)-1, r.Intn(8)-1, l...)
}

// P14.1

func TestNew(t *testing.T) {
	for _, c := range []struct {
		most, long int
		e          api.Errno
	}{
		{0, 1, api.OK}, {256, 1, api.OK}, {0, 1 << 20, api.OK}, {256, 1 << 20, api.OK}, {16, 30, api.OK}, {255, 1<<20 - 1, api.OK}, {1, 2, api.OK},
		{-1, 1, api.ErrArg}, {257, 1, api.ErrArg}, {0, 0, api.ErrArg}, {0, -1, api.ErrArg}, {256, 1<<20 + 1, api.ErrArg}, {257, 0, api.ErrArg},
		{math.MinInt, 5, api.ErrArg}, {math.MaxInt, 5, api.ErrArg}, {5, math.MinInt, api.ErrArg}, {5, math.MaxInt, api.ErrArg}, {1 << 32, 5, api.ErrArg}, {5, 1<<32 + 1, api.ErrArg},
	} {
		want := api.Table{}
		if c.e == api.OK {
			want = of(c.most, c.long)
		}
		if got, e := table.New(c.most, c.long); !alike(got, want) || e != c.e {
			t.Errorf("New(%d, %d): %s, %d, want %s, %d", c.most, c.long, told(got), e, told(want), c.e)
		}
	}
}

// P14.2

func TestFind(t *testing.T) {
	twice := of(9, 5, entry(3, 1, 0, 0), entry(1, 2, 4, 1), entry(1, 3, 5, 2), entry(1, 2, 6, 3), entry(0, 0, 0, 1), entry(-1, wide, -1, 1))
	for _, c := range []struct {
		t    api.Table
		vid  int
		m    api.Mac
		want api.Entry
		ok   bool
	}{
		{some(), 1, 2, entry(1, 2, 0, 4), true},
		{some(), 1, 4, entry(1, 4, 7, 0), true},
		{some(), 2, 2, entry(2, 2, 3, 2), true},
		{some(), 3, 0, entry(3, 0, 3, 1), true},
		{some(), 3, 2, api.Entry{}, false},
		{some(), 1, 6, api.Entry{}, false},
		{some(), 2, 4, api.Entry{}, false},
		{some(), 0, 2, api.Entry{}, false},
		{some(), 4094, 2, api.Entry{}, false},
		{some(), -1, 2, api.Entry{}, false},
		{some(), 1, 2 | group, api.Entry{}, false},
		{some(), 1, 2 + wide, api.Entry{}, false},
		{some(), math.MinInt, math.MaxUint64, api.Entry{}, false},
		{twice, 1, 2, entry(1, 2, 4, 1), true},
		{twice, 3, 1, entry(3, 1, 0, 0), true},
		{twice, 0, 0, entry(0, 0, 0, 1), true},
		{twice, -1, wide, entry(-1, wide, -1, 1), true},
		{twice, -1, 0, api.Entry{}, false},
		{api.Table{}, 0, 0, api.Entry{}, false},
		{of(9, 5), 1, 2, api.Entry{}, false},
	} {
		if got, ok := table.Find(c.t, c.vid, c.m); got != c.want || ok != c.ok {
			t.Errorf("Find(%s, %d, %d): %s, %t, want %s, %t", told(c.t), c.vid, c.m, told(got), ok, told(c.want), c.ok)
		}
	}
}

// P14.3

func TestLearn(t *testing.T) {
	full := of(2, 5, entry(1, 4, 0, 3), entry(2, 4, 1, 4))
	for _, c := range []struct {
		name string
		t    api.Table
		vid  int
		m    api.Mac
		port int
		want []api.Entry
	}{
		{"the first", of(1, 1), 1, 2, 0, []api.Entry{entry(1, 2, 0, 0)}},
		{"the ends", of(1, 1), 4094, top, 7, []api.Entry{entry(4094, top, 7, 0)}},
		{"the address 0", of(1, 1), 1, 0, 0, []api.Entry{entry(1, 0, 0, 0)}},
		{"ahead of all", of(3, 5, full.L...), 1, 3, 2, []api.Entry{entry(1, 3, 2, 0), entry(1, 4, 0, 3), entry(2, 4, 1, 4)}},
		{"between by address", of(3, 5, full.L...), 1, 5, 2, []api.Entry{entry(1, 4, 0, 3), entry(1, 5, 2, 0), entry(2, 4, 1, 4)}},
		{"between by VLAN", of(3, 5, full.L...), 2, 3, 2, []api.Entry{entry(1, 4, 0, 3), entry(2, 3, 2, 0), entry(2, 4, 1, 4)}},
		{"behind all by address", of(3, 5, full.L...), 2, 5, 2, []api.Entry{entry(1, 4, 0, 3), entry(2, 4, 1, 4), entry(2, 5, 2, 0)}},
		{"behind all by VLAN", of(3, 5, full.L...), 3, 0, 2, []api.Entry{entry(1, 4, 0, 3), entry(2, 4, 1, 4), entry(3, 0, 2, 0)}},
		{"it moves", full, 1, 4, 5, []api.Entry{entry(1, 4, 5, 0), entry(2, 4, 1, 4)}},
		{"the last one moves", full, 2, 4, 5, []api.Entry{entry(1, 4, 0, 3), entry(2, 4, 5, 0)}},
		{"it stays, and is as new", full, 1, 4, 0, []api.Entry{entry(1, 4, 0, 0), entry(2, 4, 1, 4)}},
		{"one group's bit less", of(1, 5), 1, group - 1, 3, []api.Entry{entry(1, group-1, 3, 0)}},
		{"above a group's bit", of(1, 5), 1, group << 1, 3, []api.Entry{entry(1, group<<1, 3, 0)}},
	} {
		want := of(c.t.Most, c.t.Long, c.want...)
		if got, e := table.Learn(c.t, c.vid, c.m, c.port); !alike(got, want) || e != api.OK {
			t.Errorf("%s: %s, %d, want %s, OK", c.name, told(got), e, told(want))
		}
	}
}

func TestLearnErrors(t *testing.T) {
	full := of(2, 5, entry(1, 4, 0, 3), entry(2, 4, 1, 4))
	none := of(0, 5)
	type call struct {
		t    api.Table
		vid  int
		m    api.Mac
		port int
		e    api.Errno
	}
	calls := []call{
		{full, 1, 5, 0, api.ErrFull}, {full, 2, 5, 0, api.ErrFull}, {full, 3, 4, 0, api.ErrFull}, {full, 4094, 4, 0, api.ErrFull}, {none, 1, 4, 0, api.ErrFull}, {of(1, 5, full.L...), 3, 4, 0, api.ErrFull},
		{full, 1, group, 0, api.ErrArg}, {full, 1, 4 | group, 0, api.ErrArg}, {full, 1, wide - 1, 0, api.ErrArg}, {full, 1, 0xffffffffffff, 7, api.ErrArg},
		{full, 1, wide, 0, api.ErrArg}, {full, 1, wide | 4, 0, api.ErrArg}, {full, 1, math.MaxUint64, 0, api.ErrArg}, {full, 1, math.MaxUint64 - group, 0, api.ErrArg},
		{none, 1, group, 0, api.ErrArg}, {of(9, 5), 1, group, 0, api.ErrArg}, {of(9, 5), 1, wide, 0, api.ErrArg}, {of(9, 5), 1, 1 << 63, 0, api.ErrArg},
	}
	for _, vid := range noVids {
		calls = append(calls, call{full, vid, 4, 0, api.ErrArg}, call{of(9, 5), vid, 4, 0, api.ErrArg}, call{none, vid, group, 8, api.ErrArg})
	}
	for _, port := range noPorts {
		calls = append(calls, call{full, 1, 4, port, api.ErrArg}, call{full, 3, 3, port, api.ErrArg}, call{of(9, 5), 1, 4, port, api.ErrArg}, call{none, 1, 4, port, api.ErrArg})
	}
	for _, c := range calls {
		if got, e := table.Learn(c.t, c.vid, c.m, c.port); !alike(got, c.t) || e != c.e {
			t.Errorf("Learn(%s, %d, %x, %d): %s, %d, want the table, %d", told(c.t), c.vid, uint64(c.m), c.port, told(got), e, c.e)
		}
	}
}

func TestLearnOfDrawnTables(t *testing.T) {
	r := rand.New(rand.NewSource(1))
	fulls, moves := 0, 0
	for range 20000 {
		old := drawnTable(r)
		vid, m, port := drawnVid(r), drawnMac(r), r.Intn(8)
		rest, gone := without(old.L, func(e api.Entry) bool { return e.Vid == vid && e.Mac == m })
		want, wantE := old, api.ErrFull
		if gone > 0 || len(old.L) < old.Most {
			l := append(rest, entry(vid, m, port, 0))
			sorted(l)
			want, wantE = of(old.Most, old.Long, l...), api.OK
		}
		fulls, moves = fulls+int(wantE)/int(api.ErrFull), moves+gone
		if got, e := table.Learn(old, vid, m, port); !alike(got, want) || e != wantE {
			t.Fatalf("Learn(%s, %d, %d, %d): %s, %d, want %s, %d", told(old), vid, m, port, told(got), e, told(want), wantE)
		}
	}
	if fulls < 1000 || moves < 1000 {
		t.Errorf("%d were full, and %d moved", fulls, moves)
	}
}

func TestLearnToTheMost(t *testing.T) {
	x, e := table.New(api.MaxTable, 9)
	for i := range api.MaxTable {
		// from both ends in turn, so that no place is always the last one
		m := api.Mac(1000 + i)
		if i%2 == 1 {
			m = api.Mac(1000 - i)
		}
		if x, e = table.Learn(x, 1+i%3, m, i%8); e != api.OK || len(x.L) != i+1 || !table.Sound(x) {
			t.Fatalf("address %d: %d entries, %d", i, len(x.L), e)
		}
	}
	if y, e := table.Learn(x, 1, 1, 0); e != api.ErrFull || !alike(x, y) {
		t.Errorf("Learn of one more: %d entries, %d", len(y.L), e)
	}
	if y, e := table.Learn(x, 1, 1000, 5); e != api.OK || len(y.L) != api.MaxTable {
		t.Errorf("Learn of one that is there: %d entries, %d", len(y.L), e)
	}
}

// P14.4

func TestTick(t *testing.T) {
	for _, c := range []struct {
		t    api.Table
		want api.Table
		gone int
	}{
		{api.Table{}, api.Table{}, 0},
		{of(9, 5), of(9, 5), 0},
		{some(), of(9, 5, entry(1, 4, 7, 1), entry(2, 2, 3, 3), entry(3, 0, 3, 2)), 2},
		{of(9, 1, entry(1, 2, 0, 0)), of(9, 1), 1},
		{of(9, 2, entry(1, 2, 0, 0)), of(9, 2, entry(1, 2, 0, 1)), 0},
		{of(9, 2, entry(1, 2, 0, 1)), of(9, 2), 1},
		{of(9, 1<<20, entry(1, 2, 0, 1<<20-2)), of(9, 1<<20, entry(1, 2, 0, 1<<20-1)), 0},
		{of(9, 1<<20, entry(1, 2, 0, 1<<20-1)), of(9, 1<<20), 1},
		// those that aren't sound
		{of(9, 3, entry(1, 2, 0, 3), entry(1, 3, 0, 4), entry(1, 4, 0, 1000)), of(9, 3), 3},
		{of(9, 3, entry(1, 2, 0, 2), entry(1, 2, 9, 1), entry(0, group, -1, 0)), of(9, 3, entry(1, 2, 9, 2), entry(0, group, -1, 1)), 1},
		{of(9, 0, entry(1, 2, 0, -1), entry(1, 3, 0, -2)), of(9, 0, entry(1, 3, 0, -1)), 1},
		{of(0, -4, entry(1, 2, 0, 0), entry(1, 3, 0, -6)), of(0, -4, entry(1, 3, 0, -5)), 1},
		{of(-1, 3, entry(1, 2, 0, 1)), of(-1, 3, entry(1, 2, 0, 2)), 0},
	} {
		if got, gone := table.Tick(c.t); !alike(got, c.want) || gone != c.gone {
			t.Errorf("Tick(%s): %s, %d, want %s, %d", told(c.t), told(got), gone, told(c.want), c.gone)
		}
	}
}

func TestTickOfAgesAtTheEnds(t *testing.T) {
	for _, long := range []int{math.MinInt, math.MinInt + 1, 0, 5, math.MaxInt - 1, math.MaxInt} {
		old := of(9, long, entry(1, 1, 0, math.MaxInt), entry(1, 2, 0, math.MinInt))
		got, gone := table.Tick(old)
		want := of(9, long, entry(1, 2, 0, math.MinInt+1))
		if long <= math.MinInt+1 {
			want = of(9, long)
		}
		if !alike(got, want) || gone != 2-len(want.L) {
			t.Errorf("Tick(%s): %s, %d, want %s", told(old), told(got), gone, told(want))
		}
	}
}

func TestTickOfDrawnTables(t *testing.T) {
	r := rand.New(rand.NewSource(2))
	for i := range 20000 {
		old := drawnTable(r)
		if i%2 == 1 {
			old = anyTable(r)
		}
		l := slices.Clone(old.L)
		for i := range l {
			l[i].Age++
		}
		l, wantGone := without(l, func(e api.Entry) bool { return e.Age >= old.Long })
		want := of(old.Most, old.Long, l...)
		if got, gone := table.Tick(old); !alike(got, want) || gone != wantGone {
			t.Fatalf("Tick(%s): %s, %d, want %s, %d", told(old), told(got), gone, told(want), wantGone)
		}
	}
}

func TestAnEntryLastsLongTicks(t *testing.T) {
	for _, long := range []int{1, 2, 3, 30, 1000} {
		x, _ := table.New(1, long)
		x, _ = table.Learn(x, 1, 2, 3)
		for i := range long - 1 {
			var gone int
			x, gone = table.Tick(x)
			if old, ok := table.Find(x, 1, 2); !ok || gone != 0 || old.Age != i+1 {
				t.Fatalf("long %d: behind %d ticks %s, %t, %d", long, i+1, told(old), ok, gone)
			}
		}
		if x, gone := table.Tick(x); gone != 1 || len(x.L) != 0 {
			t.Errorf("long %d: behind all ticks %s, %d", long, told(x), gone)
		}
	}
}

// P14.5

func TestFlush(t *testing.T) {
	strange := of(9, 5, entry(1, 1, 8, 0), entry(0, 2, -1, 9), entry(1, 1, 3, 0), entry(9, group, 3, -7), entry(1, 3, 0, 0))
	for _, c := range []struct {
		t    api.Table
		set  int
		want []api.Entry
		gone int
	}{
		{some(), 0, some().L, 0},
		{some(), 1, some().L[1:], 1},
		{some(), 1 << 7, []api.Entry{entry(1, 2, 0, 4), entry(2, 2, 3, 2), entry(3, 0, 3, 1)}, 2},
		{some(), 1 << 3, []api.Entry{entry(1, 2, 0, 4), entry(1, 4, 7, 0), entry(2, 6, 7, 4)}, 2},
		{some(), 1<<3 | 1, []api.Entry{entry(1, 4, 7, 0), entry(2, 6, 7, 4)}, 3},
		{some(), 0b01110110, some().L, 0},
		{some(), 255, nil, 5},
		{some(), -1, nil, 5},
		{some(), math.MaxInt, nil, 5},
		{some(), math.MinInt, some().L, 0},
		{some(), 1 << 8, some().L, 0},
		{some(), 1<<8 | 1, some().L[1:], 1},
		{api.Table{}, 255, nil, 0},
		{strange, -1, strange.L[:2], 3},
		{strange, 1 << 8, strange.L, 0},
		{strange, 1 << 3, []api.Entry{strange.L[0], strange.L[1], strange.L[4]}, 2},
	} {
		want := of(c.t.Most, c.t.Long, c.want...)
		if got, gone := table.Flush(c.t, c.set); !alike(got, want) || gone != c.gone {
			t.Errorf("Flush(%s, %d): %s, %d, want %s, %d", told(c.t), c.set, told(got), gone, told(want), c.gone)
		}
	}
}

func TestFlushOfDrawnTables(t *testing.T) {
	r := rand.New(rand.NewSource(3))
	for i := range 20000 {
		old, set := drawnTable(r), r.Intn(256)
		if i%2 == 1 {
			old, set = anyTable(r), r.Intn(1024)
		}
		l, wantGone := without(old.L, func(e api.Entry) bool { return e.Port >= 0 && e.Port < 8 && set/(1<<e.Port)%2 == 1 })
		want := of(old.Most, old.Long, l...)
		if got, gone := table.Flush(old, set); !alike(got, want) || gone != wantGone {
			t.Fatalf("Flush(%s, %d): %s, %d, want %s, %d", told(old), set, told(got), gone, told(want), wantGone)
		}
	}
}

func TestForget(t *testing.T) {
	strange := of(9, 5, entry(1, 1, 8, 0), entry(0, 2, -1, 9), entry(1, 1, 3, 0), entry(0, group, 3, -7), entry(1, 1, 3, 1))
	for _, c := range []struct {
		t         api.Table
		port, vid int
		want      []api.Entry
		gone      int
	}{
		{some(), 0, 0, some().L[1:], 1},
		{some(), 0, 1, some().L[1:], 1},
		{some(), 0, 2, some().L, 0},
		{some(), 7, 0, []api.Entry{entry(1, 2, 0, 4), entry(2, 2, 3, 2), entry(3, 0, 3, 1)}, 2},
		{some(), 7, 1, []api.Entry{entry(1, 2, 0, 4), entry(2, 2, 3, 2), entry(2, 6, 7, 4), entry(3, 0, 3, 1)}, 1},
		{some(), 7, 2, []api.Entry{entry(1, 2, 0, 4), entry(1, 4, 7, 0), entry(2, 2, 3, 2), entry(3, 0, 3, 1)}, 1},
		{some(), 7, 3, some().L, 0},
		{some(), 3, 3, some().L[:4], 1},
		{some(), 1, 0, some().L, 0},
		{some(), 8, 0, some().L, 0},
		{some(), -1, 0, some().L, 0},
		{some(), 7, -1, some().L, 0},
		{some(), 7, 4095, some().L, 0},
		{some(), math.MaxInt, math.MinInt, some().L, 0},
		{some(), math.MinInt, 0, some().L, 0},
		{api.Table{}, 0, 0, nil, 0},
		{strange, 8, 0, strange.L[1:], 1},
		{strange, -1, 0, append([]api.Entry{strange.L[0]}, strange.L[2:]...), 1},
		{strange, 3, 0, strange.L[:2], 3},
		{strange, 3, 1, []api.Entry{strange.L[0], strange.L[1], strange.L[3]}, 2},
	} {
		want := of(c.t.Most, c.t.Long, c.want...)
		if got, gone := table.Forget(c.t, c.port, c.vid); !alike(got, want) || gone != c.gone {
			t.Errorf("Forget(%s, %d, %d): %s, %d, want %s, %d", told(c.t), c.port, c.vid, told(got), gone, told(want), c.gone)
		}
	}
}

func TestForgetOfDrawnTables(t *testing.T) {
	r := rand.New(rand.NewSource(4))
	for i := range 20000 {
		old, port, vid := drawnTable(r), r.Intn(8), []int{0, 1, 2, 10, 4094}[r.Intn(5)]
		if i%2 == 1 {
			old, port, vid = anyTable(r), r.Intn(11)-1, r.Intn(4)-1
		}
		l, wantGone := without(old.L, func(e api.Entry) bool { return e.Port == port && (vid == 0 || vid == e.Vid) })
		want := of(old.Most, old.Long, l...)
		if got, gone := table.Forget(old, port, vid); !alike(got, want) || gone != wantGone {
			t.Fatalf("Forget(%s, %d, %d): %s, %d, want %s, %d", told(old), port, vid, told(got), gone, told(want), wantGone)
		}
	}
}

// P14.6

func TestSame(t *testing.T) {
	for _, c := range []struct {
		a, b api.Table
		want bool
	}{
		{api.Table{}, api.Table{}, true},
		{api.Table{}, api.Table{L: []api.Entry{}}, true},
		{api.Table{}, api.Table{L: []api.Entry{{}}}, false},
		{some(), some(), true},
		{some(), of(9, 5, some().L[:4]...), false},
		{some(), of(9, 5, some().L[1:]...), false},
		{some(), of(8, 5, some().L...), false},
		{some(), of(9, 4, some().L...), false},
		{of(5, 9), of(9, 5), false},
		{of(9, 5, entry(1, 2, 3, 4)), of(9, 5, entry(1, 2, 3, 4)), true},
		{of(9, 5, entry(1, 2, 3, 4)), of(9, 5, entry(2, 2, 3, 4)), false},
		{of(9, 5, entry(1, 2, 3, 4)), of(9, 5, entry(1, 3, 3, 4)), false},
		{of(9, 5, entry(1, 2, 3, 4)), of(9, 5, entry(1, 2, 4, 4)), false},
		{of(9, 5, entry(1, 2, 3, 4)), of(9, 5, entry(1, 2, 3, 3)), false},
		{of(9, 5, entry(1, 2, 3, 4), entry(1, 3, 3, 4)), of(9, 5, entry(1, 3, 3, 4), entry(1, 2, 3, 4)), false},
		{of(9, 5, entry(1, 2, 3, 4), entry(1, 3, 3, 4)), of(9, 5, entry(1, 2, 3, 4), entry(1, 3, 3, 3)), false},
		{of(-1, 0, entry(-1, math.MaxUint64, 9, -4)), of(-1, 0, entry(-1, math.MaxUint64, 9, -4)), true},
		{of(-1, 0, entry(-1, wide, 9, -4)), of(-1, 0, entry(-1, 0, 9, -4)), false},
	} {
		if table.Same(c.a, c.b) != c.want || table.Same(c.b, c.a) != c.want {
			t.Errorf("Same(%s, %s): %t, want %t", told(c.a), told(c.b), !c.want, c.want)
		}
	}
}

func TestSameOfDrawnTables(t *testing.T) {
	r := rand.New(rand.NewSource(5))
	for range 20000 {
		a, b := anyTable(r), anyTable(r)
		if r.Intn(2) == 0 {
			b = of(a.Most, a.Long, slices.Clone(a.L)...)
			if len(b.L) > 0 && r.Intn(2) == 0 {
				b.L[r.Intn(len(b.L))].Age += r.Intn(2)
			}
		}
		if table.Same(a, b) != alike(a, b) {
			t.Fatalf("Same(%s, %s): %t", told(a), told(b), table.Same(a, b))
		}
	}
}

// P14.7

func TestSound(t *testing.T) {
	for _, c := range []struct {
		name string
		t    api.Table
		want bool
	}{
		{"empty", api.Table{}, true},
		{"new", of(9, 5), true},
		{"some", some(), true},
		{"just as many as Most", of(5, 5, some().L...), true},
		{"one more than Most", of(4, 5, some().L...), false},
		{"one, and none may be", of(0, 5, entry(1, 2, 0, 0)), false},
		{"none, and Most below 0", of(-1, 5), false},
		{"one, and Most at the end of int", of(math.MaxInt, 5, entry(1, 2, 0, 0)), true},
		{"the ends", of(9, 5, entry(1, 0, 0, 0), entry(4094, top, 7, 4)), true},
		{"an entry twice", of(9, 5, entry(1, 2, 0, 0), entry(1, 2, 0, 0)), false},
		{"an address at two ports", of(9, 5, entry(1, 2, 0, 0), entry(1, 2, 1, 0)), false},
		{"an address in two VLANs", of(9, 5, entry(1, 2, 0, 0), entry(2, 2, 1, 0)), true},
		{"addresses fall", of(9, 5, entry(1, 3, 0, 0), entry(1, 2, 0, 0)), false},
		{"VLANs fall", of(9, 5, entry(2, 2, 0, 0), entry(1, 3, 0, 0)), false},
		{"addresses fall, VLANs rise", of(9, 5, entry(1, 3, 0, 0), entry(2, 2, 0, 0)), true},
		{"the last two fall", of(9, 5, entry(1, 2, 0, 0), entry(1, 4, 0, 0), entry(1, 3, 0, 0)), false},
		{"an address that is high", of(9, 5, entry(1, top-2, 0, 0), entry(1, top-1, 0, 0), entry(2, 0, 0, 0)), true},
		{"a VLAN 0", of(9, 5, entry(0, 2, 0, 0)), false},
		{"a VLAN below 0", of(9, 5, entry(-1, 2, 0, 0)), false},
		{"a VLAN 4095", of(9, 5, entry(4095, 2, 0, 0)), false},
		{"a VLAN at the end of int", of(9, 5, entry(math.MaxInt, 2, 0, 0)), false},
		{"a group", of(9, 5, entry(1, group, 0, 0)), false},
		{"all addresses", of(9, 5, entry(1, wide-1, 0, 0)), false},
		{"a port -1", of(9, 5, entry(1, 2, -1, 0)), false},
		{"a port 8", of(9, 5, entry(1, 2, 8, 0)), false},
		{"a port at the end of int", of(9, 5, entry(1, 2, math.MinInt, 0)), false},
		{"an age below 0", of(9, 5, entry(1, 2, 0, -1)), false},
		{"an age of Long", of(9, 5, entry(1, 2, 0, 5)), false},
		{"an age above Long", of(9, 5, entry(1, 2, 0, 6)), false},
		{"the age just ahead of Long", of(9, 5, entry(1, 2, 0, 4)), true},
		{"Long 0", of(9, 0, entry(1, 2, 0, 0)), false},
		{"Long below 0", of(9, -3, entry(1, 2, 0, -4)), false},
		{"a fault in the last one alone", of(9, 5, entry(1, 2, 0, 0), entry(1, 3, 0, 5)), false},
		{"a fault in the first one alone", of(9, 5, entry(1, 2, 8, 0), entry(1, 3, 0, 0)), false},
	} {
		if got := table.Sound(c.t); got != c.want {
			t.Errorf("%s: %t, want %t", c.name, got, c.want)
		}
	}
}

// sound is Sound, told anew, each part by itself.
func sound(t api.Table) bool {
	ok := len(t.L) <= t.Most
	for i, a := range t.L {
		ok = ok && a.Vid >= 1 && a.Vid <= 4094 && a.Port >= 0 && a.Port <= 7 && a.Age >= 0 && a.Age < t.Long && a.Mac&group == 0
		for _, b := range t.L[i+1:] {
			ok = ok && (a.Vid < b.Vid || a.Vid == b.Vid && a.Mac < b.Mac)
		}
	}
	return ok
}

func TestSoundOfDrawnTables(t *testing.T) {
	r := rand.New(rand.NewSource(6))
	good := 0
	for i := range 40000 {
		x := anyTable(r)
		if i%2 == 1 {
			x = drawnTable(r)
			if len(x.L) > 1 && r.Intn(2) == 0 {
				a, b := r.Intn(len(x.L)), r.Intn(len(x.L))
				x.L[a], x.L[b] = x.L[b], x.L[a]
			}
		}
		if table.Sound(x) != sound(x) {
			t.Fatalf("Sound(%s): %t", told(x), table.Sound(x))
		}
		if sound(x) {
			good++
		}
	}
	if good < 5000 || good > 35000 {
		t.Errorf("%d of 40000 are sound", good)
	}
}

// P14.8

func TestAt(t *testing.T) {
	strange := of(9, 5, entry(1, 1, 8, 0), entry(0, 2, -1, 9), entry(1, 1, 3, 0), entry(0, group, 3, -7), entry(1, 1, 3, 1))
	for _, c := range []struct {
		t          api.Table
		port, want int
	}{
		{some(), 0, 1}, {some(), 3, 2}, {some(), 7, 2}, {some(), 1, 0}, {some(), 2, 0}, {some(), 6, 0},
		{some(), -1, 0}, {some(), 8, 0}, {some(), math.MaxInt, 0}, {some(), math.MinInt, 0},
		{api.Table{}, 0, 0}, {of(9, 5), 7, 0}, {strange, 3, 3}, {strange, 8, 1}, {strange, -1, 1}, {strange, 0, 0},
	} {
		if got := table.At(c.t, c.port); got != c.want {
			t.Errorf("At(%s, %d): %d, want %d", told(c.t), c.port, got, c.want)
		}
	}
}

// P14.9

func TestOldest(t *testing.T) {
	for _, c := range []struct {
		t    api.Table
		want api.Entry
		ok   bool
	}{
		{api.Table{}, api.Entry{}, false},
		{of(9, 5), api.Entry{}, false},
		{some(), entry(1, 2, 0, 4), true},
		{of(9, 5, some().L[1:]...), entry(2, 6, 7, 4), true},
		{of(9, 5, some().L[1:3]...), entry(2, 2, 3, 2), true},
		{of(9, 5, entry(1, 2, 3, 0)), entry(1, 2, 3, 0), true},
		{of(9, 5, entry(1, 2, 3, 0), entry(1, 3, 4, 0)), entry(1, 2, 3, 0), true},
		{of(9, 5, entry(1, 2, 3, 1), entry(1, 3, 4, 3), entry(1, 4, 5, 3), entry(1, 5, 6, 2)), entry(1, 3, 4, 3), true},
		{of(9, 5, entry(1, 2, 3, 1), entry(1, 3, 4, 2), entry(1, 4, 5, 3)), entry(1, 4, 5, 3), true},
		{of(9, 5, entry(1, 2, 3, -3), entry(1, 3, 4, -2), entry(1, 4, 5, -2)), entry(1, 3, 4, -2), true},
		{of(9, 5, entry(1, 2, 3, math.MinInt), entry(1, 3, 4, math.MaxInt)), entry(1, 3, 4, math.MaxInt), true},
		{of(9, 5, entry(1, 2, 3, math.MinInt)), entry(1, 2, 3, math.MinInt), true},
	} {
		if got, ok := table.Oldest(c.t); got != c.want || ok != c.ok {
			t.Errorf("Oldest(%s): %s, %t, want %s, %t", told(c.t), told(got), ok, told(c.want), c.ok)
		}
	}
}

// P14.10

func TestUsed(t *testing.T) {
	for _, c := range []struct {
		t    api.Table
		want int
	}{
		{api.Table{}, 0}, {of(9, 5), 0}, {some(), 1<<0 | 1<<3 | 1<<7}, {of(9, 5, some().L[1:]...), 1<<3 | 1<<7}, {of(9, 5, entry(1, 2, 0, 0)), 1},
		{of(9, 5, entry(1, 2, 8, 0), entry(1, 3, -1, 0), entry(1, 4, 2, 0), entry(1, 5, math.MaxInt, 0), entry(1, 6, math.MinInt, 0), entry(1, 7, 64, 0)), 1 << 2},
	} {
		if got := table.Used(c.t); got != c.want {
			t.Errorf("Used(%s): %d, want %d", told(c.t), got, c.want)
		}
	}
}

// P14.11

func TestText(t *testing.T) {
	for _, c := range []struct {
		t    api.Table
		want string
	}{
		{api.Table{}, ""},
		{of(9, 5), ""},
		{some(), "1 00:00:00:00:00:02 0\n1 00:00:00:00:00:04 7\n2 00:00:00:00:00:02 3\n2 00:00:00:00:00:06 7\n3 00:00:00:00:00:00 3\n"},
		{of(9, 5, entry(4094, 0x0200_00ab_cdef, 7, 0)), "4094 02:00:00:ab:cd:ef 7\n"},
		{of(9, 5, entry(0, wide-1, 10, 0)), "0 ff:ff:ff:ff:ff:ff 10\n"},
		{of(9, 5, entry(-1, 0, 0, 0)), "- 00:00:00:00:00:00 0\n"},
		{of(9, 5, entry(1, 0, -1, 0)), "1 00:00:00:00:00:00 -\n"},
		{of(9, 5, entry(math.MinInt, wide+1, -4095, 0), entry(math.MaxInt, 0, 0, 0)), "- 00:00:00:00:00:01 -\n9223372036854775807 00:00:00:00:00:00 0\n"},
		{of(9, 5, entry(2, 1, 1, 0), entry(1, 1, 1, 0), entry(1, 1, 1, 9)), "2 00:00:00:00:00:01 1\n1 00:00:00:00:00:01 1\n1 00:00:00:00:00:01 1\n"},
	} {
		if got := table.Text(c.t); got != c.want {
			t.Errorf("Text(%s): %q, want %q", told(c.t), got, c.want)
		}
	}
}

func TestTextOfDrawnTables(t *testing.T) {
	r := rand.New(rand.NewSource(7))
	for range 5000 {
		x := drawnTable(r)
		want := ""
		for _, e := range x.L {
			digits := fmt.Sprintf("%012x", uint64(e.Mac))
			want += fmt.Sprintf("%d %s:%s:%s:%s:%s:%s %d\n", e.Vid, digits[:2], digits[2:4], digits[4:6], digits[6:8], digits[8:10], digits[10:], e.Port)
		}
		if got := table.Text(x); got != want {
			t.Fatalf("Text(%s): %q, want %q", told(x), got, want)
		}
	}
}

func TestTextOfALongTable(t *testing.T) {
	const line = "1 00:00:00:00:00:02 3\n"
	x := of(9, 5, slices.Repeat([]api.Entry{entry(1, 2, 3, 4)}, 200000)...)
	if got := table.Text(x); got != strings.Repeat(line, 200000) {
		t.Errorf("Text of 200000 entries: %d bytes", len(got))
	}
}

// P14.13

func TestEntriesAtAllPortsAreAll(t *testing.T) {
	r := rand.New(rand.NewSource(8))
	for range 20000 {
		x := drawnTable(r)
		sum, used := 0, table.Used(x)
		for port := range 8 {
			n := table.At(x, port)
			sum += n
			if (n > 0) != (used/(1<<port)%2 == 1) {
				t.Fatalf("Used, At(%s, %d): %d, %d", told(x), port, used, n)
			}
		}
		if sum != len(x.L) || used < 0 || used > 255 {
			t.Fatalf("At of all ports of %s: %d together, Used %d", told(x), sum, used)
		}
	}
}

// P14.12

func TestAWalkStaysSound(t *testing.T) {
	r := rand.New(rand.NewSource(9))
	for range 300 {
		x, e := table.New(r.Intn(12), 1+r.Intn(10))
		if e != api.OK || !table.Sound(x) {
			t.Fatalf("New: %s, %d", told(x), e)
		}
		for range 100 {
			x = step(t, r, x)
			if !table.Sound(x) {
				t.Fatalf("not sound: %s", told(x))
			}
		}
	}
}

// step answers what one drawn call makes of x, and holds the call to what follows from it.
func step(t *testing.T, r *rand.Rand, x api.Table) api.Table {
	t.Helper()
	vid, m, port := drawnVid(r), drawnMac(r), r.Intn(10)-1
	switch r.Intn(8) {
	case 0:
		y, _ := table.Tick(x)
		return y
	case 1:
		set := 1 << r.Intn(8)
		y, _ := table.Flush(x, set)
		if table.Used(y)&set != 0 || table.Used(y)|set != table.Used(x)|set {
			t.Fatalf("Flush(%s, %d): %s", told(x), set, told(y))
		}
		return y
	case 2:
		y, _ := table.Forget(x, port, vid*r.Intn(2))
		return y
	}
	y, e := table.Learn(x, vid, m, port)
	got, ok := table.Find(y, vid, m)
	if e == api.OK && (!ok || got != entry(vid, m, port, 0)) || e != api.OK && !alike(x, y) {
		t.Fatalf("Learn(%s, %d, %d, %d): %s, %d", told(x), vid, m, port, told(y), e)
	}
	return y
}

func TestWhatWasFlushedIsNotFound(t *testing.T) {
	r := rand.New(rand.NewSource(10))
	for range 5000 {
		x, set := drawnTable(r), r.Intn(256)
		y, _ := table.Flush(x, set)
		for _, e := range x.L {
			found, ok := table.Find(y, e.Vid, e.Mac)
			flushed := set/(1<<e.Port)%2 == 1
			if ok == flushed || ok && found != e {
				t.Fatalf("Find of %s behind Flush(%s, %d): %s, %t", told(e), told(x), set, told(found), ok)
			}
		}
	}
}

// R3

// spare answers t with room behind its list, in which what stands is not to be changed, and that whole room.
func spare(t api.Table) (api.Table, []api.Entry) {
	room := append(slices.Clone(t.L), entry(7, 7, 7, 7), entry(8, 8, 8, 8), entry(9, 9, 9, 9))
	t.L = room[:len(t.L)]
	return t, room
}

func TestTablesAreNotChanged(t *testing.T) {
	calls := map[string]func(x api.Table) api.Table{
		"Learn ahead":    func(x api.Table) api.Table { y, _ := table.Learn(x, 1, 1, 0); return y },
		"Learn between":  func(x api.Table) api.Table { y, _ := table.Learn(x, 2, 3, 0); return y },
		"Learn behind":   func(x api.Table) api.Table { y, _ := table.Learn(x, 4, 1, 0); return y },
		"Learn again":    func(x api.Table) api.Table { y, _ := table.Learn(x, 2, 2, 6); return y },
		"Tick":           func(x api.Table) api.Table { y, _ := table.Tick(x); return y },
		"Flush":          func(x api.Table) api.Table { y, _ := table.Flush(x, 1); return y },
		"Flush of none":  func(x api.Table) api.Table { y, _ := table.Flush(x, 0); return y },
		"Forget":         func(x api.Table) api.Table { y, _ := table.Forget(x, 7, 1); return y },
		"Forget of none": func(x api.Table) api.Table { y, _ := table.Forget(x, 6, 0); return y },
	}
	for name, call := range calls {
		x, room := spare(some())
		was := slices.Clone(room)
		y := call(x)
		if !slices.Equal(room, was) || !alike(x, some()) {
			t.Errorf("%s: what was handed in is %s", name, told(room))
		}
		for i := range y.L {
			y.L[i] = entry(5, 5, 5, 5)
		}
		_ = append(y.L, entry(6, 6, 6, 6))
		if !slices.Equal(room, was) {
			t.Errorf("%s: the answer shares memory with what was handed in, which is %s", name, told(room))
		}
	}
}

func TestOthersAreNotChanged(t *testing.T) {
	x, room := spare(some())
	was := slices.Clone(room)
	table.Find(x, 1, 4)
	table.Same(x, x)
	table.Sound(x)
	table.At(x, 7)
	table.Oldest(x)
	table.Used(x)
	table.Text(x)
	table.Learn(x, 0, 1, 0)
	table.Learn(of(5, 5, x.L...), 4, 1, 0)
	if !slices.Equal(room, was) {
		t.Errorf("what was handed in is %s", told(room))
	}
}

func FuzzTable(f *testing.F) {
	f.Add([]byte("\x01\x02\x03\x04"), 9, 5, 1, uint64(2), 3)
	f.Add([]byte("\x01\x02\x03\x04\x01\x02\x04\x01"), 1, 1, 4095, uint64(group), 8)
	f.Add([]byte(""), math.MinInt, math.MaxInt, 0, uint64(math.MaxUint64), -1)
	f.Fuzz(func(t *testing.T, b []byte, most, long, vid int, m uint64, port int) {
		x := api.Table{Most: most, Long: long}
		for ; len(b) >= 4; b = b[4:] {
			x.L = append(x.L, entry(int(b[0]), api.Mac(b[1])<<(b[0]%64), int(int8(b[2])), int(int8(b[3]))))
		}
		if table.Sound(x) != sound(x) || !table.Same(x, x) {
			t.Fatalf("Sound, Same(%s): %t", told(x), table.Sound(x))
		}
		y, e := table.Learn(x, vid, api.Mac(m), port)
		if sound(x) && long > 0 && !sound(y) || e != api.OK && !alike(x, y) {
			t.Fatalf("Learn(%s, %d, %d, %d): %s, %d", told(x), vid, m, port, told(y), e)
		}
		if got, ok := table.Find(y, vid, api.Mac(m)); e == api.OK && (!ok || got != entry(vid, api.Mac(m), port, 0)) {
			t.Fatalf("Find of what Learn(%s, %d, %d, %d) learnt: %s, %t", told(x), vid, m, port, told(got), ok)
		}
		for _, c := range []func() (api.Table, int){
			func() (api.Table, int) { return table.Tick(x) },
			func() (api.Table, int) { return table.Flush(x, vid) },
			func() (api.Table, int) { return table.Forget(x, port, vid) },
		} {
			y, gone := c()
			if len(x.L)-len(y.L) != gone || y.Most != most || y.Long != long || sound(x) && !sound(y) {
				t.Fatalf("a call of %s: %s, %d", told(x), told(y), gone)
			}
		}
		if n := strings.Count(table.Text(x), "\n"); n != len(x.L) {
			t.Fatalf("Text(%s): %d lines", told(x), n)
		}
		if old, ok := table.Oldest(x); ok != (len(x.L) > 0) || ok && !slices.Contains(x.L, old) {
			t.Fatalf("Oldest(%s): %s, %t", told(x), told(old), ok)
		}
	})
}
