package levels_test

import (
	"math"
	"slices"
	"testing"

	"spigot/api"
	"spigot/bucket"
	"spigot/levels"
)

const (
	maxTick = 1<<64 - 1
	billion = 1000000000
)

var (
	slowest = api.Limit{Burst: billion, Rate: 1, Per: billion}
	fastest = api.Limit{Burst: billion, Rate: billion, Per: 1}
	still   = api.Limit{Burst: 10, Rate: 0, Per: 2}
)

// numbers gives numbers that are mixed, the same ones in each test.
type numbers struct{ x uint64 }

func mixed() *numbers { return &numbers{x: 88172645463325252} }

func (m *numbers) below(n int64) int64 {
	m.x ^= m.x << 13
	m.x ^= m.x >> 7
	m.x ^= m.x << 17
	return int64(m.x % uint64(n))
}

func pick[E any](m *numbers, l []E) E { return l[m.below(int64(len(l)))] }

// someLimit gives limits with small numbers, and some at the ends of what is valid.
func someLimit(m *numbers) api.Limit {
	switch m.below(8) {
	case 0:
		return pick(m, []api.Limit{slowest, fastest, still})
	case 1:
		return api.Limit{Burst: 1, Rate: m.below(billion + 1), Per: 1 + m.below(billion)}
	default:
		return api.Limit{Burst: 1 + m.below(9), Rate: m.below(5), Per: 1 + m.below(5)}
	}
}

func someBucket(m *numbers, at uint64) api.Bucket {
	b := api.Bucket{Limit: someLimit(m), At: at}
	b.Level = m.below(b.Limit.Burst + 1)
	if b.Level < b.Limit.Burst {
		b.Part = m.below(b.Limit.Per)
	}
	return b
}

func firstTicks() []uint64 { return []uint64{0, 3, 1 << 63, maxTick - 4, maxTick} }

// alike gives n rows of 0 to 8 buckets, of which those in one row have the same At.
func alike(m *numbers, n int) [][]api.Bucket {
	var all [][]api.Bucket
	for i := range n {
		at := pick(m, firstTicks())
		var l []api.Bucket
		for range i % 9 {
			l = append(l, someBucket(m, at))
		}
		all = append(all, l)
	}
	return all
}

// rows gives n rows of 0 to 8 buckets, whose At differ in every other row.
func rows(m *numbers, n int) [][]api.Bucket {
	all := alike(m, n)
	for i, l := range all {
		for j := range l {
			if i%2 > 0 {
				l[j].At = later(l[j].At, uint64(m.below(6)))
			}
		}
	}
	return all
}

// later is the tick n after t, or the greatest one.
func later(t, n uint64) uint64 { return t + min(n, maxTick-t) }

func someCost(m *numbers) int64 {
	if m.below(12) == 0 {
		return pick(m, []int64{billion - 1, billion, billion + 1, math.MaxInt64})
	}
	return m.below(8)
}

func full(burst, rate, per int64) api.Bucket {
	return api.Bucket{Limit: api.Limit{Burst: burst, Rate: rate, Per: per}, Level: burst}
}

// example is the row of the chapter's examples.
func example() []api.Bucket { return []api.Bucket{full(5, 1, 1), full(8, 1, 4)} }

// of gives a bucket with other contents.
func of(b api.Bucket, level, part int64, at uint64) api.Bucket {
	return api.Bucket{Limit: b.Limit, Level: level, Part: part, At: at}
}

func fullRow(n int) []api.Bucket { return slices.Repeat([]api.Bucket{full(5, 1, 1)}, n) }

func badBuckets() []api.Bucket {
	return []api.Bucket{
		{},
		{Limit: api.Limit{Burst: 0, Rate: 1, Per: 1}},
		{Limit: api.Limit{Burst: billion + 1, Rate: 1, Per: 1}, Level: 9},
		{Limit: api.Limit{Burst: 5, Rate: -1, Per: 1}, Level: 5},
		{Limit: api.Limit{Burst: 5, Rate: 1, Per: 0}, Level: 5},
		{Limit: still, Level: -1},
		{Limit: still, Level: 11},
		{Limit: still, Level: 5, Part: 2},
		{Limit: still, Level: 5, Part: -1},
		{Limit: still, Level: 10, Part: 1},
	}
}

type badRow struct {
	l []api.Bucket
	e api.Errno
}

// badRows gives rows with one bad bucket in each place, rows with two, and rows with too many buckets.
func badRows() []badRow {
	var all []badRow
	for _, b := range badBuckets() {
		for n := range 8 {
			for i := range n + 1 {
				all = append(all, badRow{slices.Insert(fullRow(n), i, b), api.ErrBad})
			}
		}
		all = append(all, badRow{[]api.Bucket{b, full(5, 1, 1), b}, api.ErrBad})
		for _, n := range []int{8, 9, 300} {
			all = append(all, badRow{append(fullRow(n), b), api.ErrMany})
			all = append(all, badRow{append([]api.Bucket{b}, fullRow(n)...), api.ErrMany})
		}
	}
	for _, n := range []int{9, 10, 256, 264, 1000} {
		all = append(all, badRow{fullRow(n), api.ErrMany})
	}
	return all
}

func badCosts() []int64 { return []int64{-1, -2, -billion, math.MinInt64} }

// ticksAndCosts gives n entries of a run: ticks 0, 1, 2, ... with costs 0, 1, 2, 0, ...
func ticksAndCosts(n int) ([]uint64, []int64) {
	var ticks []uint64
	var costs []int64
	for i := range n {
		ticks, costs = append(ticks, uint64(i)), append(costs, int64(i%3))
	}
	return ticks, costs
}

func refilled(t *testing.T, l []api.Bucket, at uint64) []api.Bucket {
	t.Helper()
	var row []api.Bucket
	for _, b := range l {
		r, e := bucket.Refill(b, at)
		if e != api.OK {
			t.Fatalf("bucket.Refill(%v, %d) = %d", b, at, e)
		}
		row = append(row, r)
	}
	return row
}

// lowest is the least Level of a row, and more than any cost in one without buckets.
func lowest(l []api.Bucket) uint64 {
	least := uint64(math.MaxUint64)
	for _, b := range l {
		least = min(least, uint64(b.Level))
	}
	return least
}

// taken follows the definition: all buckets have the cost less, or none has.
func taken(t *testing.T, l []api.Bucket, at uint64, cost int64) ([]api.Bucket, bool) {
	t.Helper()
	row := refilled(t, l, at)
	if lowest(row) < uint64(cost) {
		return row, false
	}
	for i := range row {
		row[i].Level -= cost
	}
	return row, true
}

func take(t *testing.T, l []api.Bucket, at uint64, cost int64) ([]api.Bucket, bool) {
	t.Helper()
	row, admitted, e := levels.Take(l, at, cost)
	if e != api.OK {
		t.Fatalf("Take(%v, %d, %d) = %d", l, at, cost, e)
	}
	return row, admitted
}

func run(t *testing.T, l []api.Bucket, ticks []uint64, costs []int64) ([]api.Bucket, []bool) {
	t.Helper()
	row, admitted, e := levels.Run(l, ticks, costs)
	if e != api.OK {
		t.Fatalf("Run(%v, %v, %v) = %d", l, ticks, costs, e)
	}
	return row, admitted
}

func wait(t *testing.T, l []api.Bucket, cost int64) uint64 {
	t.Helper()
	n, e := levels.Wait(l, cost)
	if e != api.OK {
		t.Fatalf("Wait(%v, %d) = %d", l, cost, e)
	}
	return n
}

func holds(t *testing.T, l []api.Bucket, cost int64) bool {
	t.Helper()
	h, e := levels.Holds(l, cost)
	if e != api.OK {
		t.Fatalf("Holds(%v, %d) = %d", l, cost, e)
	}
	return h
}

func TestLimitsAreThoseOfTheChapter(t *testing.T) {
	if api.MaxBuckets != 8 || api.MaxRead != 200 {
		t.Fatal(api.MaxBuckets, api.MaxRead)
	}
	if never := uint64(api.Never); never != maxTick {
		t.Fatal(never)
	}
}

func TestP4_1_Check(t *testing.T) {
	for n := range 9 {
		if e := levels.Check(fullRow(n)); e != api.OK {
			t.Errorf("Check of %d buckets = %d", n, e)
		}
	}
	if e := levels.Check([]api.Bucket{}); e != api.OK {
		t.Errorf("Check of an empty row = %d", e)
	}
	for _, l := range rows(mixed(), 500) {
		if e := levels.Check(l); e != api.OK {
			t.Errorf("Check(%v) = %d", l, e)
		}
	}
	for _, bad := range badRows() {
		if e := levels.Check(bad.l); e != bad.e {
			t.Errorf("Check(%v) = %d", bad.l, e)
		}
	}
}

func TestP4_1_Refill(t *testing.T) {
	a, b := full(5, 1, 1), full(8, 1, 4)
	for _, c := range []struct {
		l    []api.Bucket
		t    uint64
		want []api.Bucket
	}{
		{nil, 7, nil},
		{[]api.Bucket{}, maxTick, nil},
		{[]api.Bucket{of(a, 1, 0, 0), of(b, 4, 0, 0)}, 3, []api.Bucket{of(a, 4, 0, 3), of(b, 4, 3, 3)}},
		{[]api.Bucket{of(a, 1, 0, 0), of(b, 4, 0, 0)}, 0, []api.Bucket{of(a, 1, 0, 0), of(b, 4, 0, 0)}},
		// Each bucket is refilled from its own At on; one of them is behind the tick.
		{
			[]api.Bucket{of(a, 1, 0, 2), of(b, 4, 1, 9), of(b, 0, 2, 4)}, 6,
			[]api.Bucket{of(a, 5, 0, 6), of(b, 4, 1, 9), of(b, 1, 0, 6)},
		},
		{[]api.Bucket{of(b, 0, 0, 0), of(a, 5, 0, 0)}, maxTick, []api.Bucket{of(b, 8, 0, maxTick), of(a, 5, 0, maxTick)}},
		{[]api.Bucket{of(a, 0, 0, maxTick)}, maxTick - 1, []api.Bucket{of(a, 0, 0, maxTick)}},
	} {
		if got, e := levels.Refill(c.l, c.t); !slices.Equal(got, c.want) || e != api.OK {
			t.Errorf("Refill(%v, %d) = %v, %d", c.l, c.t, got, e)
		}
	}
}

func TestP4_1_RefillOfManyRows(t *testing.T) {
	m := mixed()
	for _, l := range rows(m, 3000) {
		for _, at := range append(firstTicks(), later(pick(m, firstTicks()), uint64(m.below(9)))) {
			got, e := levels.Refill(l, at)
			if !slices.Equal(got, refilled(t, l, at)) || e != api.OK {
				t.Errorf("Refill(%v, %d) = %v, %d", l, at, got, e)
			}
		}
	}
}

func TestP4_2_Holds(t *testing.T) {
	a, b := full(5, 1, 1), full(8, 1, 4)
	row := []api.Bucket{of(a, 3, 0, 0), of(b, 2, 3, 0), of(a, 4, 0, 7)}
	for _, c := range []struct {
		l    []api.Bucket
		cost int64
		want bool
	}{
		{example(), 0, true},
		{example(), 5, true},
		{example(), 6, false}, // the second one alone holds it
		{example(), 8, false},
		{example(), 9, false},
		{row, 1, true},
		{row, 2, true},
		{row, 3, false}, // a part is no token, and the row is as it was at its ticks
		{row[:1], 3, true},
		{row[:1], 4, false},
		{row[1:], 2, true},
		{row[1:], 3, false},
		{row[2:], 4, true},
		{row, 1 << 32, false},
		{row, math.MaxInt64, false},
		{nil, 0, true},
		{nil, 1, true},
		{nil, math.MaxInt64, true},
		{[]api.Bucket{}, billion, true},
		{fullRow(8), 5, true},
		{fullRow(8), 6, false},
	} {
		if got, e := levels.Holds(c.l, c.cost); got != c.want || e != api.OK {
			t.Errorf("Holds(%v, %d) = %v, %d", c.l, c.cost, got, e)
		}
	}
	for i := range 8 {
		l := fullRow(8)
		l[i].Level = 3
		if !holds(t, l, 3) || holds(t, l, 4) {
			t.Errorf("the bucket %d is not asked", i)
		}
	}
}

func TestP4_2_HoldsOfManyRows(t *testing.T) {
	m := mixed()
	for _, l := range rows(m, 3000) {
		for _, cost := range []int64{0, 1, someCost(m), billion, math.MaxInt64} {
			if got, e := levels.Holds(l, cost); got != (lowest(l) >= uint64(cost)) || e != api.OK {
				t.Errorf("Holds(%v, %d) = %v, %d", l, cost, got, e)
			}
		}
	}
}

func TestP4_2_Wait(t *testing.T) {
	a, b, s := full(5, 1, 1), full(8, 1, 4), api.Bucket{Limit: still}
	low := []api.Bucket{of(a, 0, 0, 3), of(b, 0, 3, 3)} // the chapter's example
	for _, c := range []struct {
		l    []api.Bucket
		cost int64
		want uint64
	}{
		{low, 0, 0},
		{low, 1, 1},
		{low, 2, 5},
		{low[:1], 2, 2},
		{low[1:], 2, 5},
		{low, 5, 17},
		{low, 6, api.Never}, // the first one never holds it
		{low[1:], 6, 21},
		{low, math.MaxInt64, api.Never},
		{[]api.Bucket{s, of(a, 0, 0, 0)}, 0, 0},
		{[]api.Bucket{s, of(a, 0, 0, 0)}, 1, api.Never},
		{[]api.Bucket{of(a, 0, 0, 0), s}, 1, api.Never},
		{[]api.Bucket{of(a, 0, 0, 0), of(s, 1, 0, 0)}, 1, 1},
		// Each wait is from the bucket's own At on.
		{[]api.Bucket{of(a, 0, 0, 90), of(b, 0, 0, 0)}, 1, 4},
		{[]api.Bucket{of(b, 0, 0, 90), of(a, 0, 0, 0)}, 1, 4},
		{[]api.Bucket{of(a, 0, 0, maxTick-1), of(b, 0, 0, 0)}, 1, 4},
		{[]api.Bucket{of(a, 0, 0, maxTick-1), of(b, 0, 0, 0)}, 2, api.Never},
		{[]api.Bucket{of(a, 0, 0, 0), of(b, 0, 0, maxTick)}, 1, api.Never},
		{[]api.Bucket{{Limit: slowest}, {Limit: fastest}}, billion, 1e18}, // the greatest wait
		{[]api.Bucket{{Limit: fastest}, {Limit: slowest}}, billion, 1e18},
		{[]api.Bucket{{Limit: fastest}}, billion, 1},
		{example(), 5, 0},
		{nil, 0, 0},
		{nil, 7, 0},
		{nil, math.MaxInt64, 0},
		{[]api.Bucket{}, 1, 0},
	} {
		if n, e := levels.Wait(c.l, c.cost); n != c.want || e != api.OK {
			t.Errorf("Wait(%v, %d) = %d, %d", c.l, c.cost, n, e)
		}
	}
	for i := range 8 {
		l := fullRow(8)
		l[i] = of(b, 0, 0, 0)
		if n := wait(t, l, 2); n != 8 {
			t.Errorf("with the bucket %d the wait is %d", i, n)
		}
	}
}

func TestP4_2_WaitOfManyRows(t *testing.T) {
	m := mixed()
	for _, l := range rows(m, 3000) {
		for _, cost := range []int64{0, 1, someCost(m), billion} {
			waits := []uint64{0}
			for _, b := range l {
				n, _ := bucket.Wait(b, cost)
				waits = append(waits, n)
			}
			if n, e := levels.Wait(l, cost); n != slices.Max(waits) || e != api.OK {
				t.Errorf("Wait(%v, %d) = %d, %d", l, cost, n, e)
			}
		}
	}
}

func TestP4_3_Take(t *testing.T) {
	a, b := full(5, 1, 1), full(8, 1, 4)
	first := []api.Bucket{of(a, 1, 0, 0), of(b, 4, 0, 0)}
	for _, c := range []struct {
		l    []api.Bucket
		t    uint64
		cost int64
		want []api.Bucket
		is   bool
	}{
		{example(), 0, 4, first, true}, // the chapter's examples
		{first, 3, 4, []api.Bucket{of(a, 0, 0, 3), of(b, 0, 3, 3)}, true},
		{first, 2, 4, []api.Bucket{of(a, 3, 0, 2), of(b, 4, 2, 2)}, false},                  // the first one holds too little
		{first, 9, 5, []api.Bucket{of(a, 0, 0, 9), of(b, 1, 1, 9)}, true},                   // both are refilled before it
		{first, 9, 6, []api.Bucket{of(a, 5, 0, 9), of(b, 6, 1, 9)}, false},                  // more than a Burst
		{first, 0, 2, first, false},                                                         // at once
		{first, 0, 0, first, true},                                                          // nothing at all
		{first, 3, 0, []api.Bucket{of(a, 4, 0, 3), of(b, 4, 3, 3)}, true},                   // nothing, later
		{first, 3, math.MaxInt64, refilled(t, first, 3), false},                             // the greatest cost
		{first, maxTick, 5, []api.Bucket{of(a, 0, 0, maxTick), of(b, 3, 0, maxTick)}, true}, // the greatest tick
		{first, 3, 1<<32 + 1, refilled(t, first, 3), false},                                 // no part of a cost counts
		{[]api.Bucket{of(b, 0, 3, 5)}, 6, 1, []api.Bucket{of(b, 0, 0, 6)}, true},
		// At a tick before At a bucket is as it was, and is charged.
		{[]api.Bucket{of(a, 2, 0, 9), of(b, 2, 3, 0)}, 4, 2, []api.Bucket{of(a, 0, 0, 9), of(b, 1, 3, 4)}, true},
		{[]api.Bucket{of(a, 2, 0, 9), of(b, 2, 3, 0)}, 4, 3, []api.Bucket{of(a, 2, 0, 9), of(b, 3, 3, 4)}, false},
		{nil, 4, 3, nil, true},
		{nil, 0, 0, nil, true},
		{[]api.Bucket{}, maxTick, math.MaxInt64, nil, true},
	} {
		if got, is, e := levels.Take(c.l, c.t, c.cost); !slices.Equal(got, c.want) || is != c.is || e != api.OK {
			t.Errorf("Take(%v, %d, %d) = %v, %v, %d", c.l, c.t, c.cost, got, is, e)
		}
	}
	for i := range 8 {
		l := fullRow(8)
		l[i].Level = 3
		if got, is := take(t, l, 0, 4); is || !slices.Equal(got, l) {
			t.Errorf("the bucket %d holds too little: %v, %v", i, got, is)
		}
	}
}

func TestP4_3_TakeOfManyRows(t *testing.T) {
	m := mixed()
	for _, l := range rows(m, 3000) {
		for range 4 {
			at, cost := later(pick(m, firstTicks()), uint64(m.below(9))), someCost(m)
			want, is := taken(t, l, at, cost)
			if got, admitted, e := levels.Take(l, at, cost); !slices.Equal(got, want) || admitted != is || e != api.OK {
				t.Errorf("Take(%v, %d, %d) = %v, %v, %d", l, at, cost, got, admitted, e)
			}
			if levels.Check(want) != api.OK {
				t.Errorf("%v is no row", want)
			}
		}
	}
}

func TestP4_4_Run(t *testing.T) {
	a, b := full(5, 1, 1), full(8, 1, 4)
	for _, c := range []struct {
		l     []api.Bucket
		ticks []uint64
		costs []int64
		want  []api.Bucket
		is    []bool
	}{
		{example(), []uint64{0, 3}, []int64{4, 4}, []api.Bucket{of(a, 0, 0, 3), of(b, 0, 3, 3)}, []bool{true, true}}, // the chapter's example
		{example(), []uint64{0, 2, 3}, []int64{4, 4, 4}, []api.Bucket{of(a, 0, 0, 3), of(b, 0, 3, 3)}, []bool{true, false, true}},
		{example(), []uint64{0, 0, 0}, []int64{3, 3, 2}, []api.Bucket{of(a, 0, 0, 0), of(b, 3, 0, 0)}, []bool{true, false, true}},
		// A tick that goes back refills nothing.
		{example(), []uint64{6, 2, 5}, []int64{5, 1, 0}, []api.Bucket{of(a, 0, 0, 6), of(b, 3, 0, 6)}, []bool{true, false, true}},
		{example(), []uint64{maxTick, maxTick, 0}, []int64{2, 2, 2}, []api.Bucket{of(a, 1, 0, maxTick), of(b, 4, 0, maxTick)}, []bool{true, true, false}},
		{example(), nil, nil, example(), nil},
		{example(), []uint64{}, []int64{}, example(), nil},
		{nil, []uint64{4, 1}, []int64{0, math.MaxInt64}, nil, []bool{true, true}},
		{nil, nil, nil, nil, nil},
	} {
		row, is, e := levels.Run(c.l, c.ticks, c.costs)
		if !slices.Equal(row, c.want) || !slices.Equal(is, c.is) || e != api.OK {
			t.Errorf("Run(%v, %v, %v) = %v, %v, %d", c.l, c.ticks, c.costs, row, is, e)
		}
	}
}

// someRun gives ticks and costs; ticks go back at times if they may.
func someRun(m *numbers, n int, back bool) ([]uint64, []int64) {
	var ticks []uint64
	var costs []int64
	at := uint64(0)
	for range n {
		at = later(at, uint64(m.below(5)))
		if m.below(20) == 0 {
			at = max(at, pick(m, firstTicks()))
		}
		t := at
		if back && m.below(4) == 0 {
			t -= min(t, uint64(m.below(7)))
		}
		ticks, costs = append(ticks, t), append(costs, someCost(m))
	}
	return ticks, costs
}

func TestP4_4_RunOfManyRows(t *testing.T) {
	m := mixed()
	for i, l := range rows(m, 1500) {
		ticks, costs := someRun(m, i%40, true)
		want, admitted := slices.Clone(l), []bool{}
		for j, at := range ticks {
			next, is := taken(t, want, at, costs[j])
			want, admitted = next, append(admitted, is)
		}
		row, is, e := levels.Run(l, ticks, costs)
		if !slices.Equal(row, want) || !slices.Equal(is, admitted) || e != api.OK {
			t.Errorf("Run(%v, %v, %v) = %v, %v, %d", l, ticks, costs, row, is, e)
		}
	}
}

func TestP4_4_LongRuns(t *testing.T) {
	for _, n := range []int{199, 200} {
		ticks, costs := ticksAndCosts(n)
		// The row holds all costs together but those of the last 3 entries.
		l := []api.Bucket{full(int64(n-4), 0, 1)}
		for i := range costs {
			costs[i] = 1
		}
		row, is := run(t, l, ticks, costs)
		for i, admitted := range is {
			if admitted != (i < n-4) {
				t.Errorf("%d of %d is %v", i, n, admitted)
			}
		}
		if len(is) != n || len(row) != 1 || row[0].Level != 0 || row[0].At != uint64(n-1) {
			t.Errorf("%d ticks: %v, %v", n, row, is)
		}
	}
}

func sameRunError(t *testing.T, l []api.Bucket, ticks []uint64, costs []int64, want api.Errno) {
	t.Helper()
	row, is, e := levels.Run(l, ticks, costs)
	if len(row) > 0 || len(is) > 0 || e != want {
		t.Errorf("Run of %v with %d ticks and %d costs = %v, %v, %d", l, len(ticks), len(costs), row, is, e)
	}
}

func TestP4_4_RunErrors(t *testing.T) {
	for _, l := range [][]api.Bucket{nil, example(), fullRow(8)} {
		for _, n := range []int{201, 202, 256, 457, 5000} {
			ticks, costs := ticksAndCosts(n)
			sameRunError(t, l, ticks, costs, api.ErrMany)
			sameRunError(t, l, ticks, costs[:200], api.ErrMany)
			sameRunError(t, l, ticks, nil, api.ErrMany)
			sameRunError(t, l, ticks[:200], costs, api.ErrArg)
			costs[0] = -1
			sameRunError(t, l, ticks, costs, api.ErrMany)
			sameRunError(t, l, nil, costs, api.ErrArg)
		}
		for _, n := range []int{1, 2, 9, 199, 200} {
			ticks, costs := ticksAndCosts(n)
			sameRunError(t, l, ticks, costs[:n-1], api.ErrArg)
			sameRunError(t, l, ticks[:n-1], costs, api.ErrArg)
			sameRunError(t, l, ticks, nil, api.ErrArg)
			sameRunError(t, l, nil, costs, api.ErrArg)
			for _, bad := range badCosts() {
				for _, i := range []int{0, n / 2, n - 1} {
					broken := slices.Clone(costs)
					broken[i] = bad
					sameRunError(t, l, ticks, broken, api.ErrArg)
				}
			}
		}
	}
}

func TestP4_2_P4_3_BadCosts(t *testing.T) {
	for _, l := range [][]api.Bucket{nil, {}, example(), {{Limit: still}}, fullRow(8)} {
		for _, cost := range badCosts() {
			if h, e := levels.Holds(l, cost); h || e != api.ErrArg {
				t.Errorf("Holds(%v, %d) = %v, %d", l, cost, h, e)
			}
			if n, e := levels.Wait(l, cost); n != 0 || e != api.ErrArg {
				t.Errorf("Wait(%v, %d) = %d, %d", l, cost, n, e)
			}
			for _, at := range firstTicks() {
				if row, is, e := levels.Take(l, at, cost); len(row) > 0 || is || e != api.ErrArg {
					t.Errorf("Take(%v, %d, %d) = %v, %v, %d", l, at, cost, row, is, e)
				}
			}
		}
	}
}

// Each function says first what is wrong with the row, whatever else is.
func TestP4_1_BadRows(t *testing.T) {
	many, manyCosts := ticksAndCosts(201)
	for _, bad := range badRows() {
		for _, cost := range append(badCosts(), 0, 1, math.MaxInt64) {
			if h, e := levels.Holds(bad.l, cost); h || e != bad.e {
				t.Errorf("Holds(%v, %d) = %v, %d", bad.l, cost, h, e)
			}
			if n, e := levels.Wait(bad.l, cost); n != 0 || e != bad.e {
				t.Errorf("Wait(%v, %d) = %d, %d", bad.l, cost, n, e)
			}
			if row, is, e := levels.Take(bad.l, 3, cost); len(row) > 0 || is || e != bad.e {
				t.Errorf("Take(%v, 3, %d) = %v, %v, %d", bad.l, cost, row, is, e)
			}
			sameRunError(t, bad.l, []uint64{3}, []int64{cost}, bad.e)
		}
		for _, at := range firstTicks() {
			if row, e := levels.Refill(bad.l, at); len(row) > 0 || e != bad.e {
				t.Errorf("Refill(%v, %d) = %v, %d", bad.l, at, row, e)
			}
		}
		sameRunError(t, bad.l, nil, nil, bad.e)
		sameRunError(t, bad.l, many, manyCosts, bad.e)
		sameRunError(t, bad.l, many, nil, bad.e)
		sameRunError(t, bad.l, nil, []int64{1}, bad.e)
	}
}

func TestP4_5_AllOrNothing(t *testing.T) {
	m := mixed()
	for _, l := range rows(m, 3000) {
		at, cost := later(pick(m, firstTicks()), uint64(m.below(9))), someCost(m)
		each := true
		for _, b := range refilled(t, l, at) {
			_, e := bucket.Charge(b, cost)
			each = each && e == api.OK
		}
		row, is := take(t, l, at, cost)
		if is != each || len(row) != len(l) {
			t.Fatalf("Take(%v, %d, %d) = %v, %v", l, at, cost, row, is)
		}
		for i, b := range refilled(t, l, at) {
			if is {
				b.Level -= cost
			}
			if row[i] != b {
				t.Errorf("Take(%v, %d, %d) = %v, %v", l, at, cost, row, is)
			}
		}
	}
}

// shuffled gives the numbers from 0 to n - 1 in a mixed order.
func shuffled(m *numbers, n int) []int {
	var order []int
	for i := range n {
		order = slices.Insert(order, int(m.below(int64(i+1))), i)
	}
	return order
}

func inOrder(l []api.Bucket, order []int) []api.Bucket {
	var row []api.Bucket
	for _, i := range order {
		row = append(row, l[i])
	}
	return row
}

func TestP4_5_TheOrderDoesNotMatter(t *testing.T) {
	m := mixed()
	for i, l := range rows(m, 2000) {
		order := shuffled(m, len(l))
		other := inOrder(l, order)
		ticks, costs := someRun(m, i%20, true)
		row, is := run(t, l, ticks, costs)
		otherRow, otherIs := run(t, other, ticks, costs)
		if !slices.Equal(inOrder(row, order), otherRow) || !slices.Equal(is, otherIs) {
			t.Errorf("Run(%v, %v, %v) = %v, %v, but %v, %v in the order %v", l, ticks, costs, row, is, otherRow, otherIs, order)
		}
		cost := someCost(m)
		if wait(t, l, cost) != wait(t, other, cost) || holds(t, l, cost) != holds(t, other, cost) {
			t.Errorf("%v and the cost %d: the order %v matters", l, cost, order)
		}
	}
}

func TestP4_5_TheCost0IsAlwaysAdmitted(t *testing.T) {
	m := mixed()
	for _, l := range rows(m, 2000) {
		at := pick(m, firstTicks())
		row, is := take(t, l, at, 0)
		if !is || !slices.Equal(row, refilled(t, l, at)) {
			t.Errorf("Take(%v, %d, 0) = %v, %v", l, at, row, is)
		}
		if !holds(t, l, 0) || wait(t, l, 0) != 0 {
			t.Errorf("%v does not hold 0", l)
		}
		empty := slices.Clone(l)
		for i := range empty {
			empty[i].Level = 0
		}
		if _, is := take(t, empty, 0, 0); !is {
			t.Errorf("Take(%v, 0, 0) is not admitted", empty)
		}
	}
}

// holdsAt reports whether a row that is refilled at a tick holds a cost, by the package's own functions.
func holdsAt(t *testing.T, l []api.Bucket, at uint64, cost int64) bool {
	t.Helper()
	row, e := levels.Refill(l, at)
	if e != api.OK {
		t.Fatalf("Refill(%v, %d) = %d", l, at, e)
	}
	return holds(t, row, cost)
}

func TestP4_5_AfterTheWaitTheRowHoldsTheCost(t *testing.T) {
	m := mixed()
	for _, l := range alike(m, 4000) {
		cost, at := someCost(m), uint64(9)
		if len(l) > 0 {
			at = l[0].At
		}
		n := wait(t, l, cost)
		if n == api.Never {
			if holdsAt(t, l, maxTick, cost) {
				t.Errorf("Wait(%v, %d) is Never, but it comes to hold it", l, cost)
			}
			continue
		}
		if !holdsAt(t, l, at+n, cost) {
			t.Errorf("Wait(%v, %d) = %d, but then it does not hold it", l, cost, n)
		}
		if n > 0 && holdsAt(t, l, at+n-1, cost) {
			t.Errorf("Wait(%v, %d) = %d, but it holds it a tick before", l, cost, n)
		}
	}
}

func TestP4_5_TheWaitIsTheLeastOfAllTicks(t *testing.T) {
	m := mixed()
	for range 1500 {
		var l []api.Bucket
		for range 1 + m.below(4) {
			limit := api.Limit{Burst: 1 + m.below(4), Rate: 1 + m.below(3), Per: 1 + m.below(4)}
			b := api.Bucket{Limit: limit, Level: m.below(limit.Burst), Part: m.below(limit.Per), At: 70}
			l = append(l, b)
		}
		cost := 1 + m.below(4)
		// After 16 ticks all buckets are full.
		least := uint64(api.Never)
		for n := range uint64(17) {
			if holdsAt(t, l, 70+n, cost) {
				least = n
				break
			}
		}
		if n := wait(t, l, cost); n != least {
			t.Errorf("Wait(%v, %d) = %d, not %d", l, cost, n, least)
		}
	}
}

func TestP4_5_ARunInTwoPartsIsARun(t *testing.T) {
	m := mixed()
	for i, l := range rows(m, 1200) {
		ticks, costs := someRun(m, i%15, true)
		row, is := run(t, l, ticks, costs)
		for cut := range len(ticks) + 1 {
			first, firstIs := run(t, l, ticks[:cut], costs[:cut])
			second, secondIs := run(t, first, ticks[cut:], costs[cut:])
			if !slices.Equal(row, second) || !slices.Equal(is, append(firstIs, secondIs...)) {
				t.Errorf("Run(%v, %v, %v) is another one in two parts at %d", l, ticks, costs, cut)
			}
		}
	}
}

// admittedOf gives the entries of a run that were admitted.
func admittedOf(ticks []uint64, costs []int64, is []bool) ([]uint64, []int64) {
	var when []uint64
	var admitted []int64
	for i := range ticks {
		if is[i] {
			when, admitted = append(when, ticks[i]), append(admitted, costs[i])
		}
	}
	return when, admitted
}

func allAdmitted(t *testing.T, b api.Bucket, ticks []uint64, costs []int64) {
	t.Helper()
	if _, is := run(t, []api.Bucket{b}, ticks, costs); slices.Contains(is, false) {
		t.Errorf("%v alone, with %v and %v: %v", b, ticks, costs, is)
	}
}

func TestP4_5_ARunAdmitsNothingThatABucketAloneWouldNotHold(t *testing.T) {
	m := mixed()
	for i, l := range rows(m, 2000) {
		ticks, costs := someRun(m, i%40, false)
		_, is := run(t, l, ticks, costs)
		when, admitted := admittedOf(ticks, costs, is)
		for _, b := range l {
			allAdmitted(t, b, when, admitted)
		}
	}
}

// Where ticks go back, a bucket alone comes to hold as much if it is refilled at the ticks of all costs.
func TestP4_5_ABucketAloneWithTicksThatGoBack(t *testing.T) {
	m := mixed()
	for i, l := range rows(m, 2000) {
		ticks, costs := someRun(m, i%40, true)
		_, is := run(t, l, ticks, costs)
		for j := range costs {
			if !is[j] {
				costs[j] = 0
			}
		}
		for _, b := range l {
			allAdmitted(t, b, ticks, costs)
		}
	}
}

// spare gives a copy with room behind it, which has these values.
func spare[E any](l []E, behind ...E) []E {
	return append(append(make([]E, 0, len(l)+len(behind)), l...), behind...)[:len(l)]
}

func TestP1_ArgumentsAreOnlyRead(t *testing.T) {
	m := mixed()
	mark := of(full(5, 1, 1), 2, 0, 77)
	for i, l := range rows(m, 500) {
		ticks, costs := someRun(m, i%20, true)
		l2, ticks2, costs2 := spare(l, mark, mark), spare(ticks, 55, 55), spare(costs, 66, 66)
		levels.Check(l2)
		levels.Refill(l2, 8)
		levels.Holds(l2, 1)
		levels.Take(l2, 8, 1)
		levels.Wait(l2, 1)
		levels.Run(l2, ticks2, costs2)
		if !slices.Equal(l2[:len(l)+2], append(slices.Clone(l), mark, mark)) {
			t.Errorf("%v has become %v", l, l2[:len(l)+2])
		}
		if !slices.Equal(ticks2[:len(ticks)+2], append(slices.Clone(ticks), 55, 55)) {
			t.Errorf("%v has become %v", ticks, ticks2[:len(ticks)+2])
		}
		if !slices.Equal(costs2[:len(costs)+2], append(slices.Clone(costs), 66, 66)) {
			t.Errorf("%v has become %v", costs, costs2[:len(costs)+2])
		}
	}
}

// results gives the rows that the functions return for a row: refilled, taken from in both ways, and run for a while.
func results(t *testing.T, l []api.Bucket) [][]api.Bucket {
	t.Helper()
	row, e := levels.Refill(l, 4)
	if e != api.OK {
		t.Fatal(e)
	}
	all := [][]api.Bucket{row}
	for _, cost := range []int64{0, 1, math.MaxInt64} {
		row, _ = take(t, l, 4, cost)
		all = append(all, row)
	}
	for n := range 3 {
		ticks, costs := ticksAndCosts(n)
		row, _ = run(t, l, ticks, costs)
		all = append(all, row)
	}
	row, _ = run(t, l, []uint64{0}, []int64{math.MaxInt64})
	return append(all, row)
}

func TestP1_ResultsShareNoMemory(t *testing.T) {
	for n := range 9 {
		l := spare(fullRow(n), full(9, 9, 9))
		want := results(t, l)
		for i := range want {
			all := results(t, l)
			// Room behind a result belongs to nobody else, either.
			whole := all[i][:cap(all[i])]
			for j := range whole {
				whole[j] = api.Bucket{Level: -7}
			}
			if !slices.Equal(l[:n+1], append(fullRow(n), full(9, 9, 9))) {
				t.Errorf("the row %d shares memory with its argument", i)
			}
			for j := range all {
				if j != i && !slices.Equal(all[j], want[j]) {
					t.Errorf("the rows %d and %d share memory", i, j)
				}
			}
		}
	}
}

// What is written to an argument or a result after a call changes no other one.
func TestP1_NothingIsKept(t *testing.T) {
	l := example()
	ticks, costs := ticksAndCosts(9)
	row, is := run(t, l, ticks, costs)
	wantRow, wantIs := slices.Clone(row), slices.Clone(is)
	clear(l)
	clear(ticks)
	clear(costs)
	if !slices.Equal(row, wantRow) || !slices.Equal(is, wantIs) {
		t.Errorf("%v, %v have become %v, %v", wantRow, wantIs, row, is)
	}
	clear(row)
	clear(is)
	ticks, costs = ticksAndCosts(9)
	if row, is = run(t, example(), ticks, costs); !slices.Equal(row, wantRow) || !slices.Equal(is, wantIs) {
		t.Errorf("%v, %v, and then %v, %v", wantRow, wantIs, row, is)
	}
}

// answers holds what all functions of the package answer to the same arguments.
type answers struct {
	check, refillE, holdsE, takeE, waitE, runE api.Errno
	refill, take, run                          []api.Bucket
	holds, admitted                            bool
	wait                                       uint64
	each                                       []bool
}

func ask(l []api.Bucket, ticks []uint64, costs []int64, at uint64, cost int64) (s answers) {
	s.check = levels.Check(l)
	s.refill, s.refillE = levels.Refill(l, at)
	s.holds, s.holdsE = levels.Holds(l, cost)
	s.take, s.admitted, s.takeE = levels.Take(l, at, cost)
	s.wait, s.waitE = levels.Wait(l, cost)
	s.run, s.each, s.runE = levels.Run(l, ticks, costs)
	return s
}

func (s answers) equal(o answers) bool {
	return s.check == o.check && s.refillE == o.refillE && s.holdsE == o.holdsE && s.takeE == o.takeE &&
		s.waitE == o.waitE && s.runE == o.runE && s.holds == o.holds && s.admitted == o.admitted && s.wait == o.wait &&
		slices.Equal(s.refill, o.refill) && slices.Equal(s.take, o.take) && slices.Equal(s.run, o.run) && slices.Equal(s.each, o.each)
}

func TestP1_TheSameCallHasTheSameAnswer(t *testing.T) {
	var all [][]api.Bucket
	for _, bad := range badRows() {
		all = append(all, bad.l)
	}
	all = append(all, rows(mixed(), 600)...)
	askAbout := func(i int) answers {
		ticks, costs := ticksAndCosts(i % 23)
		return ask(all[i], ticks, costs, uint64(i%29), int64(i%9)-1)
	}
	var first []answers
	for i := range all {
		first = append(first, askAbout(i))
	}
	for i := range slices.Backward(all) {
		if again := askAbout(i); !again.equal(first[i]) {
			t.Errorf("%v: %v, then %v", all[i], first[i], again)
		}
	}
}

// strange are numbers around all bounds and at the ends of their type.
func strange() []int64 {
	return []int64{math.MinInt64, -1, 0, 1, 2, billion, billion + 1, math.MaxInt64}
}

// Any values at all are answered, and an answer with an error has nothing else.
func TestP1_AllArgumentsAreAnswered(t *testing.T) {
	m := mixed()
	number := func() int64 { return pick(m, strange()) }
	for i := range 20000 {
		var l []api.Bucket
		for range m.below(11) {
			limit := api.Limit{Burst: number(), Rate: number(), Per: number()}
			b := api.Bucket{Limit: limit, Level: number(), Part: number(), At: uint64(number())}
			if m.below(3) > 0 {
				b = someBucket(m, uint64(number()))
			}
			l = append(l, b)
		}
		ticks, costs := someRun(m, i%30, true)
		if len(costs) > 0 && m.below(9) == 0 {
			costs[0] = number()
		}
		s := ask(l, ticks, costs[:len(costs)-i%30/28], uint64(number()), number())
		if s.refillE != api.OK && len(s.refill) > 0 || s.holdsE != api.OK && s.holds || s.waitE != api.OK && s.wait != 0 ||
			s.takeE != api.OK && (len(s.take) > 0 || s.admitted) || s.runE != api.OK && len(s.run)+len(s.each) > 0 {
			t.Errorf("%v: %v", l, s)
		}
		for _, row := range [][]api.Bucket{s.refill, s.take, s.run} {
			if levels.Check(row) != api.OK {
				t.Errorf("%v: %v is no row", l, row)
			}
		}
	}
}
