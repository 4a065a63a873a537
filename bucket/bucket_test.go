package bucket_test

import (
	"math"
	"math/big"
	"testing"

	"spigot/api"
	"spigot/bucket"
)

const (
	maxTick = 1<<64 - 1
	billion = 1000000000
)

var (
	// example is the limit of the chapter's examples.
	example = api.Limit{Burst: 10, Rate: 3, Per: 2}
	widest  = api.Limit{Burst: billion, Rate: billion, Per: billion}
	slowest = api.Limit{Burst: billion, Rate: 1, Per: billion}
	fastest = api.Limit{Burst: billion, Rate: billion, Per: 1}
	still   = api.Limit{Burst: 10, Rate: 0, Per: 2}
	none    = api.Bucket{}
)

// limits gives valid limits, up to both ends of each of their numbers.
func limits() []api.Limit {
	var all []api.Limit
	for _, burst := range []int64{1, 2, 10, billion - 1, billion} {
		for _, rate := range []int64{0, 1, 3, billion - 1, billion} {
			for _, per := range []int64{1, 2, 7, billion - 1, billion} {
				all = append(all, api.Limit{Burst: burst, Rate: rate, Per: per})
			}
		}
	}
	return all
}

// below gives numbers from 0 on that are less than n, up to both ends.
func below(n int64) []int64 {
	var all []int64
	for _, x := range []int64{0, 1, n / 2, n - 1} {
		if x < n && (len(all) == 0 || x > all[len(all)-1]) {
			all = append(all, x)
		}
	}
	return all
}

func ats() []uint64 { return []uint64{0, 7, 1 << 63, maxTick - 3, maxTick} }

// buckets gives valid buckets of each limit: the full one, and those that hold less.
func buckets() []api.Bucket {
	var all []api.Bucket
	for _, l := range limits() {
		for _, at := range ats() {
			all = append(all, api.Bucket{Limit: l, Level: l.Burst, At: at})
			for _, level := range below(l.Burst) {
				for _, part := range below(l.Per) {
					all = append(all, api.Bucket{Limit: l, Level: level, Part: part, At: at})
				}
			}
		}
	}
	return all
}

// later gives ticks from at on, near to it and far from it.
func later(at uint64) []uint64 {
	var all []uint64
	for _, n := range []uint64{0, 1, 2, 3, 5, billion, 1e18, 1 << 63, maxTick} {
		if n <= maxTick-at {
			all = append(all, at+n)
		}
	}
	return append(all, maxTick)
}

func badLimits() []api.Limit {
	return []api.Limit{
		{},
		{Burst: 0, Rate: 1, Per: 1},
		{Burst: -1, Rate: 1, Per: 1},
		{Burst: math.MinInt64, Rate: 1, Per: 1},
		{Burst: billion + 1, Rate: 1, Per: 1},
		{Burst: math.MaxInt64, Rate: 1, Per: 1},
		{Burst: 1<<32 + 1, Rate: 1, Per: 1},
		{Burst: 1, Rate: -1, Per: 1},
		{Burst: 1, Rate: math.MinInt64, Per: 1},
		{Burst: 1, Rate: billion + 1, Per: 1},
		{Burst: 1, Rate: math.MaxInt64, Per: 1},
		{Burst: 1, Rate: 1, Per: 0},
		{Burst: 1, Rate: 1, Per: -1},
		{Burst: 1, Rate: 1, Per: math.MinInt64},
		{Burst: 1, Rate: 1, Per: billion + 1},
		{Burst: 1, Rate: 1, Per: math.MaxInt64},
		{Burst: 1, Rate: 0, Per: 0},
	}
}

// badBuckets gives buckets that are not valid: each breaks one condition, or has a bad limit.
func badBuckets() []api.Bucket {
	all := []api.Bucket{
		{},
		{Limit: example, Level: -1},
		{Limit: example, Level: math.MinInt64},
		{Limit: example, Level: 11},
		{Limit: example, Level: math.MaxInt64},
		{Limit: example, Level: 1 << 32},
		{Limit: example, Level: 5, Part: -1},
		{Limit: example, Level: 5, Part: math.MinInt64},
		{Limit: example, Level: 5, Part: 2},
		{Limit: example, Level: 5, Part: math.MaxInt64},
		{Limit: example, Level: 10, Part: 1},
		{Limit: example, Level: 10, Part: 1, At: maxTick},
		{Limit: still, Level: 10, Part: 1},
		{Limit: fastest, Level: 5, Part: 1},
		{Limit: widest, Level: billion, Part: 1},
		{Limit: widest, Level: billion, Part: billion - 1},
		{Limit: widest, Level: billion + 1},
		{Limit: widest, Level: 5, Part: billion},
	}
	for _, l := range badLimits() {
		all = append(all, api.Bucket{Limit: l}, api.Bucket{Limit: l, Level: 1, At: 9}, api.Bucket{Limit: l, Level: l.Burst})
	}
	return all
}

func whole(x uint64) *big.Int { return new(big.Int).SetUint64(x) }

func times(x, y *big.Int) *big.Int { return new(big.Int).Mul(x, y) }

// parts tells what a bucket holds, in parts of a token of which Per are a token.
func parts(b api.Bucket) *big.Int {
	n := times(big.NewInt(b.Level), big.NewInt(b.Limit.Per))
	return n.Add(n, big.NewInt(b.Part))
}

// refilled follows the definition, with numbers of any size: so many parts come in, up to a full bucket.
func refilled(b api.Bucket, t uint64) api.Bucket {
	if t < b.At {
		return b
	}
	n := times(whole(t-b.At), big.NewInt(b.Limit.Rate))
	n.Add(n, parts(b))
	if most := times(big.NewInt(b.Limit.Burst), big.NewInt(b.Limit.Per)); n.Cmp(most) >= 0 {
		n = most
	}
	level, part := new(big.Int).QuoRem(n, big.NewInt(b.Limit.Per), new(big.Int))
	return api.Bucket{Limit: b.Limit, Level: level.Int64(), Part: part.Int64(), At: t}
}

func full(t *testing.T, l api.Limit, at uint64) api.Bucket {
	t.Helper()
	b, e := bucket.Full(l, at)
	if e != api.OK {
		t.Fatalf("Full(%v, %d) = %d", l, at, e)
	}
	return b
}

func refill(t *testing.T, b api.Bucket, at uint64) api.Bucket {
	t.Helper()
	r, e := bucket.Refill(b, at)
	if e != api.OK {
		t.Fatalf("Refill(%v, %d) = %d", b, at, e)
	}
	return r
}

func charge(t *testing.T, b api.Bucket, cost int64) api.Bucket {
	t.Helper()
	r, e := bucket.Charge(b, cost)
	if e != api.OK {
		t.Fatalf("Charge(%v, %d) = %d", b, cost, e)
	}
	return r
}

func wait(t *testing.T, b api.Bucket, cost int64) uint64 {
	t.Helper()
	n, e := bucket.Wait(b, cost)
	if e != api.OK {
		t.Fatalf("Wait(%v, %d) = %d", b, cost, e)
	}
	return n
}

func TestLimitsAreThoseOfTheChapter(t *testing.T) {
	if api.MaxBurst != billion || api.MaxRate != billion || api.MaxPer != billion {
		t.Fatal(api.MaxBurst, api.MaxRate, api.MaxPer)
	}
	if never := uint64(api.Never); never != maxTick || uint64(api.MaxTick) != maxTick {
		t.Fatal(never)
	}
}

func TestP3_1_CheckLimit(t *testing.T) {
	for _, l := range limits() {
		if e := bucket.CheckLimit(l); e != api.OK {
			t.Errorf("CheckLimit(%v) = %d", l, e)
		}
	}
	for _, l := range badLimits() {
		if e := bucket.CheckLimit(l); e != api.ErrBad {
			t.Errorf("CheckLimit(%v) = %d", l, e)
		}
	}
}

func TestP3_1_Check(t *testing.T) {
	for _, b := range buckets() {
		if e := bucket.Check(b); e != api.OK {
			t.Errorf("Check(%v) = %d", b, e)
		}
	}
	for _, b := range badBuckets() {
		if e := bucket.Check(b); e != api.ErrBad {
			t.Errorf("Check(%v) = %d", b, e)
		}
	}
}

// validSmall gives all valid buckets whose Burst is at most 3, Rate 1, and Per at most 3, at a tick.
func validSmall(at uint64) map[api.Bucket]bool {
	all := map[api.Bucket]bool{}
	for burst := range int64(3) {
		for per := range int64(3) {
			l := api.Limit{Burst: burst + 1, Rate: 1, Per: per + 1}
			all[api.Bucket{Limit: l, Level: l.Burst, At: at}] = true
			for level := range l.Burst {
				for part := range l.Per {
					all[api.Bucket{Limit: l, Level: level, Part: part, At: at}] = true
				}
			}
		}
	}
	return all
}

func TestP3_1_CheckOfAllSmallBuckets(t *testing.T) {
	valid := validSmall(6)
	for i := range int64(6 * 6 * 7 * 7) {
		l := api.Limit{Burst: i%6 - 2, Rate: 1, Per: i/6%6 - 2}
		b := api.Bucket{Limit: l, Level: i/36%7 - 2, Part: i/252 - 2, At: 6}
		want := api.ErrBad
		if valid[b] {
			want = api.OK
		}
		if e := bucket.Check(b); e != want {
			t.Errorf("Check(%v) = %d", b, e)
		}
	}
}

func TestP3_1_Full(t *testing.T) {
	for _, l := range limits() {
		for _, at := range ats() {
			b, e := bucket.Full(l, at)
			if want := (api.Bucket{Limit: l, Level: l.Burst, Part: 0, At: at}); b != want || e != api.OK {
				t.Errorf("Full(%v, %d) = %v, %d", l, at, b, e)
			}
		}
	}
	for _, l := range badLimits() {
		if b, e := bucket.Full(l, 5); b != none || e != api.ErrBad {
			t.Errorf("Full(%v, 5) = %v, %d", l, b, e)
		}
	}
}

func TestP3_2_Refill(t *testing.T) {
	one := api.Bucket{Limit: example, Level: 1}
	half := api.Bucket{Limit: api.Limit{Burst: 10, Rate: 1, Per: 2}, Level: 6}
	for _, c := range []struct {
		b           api.Bucket
		t           uint64
		level, part int64
	}{
		{one, 0, 1, 0},
		{one, 1, 2, 1},
		{one, 3, 5, 1}, // the chapter's examples
		{one, 4, 7, 0},
		{one, 5, 8, 1},
		{one, 6, 10, 0},
		{one, maxTick, 10, 0},
		{half, 3, 7, 1}, // the third example of the whole
		{api.Bucket{Limit: example, Level: 8, Part: 1, At: 5}, 5, 8, 1},
		{api.Bucket{Limit: example, Level: 8, Part: 1, At: 5}, 6, 10, 0}, // just full
		{api.Bucket{Limit: example, Level: 9, Part: 1, At: 5}, 6, 10, 0}, // more than full
		{api.Bucket{Limit: example, Level: 9, At: 5}, 6, 10, 0},          // full, and no part of another one
		{api.Bucket{Limit: example, Level: 10, At: 5}, 8, 10, 0},
		{api.Bucket{Limit: still, Level: 3, Part: 1, At: 5}, maxTick, 3, 1},
		{api.Bucket{Limit: slowest, Part: billion - 1}, 1, 1, 0},
		{api.Bucket{Limit: slowest, Part: billion - 2}, 1, 0, billion - 1},
		{api.Bucket{Limit: slowest}, 1e18 - 1, billion - 1, billion - 1},
		{api.Bucket{Limit: slowest}, 1e18, billion, 0},
		{api.Bucket{Limit: fastest}, 1, billion, 0},
		{api.Bucket{Limit: fastest}, maxTick, billion, 0},
		// In these many ticks 2^64 tokens and few others come in: a small number has no room for them.
		{api.Bucket{Limit: api.Limit{Burst: billion, Rate: 2, Per: 1}}, 1<<63 + 1, billion, 0},
		{api.Bucket{Limit: api.Limit{Burst: billion, Rate: 4, Per: 2}}, 1<<63 + 1, billion, 0},
		{api.Bucket{Limit: api.Limit{Burst: billion, Rate: 2, Per: 4}}, 1<<63 + 1, billion, 0},
		{api.Bucket{Limit: example, Level: 1, At: maxTick - 1}, maxTick, 2, 1},
	} {
		want := api.Bucket{Limit: c.b.Limit, Level: c.level, Part: c.part, At: c.t}
		if got, e := bucket.Refill(c.b, c.t); got != want || e != api.OK {
			t.Errorf("Refill(%v, %d) = %v, %d", c.b, c.t, got, e)
		}
	}
}

func TestP3_2_RefillAtATickBefore(t *testing.T) {
	for _, b := range buckets() {
		for _, at := range []uint64{0, 1, b.At / 2, b.At - 1} {
			if at >= b.At {
				continue
			}
			if got, e := bucket.Refill(b, at); got != b || e != api.OK {
				t.Errorf("Refill(%v, %d) = %v, %d", b, at, got, e)
			}
		}
	}
}

func TestP3_2_RefillOfAllBuckets(t *testing.T) {
	for _, b := range buckets() {
		for _, at := range later(b.At) {
			got, e := bucket.Refill(b, at)
			if got != refilled(b, at) || e != api.OK {
				t.Errorf("Refill(%v, %d) = %v, %d", b, at, got, e)
			}
			if bucket.Check(got) != api.OK {
				t.Errorf("Refill(%v, %d) = %v is not valid", b, at, got)
			}
		}
	}
}

// tick lets the parts of one tick come in, one after the other.
func tick(b api.Bucket) api.Bucket {
	for range b.Limit.Rate {
		b.Part++
		if b.Part == b.Limit.Per {
			b.Level, b.Part = b.Level+1, 0
		}
		if b.Level == b.Limit.Burst {
			b.Part = 0
		}
		b.Level = min(b.Level, b.Limit.Burst)
	}
	b.At++
	return b
}

func TestP3_2_RefillPartByPart(t *testing.T) {
	for first := range validSmall(4) {
		for rate := range int64(8) {
			first.Limit.Rate = rate
			want := first
			for at := uint64(4); at < 20; at++ {
				if got, e := bucket.Refill(first, at); got != want || e != api.OK {
					t.Errorf("Refill(%v, %d) = %v, %d", first, at, got, e)
				}
				want = tick(want)
			}
		}
	}
}

func TestP3_2_Change(t *testing.T) {
	one := api.Bucket{Limit: example, Level: 1}
	for _, c := range []struct {
		b         api.Bucket
		l         api.Limit
		t         uint64
		level     int64
		changedAt uint64
	}{
		{one, api.Limit{Burst: 4, Rate: 1, Per: 1}, 3, 4, 3}, // the chapter's example
		{one, api.Limit{Burst: 5, Rate: 1, Per: 9}, 3, 5, 3},
		{one, api.Limit{Burst: 6, Rate: 1, Per: 9}, 3, 5, 3}, // the part is gone
		{one, example, 3, 5, 3},                              // also with the same limit
		{one, api.Limit{Burst: billion, Rate: 0, Per: billion}, maxTick, 10, maxTick},
		{api.Bucket{Limit: example, Level: 6, Part: 1, At: 8}, still, 8, 6, 8},
		{api.Bucket{Limit: example, Level: 6, Part: 1, At: 8}, still, 7, 6, 8}, // a tick before At
		{api.Bucket{Limit: example, Level: 6, Part: 1, At: 8}, api.Limit{Burst: 1, Rate: 1, Per: 1}, 0, 1, 8},
		// The old limit says what comes in up to the tick, not the new one.
		{api.Bucket{Limit: still, Level: 2}, fastest, 100, 2, 100},
		{api.Bucket{Limit: fastest, Level: 2}, still, 100, 10, 100},
	} {
		want := api.Bucket{Limit: c.l, Level: c.level, At: c.changedAt}
		if got, e := bucket.Change(c.b, c.l, c.t); got != want || e != api.OK {
			t.Errorf("Change(%v, %v, %d) = %v, %d", c.b, c.l, c.t, got, e)
		}
	}
}

func TestP3_2_ChangeOfManyBuckets(t *testing.T) {
	for i, b := range buckets() {
		for j, l := range limits() {
			if (i+j)%5 > 0 {
				continue
			}
			for _, at := range append(later(b.At), 0, b.At/2) {
				before := refilled(b, at)
				want := api.Bucket{Limit: l, Level: min(before.Level, l.Burst), At: before.At}
				if got, e := bucket.Change(b, l, at); got != want || e != api.OK {
					t.Errorf("Change(%v, %v, %d) = %v, %d", b, l, at, got, e)
				}
			}
		}
	}
}

func TestP3_2_ChangeToABadLimit(t *testing.T) {
	for _, l := range badLimits() {
		for _, b := range append(badBuckets(), api.Bucket{Limit: example, Level: 1, At: 2}, api.Bucket{Limit: still}) {
			for _, at := range []uint64{0, 3, maxTick} {
				if got, e := bucket.Change(b, l, at); got != none || e != api.ErrBad {
					t.Errorf("Change(%v, %v, %d) = %v, %d", b, l, at, got, e)
				}
			}
		}
	}
}

func TestP3_3_Charge(t *testing.T) {
	fullOne := api.Bucket{Limit: example, Level: 10}
	some := api.Bucket{Limit: example, Level: 4, Part: 1, At: 9}
	for _, c := range []struct {
		b     api.Bucket
		cost  int64
		level int64
		e     api.Errno
	}{
		{fullOne, 9, 1, api.OK}, // the chapter's example
		{fullOne, 0, 10, api.OK},
		{fullOne, 10, 0, api.OK},
		{fullOne, 11, 0, api.ErrLow},
		{some, 0, 4, api.OK},
		{some, 3, 1, api.OK},
		{some, 4, 0, api.OK},
		{some, 5, 0, api.ErrLow}, // a part is no token
		{some, 11, 0, api.ErrLow},
		{some, math.MaxInt64, 0, api.ErrLow},
		{some, 1 << 32, 0, api.ErrLow},
		{some, -1, 0, api.ErrArg},
		{some, math.MinInt64, 0, api.ErrArg},
		{api.Bucket{Limit: still}, 0, 0, api.OK},
		{api.Bucket{Limit: still}, 1, 0, api.ErrLow},
		{api.Bucket{Limit: widest, Level: billion}, billion, 0, api.OK},
	} {
		want := none
		if c.e == api.OK {
			want = api.Bucket{Limit: c.b.Limit, Level: c.level, Part: c.b.Part, At: c.b.At}
		}
		if got, e := bucket.Charge(c.b, c.cost); got != want || e != c.e {
			t.Errorf("Charge(%v, %d) = %v, %d", c.b, c.cost, got, e)
		}
	}
}

// costs gives costs around what a bucket holds and can hold.
func costs(b api.Bucket) []int64 {
	all := []int64{1 << 32, 1 << 62, math.MaxInt64}
	for _, c := range []int64{0, 1, b.Level - 1, b.Level, b.Level + 1, b.Limit.Burst - 1, b.Limit.Burst, b.Limit.Burst + 1} {
		if c >= 0 {
			all = append(all, c)
		}
	}
	return all
}

func TestP3_3_ChargeOfAllBuckets(t *testing.T) {
	for _, b := range buckets() {
		for _, c := range costs(b) {
			want, we := b, api.OK
			if want.Level -= c; want.Level < 0 {
				want, we = none, api.ErrLow
			}
			got, e := bucket.Charge(b, c)
			if got != want || e != we {
				t.Errorf("Charge(%v, %d) = %v, %d", b, c, got, e)
			}
			if e == api.OK && bucket.Check(got) != api.OK {
				t.Errorf("Charge(%v, %d) = %v is not valid", b, c, got)
			}
		}
	}
}

func TestP3_3_Wait(t *testing.T) {
	one := api.Bucket{Limit: example, Level: 1}
	late := func(l api.Limit, level, part int64, left uint64) api.Bucket {
		return api.Bucket{Limit: l, Level: level, Part: part, At: maxTick - left}
	}
	for _, c := range []struct {
		b    api.Bucket
		cost int64
		want uint64
	}{
		{one, 5, 3}, // the chapter's examples
		{one, 11, api.Never},
		{one, 0, 0},
		{one, 1, 0},
		{one, 2, 1}, // 2 parts come in 1 tick
		{one, 3, 2},
		{one, 4, 2}, // 6 parts come in just 2 ticks
		{one, 10, 6},
		{one, math.MaxInt64, api.Never},
		{one, 1<<32 + 2, api.Never},
		{api.Bucket{Limit: example, Level: 1, Part: 1, At: 50}, 3, 1},
		{api.Bucket{Limit: still, Level: 3, Part: 1}, 3, 0},
		{api.Bucket{Limit: still, Level: 3, Part: 1}, 4, api.Never},
		{api.Bucket{Limit: still, Level: 10}, 11, api.Never},
		{api.Bucket{Limit: slowest}, billion, 1e18}, // the greatest wait
		{api.Bucket{Limit: slowest, Part: 1}, billion, 1e18 - 1},
		{api.Bucket{Limit: slowest, Part: billion - 1}, 1, 1},
		{api.Bucket{Limit: fastest}, billion, 1},
		{api.Bucket{Limit: widest}, billion, billion},
		{late(slowest, 0, 0, 1e18), billion, 1e18}, // it ends at the greatest tick
		{late(slowest, 0, 0, 1e18-1), billion, api.Never},
		{late(slowest, 0, 1, 1e18-1), billion, 1e18 - 1},
		{late(example, 1, 0, 3), 5, 3},
		{late(example, 1, 0, 2), 5, api.Never},
		{late(example, 1, 0, 0), 1, 0},
		{late(example, 1, 0, 0), 2, api.Never},
		{late(example, 1, 0, 0), 11, api.Never},
	} {
		if n, e := bucket.Wait(c.b, c.cost); n != c.want || e != api.OK {
			t.Errorf("Wait(%v, %d) = %d, %d", c.b, c.cost, n, e)
		}
	}
	for _, cost := range []int64{-1, -billion, math.MinInt64} {
		for _, b := range []api.Bucket{one, {Limit: still}, {Limit: widest, Level: billion, At: maxTick}} {
			if n, e := bucket.Wait(b, cost); n != 0 || e != api.ErrArg {
				t.Errorf("Wait(%v, %d) = %d, %d", b, cost, n, e)
			}
			if got, e := bucket.Charge(b, cost); got != none || e != api.ErrArg {
				t.Errorf("Charge(%v, %d) = %v, %d", b, cost, got, e)
			}
		}
	}
}

// leastWait looks for the wait with refilled alone, by halving; it never falls as ticks go on.
func leastWait(b api.Bucket, cost int64) uint64 {
	if refilled(b, maxTick).Level < cost {
		return api.Never
	}
	from, to := uint64(0), maxTick-b.At
	for from < to {
		if n := from + (to-from)/2; refilled(b, b.At+n).Level >= cost {
			to = n
		} else {
			from = n + 1
		}
	}
	return from
}

func TestP3_3_WaitOfAllBuckets(t *testing.T) {
	for _, b := range buckets() {
		for _, c := range costs(b) {
			n, e := bucket.Wait(b, c)
			if want := leastWait(b, c); n != want || e != api.OK {
				t.Errorf("Wait(%v, %d) = %d, %d, not %d", b, c, n, e, want)
			}
			if n != api.Never && n > 1e18 {
				t.Errorf("Wait(%v, %d) = %d", b, c, n)
			}
		}
	}
}

// Each function with a bucket says first that it is not valid, whatever else is wrong.
func TestP3_1_BadBuckets(t *testing.T) {
	for _, b := range badBuckets() {
		for _, at := range []uint64{0, 9, maxTick} {
			if got, e := bucket.Refill(b, at); got != none || e != api.ErrBad {
				t.Errorf("Refill(%v, %d) = %v, %d", b, at, got, e)
			}
			if got, e := bucket.Change(b, example, at); got != none || e != api.ErrBad {
				t.Errorf("Change(%v, %v, %d) = %v, %d", b, example, at, got, e)
			}
		}
		for _, cost := range []int64{0, 1, 100, math.MaxInt64, -1, math.MinInt64} {
			if got, e := bucket.Charge(b, cost); got != none || e != api.ErrBad {
				t.Errorf("Charge(%v, %d) = %v, %d", b, cost, got, e)
			}
			if n, e := bucket.Wait(b, cost); n != 0 || e != api.ErrBad {
				t.Errorf("Wait(%v, %d) = %d, %d", b, cost, n, e)
			}
		}
	}
}

func TestP3_4_RefillingInTwoStepsIsRefillingAtOnce(t *testing.T) {
	for _, b := range buckets() {
		for _, first := range append(later(b.At), b.At/2) {
			step := refill(t, b, first)
			for _, second := range later(first) {
				if two, once := refill(t, step, second), refill(t, b, second); two != once {
					t.Errorf("%v is %v at %d, but %v by way of %d", b, once, second, two, first)
				}
			}
		}
	}
}

func TestP3_4_AfterTheWaitTheBucketHoldsTheCost(t *testing.T) {
	for _, b := range buckets() {
		for _, c := range costs(b) {
			n := wait(t, b, c)
			if n == api.Never {
				if level := refill(t, b, maxTick).Level; level >= c {
					t.Errorf("Wait(%v, %d) is Never, but it comes to hold %d", b, c, level)
				}
				continue
			}
			if level := refill(t, b, b.At+n).Level; level < c {
				t.Errorf("Wait(%v, %d) = %d, but then it holds %d", b, c, n, level)
			}
			if n == 0 {
				continue
			}
			if level := refill(t, b, b.At+n-1).Level; level >= c {
				t.Errorf("Wait(%v, %d) = %d, but a tick before it holds %d", b, c, n, level)
			}
		}
	}
}

// mixed gives n numbers less than m, the same ones at each call.
func mixed(n int, m uint64) []uint64 {
	var all []uint64
	x := uint64(88172645463325252)
	for range n {
		x ^= x << 13
		x ^= x >> 7
		x ^= x << 17
		all = append(all, x%m)
	}
	return all
}

// most tells how much a bucket may be charged up to a tick, if it is full at another one.
func most(l api.Limit, from, to uint64) *big.Int {
	n := times(whole(to-from), big.NewInt(l.Rate))
	n.Quo(n, big.NewInt(l.Per))
	return n.Add(n, big.NewInt(l.Burst))
}

func TestP3_4_WhatIsChargedOverATime(t *testing.T) {
	for _, l := range limits() {
		for _, gap := range []uint64{1, 3, 50, 2 * billion, 1 << 56} {
			// All that the bucket holds is charged, or half of it: nobody can charge more.
			for _, divisor := range []int64{1, 2} {
				b := full(t, l, 11)
				sum := new(big.Int)
				for _, n := range mixed(60, gap) {
					b = refill(t, b, b.At+n)
					cost := (b.Level + divisor - 1) / divisor
					b = charge(t, b, cost)
					sum.Add(sum, big.NewInt(cost))
					if sum.Cmp(most(l, 11, b.At)) > 0 {
						t.Errorf("%v: %v is charged up to %d", l, sum, b.At)
					}
				}
			}
		}
	}
}

// What is never full is charged just so much: nothing of what came in is lost.
func TestP3_4_ABucketThatIsAlwaysEmptiedLosesNothing(t *testing.T) {
	for _, l := range []api.Limit{example, slowest, {Burst: 5, Rate: 7, Per: 3}, {Burst: 2, Rate: 1, Per: 9}, {Burst: billion, Rate: 999999937, Per: 7}} {
		b := full(t, l, 0)
		sum := new(big.Int)
		for range 500 {
			sum.Add(sum, big.NewInt(b.Level))
			b = charge(t, b, b.Level)
			if want := most(l, 0, b.At); sum.Cmp(want) != 0 {
				t.Fatalf("%v: %v is charged up to %d, not %v", l, sum, b.At, want)
			}
			b = refill(t, b, b.At+1)
		}
	}
}

func TestP3_4_WhoHoldsNoMoreNeverHoldsMore(t *testing.T) {
	all := buckets()
	for i, a := range all {
		for _, b := range all[i:min(i+40, len(all))] {
			if a.Limit != b.Limit || a.At != b.At {
				continue
			}
			less, more := a, b
			if parts(less).Cmp(parts(more)) > 0 {
				less, more = more, less
			}
			for _, n := range mixed(12, 1+uint64(a.Limit.Per)*2) {
				at := min(less.At, maxTick-n) + n
				less, more = refill(t, less, at), refill(t, more, at)
				cost := less.Level / 2
				less, more = charge(t, less, cost), charge(t, more, cost)
				if parts(less).Cmp(parts(more)) > 0 || less.Level > more.Level {
					t.Fatalf("%v and %v come to hold %v and %v", a, b, less, more)
				}
			}
		}
	}
}

// answers holds what all functions of the package answer to the same bucket, limit, tick and cost.
type answers struct {
	check, limit                     api.Errno
	full, refill, charge, change     api.Bucket
	wait                             uint64
	fullE, refillE, chargeE, changeE api.Errno
	waitE                            api.Errno
}

func ask(b api.Bucket, l api.Limit, at uint64, cost int64) (s answers) {
	s.check = bucket.Check(b)
	s.limit = bucket.CheckLimit(l)
	s.full, s.fullE = bucket.Full(l, at)
	s.refill, s.refillE = bucket.Refill(b, at)
	s.charge, s.chargeE = bucket.Charge(b, cost)
	s.wait, s.waitE = bucket.Wait(b, cost)
	s.change, s.changeE = bucket.Change(b, l, at)
	return s
}

func TestP1_NothingIsKeptFromCallToCall(t *testing.T) {
	all := append(badBuckets(), buckets()...)
	l := append(badLimits(), limits()...)
	at := func(i int) uint64 { return ats()[i%len(ats())] }
	var first []answers
	for i, b := range all {
		first = append(first, ask(b, l[i%len(l)], at(i), int64(i%13)-1))
	}
	for i := range all {
		i = len(all) - 1 - i
		if again := ask(all[i], l[i%len(l)], at(i), int64(i%13)-1); again != first[i] {
			t.Errorf("%v: %v, then %v", all[i], first[i], again)
		}
	}
}

// strange are numbers around all bounds and at the ends of their type.
func strange() []int64 {
	return []int64{math.MinInt64, -1, 0, 1, 2, billion, billion + 1, math.MaxInt64}
}

// Any values at all are answered, and an answer with an error has nothing else.
func TestP1_AllArgumentsAreAnswered(t *testing.T) {
	s := strange()
	for _, n := range mixed(30000, 1<<60) {
		take := func() int64 {
			n = n*6364136223846793005 + 1442695040888963407
			return s[n>>61]
		}
		b := api.Bucket{Limit: api.Limit{Burst: take(), Rate: take(), Per: take()}, Level: take(), Part: take(), At: uint64(take())}
		l := api.Limit{Burst: take(), Rate: take(), Per: take()}
		r := ask(b, l, uint64(take()), take())
		if r.fullE != api.OK && r.full != none || r.refillE != api.OK && r.refill != none ||
			r.chargeE != api.OK && r.charge != none || r.changeE != api.OK && r.change != none ||
			r.waitE != api.OK && r.wait != 0 {
			t.Errorf("%v and %v: %v", b, l, r)
		}
		for _, x := range []api.Bucket{r.full, r.refill, r.charge, r.change} {
			if x != none && bucket.Check(x) != api.OK {
				t.Errorf("%v and %v: %v is not valid", b, l, x)
			}
		}
	}
}
