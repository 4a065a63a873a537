package clock_test

import (
	"math/big"
	"slices"
	"testing"

	"spigot/api"
	"spigot/clock"
)

const maxTick = 1<<64 - 1

// ticks are the ends of the range, and ticks between which steps are small and great.
func ticks() []uint64 { return []uint64{0, 1, 2, 1 << 63, maxTick - 1, maxTick} }

// edges are ticks near the ends of 32 and 64 bits, too.
func edges() []uint64 {
	return []uint64{
		0, 1, 2, 3, 10,
		1<<32 - 1, 1 << 32, 1<<32 + 1,
		1<<63 - 1, 1 << 63, 1<<63 + 1,
		maxTick - 1, maxTick,
	}
}

// lists gives every list of at most 4 ticks out of ticks().
func lists() [][]uint64 {
	all := [][]uint64{nil}
	last := all
	for range 4 {
		var longer [][]uint64
		for _, l := range last {
			for _, t := range ticks() {
				longer = append(longer, append(slices.Clone(l), t))
			}
		}
		all, last = append(all, longer...), longer
	}
	return all
}

// inOrder gives those of lists() in which no tick is less than the one before it.
func inOrder() [][]uint64 { return slices.DeleteFunc(lists(), outOfOrder) }

func outOfOrder(l []uint64) bool {
	for i := 1; i < len(l); i++ {
		if l[i] < l[i-1] {
			return true
		}
	}
	return false
}

// rising gives the n ticks first, first + step, ...
func rising(n int, first, step uint64) []uint64 {
	var l []uint64
	for i := range n {
		l = append(l, first+uint64(i)*step)
	}
	return l
}

func falling(n int) []uint64 {
	l := rising(n, 1, 1)
	slices.Reverse(l)
	return l
}

// wavy gives n ticks that go up and down.
func wavy(n int) []uint64 {
	var l []uint64
	for i := range n {
		l = append(l, uint64(i*37%101+i/3))
	}
	return l
}

// clampedTicks follows the definition: each is the greatest one of now and the readings up to it.
func clampedTicks(now uint64, l []uint64) []uint64 {
	var want []uint64
	for i := range l {
		want = append(want, max(now, slices.Max(l[:i+1])))
	}
	return want
}

// goingBack follows the definition: something before a reading is greater than it.
func goingBack(now uint64, l []uint64) []int {
	var want []int
	for i, r := range l {
		if r < now || slices.ContainsFunc(l[:i], func(x uint64) bool { return x > r }) {
			want = append(want, i)
		}
	}
	return want
}

func whole(x uint64) *big.Int { return new(big.Int).SetUint64(x) }

func clamps(t *testing.T, now uint64, l []uint64) []uint64 {
	t.Helper()
	got, e := clock.Clamps(now, l)
	if e != api.OK {
		t.Fatalf("Clamps(%d, %v) = %d", now, l, e)
	}
	return got
}

func back(t *testing.T, now uint64, l []uint64) []int {
	t.Helper()
	got, e := clock.Back(now, l)
	if e != api.OK {
		t.Fatalf("Back(%d, %v) = %d", now, l, e)
	}
	return got
}

func TestP2_1_Clamp(t *testing.T) {
	for _, c := range []struct{ now, r, want uint64 }{
		{5, 3, 5},
		{5, 7, 7},
		{5, 5, 5},
		{0, 0, 0},
		{0, maxTick, maxTick},
		{maxTick, 0, maxTick},
		{1<<63 - 1, 1 << 63, 1 << 63}, // the greater one is less as a signed number
		{1 << 63, 1, 1 << 63},
	} {
		if got := clock.Clamp(c.now, c.r); got != c.want {
			t.Errorf("Clamp(%d, %d) = %d", c.now, c.r, got)
		}
	}
}

func TestP2_1_ClampOfAllPairs(t *testing.T) {
	for _, now := range edges() {
		for _, r := range edges() {
			want := now
			if r > now {
				want = r
			}
			if got := clock.Clamp(now, r); got != want {
				t.Errorf("Clamp(%d, %d) = %d", now, r, got)
			}
		}
	}
}

func TestP2_1_ClampsAndBack(t *testing.T) {
	for _, c := range []struct {
		now  uint64
		l    []uint64
		want []uint64
		back []int
	}{
		{5, []uint64{3, 7, 6, 9}, []uint64{5, 7, 7, 9}, []int{0, 2}}, // the chapter's example
		{5, nil, nil, nil},
		{5, []uint64{}, []uint64{}, []int{}},
		{0, []uint64{0, 0, 0}, []uint64{0, 0, 0}, nil},
		{5, []uint64{5}, []uint64{5}, nil},
		{5, []uint64{4}, []uint64{5}, []int{0}},
		{5, []uint64{6}, []uint64{6}, nil},
		// The last reading is greater than the one before it, but less than where the clock stands.
		{0, []uint64{9, 2, 3}, []uint64{9, 9, 9}, []int{1, 2}},
		{maxTick, []uint64{maxTick - 1, maxTick, 0}, []uint64{maxTick, maxTick, maxTick}, []int{0, 2}},
		{0, []uint64{maxTick, 0}, []uint64{maxTick, maxTick}, []int{1}},
	} {
		if got := clamps(t, c.now, c.l); !slices.Equal(got, c.want) {
			t.Errorf("Clamps(%d, %v) = %v", c.now, c.l, got)
		}
		if got := back(t, c.now, c.l); !slices.Equal(got, c.back) {
			t.Errorf("Back(%d, %v) = %v", c.now, c.l, got)
		}
	}
}

func TestP2_1_ClampsAndBackOfAllLists(t *testing.T) {
	for _, now := range ticks() {
		for _, l := range append(lists(), wavy(50), wavy(api.MaxRead)) {
			if got := clamps(t, now, l); !slices.Equal(got, clampedTicks(now, l)) {
				t.Errorf("Clamps(%d, %v) = %v", now, l, got)
			}
			if got := back(t, now, l); !slices.Equal(got, goingBack(now, l)) {
				t.Errorf("Back(%d, %v) = %v", now, l, got)
			}
		}
	}
}

func TestP2_1_AtMostMaxReadReadings(t *testing.T) {
	if api.MaxRead != 200 {
		t.Fatalf("MaxRead is %d", api.MaxRead)
	}
	for _, list := range []func(int) []uint64{wavy, falling, func(n int) []uint64 { return rising(n, 3, 2) }} {
		for _, n := range []int{199, 200} {
			l := list(n)
			if got := clamps(t, 7, l); !slices.Equal(got, clampedTicks(7, l)) {
				t.Errorf("Clamps(7, %v) = %v", l, got)
			}
			if got := back(t, 7, l); !slices.Equal(got, goingBack(7, l)) {
				t.Errorf("Back(7, %v) = %v", l, got)
			}
		}
		for _, n := range []int{201, 202, 400, 5000} {
			l := list(n)
			if got, e := clock.Clamps(7, l); len(got) != 0 || e != api.ErrMany {
				t.Errorf("Clamps of %d readings = %v, %d", n, got, e)
			}
			if got, e := clock.Back(7, l); len(got) != 0 || e != api.ErrMany {
				t.Errorf("Back of %d readings = %v, %d", n, got, e)
			}
		}
	}
}

func TestP2_2_Since(t *testing.T) {
	for _, c := range []struct {
		from, to, want uint64
		e              api.Errno
	}{
		{7, 9, 2, api.OK}, // the chapter's example
		{9, 9, 0, api.OK},
		{0, 0, 0, api.OK},
		{0, maxTick, maxTick, api.OK},
		{maxTick, maxTick, 0, api.OK},
		{1<<63 - 1, 1 << 63, 1, api.OK},
		{9, 7, 0, api.ErrOrder},
		{1, 0, 0, api.ErrOrder},
		{maxTick, 0, 0, api.ErrOrder},
		{maxTick, maxTick - 1, 0, api.ErrOrder},
		{1 << 63, 1<<63 - 1, 0, api.ErrOrder},
	} {
		if got, e := clock.Since(c.from, c.to); got != c.want || e != c.e {
			t.Errorf("Since(%d, %d) = %d, %d", c.from, c.to, got, e)
		}
	}
}

func TestP2_2_After(t *testing.T) {
	for _, c := range []struct {
		t, n, want uint64
		e          api.Errno
	}{
		{7, 2, 9, api.OK},
		{7, 0, 7, api.OK},
		{0, 0, 0, api.OK},
		{0, maxTick, maxTick, api.OK},
		{maxTick, 0, maxTick, api.OK},
		{maxTick - 1, 1, maxTick, api.OK},
		{1 << 63, 1<<63 - 1, maxTick, api.OK},
		{maxTick, 1, 0, api.ErrRange}, // the chapter's example
		{1, maxTick, 0, api.ErrRange},
		{maxTick - 1, 2, 0, api.ErrRange},
		{1 << 63, 1 << 63, 0, api.ErrRange},
		{maxTick, maxTick, 0, api.ErrRange},
	} {
		if got, e := clock.After(c.t, c.n); got != c.want || e != c.e {
			t.Errorf("After(%d, %d) = %d, %d", c.t, c.n, got, e)
		}
	}
}

func TestP2_2_SinceAndAfterOfAllPairs(t *testing.T) {
	for _, x := range edges() {
		for _, y := range edges() {
			want, we := uint64(0), api.ErrOrder
			if n := new(big.Int).Sub(whole(y), whole(x)); n.Sign() >= 0 {
				want, we = n.Uint64(), api.OK
			}
			if got, e := clock.Since(x, y); got != want || e != we {
				t.Errorf("Since(%d, %d) = %d, %d", x, y, got, e)
			}
			want, we = 0, api.ErrRange
			if n := new(big.Int).Add(whole(x), whole(y)); n.IsUint64() {
				want, we = n.Uint64(), api.OK
			}
			if got, e := clock.After(x, y); got != want || e != we {
				t.Errorf("After(%d, %d) = %d, %d", x, y, got, e)
			}
		}
	}
}

func TestP2_3_Merge(t *testing.T) {
	for _, c := range []struct {
		a, b, want []uint64
	}{
		{[]uint64{1, 4}, []uint64{2, 4}, []uint64{1, 2, 4, 4}}, // the chapter's example
		{nil, nil, nil},
		{[]uint64{}, nil, nil},
		{[]uint64{3}, nil, []uint64{3}},
		{nil, []uint64{3, 3}, []uint64{3, 3}},
		{[]uint64{1, 2}, []uint64{3, 4}, []uint64{1, 2, 3, 4}},
		{[]uint64{3, 4}, []uint64{1, 2}, []uint64{1, 2, 3, 4}},
		{[]uint64{5, 5}, []uint64{5}, []uint64{5, 5, 5}},
		{[]uint64{0, maxTick}, []uint64{0, maxTick}, []uint64{0, 0, maxTick, maxTick}},
		{[]uint64{1 << 63}, []uint64{1, maxTick}, []uint64{1, 1 << 63, maxTick}},
	} {
		if got, e := clock.Merge(c.a, c.b); !slices.Equal(got, c.want) || e != api.OK {
			t.Errorf("Merge(%v, %v) = %v, %d", c.a, c.b, got, e)
		}
	}
}

func TestP2_3_MergeOfAllPairs(t *testing.T) {
	for _, a := range inOrder() {
		for _, b := range inOrder() {
			want := slices.Sorted(slices.Values(slices.Concat(a, b)))
			if got, e := clock.Merge(a, b); !slices.Equal(got, want) || e != api.OK {
				t.Errorf("Merge(%v, %v) = %v, %d", a, b, got, e)
			}
		}
	}
}

func TestP2_3_MergeOfListsOutOfOrder(t *testing.T) {
	good := [][]uint64{nil, {0}, {maxTick}, {1, 2, 3}, rising(api.MaxRead, 0, 5)}
	bad := slices.DeleteFunc(lists(), func(l []uint64) bool { return !outOfOrder(l) })
	bad = append(bad, falling(api.MaxRead), append(rising(api.MaxRead-1, 1, 1), 0))
	for _, b := range bad {
		for _, g := range append(good, b) {
			if got, e := clock.Merge(b, g); len(got) != 0 || e != api.ErrOrder {
				t.Errorf("Merge(%v, %v) = %v, %d", b, g, got, e)
			}
			if got, e := clock.Merge(g, b); len(got) != 0 || e != api.ErrOrder {
				t.Errorf("Merge(%v, %v) = %v, %d", g, b, got, e)
			}
		}
	}
}

func TestP2_3_MergeOfLongLists(t *testing.T) {
	full := rising(api.MaxRead, 0, 2)
	odd := rising(api.MaxRead, 1, 2)
	if got, e := clock.Merge(full, odd); !slices.Equal(got, rising(2*api.MaxRead, 0, 1)) || e != api.OK {
		t.Errorf("Merge of two full lists = %v, %d", got, e)
	}
	for _, n := range []int{api.MaxRead + 1, 400, 5000} {
		// What is out of order does not matter then: too many ticks are named first.
		for _, long := range [][]uint64{rising(n, 0, 1), falling(n)} {
			for _, other := range [][]uint64{nil, {4}, full, {2, 1}, falling(api.MaxRead), long} {
				if got, e := clock.Merge(long, other); len(got) != 0 || e != api.ErrMany {
					t.Errorf("Merge of %d ticks and %v = %v, %d", n, other, got, e)
				}
				if got, e := clock.Merge(other, long); len(got) != 0 || e != api.ErrMany {
					t.Errorf("Merge of %v and %d ticks = %v, %d", other, n, got, e)
				}
			}
		}
	}
}

func TestP2_4_ClampedTicksNeverGoBackAndReachReadings(t *testing.T) {
	for _, now := range ticks() {
		for _, l := range append(lists(), wavy(api.MaxRead)) {
			got := clamps(t, now, l)
			if len(got) != len(l) {
				t.Errorf("Clamps(%d, %v) = %v", now, l, got)
				continue
			}
			for i, c := range got {
				if c < now || i > 0 && c < got[i-1] {
					t.Errorf("Clamps(%d, %v) goes back at %d: %v", now, l, i, got)
				}
				if c < slices.Max(l[:i+1]) {
					t.Errorf("Clamps(%d, %v) is less than a reading at %d: %v", now, l, i, got)
				}
				if c != now && !slices.Contains(l[:i+1], c) {
					t.Errorf("Clamps(%d, %v) is no reading at %d: %v", now, l, i, got)
				}
			}
		}
	}
}

func TestP2_4_ClampingTwiceChangesNothing(t *testing.T) {
	for _, now := range ticks() {
		for _, l := range append(lists(), wavy(api.MaxRead)) {
			once := clamps(t, now, l)
			if twice := clamps(t, now, once); !slices.Equal(twice, once) {
				t.Errorf("Clamps(%d, %v) = %v", now, once, twice)
			}
			if b := back(t, now, once); len(b) != 0 {
				t.Errorf("Back(%d, %v) = %v", now, once, b)
			}
			if len(back(t, now, l)) == 0 && !slices.Equal(once, l) {
				t.Errorf("Clamps(%d, %v) = %v, though nothing goes back", now, l, once)
			}
		}
		for _, r := range ticks() {
			if c := clock.Clamp(now, r); clock.Clamp(c, r) != c || clock.Clamp(now, c) != c {
				t.Errorf("Clamp(%d, %d) = %d, but not twice", now, r, c)
			}
		}
	}
}

func TestP2_4_ClampingInTwoPartsIsClampingAtOnce(t *testing.T) {
	for _, now := range ticks() {
		for _, l := range append(lists(), wavy(api.MaxRead)) {
			atOnce := clamps(t, now, l)
			for i := range len(l) + 1 {
				parts := clamps(t, now, l[:i])
				end := now
				if i > 0 {
					end = parts[i-1]
				}
				parts = append(parts, clamps(t, end, l[i:])...)
				if !slices.Equal(parts, atOnce) {
					t.Errorf("Clamps(%d, %v) = %v, but %v in parts of %d", now, l, atOnce, parts, i)
				}
			}
		}
	}
}

func TestP2_4_TicksSinceATickGiveTheOtherTick(t *testing.T) {
	for _, from := range edges() {
		for _, to := range edges() {
			n, e := clock.Since(from, to)
			if (e == api.OK) != (from <= to) {
				t.Errorf("Since(%d, %d) = %d, %d", from, to, n, e)
			}
			if e != api.OK {
				continue
			}
			if got, e := clock.After(from, n); got != to || e != api.OK {
				t.Errorf("After(%d, %d) = %d, %d, not %d", from, n, got, e, to)
			}
		}
	}
}

// withRoom gives a copy of a list with marks between its length and its capacity.
func withRoom(l []uint64) []uint64 {
	marked := append(slices.Clone(l), 91, 92, 93, 94, 95, 96, 97, 98)
	return marked[:len(l)]
}

// whatIsThere gives a copy of a list up to its capacity.
func whatIsThere(l []uint64) []uint64 { return slices.Clone(l[:cap(l)]) }

func TestP1_ArgumentsAreOnlyRead(t *testing.T) {
	for _, l := range append(lists(), wavy(api.MaxRead), falling(api.MaxRead+1)) {
		for _, m := range [][]uint64{nil, {0, 0}, {1, maxTick}, {2, 1}} {
			a, b := withRoom(l), withRoom(m)
			wantA, wantB := whatIsThere(a), whatIsThere(b)
			clock.Clamps(1, a)
			clock.Back(1, a)
			clock.Merge(a, b)
			clock.Merge(b, a)
			if !slices.Equal(whatIsThere(a), wantA) || !slices.Equal(whatIsThere(b), wantB) {
				t.Errorf("%v and %v became %v and %v", wantA, wantB, whatIsThere(a), whatIsThere(b))
			}
		}
	}
}

func overwrite(l []uint64) {
	l = l[:cap(l)]
	for i := range l {
		l[i] = 77
	}
}

func TestP1_ResultsShareNoMemory(t *testing.T) {
	for _, l := range inOrder() {
		a, b, empty := withRoom(l), withRoom(l), withRoom(nil)
		before := whatIsThere(a)
		clamped := clamps(t, 0, a)
		again := clamps(t, 0, a)
		merged, _ := clock.Merge(a, b)
		left, _ := clock.Merge(a, empty)
		right, _ := clock.Merge(empty, a)
		for _, r := range [][]uint64{clamped, merged, left, right} {
			overwrite(r)
		}
		if !slices.Equal(whatIsThere(a), before) || !slices.Equal(whatIsThere(b), before) {
			t.Errorf("a result of %v shares memory with it", before)
		}
		if !slices.Equal(again, l) {
			t.Errorf("two results of %v share memory", l)
		}
		overwrite(a)
		if !slices.Equal(again, l) {
			t.Errorf("a result of %v is changed with it", l)
		}
	}
}

// answers holds what all functions of the package answer to the same lists and ticks.
type answers struct {
	clamp, since, after      uint64
	clamped, merged          []uint64
	back                     []int
	sinceE, afterE           api.Errno
	clampedE, mergedE, backE api.Errno
}

func ask(now, r uint64, a, b []uint64) (s answers) {
	s.clamp = clock.Clamp(now, r)
	s.since, s.sinceE = clock.Since(now, r)
	s.after, s.afterE = clock.After(now, r)
	s.clamped, s.clampedE = clock.Clamps(now, a)
	s.back, s.backE = clock.Back(now, a)
	s.merged, s.mergedE = clock.Merge(a, b)
	return s
}

func (s answers) same(o answers) bool {
	return s.clamp == o.clamp && s.since == o.since && s.after == o.after &&
		slices.Equal(s.clamped, o.clamped) && slices.Equal(s.merged, o.merged) && slices.Equal(s.back, o.back) &&
		s.sinceE == o.sinceE && s.afterE == o.afterE &&
		s.clampedE == o.clampedE && s.mergedE == o.mergedE && s.backE == o.backE
}

func TestP1_NothingIsKeptFromCallToCall(t *testing.T) {
	others := [][]uint64{nil, {1, 2}, {2, 1}, rising(api.MaxRead+1, 0, 1)}
	all := append(lists(), wavy(api.MaxRead), wavy(api.MaxRead+1))
	var first []answers
	for i, l := range all {
		for _, o := range others {
			first = append(first, ask(ticks()[i%6], ticks()[i/6%6], l, o))
		}
	}
	slices.Reverse(first)
	n := 0
	for i, l := range slices.Backward(all) {
		for _, o := range slices.Backward(others) {
			if again := ask(ticks()[i%6], ticks()[i/6%6], l, o); !again.same(first[n]) {
				t.Errorf("%v and %v: %v, then %v", l, o, first[n], again)
			}
			n++
		}
	}
}

func TestP1_NilAndEmptyListsAreEqual(t *testing.T) {
	for _, o := range append(lists(), falling(api.MaxRead+1)) {
		x, y := ask(2, 1, nil, o), ask(2, 1, []uint64{}, o)
		if !x.same(y) {
			t.Errorf("with %v: %v for nil, %v for an empty list", o, x, y)
		}
		x, y = ask(2, 1, o, nil), ask(2, 1, o, []uint64{})
		if !x.same(y) {
			t.Errorf("after %v: %v for nil, %v for an empty list", o, x, y)
		}
	}
}
