package table_test

import (
	"math"
	"math/big"
	"math/rand/v2"
	"slices"
	"testing"

	"spigot/api"
	"spigot/table"
)

const (
	most    = 8
	cells   = 16
	maxTick = math.MaxUint64
	billion = 1000000000
)

// mixed gives numbers that are mixed, the same ones in each test.
func mixed() *rand.Rand { return rand.New(rand.NewPCG(16, 109)) }

func pick[E any](m *rand.Rand, l []E) E { return l[m.IntN(len(l))] }

func equal(a, b api.Table) bool {
	return a.Cap == b.Cap && slices.Equal(a.Keys, b.Keys) && slices.Equal(a.Buckets, b.Buckets) &&
		slices.Equal(a.Arena.Next, b.Arena.Next) && slices.Equal(a.Arena.Used, b.Arena.Used) && a.Arena.Free == b.Arena.Free &&
		slices.Equal(a.Index, b.Index) &&
		slices.Equal(a.Order.Prev, b.Order.Prev) && slices.Equal(a.Order.Next, b.Order.Next) && a.Order.Head == b.Order.Head && a.Order.Tail == b.Order.Tail
}

// farNumbers are no capacities and no places, though some would be if they were cut to fewer bits.
func farNumbers() []int {
	return []int{math.MinInt, math.MinInt + 1, -1 << 40, -1 << 32, -65536, -256, -255, -17, -16, -9, -8, -2, 9, 10, 12, 16, 17, 32, 64, 255, 256, 257, 264, 1 << 16, 1<<16 + 1, 1 << 31, 1<<32 - 1, 1 << 32, 1<<32 + 1, 1<<32 + 8, 1 << 40, math.MaxInt - 1, math.MaxInt}
}

// farKeys are at the ends of what keys can be.
func farKeys() []uint32 {
	return []uint32{0, 1, 2, 255, 256, 65535, 65536, 1<<31 - 1, 1 << 31, 1<<31 + 1, 1<<32 - 2, 1<<32 - 1}
}

// farTicks are at the ends of what ticks can be, and some between.
func farTicks() []uint64 {
	return []uint64{0, 1, 2, 100, 1 << 31, 1 << 32, 1<<63 - 1, 1 << 63, maxTick - 1, maxTick}
}

// The definitions, put down once more: a table is made of its keys and places, those used last first, of its free places, those taken first first, and of its cells.

// held is a key with its place and its bucket.
type held struct {
	key    uint32
	place  int
	bucket api.Bucket
}

type plain struct {
	capacity int
	used     []held
	free     []int
	index    []api.Cell
}

func at(places []int, i int) int {
	if i < 0 || i >= len(places) {
		return -1
	}
	return places[i]
}

// tableOf gives the table that is made of this.
func tableOf(p plain) api.Table {
	n := p.capacity
	alone := slices.Repeat([]int{-1}, n)
	t := api.Table{
		Cap: n, Keys: make([]uint32, n), Buckets: make([]api.Bucket, n), Index: slices.Clone(p.index),
		Arena: api.Arena{Next: slices.Clone(alone), Used: make([]bool, n), Free: at(p.free, 0)},
		Order: api.Order{Prev: slices.Clone(alone), Next: slices.Clone(alone)},
	}
	for i, place := range p.free {
		t.Arena.Next[place] = at(p.free, i+1)
	}
	var list []int
	for _, h := range p.used {
		t.Keys[h.place], t.Buckets[h.place], t.Arena.Used[h.place] = h.key, h.bucket, true
		list = append(list, h.place)
	}
	for i, place := range list {
		t.Order.Prev[place], t.Order.Next[place] = at(list, i-1), at(list, i+1)
	}
	t.Order.Head, t.Order.Tail = at(list, 0), at(list, len(list)-1)
	return t
}

// followed gives the places from one on, as far as there are such ones, and no more than there can be.
func followed(from int, next []int, n int) (l []int) {
	for place := from; place >= 0 && place < n && len(l) < n; place = next[place] {
		l = append(l, place)
	}
	return l
}

// plainOf gives what a table is made of, if it is valid: it is the one that is made of that.
func plainOf(t api.Table) (plain, bool) {
	n := t.Cap
	if n < 1 || n > most || len(t.Keys) != n || len(t.Buckets) != n || len(t.Arena.Next) != n || len(t.Order.Next) != n {
		return plain{}, false
	}
	p := plain{capacity: n, free: followed(t.Arena.Free, t.Arena.Next, n), index: slices.Clone(t.Index)}
	seen := map[int]bool{}
	for _, place := range followed(t.Order.Head, t.Order.Next, n) {
		p.used = append(p.used, held{t.Keys[place], place, t.Buckets[place]})
		seen[place] = true
	}
	for _, place := range p.free {
		seen[place] = true
	}
	if len(p.used)+len(p.free) != n || len(seen) != n || !hasJust(p.index, p.used) || !isIndex(p.index) {
		return plain{}, false
	}
	for _, h := range p.used {
		if !isBucket(h.bucket) {
			return plain{}, false
		}
	}
	return p, equal(t, tableOf(p))
}

// hasJust tells whether the used cells have these keys with their places, and nothing else.
func hasJust(x []api.Cell, used []held) bool {
	there := map[api.Cell]bool{}
	n := 0
	for _, c := range x {
		if c.Used {
			there[c] = true
			n++
		}
	}
	for _, h := range used {
		if !there[api.Cell{Key: h.key, Place: h.place, Used: true}] {
			return false
		}
	}
	return n == len(used) && len(there) == n
}

func home(key uint32) int { return int(uint64(key) * 2654435769 % 4294967296 / 268435456) }

// firstEmpty gives the first cell from one on that is not used, or -1.
func firstEmpty(x []api.Cell, from int) int {
	for n := range cells {
		if i := (from + n) % cells; !x[i].Used {
			return i
		}
	}
	return -1
}

// isIndex tells whether cells are those of an index, if the used ones have just what they should.
func isIndex(x []api.Cell) bool {
	if len(x) != cells {
		return false
	}
	keys := map[uint32]bool{}
	for i, c := range x {
		if !c.Used {
			if c != (api.Cell{}) {
				return false
			}
			continue
		}
		x[i].Used = false
		first := firstEmpty(x, home(c.Key))
		x[i].Used = true
		if first != i || keys[c.Key] {
			return false
		}
		keys[c.Key] = true
	}
	return true
}

// with gives an index with a cell more, which stands in the first cell from its home on that is not used.
func with(x []api.Cell, key uint32, place int) []api.Cell {
	x = slices.Clone(x)
	x[firstEmpty(x, home(key))] = api.Cell{Key: key, Place: place, Used: true}
	return x
}

// without gives an index without a key that it has: all that stands behind it is taken out, and put in again.
func without(x []api.Cell, key uint32) []api.Cell {
	x = slices.Clone(x)
	i := slices.IndexFunc(x, func(c api.Cell) bool { return c.Used && c.Key == key })
	var out []api.Cell
	for end := firstEmpty(x, i); i != end; i = (i + 1) % cells {
		out, x[i] = append(out, x[i]), api.Cell{}
	}
	for _, c := range out[1:] {
		x = with(x, c.Key, c.Place)
	}
	return x
}

func isLimit(l api.Limit) bool {
	return l.Burst >= 1 && l.Burst <= billion && l.Rate >= 0 && l.Rate <= billion && l.Per >= 1 && l.Per <= billion
}

func isBucket(b api.Bucket) bool {
	return isLimit(b.Limit) && b.Level >= 0 && b.Level <= b.Limit.Burst && b.Part >= 0 && b.Part < b.Limit.Per && (b.Level < b.Limit.Burst || b.Part == 0)
}

// refilled gives a bucket at a tick.
func refilled(b api.Bucket, tick uint64) api.Bucket {
	if tick < b.At {
		return b
	}
	n := new(big.Int).Mul(new(big.Int).SetUint64(tick-b.At), big.NewInt(b.Limit.Rate))
	tokens, part := new(big.Int).DivMod(n.Add(n, big.NewInt(b.Part)), big.NewInt(b.Limit.Per), new(big.Int))
	level := tokens.Add(tokens, big.NewInt(b.Level))
	b.At = tick
	if level.Cmp(big.NewInt(b.Limit.Burst)) >= 0 {
		b.Level, b.Part = b.Limit.Burst, 0
	} else {
		b.Level, b.Part = level.Int64(), part.Int64()
	}
	return b
}

func changed(b api.Bucket, l api.Limit, tick uint64) api.Bucket {
	b = refilled(b, tick)
	b.Limit, b.Level, b.Part = l, min(b.Level, l.Burst), 0
	return b
}

func full(l api.Limit, tick uint64) api.Bucket { return api.Bucket{Limit: l, Level: l.Burst, At: tick} }

func wantNew(capacity int) (api.Table, api.Errno) {
	if capacity < 1 || capacity > most {
		return api.Table{}, api.ErrArg
	}
	p := plain{capacity: capacity, index: make([]api.Cell, cells)}
	for place := range capacity {
		p.free = append(p.free, place)
	}
	return tableOf(p), api.OK
}

func wantCheck(t api.Table) api.Errno {
	if _, valid := plainOf(t); !valid {
		return api.ErrBad
	}
	return api.OK
}

func keysOf(p plain) (keys []uint32) {
	for _, h := range p.used {
		keys = append(keys, h.key)
	}
	return keys
}

func wantKeys(t api.Table) ([]uint32, api.Errno) {
	p, valid := plainOf(t)
	if !valid {
		return nil, api.ErrBad
	}
	return keysOf(p), api.OK
}

// takenOut gives what is there without the key that is the one at i.
func takenOut(p plain, i int) plain {
	h := p.used[i]
	p.used = slices.Delete(slices.Clone(p.used), i, i+1)
	p.free = append([]int{h.place}, p.free...)
	p.index = without(p.index, h.key)
	return p
}

func wantGet(t api.Table, key uint32) (api.Bucket, api.Errno) {
	p, valid := plainOf(t)
	if !valid {
		return api.Bucket{}, api.ErrBad
	}
	i := slices.Index(keysOf(p), key)
	if i < 0 {
		return api.Bucket{}, api.ErrNone
	}
	return p.used[i].bucket, api.OK
}

func wantSet(t api.Table, key uint32, b api.Bucket) (api.Table, api.Errno) {
	p, valid := plainOf(t)
	if !valid || !isBucket(b) {
		return api.Table{}, api.ErrBad
	}
	i := slices.Index(keysOf(p), key)
	if i < 0 {
		return api.Table{}, api.ErrNone
	}
	p.used[i].bucket = b
	return tableOf(p), api.OK
}

func wantDrop(t api.Table, key uint32) (api.Table, api.Errno) {
	p, valid := plainOf(t)
	if !valid {
		return api.Table{}, api.ErrBad
	}
	i := slices.Index(keysOf(p), key)
	if i < 0 {
		return api.Table{}, api.ErrNone
	}
	return tableOf(takenOut(p, i)), api.OK
}

func wantLimits(t api.Table, l api.Limit, tick uint64) (api.Table, api.Errno) {
	p, valid := plainOf(t)
	if !valid || !isLimit(l) {
		return api.Table{}, api.ErrBad
	}
	for i, h := range p.used {
		p.used[i].bucket = changed(h.bucket, l, tick)
	}
	return tableOf(p), api.OK
}

// used is what Use answers.
type used struct {
	u       api.Table
	gone    uint32
	evicted bool
	e       api.Errno
}

func wantUse(t api.Table, key uint32, l api.Limit, tick uint64) used {
	p, valid := plainOf(t)
	if !valid || !isLimit(l) {
		return used{e: api.ErrBad}
	}
	var w used
	i := slices.Index(keysOf(p), key)
	if i < 0 {
		if len(p.free) == 0 {
			w.gone, w.evicted = p.used[len(p.used)-1].key, true
			p = takenOut(p, len(p.used)-1)
		}
		i = len(p.used)
		p.used = append(p.used, held{key, p.free[0], full(l, tick)})
		p.index = with(p.index, key, p.free[0])
		p.free = p.free[1:]
	}
	p.used = append([]held{p.used[i]}, slices.Delete(slices.Clone(p.used), i, i+1)...)
	w.u = tableOf(p)
	return w
}

// What a function answers, held against the definitions.

func newIs(t *testing.T, capacity int, want api.Table, wantE api.Errno) {
	t.Helper()
	if got, e := table.New(capacity); !equal(got, want) || e != wantE {
		t.Fatalf("New(%d) = %v, %d, not %v, %d", capacity, got, e, want, wantE)
	}
}

func checkIs(t *testing.T, x api.Table, want api.Errno) {
	t.Helper()
	if e := table.Check(x); e != want {
		t.Fatalf("Check(%v) = %d, not %d", x, e, want)
	}
}

func keysAre(t *testing.T, x api.Table, want []uint32, wantE api.Errno) {
	t.Helper()
	if got, e := table.Keys(x); !slices.Equal(got, want) || e != wantE {
		t.Fatalf("Keys(%v) = %v, %d, not %v, %d", x, got, e, want, wantE)
	}
}

func getIs(t *testing.T, x api.Table, key uint32, want api.Bucket, wantE api.Errno) {
	t.Helper()
	if got, e := table.Get(x, key); got != want || e != wantE {
		t.Fatalf("Get(%v, %d) = %v, %d, not %v, %d", x, key, got, e, want, wantE)
	}
}

func setIs(t *testing.T, x api.Table, key uint32, b api.Bucket, want api.Table, wantE api.Errno) {
	t.Helper()
	if got, e := table.Set(x, key, b); !equal(got, want) || e != wantE {
		t.Fatalf("Set(%v, %d, %v) = %v, %d, not %v, %d", x, key, b, got, e, want, wantE)
	}
}

func dropIs(t *testing.T, x api.Table, key uint32, want api.Table, wantE api.Errno) {
	t.Helper()
	if got, e := table.Drop(x, key); !equal(got, want) || e != wantE {
		t.Fatalf("Drop(%v, %d) = %v, %d, not %v, %d", x, key, got, e, want, wantE)
	}
}

func limitsIs(t *testing.T, x api.Table, l api.Limit, tick uint64, want api.Table, wantE api.Errno) {
	t.Helper()
	if got, e := table.Limits(x, l, tick); !equal(got, want) || e != wantE {
		t.Fatalf("Limits(%v, %v, %d) = %v, %d, not %v, %d", x, l, tick, got, e, want, wantE)
	}
}

func useIs(t *testing.T, x api.Table, key uint32, l api.Limit, tick uint64, want used) {
	t.Helper()
	u, gone, evicted, e := table.Use(x, key, l, tick)
	if !equal(u, want.u) || gone != want.gone || evicted != want.evicted || e != want.e {
		t.Fatalf("Use(%v, %d, %v, %d) = %v, %d, %t, %d, not %v", x, key, l, tick, u, gone, evicted, e, want)
	}
}

func useIsAsTold(t *testing.T, x api.Table, key uint32, l api.Limit, tick uint64) {
	t.Helper()
	useIs(t, x, key, l, tick, wantUse(x, key, l, tick))
}

func setIsAsTold(t *testing.T, x api.Table, key uint32, b api.Bucket) {
	t.Helper()
	want, e := wantSet(x, key, b)
	setIs(t, x, key, b, want, e)
}

func limitsAsTold(t *testing.T, x api.Table, l api.Limit, tick uint64) {
	t.Helper()
	want, e := wantLimits(x, l, tick)
	limitsIs(t, x, l, tick, want, e)
}

// keyIsAsTold holds all that is answered for a table and a key against the definitions.
func keyIsAsTold(t *testing.T, x api.Table, key uint32) {
	t.Helper()
	b, e := wantGet(x, key)
	getIs(t, x, key, b, e)
	after, e := wantDrop(x, key)
	dropIs(t, x, key, after, e)
	setIsAsTold(t, x, key, full(small, 7))
	setIsAsTold(t, x, key, api.Bucket{})
	useIsAsTold(t, x, key, small, 7)
	useIsAsTold(t, x, key, api.Limit{}, 7)
}

// isAsTold holds what is answered for a table against the definitions, for all keys that it has, and for others.
func isAsTold(t *testing.T, x api.Table) {
	t.Helper()
	checkIs(t, x, wantCheck(x))
	keys, e := wantKeys(x)
	keysAre(t, x, keys, e)
	keys = append(slices.Clone(x.Keys[:min(len(x.Keys), 10)]), 0, 9, 1<<32-1)
	for _, key := range keys {
		keyIsAsTold(t, x, key)
	}
	for _, tick := range []uint64{0, 7, maxTick} {
		limitsAsTold(t, x, small, tick)
		limitsAsTold(t, x, api.Limit{}, tick)
	}
}

// isBad tells that a table is not valid, and that nothing else is answered for it.
func isBad(t *testing.T, x api.Table) {
	t.Helper()
	checkIs(t, x, api.ErrBad)
	keysAre(t, x, nil, api.ErrBad)
	keys := append(slices.Clone(x.Keys[:min(len(x.Keys), 10)]), 0, 9)
	for _, key := range keys {
		getIs(t, x, key, api.Bucket{}, api.ErrBad)
		dropIs(t, x, key, api.Table{}, api.ErrBad)
		for _, l := range []api.Limit{small, {}} {
			setIs(t, x, key, full(l, 7), api.Table{}, api.ErrBad)
			useIs(t, x, key, l, 7, used{e: api.ErrBad})
			limitsIs(t, x, l, 7, api.Table{}, api.ErrBad)
		}
	}
}

func made(t *testing.T, capacity int) api.Table {
	t.Helper()
	x, e := table.New(capacity)
	if e != api.OK {
		t.Fatalf("New(%d): error %d", capacity, e)
	}
	return x
}

// use gives a table after these keys were used at the tick 3, whatever was evicted.
func use(t *testing.T, x api.Table, keys ...uint32) api.Table {
	t.Helper()
	for _, key := range keys {
		u, _, _, e := table.Use(x, key, small, 3)
		if e != api.OK {
			t.Fatalf("Use(%v, %d): error %d", x, key, e)
		}
		x = u
	}
	return x
}

func drop(t *testing.T, x api.Table, key uint32) api.Table {
	t.Helper()
	u, e := table.Drop(x, key)
	if e != api.OK {
		t.Fatalf("Drop(%v, %d): error %d", x, key, e)
	}
	return u
}

func set(t *testing.T, x api.Table, key uint32, b api.Bucket) api.Table {
	t.Helper()
	u, e := table.Set(x, key, b)
	if e != api.OK {
		t.Fatalf("Set(%v, %d, %v): error %d", x, key, b, e)
	}
	return u
}

var small = api.Limit{Burst: 5, Rate: 2, Per: 3}

// someLimits are valid.
func someLimits() []api.Limit {
	return []api.Limit{small, {Burst: 1, Rate: 0, Per: 1}, {Burst: 10, Rate: 3, Per: 2}, {Burst: billion, Rate: billion, Per: billion}, {Burst: 4, Rate: 1, Per: 1}, {Burst: billion, Rate: 1, Per: 7}, {Burst: 2, Rate: billion, Per: 1}, {Burst: 100, Rate: 0, Per: billion}}
}

// badLimits are not valid, each for one reason.
func badLimits() []api.Limit {
	return []api.Limit{{}, {Burst: 0, Rate: 1, Per: 1}, {Burst: -1, Rate: 1, Per: 1}, {Burst: billion + 1, Rate: 1, Per: 1}, {Burst: 1, Rate: -1, Per: 1}, {Burst: 1, Rate: billion + 1, Per: 1}, {Burst: 1, Rate: 1, Per: 0}, {Burst: 1, Rate: 1, Per: -1}, {Burst: 1, Rate: 1, Per: billion + 1}, {Burst: math.MaxInt64, Rate: math.MinInt64, Per: math.MaxInt64}}
}

// badBuckets are not valid, each for one reason.
func badBuckets() []api.Bucket {
	l := []api.Bucket{{}, {At: 3}, {Limit: small, Level: -1}, {Limit: small, Level: 6}, {Limit: small, Part: -1}, {Limit: small, Part: 3}, {Limit: small, Level: 5, Part: 1}, {Limit: small, Level: math.MinInt64}, {Limit: small, Level: math.MaxInt64}, {Limit: small, Part: math.MaxInt64}}
	for _, limit := range badLimits() {
		l = append(l, api.Bucket{Limit: limit}, full(limit, 3))
	}
	return l
}

func someBucket(m *rand.Rand) api.Bucket {
	l := pick(m, someLimits())
	if m.IntN(3) == 0 {
		return full(l, pick(m, farTicks()))
	}
	return api.Bucket{Limit: l, Level: m.Int64N(l.Burst), Part: m.Int64N(l.Per), At: pick(m, farTicks())}
}

// someKeys gives different keys, of which some have the same home.
func someKeys(m *rand.Rand, n int) (keys []uint32) {
	for len(keys) < n {
		// 1, 22 and 43 have the home 9; 8, 21 the home 15; 0 the home 0.
		key := pick(m, []uint32{m.Uint32(), m.Uint32N(60), pick(m, farKeys()), 1, 22, 43, 8, 21, 0})
		if !slices.Contains(keys, key) {
			keys = append(keys, key)
		}
	}
	return keys
}

// some gives a valid table with n keys: its places, lists, cells and buckets are mixed.
func some(m *rand.Rand, capacity, n int) api.Table {
	places, keys := m.Perm(capacity), someKeys(m, n+4)
	p := plain{capacity: capacity, free: places[n:], index: make([]api.Cell, cells)}
	for _, i := range m.Perm(n + 4) {
		place := 15
		if i < n {
			place = places[i]
		}
		p.index = with(p.index, keys[i], place)
	}
	// Other keys were there before, so that the cells are not those of keys that were only put.
	for _, key := range keys[n:] {
		p.index = without(p.index, key)
	}
	for i, place := range places[:n] {
		p.used = append(p.used, held{keys[i], place, someBucket(m)})
	}
	return tableOf(p)
}

// each goes over some tables of each capacity with each number of keys.
func each(m *rand.Rand, times int, do func(x api.Table)) {
	for capacity := 1; capacity <= most; capacity++ {
		for n := range capacity + 1 {
			for range times {
				do(some(m, capacity, n))
			}
		}
	}
}

func TestNumbersAreThoseOfTheChapter(t *testing.T) {
	if api.OK != 0 || api.ErrArg != 2 || api.ErrNone != 6 || api.ErrBad != 8 || api.MaxCap != most {
		t.Error(api.OK, api.ErrArg, api.ErrNone, api.ErrBad, api.MaxCap)
	}
}

// The chapter's example, sentence by sentence.
func TestExample(t *testing.T) {
	x := use(t, made(t, 2), 5, 7, 5)
	keysAre(t, x, []uint32{5, 7}, api.OK)
	x, gone, evicted, e := table.Use(x, 9, small, 4)
	if gone != 7 || !evicted || e != api.OK {
		t.Fatal(gone, evicted, e)
	}
	keysAre(t, x, []uint32{9, 5}, api.OK)
	b := api.Bucket{Limit: small, Level: 1, Part: 2, At: 6}
	x = set(t, x, 5, b)
	getIs(t, x, 5, b, api.OK)
	keysAre(t, x, []uint32{9, 5}, api.OK)
}

func TestP16_1_New(t *testing.T) {
	index := make([]api.Cell, 16)
	newIs(t, 1, api.Table{
		Cap: 1, Keys: []uint32{0}, Buckets: make([]api.Bucket, 1), Index: index,
		Arena: api.Arena{Next: []int{-1}, Used: []bool{false}},
		Order: api.Order{Prev: []int{-1}, Next: []int{-1}, Head: -1, Tail: -1},
	}, api.OK)
	newIs(t, 3, api.Table{
		Cap: 3, Keys: []uint32{0, 0, 0}, Buckets: make([]api.Bucket, 3), Index: index,
		Arena: api.Arena{Next: []int{1, 2, -1}, Used: []bool{false, false, false}},
		Order: api.Order{Prev: []int{-1, -1, -1}, Next: []int{-1, -1, -1}, Head: -1, Tail: -1},
	}, api.OK)
	for capacity := -20; capacity <= 40; capacity++ {
		want, e := wantNew(capacity)
		newIs(t, capacity, want, e)
		if (e == api.OK) != (capacity >= 1 && capacity <= 8) {
			t.Fatal(capacity, e)
		}
		if e == api.OK {
			isAsTold(t, want)
			keysAre(t, want, nil, api.OK)
		}
	}
	for _, capacity := range farNumbers() {
		newIs(t, capacity, api.Table{}, api.ErrArg)
	}
}

func TestP16_1_ValidTables(t *testing.T) {
	m := mixed()
	each(m, 12, func(x api.Table) {
		if _, valid := plainOf(x); !valid {
			t.Fatalf("%v should be valid", x)
		}
		checkIs(t, x, api.OK)
		isAsTold(t, x)
	})
}

// three is a table of the capacity 4 with the keys 22, 0 and 1 in the places 3, 0 and 2, the cells 10, 0 and 9.
func three() api.Table {
	index := make([]api.Cell, 16)
	index[0], index[9], index[10] = api.Cell{Place: 0, Used: true}, api.Cell{Key: 1, Place: 2, Used: true}, api.Cell{Key: 22, Place: 3, Used: true}
	return api.Table{
		Cap: 4, Keys: []uint32{0, 0, 1, 22}, Index: index,
		Buckets: []api.Bucket{{Limit: small, Level: 5, At: 4}, {}, {Limit: small, Level: 2, Part: 1, At: 7}, {Limit: api.Limit{Burst: 1, Per: 1}}},
		Arena:   api.Arena{Next: []int{-1, -1, -1, -1}, Used: []bool{true, false, true, true}, Free: 1},
		Order:   api.Order{Prev: []int{3, -1, 0, -1}, Next: []int{2, -1, -1, 0}, Head: 3, Tail: 2},
	}
}

// One that is not valid for each reason that the chapter names.
func TestP16_1_ReasonsWhyATableIsBad(t *testing.T) {
	checkIs(t, three(), api.OK)
	keysAre(t, three(), []uint32{22, 0, 1}, api.OK)
	for _, c := range []struct {
		why    string
		change func(x *api.Table)
	}{
		{"Cap is less", func(x *api.Table) { x.Cap = 3 }},
		{"Cap is more", func(x *api.Table) { x.Cap = 5 }},
		{"Cap is 0", func(x *api.Table) { x.Cap = 0 }},
		{"Cap is below 0", func(x *api.Table) { x.Cap = -4 }},
		{"Keys has one less", func(x *api.Table) { x.Keys = []uint32{0, 0, 1} }},
		{"Keys has one more", func(x *api.Table) { x.Keys = append(x.Keys, 0) }},
		{"Keys has none", func(x *api.Table) { x.Keys = nil }},
		{"Buckets has one less", func(x *api.Table) { x.Buckets = x.Buckets[:3] }},
		{"Buckets has one more", func(x *api.Table) { x.Buckets = append(x.Buckets, api.Bucket{}) }},
		{"Buckets has none", func(x *api.Table) { x.Buckets = nil }},
		{"Arena has one place more, a free one", func(x *api.Table) {
			x.Arena = api.Arena{Next: []int{-1, 4, -1, -1, -1}, Used: append(x.Arena.Used, false), Free: 1}
		}},
		{"Arena has one place less", func(x *api.Table) {
			x.Arena = api.Arena{Next: []int{-1, -1, -1}, Used: []bool{true, false, true}, Free: 1}
		}},
		{"Arena is not valid: its free place is not in the list", func(x *api.Table) { x.Arena.Free = -1 }},
		{"Arena is not valid: its free place is used", func(x *api.Table) { x.Arena.Free = 0 }},
		{"Arena is not valid: a used place has another one behind it", func(x *api.Table) { x.Arena.Next[0] = 1 }},
		{"Arena is not valid: Used has one more", func(x *api.Table) { x.Arena.Used = append(x.Arena.Used, false) }},
		{"Arena is not valid: Used has one less", func(x *api.Table) { x.Arena.Used = x.Arena.Used[:3] }},
		{"Order has one place more", func(x *api.Table) {
			x.Order.Prev, x.Order.Next = append(x.Order.Prev, -1), append(x.Order.Next, -1)
		}},
		{"Order has one place less", func(x *api.Table) {
			x.Order = api.Order{Prev: []int{-1, -1, 0}, Next: []int{2, -1, -1}, Head: 0, Tail: 2}
		}},
		{"Order is not valid: Next has one more", func(x *api.Table) { x.Order.Next = append(x.Order.Next, -1) }},
		{"Order is not valid: its last place is another one", func(x *api.Table) { x.Order.Tail = 0 }},
		{"Order is not valid: what is before a place is not", func(x *api.Table) { x.Order.Prev[2] = 3 }},
		{"Order has a place less in its list", func(x *api.Table) {
			x.Order = api.Order{Prev: []int{3, -1, -1, -1}, Next: []int{-1, -1, -1, 0}, Head: 3, Tail: 0}
		}},
		{"Order has a free place in its list", func(x *api.Table) {
			x.Order = api.Order{Prev: []int{3, 2, 0, -1}, Next: []int{2, -1, 1, 0}, Head: 3, Tail: 1}
		}},
		{"Order has a free place for a used one", func(x *api.Table) {
			x.Order = api.Order{Prev: []int{3, 0, -1, -1}, Next: []int{1, -1, -1, 0}, Head: 3, Tail: 1}
		}},
		{"Index has one cell less", func(x *api.Table) { x.Index = x.Index[:15] }},
		{"Index has one cell more", func(x *api.Table) { x.Index = append(x.Index, api.Cell{}) }},
		{"Index has no cells", func(x *api.Table) { x.Index = nil }},
		{"Index is not valid: a cell that is not used has a key", func(x *api.Table) { x.Index[5].Key = 3 }},
		{"Index is not valid: a key is not found", func(x *api.Table) { x.Index[10], x.Index[11] = x.Index[11], x.Index[10] }},
		{"Index does not have a used place", func(x *api.Table) { x.Index[10] = api.Cell{} }},
		{"Index has the free place, too", func(x *api.Table) { x.Index[3] = api.Cell{Key: 2, Place: 1, Used: true} }},
		{"Index has the free place, with a key that is there", func(x *api.Table) { x.Index[10].Place = 1 }},
		{"Index has the free place for a used one", func(x *api.Table) {
			x.Index[10] = api.Cell{}
			x.Index[3] = api.Cell{Key: 2, Place: 1, Used: true}
		}},
		{"Index has a used place twice", func(x *api.Table) { x.Index[3] = api.Cell{Key: 2, Place: 3, Used: true} }},
		{"Index has two places that are exchanged", func(x *api.Table) { x.Index[9].Place, x.Index[10].Place = 3, 2 }},
		{"Index has a place that the table does not have", func(x *api.Table) { x.Index[3] = api.Cell{Key: 2, Place: 4, Used: true} }},
		{"Index has such a place for a used one", func(x *api.Table) { x.Index[10].Place = 15 }},
		{"Index has another key for a place", func(x *api.Table) { x.Index[10].Key = 43 }},
		{"Keys has another key for a place", func(x *api.Table) { x.Keys[3] = 43 }},
		{"Keys has the key of another place", func(x *api.Table) { x.Keys[3] = 1 }},
		{"Keys has two keys that are exchanged", func(x *api.Table) { x.Keys[2], x.Keys[3] = 22, 1 }},
		{"Keys has a key for the free place", func(x *api.Table) { x.Keys[1] = 7 }},
		{"Keys has the key of another place for the free place", func(x *api.Table) { x.Keys[1] = 22 }},
		{"Buckets has one for the free place", func(x *api.Table) { x.Buckets[1] = full(small, 0) }},
		{"Buckets has a tick for the free place", func(x *api.Table) { x.Buckets[1].At = 1 }},
		{"Buckets has a limit for the free place", func(x *api.Table) { x.Buckets[1].Limit.Rate = 1 }},
		{"a bucket is not there", func(x *api.Table) { x.Buckets[3] = api.Bucket{} }},
		{"a bucket is too full", func(x *api.Table) { x.Buckets[0].Level = 6 }},
		{"the bucket of the key 0 is not valid", func(x *api.Table) { x.Buckets[0].Part = 1 }},
		{"a used place is said to be free", func(x *api.Table) {
			x.Arena = api.Arena{Next: []int{-1, 3, -1, -1}, Used: []bool{true, false, true, false}, Free: 1}
		}},
		{"a free place is said to be used", func(x *api.Table) {
			x.Arena = api.Arena{Next: []int{-1, -1, -1, -1}, Used: []bool{true, true, true, true}, Free: -1}
		}},
	} {
		t.Run(c.why, func(t *testing.T) {
			x := three()
			c.change(&x)
			if _, valid := plainOf(x); valid {
				t.Fatal("the test says that it is valid")
			}
			isBad(t, x)
		})
	}
}

// Tables beside those that are not valid.
func TestP16_1_WhatIsNoReason(t *testing.T) {
	for _, change := range []func(x *api.Table){
		func(x *api.Table) { x.Keys[3], x.Index[10].Key = 43, 43 },
		func(x *api.Table) { x.Buckets[0].Level, x.Buckets[0].Part = 4, 2 },
		func(x *api.Table) { x.Buckets[2] = full(api.Limit{Burst: billion, Per: billion}, maxTick) },
		func(x *api.Table) {
			x.Keys[2], x.Keys[3], x.Index[9].Place, x.Index[10].Place = 22, 1, 3, 2
		},
		func(x *api.Table) { x.Index[9], x.Index[10] = x.Index[10], x.Index[9] },
		func(x *api.Table) {
			x.Order = api.Order{Prev: []int{-1, -1, 3, 0}, Next: []int{3, -1, -1, 2}, Head: 0, Tail: 2}
		},
	} {
		x := three()
		change(&x)
		checkIs(t, x, api.OK)
		isAsTold(t, x)
	}
}

func keysWithin(x api.Table) []uint32 { return append(slices.Clone(x.Keys), 0, 1, 22, 1<<32-1) }

func placesWithin(x api.Table) []int {
	return []int{-2, -1, 0, 1, x.Cap - 1, x.Cap, 7, 8, 15, 16, math.MaxInt}
}

// changesOfOne gives all tables in which one number of a table is another one.
func changesOfOne(x api.Table) (l []api.Table) {
	change := func(do func(y *api.Table)) {
		y := copied(x)
		do(&y)
		l = append(l, y)
	}
	for i := range x.Cap {
		for _, key := range keysWithin(x) {
			change(func(y *api.Table) { y.Keys[i] = key })
		}
		for _, place := range placesWithin(x) {
			change(func(y *api.Table) { y.Arena.Next[i] = place })
			change(func(y *api.Table) { y.Order.Next[i] = place })
			change(func(y *api.Table) { y.Order.Prev[i] = place })
		}
		change(func(y *api.Table) { y.Arena.Used[i] = !y.Arena.Used[i] })
		change(func(y *api.Table) { y.Buckets[i] = api.Bucket{} })
		change(func(y *api.Table) { y.Buckets[i] = full(small, 9) })
		change(func(y *api.Table) { y.Buckets[i].Level++ })
		change(func(y *api.Table) { y.Buckets[i].Part = -1 })
		change(func(y *api.Table) { y.Buckets[i].Limit.Per = 0 })
		change(func(y *api.Table) { y.Buckets[i].At ^= 1 })
	}
	for _, place := range placesWithin(x) {
		change(func(y *api.Table) { y.Arena.Free = place })
		change(func(y *api.Table) { y.Order.Head = place })
		change(func(y *api.Table) { y.Order.Tail = place })
		change(func(y *api.Table) { y.Cap = place })
	}
	for i := range cells {
		for _, key := range keysWithin(x) {
			change(func(y *api.Table) { y.Index[i].Key = key })
		}
		for _, place := range placesWithin(x) {
			change(func(y *api.Table) { y.Index[i].Place = place })
			change(func(y *api.Table) { y.Index[i] = api.Cell{Key: 77, Place: place, Used: true} })
		}
		change(func(y *api.Table) { y.Index[i].Used = !y.Index[i].Used })
		change(func(y *api.Table) { y.Index[i] = api.Cell{} })
		change(func(y *api.Table) { y.Index[i], y.Index[(i+1)%cells] = y.Index[(i+1)%cells], y.Index[i] })
	}
	return l
}

func TestP16_1_OneNumberIsAnother(t *testing.T) {
	m, found := mixed(), map[api.Errno]int{}
	each(m, 2, func(x api.Table) {
		for _, y := range changesOfOne(x) {
			e := wantCheck(y)
			checkIs(t, y, e)
			found[e]++
		}
	})
	if found[api.OK] < 1000 || found[api.ErrBad] < 10000 {
		t.Error(found)
	}
}

// A place is in two parts of three, or in one of them, whatever the other two say.
func TestP16_1_PlacesInSomeParts(t *testing.T) {
	for where := range 1 << 5 {
		p := plain{capacity: 2, free: []int{1, 0}, index: make([]api.Cell, cells)}
		x := tableOf(p)
		if where&1 != 0 {
			x.Arena = api.Arena{Next: []int{-1, -1}, Used: []bool{false, true}}
		}
		if where&2 != 0 {
			x.Order = api.Order{Prev: []int{-1, -1}, Next: []int{-1, -1}, Head: 1, Tail: 1}
		}
		if where&4 != 0 {
			x.Index = with(x.Index, 8, 1)
		}
		if where&8 != 0 {
			x.Keys[1] = 8
		}
		if where&16 != 0 {
			x.Buckets[1] = full(small, 2)
		}
		if where == 0 || where == 31 {
			checkIs(t, x, api.OK)
		} else {
			isBad(t, x)
		}
	}
}

// The key 0 is one like any other: without a cell, a used place does not have it.
func TestP16_1_TheKeyZero(t *testing.T) {
	x := use(t, made(t, 2), 0)
	keysAre(t, x, []uint32{0}, api.OK)
	checkIs(t, x, api.OK)
	for i := range x.Index {
		x.Index[i] = api.Cell{}
	}
	isBad(t, x)
	x.Index = with(x.Index, 8, 0)
	isBad(t, x)
	x.Keys[0] = 8
	checkIs(t, x, api.OK)
}

func TestP16_1_Capacities(t *testing.T) {
	m := mixed()
	for capacity := 1; capacity <= most; capacity++ {
		for _, n := range append(farNumbers(), -1, 0, capacity-1, capacity+1, capacity+256) {
			x := some(m, capacity, capacity)
			x.Cap = n
			isBad(t, x)
		}
	}
	// All parts of one with 9 places agree with each other.
	p := plain{capacity: 9, free: []int{0, 1, 2, 3, 4, 5, 6, 7, 8}, index: make([]api.Cell, cells)}
	isBad(t, tableOf(p))
	for i := range 9 {
		p.free = p.free[1:]
		p.used = append(p.used, held{uint32(i), i, full(small, 0)})
		p.index = with(p.index, uint32(i), i)
		isBad(t, tableOf(p))
	}
	isBad(t, tableOf(plain{capacity: 0, index: make([]api.Cell, cells)}))
}

func TestP16_1_Keys(t *testing.T) {
	keysAre(t, made(t, 8), nil, api.OK)
	keysAre(t, use(t, made(t, 8), 4), []uint32{4}, api.OK)
	keysAre(t, use(t, made(t, 8), 4, 1<<32-1, 0), []uint32{0, 1<<32 - 1, 4}, api.OK)
	keysAre(t, use(t, made(t, 8), 8, 7, 6, 5, 4, 3, 2, 1), []uint32{1, 2, 3, 4, 5, 6, 7, 8}, api.OK)
	m := mixed()
	for n := range most + 1 {
		for range 40 {
			keys := someKeys(m, n)
			x := use(t, made(t, most), keys...)
			slices.Reverse(keys)
			keysAre(t, x, keys, api.OK)
		}
	}
}

func TestP16_2_Get(t *testing.T) {
	x := three()
	getIs(t, x, 0, api.Bucket{Limit: small, Level: 5, At: 4}, api.OK)
	getIs(t, x, 1, api.Bucket{Limit: small, Level: 2, Part: 1, At: 7}, api.OK)
	getIs(t, x, 22, api.Bucket{Limit: api.Limit{Burst: 1, Per: 1}}, api.OK)
	for _, key := range []uint32{2, 3, 43, 8, 1<<32 - 1, 256, 65536, 65537, 1 << 31, 1<<31 + 1} {
		getIs(t, x, key, api.Bucket{}, api.ErrNone)
	}
	// The key 0 is not there though places that are not used have it.
	getIs(t, drop(t, x, 0), 0, api.Bucket{}, api.ErrNone)
	getIs(t, made(t, 3), 0, api.Bucket{}, api.ErrNone)
}

func TestP16_2_Set(t *testing.T) {
	for _, key := range []uint32{0, 1, 22} {
		for _, b := range []api.Bucket{{Limit: small}, {Limit: small, Level: 4, Part: 2, At: maxTick}, full(api.Limit{Burst: billion, Rate: billion, Per: billion}, 0), full(api.Limit{Burst: 1, Per: 1}, 1)} {
			want := three()
			want.Buckets[slices.Index([]uint32{0, 99, 1, 22}, key)] = b
			setIs(t, three(), key, b, want, api.OK)
			getIs(t, want, key, b, api.OK)
		}
	}
	for _, key := range []uint32{2, 43, 1 << 31, 1<<32 - 1} {
		setIs(t, three(), key, full(small, 3), api.Table{}, api.ErrNone)
	}
	setIs(t, made(t, 2), 0, full(small, 3), api.Table{}, api.ErrNone)
}

// A bucket that is not valid is that before the key is not there; and a table that is not valid before both.
func TestP16_2_OrderOfErrors(t *testing.T) {
	for _, b := range badBuckets() {
		for _, key := range []uint32{0, 1, 22, 2, 43} {
			setIs(t, three(), key, b, api.Table{}, api.ErrBad)
		}
		setIs(t, made(t, 1), 0, b, api.Table{}, api.ErrBad)
		setIs(t, api.Table{}, 0, b, api.Table{}, api.ErrBad)
	}
	for _, key := range []uint32{0, 1, 22, 2, 43} {
		x := three()
		x.Buckets[2] = api.Bucket{}
		setIs(t, x, key, full(small, 0), api.Table{}, api.ErrBad)
		getIs(t, x, key, api.Bucket{}, api.ErrBad)
		dropIs(t, x, key, api.Table{}, api.ErrBad)
	}
}

func TestP16_2_Drop(t *testing.T) {
	// The last key of the list, which has the cell before another one: that is moved back.
	want := three()
	want.Keys[2], want.Buckets[2] = 0, api.Bucket{}
	want.Arena = api.Arena{Next: []int{-1, -1, 1, -1}, Used: []bool{true, false, false, true}, Free: 2}
	want.Index[9], want.Index[10] = api.Cell{Key: 22, Place: 3, Used: true}, api.Cell{}
	want.Order = api.Order{Prev: []int{3, -1, -1, -1}, Next: []int{-1, -1, -1, 0}, Head: 3, Tail: 0}
	dropIs(t, three(), 1, want, api.OK)
	// The first one.
	want = three()
	want.Keys[3], want.Buckets[3] = 0, api.Bucket{}
	want.Arena = api.Arena{Next: []int{-1, -1, -1, 1}, Used: []bool{true, false, true, false}, Free: 3}
	want.Index[10] = api.Cell{}
	want.Order = api.Order{Prev: []int{-1, -1, 0, -1}, Next: []int{2, -1, -1, -1}, Head: 0, Tail: 2}
	dropIs(t, three(), 22, want, api.OK)
	// The one between.
	want = three()
	want.Buckets[0] = api.Bucket{}
	want.Arena = api.Arena{Next: []int{1, -1, -1, -1}, Used: []bool{false, false, true, true}, Free: 0}
	want.Index[0] = api.Cell{}
	want.Order = api.Order{Prev: []int{-1, -1, 3, -1}, Next: []int{-1, -1, -1, 2}, Head: 3, Tail: 2}
	dropIs(t, three(), 0, want, api.OK)
	dropIs(t, want, 0, api.Table{}, api.ErrNone)
	for _, key := range []uint32{2, 43, 1 << 31, 1<<32 - 1} {
		dropIs(t, three(), key, api.Table{}, api.ErrNone)
	}
	dropIs(t, made(t, 8), 0, api.Table{}, api.ErrNone)
}

func TestP16_2_ManyTables(t *testing.T) {
	m := mixed()
	each(m, 15, func(x api.Table) {
		for _, key := range append(slices.Clone(x.Keys), someKeys(m, 3)...) {
			b, e := wantGet(x, key)
			getIs(t, x, key, b, e)
			setIsAsTold(t, x, key, someBucket(m))
			setIsAsTold(t, x, key, pick(m, badBuckets()))
			after, e := wantDrop(x, key)
			dropIs(t, x, key, after, e)
		}
	})
}

// A new key is put into the first free place, with a full bucket for the limit at the tick.
func TestP16_3_UseOfNewKeys(t *testing.T) {
	index := make([]api.Cell, 16)
	index[9] = api.Cell{Key: 1, Place: 0, Used: true}
	one := api.Table{
		Cap: 2, Keys: []uint32{1, 0}, Buckets: []api.Bucket{{Limit: small, Level: 5, At: 9}, {}}, Index: slices.Clone(index),
		Arena: api.Arena{Next: []int{-1, -1}, Used: []bool{true, false}, Free: 1},
		Order: api.Order{Prev: []int{-1, -1}, Next: []int{-1, -1}, Head: 0, Tail: 0},
	}
	useIs(t, made(t, 2), 1, small, 9, used{u: one})
	index[10] = api.Cell{Key: 22, Place: 1, Used: true}
	two := api.Table{
		Cap: 2, Keys: []uint32{1, 22}, Index: slices.Clone(index),
		Buckets: []api.Bucket{{Limit: small, Level: 5, At: 9}, {Limit: api.Limit{Burst: 7, Rate: 0, Per: 2}, Level: 7, At: 4}},
		Arena:   api.Arena{Next: []int{-1, -1}, Used: []bool{true, true}, Free: -1},
		Order:   api.Order{Prev: []int{1, -1}, Next: []int{-1, 0}, Head: 1, Tail: 0},
	}
	useIs(t, one, 22, api.Limit{Burst: 7, Rate: 0, Per: 2}, 4, used{u: two})
	// The key 1 goes, so that 22 is moved back, and the place of 1 is taken.
	index[9], index[10] = api.Cell{Key: 22, Place: 1, Used: true}, api.Cell{Key: 43, Place: 0, Used: true}
	three := api.Table{
		Cap: 2, Keys: []uint32{43, 22}, Index: index,
		Buckets: []api.Bucket{{Limit: small, Level: 5, At: maxTick}, {Limit: api.Limit{Burst: 7, Rate: 0, Per: 2}, Level: 7, At: 4}},
		Arena:   api.Arena{Next: []int{-1, -1}, Used: []bool{true, true}, Free: -1},
		Order:   api.Order{Prev: []int{-1, 0}, Next: []int{1, -1}, Head: 0, Tail: 1},
	}
	useIs(t, two, 43, small, maxTick, used{u: three, gone: 1, evicted: true})
}

// A key that is there is only touched: its bucket is what it was, whatever limit and tick come.
func TestP16_3_UseOfKeysThatAreThere(t *testing.T) {
	for _, l := range someLimits() {
		for _, tick := range farTicks() {
			useIs(t, three(), 22, l, tick, used{u: three()})
			want := three()
			want.Order = api.Order{Prev: []int{-1, -1, 3, 0}, Next: []int{3, -1, -1, 2}, Head: 0, Tail: 2}
			useIs(t, three(), 0, l, tick, used{u: want})
			want.Order = api.Order{Prev: []int{3, -1, -1, 2}, Next: []int{-1, -1, 3, 0}, Head: 2, Tail: 0}
			useIs(t, three(), 1, l, tick, used{u: want})
		}
	}
}

// In a table with one place each other key evicts the one that is there.
func TestP16_3_OnePlace(t *testing.T) {
	x := made(t, 1)
	last := uint32(0)
	for i, key := range []uint32{0, 0, 5, 5, 0, 7, 1<<32 - 1, 1<<32 - 1, 0} {
		want := used{u: wantUse(x, key, small, uint64(i)).u}
		if i > 0 && key != last {
			want.gone, want.evicted = last, true
		}
		useIs(t, x, key, small, uint64(i), want)
		x, last = want.u, key
		keysAre(t, x, []uint32{key}, api.OK)
	}
}

// That the key 0 was evicted is told beside the key.
func TestP16_3_TheKeyZeroIsEvicted(t *testing.T) {
	for capacity := 1; capacity <= most; capacity++ {
		x := made(t, capacity)
		for key := range uint32(capacity) {
			want := wantUse(x, key, small, 3)
			if want.evicted || want.gone != 0 {
				t.Fatal(want)
			}
			useIs(t, x, key, small, 3, want)
			x = want.u
		}
		_, gone, evicted, e := table.Use(x, 100, small, 3)
		if gone != 0 || !evicted || e != api.OK {
			t.Fatal(capacity, gone, evicted, e)
		}
		getIs(t, use(t, x, 100), 0, api.Bucket{}, api.ErrNone)
	}
}

func TestP16_3_BadLimits(t *testing.T) {
	for _, l := range badLimits() {
		for _, tick := range farTicks() {
			for _, key := range []uint32{0, 1, 22, 2, 43} {
				useIs(t, three(), key, l, tick, used{e: api.ErrBad})
				useIs(t, use(t, three(), 77), key, l, tick, used{e: api.ErrBad})
				useIs(t, made(t, 1), key, l, tick, used{e: api.ErrBad})
				useIs(t, api.Table{}, key, l, tick, used{e: api.ErrBad})
			}
			for _, x := range []api.Table{three(), made(t, 1), {}} {
				limitsIs(t, x, l, tick, api.Table{}, api.ErrBad)
			}
		}
	}
}

func TestP16_3_Limits(t *testing.T) {
	x := three()
	want := three()
	l := api.Limit{Burst: 4, Rate: 1, Per: 1}
	want.Buckets[0] = api.Bucket{Limit: l, Level: 4, At: 9}
	want.Buckets[2] = api.Bucket{Limit: l, Level: 3, At: 9}
	want.Buckets[3] = api.Bucket{Limit: l, At: 9}
	limitsIs(t, x, l, 9, want, api.OK)
	// At a tick before its own one a bucket only has another limit.
	want.Buckets[0].At, want.Buckets[2], want.Buckets[3].At = 5, api.Bucket{Limit: l, Level: 2, At: 7}, 5
	limitsIs(t, x, l, 5, want, api.OK)
	// The limit that they have: what they hold of another token goes.
	for i := range want.Buckets {
		if i != 1 {
			want.Buckets[i] = changed(x.Buckets[i], small, 8)
		}
	}
	if want.Buckets[2] != (api.Bucket{Limit: small, Level: 3, At: 8}) {
		t.Fatal(want.Buckets[2])
	}
	limitsIs(t, x, small, 8, want, api.OK)
	for capacity := 1; capacity <= most; capacity++ {
		limitsIs(t, made(t, capacity), l, 9, made(t, capacity), api.OK)
	}
}

func TestP16_3_ManyTables(t *testing.T) {
	m := mixed()
	evicted := 0
	each(m, 15, func(x api.Table) {
		for _, key := range append(slices.Clone(x.Keys), someKeys(m, 4)...) {
			l, tick := pick(m, someLimits()), pick(m, farTicks())
			want := wantUse(x, key, l, tick)
			useIs(t, x, key, l, tick, want)
			useIsAsTold(t, x, key, pick(m, badLimits()), tick)
			limitsAsTold(t, x, l, tick)
			if want.evicted {
				evicted++
			}
		}
	})
	if evicted < 300 {
		t.Error(evicted)
	}
}

// All short rows of uses of few keys, against a list of them.
func TestP16_4_AllShortRowsOfUses(t *testing.T) {
	keys := []uint32{1, 22, 0, 43}
	for capacity := 1; capacity <= 4; capacity++ {
		all := 1
		for length := range 7 {
			for number := range all {
				x, list := made(t, capacity), []uint32(nil)
				for range length {
					x, list = useAndCut(t, x, list, keys[number%4])
					number /= 4
				}
			}
			all *= 4
		}
	}
}

// useAndCut uses a key, and gives the table and the list of its keys, in which the one used goes to the front, and of which the last one is cut off.
func useAndCut(t *testing.T, x api.Table, list []uint32, key uint32) (api.Table, []uint32) {
	t.Helper()
	there := slices.Contains(list, key)
	list = append([]uint32{key}, slices.DeleteFunc(slices.Clone(list), func(k uint32) bool { return k == key })...)
	wantGone, wantEvicted := uint32(0), len(list) > x.Cap
	if wantEvicted {
		wantGone, list = list[x.Cap], list[:x.Cap]
	}
	u, gone, evicted, e := table.Use(x, key, small, 3)
	if gone != wantGone || evicted != wantEvicted || e != api.OK || there && evicted {
		t.Fatalf("Use(%v, %d): %d, %t, %d, not %d, %t", x, key, gone, evicted, e, wantGone, wantEvicted)
	}
	keysAre(t, u, list, api.OK)
	return u, list
}

// Long runs of all that can be done, against a plain list of keys with buckets.
func TestP16_4_LongRuns(t *testing.T) {
	m := mixed()
	for capacity := 1; capacity <= most; capacity++ {
		for range 4 {
			longRun(t, m, made(t, capacity), someKeys(m, capacity+1+m.IntN(6)))
		}
	}
}

// one is a key with its bucket in a plain list.
type one struct {
	key    uint32
	bucket api.Bucket
}

func longRun(t *testing.T, m *rand.Rand, x api.Table, keys []uint32) {
	t.Helper()
	var list []one
	for range 250 {
		key := pick(m, keys)
		i := slices.IndexFunc(list, func(o one) bool { return o.key == key })
		l, tick, b := pick(m, someLimits()), pick(m, farTicks()), someBucket(m)
		var u api.Table
		var e api.Errno
		switch n := m.IntN(10); {
		case n < 5:
			u, _, _, e = table.Use(x, key, l, tick)
			used := one{key, full(l, tick)}
			if i >= 0 {
				used = list[i]
				list = slices.Delete(list, i, i+1)
			}
			list = slices.Insert(list, 0, used)
			list = list[:min(len(list), x.Cap)]
		case i < 0:
			dropIs(t, x, key, api.Table{}, api.ErrNone)
			setIs(t, x, key, b, api.Table{}, api.ErrNone)
			continue
		case n < 7:
			u, e = table.Drop(x, key)
			list = slices.Delete(list, i, i+1)
		case n < 9:
			u, e = table.Set(x, key, b)
			list[i].bucket = b
		default:
			u, e = table.Limits(x, l, tick)
			for i := range list {
				list[i].bucket = changed(list[i].bucket, l, tick)
			}
		}
		if e != api.OK {
			t.Fatal(e)
		}
		x = u
		isThatList(t, x, list, keys)
	}
}

// isThatList tells that a table is valid, has these keys with their buckets in this order, and none of the others.
func isThatList(t *testing.T, x api.Table, list []one, keys []uint32) {
	t.Helper()
	checkIs(t, x, api.OK)
	var there []uint32
	for _, o := range list {
		there = append(there, o.key)
		getIs(t, x, o.key, o.bucket, api.OK)
	}
	keysAre(t, x, there, api.OK)
	if len(there) > x.Cap {
		t.Fatalf("%v has %d keys", x, len(there))
	}
	for _, key := range keys {
		if !slices.Contains(there, key) {
			getIs(t, x, key, api.Bucket{}, api.ErrNone)
		}
	}
}

// Getting, setting and changing keep the order; what was set is got, and nothing else is another one.
func TestP16_4_TheOrderIsKept(t *testing.T) {
	m := mixed()
	each(m, 10, func(x api.Table) {
		keys, _ := wantKeys(x)
		for _, key := range keys {
			b := someBucket(m)
			after := set(t, x, key, b)
			keysAre(t, after, keys, api.OK)
			for _, other := range keys {
				want, _ := wantGet(x, other)
				if other == key {
					want = b
				}
				getIs(t, after, other, want, api.OK)
			}
			keysAre(t, after, keys, api.OK)
		}
		u, e := table.Limits(x, pick(m, someLimits()), pick(m, farTicks()))
		if e != api.OK {
			t.Fatal(e)
		}
		keysAre(t, u, keys, api.OK)
	})
}

// A key that was dropped is new when it is used again, and one that was evicted, too.
func TestP16_4_KeysThatComeBack(t *testing.T) {
	m := mixed()
	each(m, 10, func(x api.Table) {
		keys, _ := wantKeys(x)
		for _, key := range keys {
			back := use(t, drop(t, x, key), key)
			getIs(t, back, key, full(small, 3), api.OK)
			for i := range x.Cap {
				back = use(t, back, uint32(1000+i))
			}
			getIs(t, back, key, api.Bucket{}, api.ErrNone)
			getIs(t, use(t, back, key), key, full(small, 3), api.OK)
		}
	})
}

// After all keys are dropped nothing is left, and as many as before can be used.
func TestP16_4_AllKeysAreDropped(t *testing.T) {
	m := mixed()
	for capacity := 1; capacity <= most; capacity++ {
		for range 10 {
			x := some(m, capacity, capacity)
			keys, _ := wantKeys(x)
			for _, i := range m.Perm(capacity) {
				x = drop(t, x, keys[i])
			}
			keysAre(t, x, nil, api.OK)
			if !slices.Equal(x.Keys, make([]uint32, capacity)) || !slices.Equal(x.Buckets, make([]api.Bucket, capacity)) || !slices.Equal(x.Index, make([]api.Cell, cells)) {
				t.Fatal(x)
			}
			x = use(t, x, keys...)
			slices.Reverse(keys)
			keysAre(t, x, keys, api.OK)
		}
	}
}

// spare gives a copy with room behind it, which has these values.
func spare[E any](l []E, behind ...E) []E { return slices.Concat(l, behind)[:len(l)] }

// whole gives a slice with all the room behind it.
func whole[E any](l []E) []E { return l[:cap(l)] }

func copied(x api.Table) api.Table {
	x.Keys, x.Buckets, x.Index = slices.Clone(x.Keys), slices.Clone(x.Buckets), slices.Clone(x.Index)
	x.Arena.Next, x.Arena.Used = slices.Clone(x.Arena.Next), slices.Clone(x.Arena.Used)
	x.Order.Prev, x.Order.Next = slices.Clone(x.Order.Prev), slices.Clone(x.Order.Next)
	return x
}

// spareTable gives a copy with so much room behind each part, which looks like parts of a table.
func spareTable(x api.Table, n int, key uint32, place int) api.Table {
	x.Keys = spare(x.Keys, slices.Repeat([]uint32{key}, n)...)
	x.Buckets = spare(x.Buckets, slices.Repeat([]api.Bucket{full(small, 5)}, n)...)
	x.Index = spare(x.Index, slices.Repeat([]api.Cell{{Key: key, Place: place, Used: true}}, n)...)
	x.Arena.Next, x.Arena.Used = spare(x.Arena.Next, slices.Repeat([]int{place}, n)...), spare(x.Arena.Used, slices.Repeat([]bool{true}, n)...)
	x.Order.Prev, x.Order.Next = spare(x.Order.Prev, slices.Repeat([]int{place}, n)...), spare(x.Order.Next, slices.Repeat([]int{place}, n)...)
	return x
}

// wholeTable gives a copy of all that a table has, with the room behind it.
func wholeTable(x api.Table) api.Table {
	x.Keys, x.Buckets, x.Index = whole(x.Keys), whole(x.Buckets), whole(x.Index)
	x.Arena.Next, x.Arena.Used = whole(x.Arena.Next), whole(x.Arena.Used)
	x.Order.Prev, x.Order.Next = whole(x.Order.Prev), whole(x.Order.Next)
	return copied(x)
}

// overwrites change all values of one part of a table each, with the room behind it.
func overwrites() []func(x api.Table) {
	return []func(x api.Table){
		func(x api.Table) { fill(x.Keys, 999) },
		func(x api.Table) { fill(x.Buckets, api.Bucket{Level: 999}) },
		func(x api.Table) { fill(x.Index, api.Cell{Key: 999, Place: 99}) },
		func(x api.Table) { fill(x.Arena.Next, 999) },
		func(x api.Table) {
			for i := range whole(x.Arena.Used) {
				whole(x.Arena.Used)[i] = !whole(x.Arena.Used)[i]
			}
		},
		func(x api.Table) { fill(x.Order.Prev, 999) },
		func(x api.Table) { fill(x.Order.Next, 998) },
	}
}

func fill[E any](l []E, value E) {
	for i := range whole(l) {
		whole(l)[i] = value
	}
}

func overwrite(x api.Table) {
	for _, do := range overwrites() {
		do(x)
	}
}

// tables are some that are valid, and some that are not.
func tables() []api.Table {
	m := mixed()
	l := []api.Table{{}, {Cap: 1}, three()}
	each(m, 1, func(x api.Table) {
		l = append(l, x)
		y := copied(x)
		y.Arena.Used[0] = !y.Arena.Used[0]
		l = append(l, y)
	})
	return l
}

// changes are calls that give a table: for keys that it has, and for others.
func changes(x api.Table) (l []func(x api.Table) (api.Table, api.Errno)) {
	for _, key := range append(slices.Clone(x.Keys), 0, 1<<32-1) {
		l = append(l,
			func(x api.Table) (api.Table, api.Errno) { return table.Drop(x, key) },
			func(x api.Table) (api.Table, api.Errno) { return table.Set(x, key, full(small, 8)) },
			func(x api.Table) (api.Table, api.Errno) { return table.Set(x, key, api.Bucket{}) },
			func(x api.Table) (api.Table, api.Errno) { u, _, _, e := table.Use(x, key, small, 8); return u, e },
			func(x api.Table) (api.Table, api.Errno) {
				u, _, _, e := table.Use(x, key, api.Limit{}, 8)
				return u, e
			})
	}
	return append(l,
		func(x api.Table) (api.Table, api.Errno) { return table.Limits(x, small, maxTick) },
		func(x api.Table) (api.Table, api.Errno) { return table.Limits(x, api.Limit{}, 0) })
}

// Neither a table nor the room behind its parts changes, whatever is asked.
func TestP1_ArgumentsAreOnlyRead(t *testing.T) {
	for _, x := range tables() {
		x = spareTable(x, 3, 77, -1)
		before := wholeTable(x)
		for i, change := range changes(x) {
			change(x)
			table.Check(x)
			table.Keys(x)
			table.Get(x, 0)
			if !equal(wholeTable(x), before) {
				t.Fatalf("%d: %v, not %v", i, wholeTable(x), before)
			}
		}
	}
}

// What stands in the room behind the parts is not of the table.
func TestP1_RoomBehindIsNothing(t *testing.T) {
	for _, x := range tables() {
		for _, place := range []int{-1, 0, 3, 99} {
			isAsTold(t, spareTable(x, 20, 5, place))
		}
	}
	// The first places of a larger table, with the rest of it behind them.
	x := use(t, made(t, 8), 1, 2, 3, 4, 5, 6, 7, 8)
	for n := range 8 {
		y := x
		y.Cap, y.Keys, y.Buckets = n, x.Keys[:n], x.Buckets[:n]
		y.Arena.Next, y.Arena.Used, y.Order.Prev, y.Order.Next = x.Arena.Next[:n], x.Arena.Used[:n], x.Order.Prev[:n], x.Order.Next[:n]
		isBad(t, y)
	}
}

// A result can be changed without changing the argument or another result, and the other way round; and nothing of it is kept.
func TestP1_ResultsShareNoMemory(t *testing.T) {
	for _, original := range tables() {
		for i, change := range changes(original) {
			x := spareTable(original, 3, 77, -1)
			before := wholeTable(x)
			first, e := change(x)
			want := copied(first)
			second, _ := change(x)
			overwrite(second)
			if !equal(first, want) || !equal(wholeTable(x), before) {
				t.Fatalf("%d: %v, not %v; %v, not %v", i, first, want, wholeTable(x), before)
			}
			overwrite(x)
			if !equal(first, want) {
				t.Fatalf("%d: %v, not %v", i, first, want)
			}
			if e == api.OK {
				partsShareNoMemory(t, first)
			}
			overwrite(first)
			if again, _ := change(original); !equal(again, want) {
				t.Fatalf("%d: %v, not %v", i, again, want)
			}
		}
	}
}

// partsShareNoMemory tells that no part of a table changes with another one.
func partsShareNoMemory(t *testing.T, x api.Table) {
	t.Helper()
	for i, do := range overwrites() {
		want := copied(x)
		do(want)
		y := copied(x)
		do(x)
		if !equal(x, want) {
			t.Fatalf("%d: %v, not %v", i, x, want)
		}
		// The part is put back.
		copy(x.Keys, y.Keys)
		copy(x.Buckets, y.Buckets)
		copy(x.Index, y.Index)
		copy(x.Arena.Next, y.Arena.Next)
		copy(x.Arena.Used, y.Arena.Used)
		copy(x.Order.Prev, y.Order.Prev)
		copy(x.Order.Next, y.Order.Next)
	}
}

func TestP1_KeysShareNoMemory(t *testing.T) {
	for _, original := range tables() {
		x := spareTable(original, 3, 77, -1)
		before := wholeTable(x)
		first, e := table.Keys(x)
		want := slices.Clone(first)
		second, _ := table.Keys(x)
		fill(second, 999)
		if !slices.Equal(first, want) || !equal(wholeTable(x), before) {
			t.Fatalf("%v, not %v; %v, not %v", first, want, wholeTable(x), before)
		}
		overwrite(x)
		if !slices.Equal(first, want) {
			t.Fatalf("%v, not %v", first, want)
		}
		fill(first, 999)
		keysAre(t, original, want, e)
	}
}

// Each table that is new is new, whatever was done with others, and its parts are apart.
func TestP1_NewIsNewEachTime(t *testing.T) {
	for capacity := 1; capacity <= most; capacity++ {
		want, _ := wantNew(capacity)
		first, second := made(t, capacity), made(t, capacity)
		partsShareNoMemory(t, first)
		overwrite(first)
		for _, x := range []api.Table{second, made(t, capacity)} {
			if !equal(x, want) {
				t.Fatal(x)
			}
		}
	}
}

// A table of which keys were used, set and dropped is what it was, and answers as before.
func TestP1_TablesAreValues(t *testing.T) {
	m := mixed()
	for capacity := 1; capacity <= most; capacity++ {
		x := some(m, capacity, m.IntN(capacity+1))
		steps := []api.Table{x}
		for range 40 {
			if next, e := pick(m, changes(x))(x); e == api.OK {
				x = next
				steps = append(steps, x)
			}
		}
		want := make([]api.Table, len(steps))
		for i, x := range steps {
			want[i] = copied(x)
			isAsTold(t, x)
		}
		for i, x := range steps {
			if !equal(x, want[i]) {
				t.Fatalf("%v, not %v", x, want[i])
			}
		}
	}
}

// Nil and empty slices are the same: a table without places is not valid.
func TestP1_NilAndEmpty(t *testing.T) {
	for capacity := -1; capacity <= 1; capacity++ {
		for _, end := range []int{-1, 0} {
			isBad(t, api.Table{Cap: capacity, Index: make([]api.Cell, cells), Arena: api.Arena{Free: end}, Order: api.Order{Head: end, Tail: end}})
			isBad(t, api.Table{
				Cap: capacity, Keys: []uint32{}, Buckets: []api.Bucket{}, Index: make([]api.Cell, cells),
				Arena: api.Arena{Next: []int{}, Used: []bool{}, Free: end},
				Order: api.Order{Prev: []int{}, Next: make([]int, 0, 3), Head: end, Tail: end},
			})
		}
	}
	for _, index := range [][]api.Cell{nil, {}, make([]api.Cell, 0, 16)} {
		x := made(t, 1)
		x.Index = index
		isBad(t, x)
	}
}

// anyTable gives a table that is often valid, and often just not.
func anyTable(m *rand.Rand) api.Table {
	capacity := 1 + m.IntN(most)
	x := some(m, capacity, m.IntN(capacity+1))
	number := func() int {
		return pick(m, []int{m.IntN(capacity), m.IntN(capacity), -1, capacity, pick(m, farNumbers()), int(m.Uint64())})
	}
	for range m.IntN(3) {
		i, c := m.IntN(capacity), m.IntN(cells)
		switch m.IntN(14) {
		case 0:
			x.Keys[i] = pick(m, []uint32{m.Uint32(), pick(m, farKeys()), pick(m, x.Keys)})
		case 1:
			x.Buckets[i] = pick(m, append(badBuckets(), someBucket(m), someBucket(m)))
		case 2:
			x.Arena.Next[i] = number()
		case 3:
			x.Arena.Used[i] = !x.Arena.Used[i]
		case 4:
			x.Arena.Free = number()
		case 5:
			x.Order.Prev[i] = number()
		case 6:
			x.Order.Next[i] = number()
		case 7:
			x.Order.Head = number()
		case 8:
			x.Order.Tail = number()
		case 9:
			x.Index[c].Place = number()
		case 10:
			x.Index[c].Key = pick(m, append(farKeys(), x.Keys...))
		case 11:
			x.Index[c].Used = !x.Index[c].Used
		case 12:
			x.Cap = number()
		case 13:
			return cutShort(m, x)
		}
	}
	return x
}

// cutShort gives a table of which one part is shorter, or longer.
func cutShort(m *rand.Rand, x api.Table) api.Table {
	n := m.IntN(len(x.Keys) + 1)
	switch m.IntN(7) {
	case 0:
		x.Keys = x.Keys[:n]
	case 1:
		x.Buckets = append(x.Buckets, make([]api.Bucket, n)...)
	case 2:
		x.Arena.Next = x.Arena.Next[:n]
	case 3:
		x.Arena.Used = x.Arena.Used[:n]
	case 4:
		x.Order.Prev, x.Order.Next = x.Order.Prev[:n], x.Order.Next[:n]
	case 5:
		x.Order.Next = append(x.Order.Next, slices.Repeat([]int{-1}, n)...)
	case 6:
		x.Index = x.Index[:n]
	}
	return x
}

// Any values at all are answered, the same ones each time, and an answer with an error has nothing else.
func TestP1_AllArgumentsAreAnswered(t *testing.T) {
	m := mixed()
	found := map[api.Errno]int{}
	for range 1500 {
		x := anyTable(m)
		found[wantCheck(x)]++
		number := func() int64 { return pick(m, []int64{0, 1, -1, 5, billion, billion + 1, int64(m.Uint64())}) }
		for range 2 {
			isAsTold(t, x)
			key, tick := pick(m, append(farKeys(), m.Uint32())), pick(m, append(farTicks(), m.Uint64()))
			l := api.Limit{Burst: number(), Rate: number(), Per: number()}
			useIsAsTold(t, x, key, l, tick)
			limitsAsTold(t, x, l, tick)
			for _, key := range append(slices.Clone(x.Keys), key) {
				setIsAsTold(t, x, key, api.Bucket{Limit: l, Level: number(), Part: number(), At: tick})
			}
		}
	}
	for _, e := range []api.Errno{api.OK, api.ErrBad} {
		if found[e] < 500 {
			t.Errorf("%d tables with the error %d", found[e], e)
		}
	}
}
