package probe_test

import (
	"math"
	"math/rand/v2"
	"slices"
	"testing"

	"spigot/api"
	"spigot/probe"
)

const (
	cells    = 16
	mostKeys = 12
	places   = 16
)

// mixed gives numbers that are mixed, the same ones in each test.
func mixed() *rand.Rand { return rand.New(rand.NewPCG(14, 105)) }

func pick[E any](m *rand.Rand, l []E) E { return l[m.IntN(len(l))] }

// farNumbers are no places, though some would be if they were cut to fewer bits.
func farNumbers() []int {
	return []int{math.MinInt, math.MinInt + 1, -1 << 40, -1 << 32, -65536, -256, -17, -16, -15, -1, 16, 17, 32, 64, 128, 255, 256, 257, 1 << 16, 1<<16 + 1, 1 << 31, 1<<32 - 1, 1 << 32, 1<<32 + 1, 1 << 40, math.MaxInt - 1, math.MaxInt}
}

// farKeys are at the ends of what keys can be.
func farKeys() []uint32 {
	return []uint32{0, 1, 2, 255, 256, 65535, 65536, 1<<31 - 1, 1 << 31, 1<<31 + 1, 1<<32 - 2, 1<<32 - 1}
}

// The definitions, put down once more.

func wantHome(key uint32) int {
	const modulus = 4294967296
	return int(uint64(key) * 2654435769 % modulus / 268435456)
}

// around gives the cells from one on, all 16.
func around(i int) (l []int) {
	for n := range cells {
		l = append(l, (i+n)%cells)
	}
	return l
}

// upTo gives the cells from one on, up to another one.
func upTo(from, to int) []int {
	l := around(from)
	return l[:slices.Index(l, to)+1]
}

func wantCheck(x []api.Cell) api.Errno {
	if len(x) != cells {
		return api.ErrBad
	}
	keys := map[uint32]bool{}
	for i, c := range x {
		if !c.Used {
			if c.Key != 0 || c.Place != 0 {
				return api.ErrBad
			}
			continue
		}
		if keys[c.Key] || c.Place < 0 || c.Place >= places {
			return api.ErrBad
		}
		keys[c.Key] = true
		for _, before := range upTo(wantHome(c.Key), i) {
			if !x[before].Used {
				return api.ErrBad
			}
		}
	}
	if len(keys) > mostKeys {
		return api.ErrBad
	}
	return api.OK
}

// cellOf gives the cell that has a key, wherever it is, or -1.
func cellOf(x []api.Cell, key uint32) int {
	return slices.IndexFunc(x, func(c api.Cell) bool { return c.Used && c.Key == key })
}

// firstEmpty gives the first cell from one on that is not used.
func firstEmpty(x []api.Cell, from int) int {
	for _, i := range around(from) {
		if !x[i].Used {
			return i
		}
	}
	return -1
}

func keysOf(x []api.Cell) (l []uint32) {
	for _, c := range x {
		if c.Used {
			l = append(l, c.Key)
		}
	}
	return l
}

func wantFind(x []api.Cell, key uint32) (int, api.Errno) {
	if wantCheck(x) != api.OK {
		return 0, api.ErrBad
	}
	i := cellOf(x, key)
	if i < 0 {
		return 0, api.ErrNone
	}
	return x[i].Place, api.OK
}

func wantSteps(x []api.Cell, key uint32) (int, api.Errno) {
	if wantCheck(x) != api.OK {
		return 0, api.ErrBad
	}
	home := wantHome(key)
	if i := cellOf(x, key); i >= 0 {
		return len(upTo(home, i)), api.OK
	}
	return len(upTo(home, firstEmpty(x, home))), api.OK
}

func wantPut(x []api.Cell, key uint32, place int) ([]api.Cell, api.Errno) {
	switch {
	case wantCheck(x) != api.OK:
		return nil, api.ErrBad
	case place < 0 || place >= places:
		return nil, api.ErrArg
	case cellOf(x, key) >= 0:
		return nil, api.ErrTwice
	case len(keysOf(x)) == mostKeys:
		return nil, api.ErrFull
	}
	return with(x, api.Cell{Key: key, Place: place, Used: true}), api.OK
}

// with gives an index with a cell more, which stands in the first cell from its home on that is not used.
func with(x []api.Cell, c api.Cell) []api.Cell {
	x = slices.Clone(x)
	x[firstEmpty(x, wantHome(c.Key))] = c
	return x
}

// wantDrop does not move anything back: all that stands behind the key is taken out, and put in again, in its order, which comes to the same.
func wantDrop(x []api.Cell, key uint32) ([]api.Cell, api.Errno) {
	if wantCheck(x) != api.OK {
		return nil, api.ErrBad
	}
	at := cellOf(x, key)
	if at < 0 {
		return nil, api.ErrNone
	}
	x = slices.Clone(x)
	var out []api.Cell
	for _, i := range upTo(at, firstEmpty(x, at)) {
		out, x[i] = append(out, x[i]), api.Cell{}
	}
	for _, c := range out[1:] {
		if c.Used {
			x = with(x, c)
		}
	}
	return x, api.OK
}

// What a function answers, held against the definitions.

func homeIs(t *testing.T, key uint32, want int) {
	t.Helper()
	if got := probe.Home(key); got != want {
		t.Fatalf("Home(%d) = %d, not %d", key, got, want)
	}
}

func checkIs(t *testing.T, x []api.Cell, want api.Errno) {
	t.Helper()
	if e := probe.Check(x); e != want {
		t.Fatalf("Check(%v) = %d, not %d", x, e, want)
	}
}

func findIs(t *testing.T, x []api.Cell, key uint32, want int, wantE api.Errno) {
	t.Helper()
	if got, e := probe.Find(x, key); got != want || e != wantE {
		t.Fatalf("Find(%v, %d) = %d, %d, not %d, %d", x, key, got, e, want, wantE)
	}
}

func stepsIs(t *testing.T, x []api.Cell, key uint32, want int, wantE api.Errno) {
	t.Helper()
	if got, e := probe.Steps(x, key); got != want || e != wantE {
		t.Fatalf("Steps(%v, %d) = %d, %d, not %d, %d", x, key, got, e, want, wantE)
	}
}

func putIs(t *testing.T, x []api.Cell, key uint32, place int, want []api.Cell, wantE api.Errno) {
	t.Helper()
	if got, e := probe.Put(x, key, place); !slices.Equal(got, want) || e != wantE {
		t.Fatalf("Put(%v, %d, %d) = %v, %d, not %v, %d", x, key, place, got, e, want, wantE)
	}
}

func dropIs(t *testing.T, x []api.Cell, key uint32, want []api.Cell, wantE api.Errno) {
	t.Helper()
	if got, e := probe.Drop(x, key); !slices.Equal(got, want) || e != wantE {
		t.Fatalf("Drop(%v, %d) = %v, %d, not %v, %d", x, key, got, e, want, wantE)
	}
}

func putIsAsTold(t *testing.T, x []api.Cell, key uint32, place int) {
	t.Helper()
	want, e := wantPut(x, key, place)
	putIs(t, x, key, place, want, e)
}

// keyIsAsTold holds all that is answered for an index and a key against the definitions.
func keyIsAsTold(t *testing.T, x []api.Cell, key uint32) {
	t.Helper()
	place, e := wantFind(x, key)
	findIs(t, x, key, place, e)
	steps, e := wantSteps(x, key)
	stepsIs(t, x, key, steps, e)
	for _, place := range []int{-1, 0, places - 1, places} {
		putIsAsTold(t, x, key, place)
	}
	after, e := wantDrop(x, key)
	dropIs(t, x, key, after, e)
}

// isAsTold holds what is answered for an index against the definitions, for all keys that it has, and others with each home.
func isAsTold(t *testing.T, x []api.Cell) {
	t.Helper()
	checkIs(t, x, wantCheck(x))
	for _, c := range x[:min(len(x), 20)] {
		keyIsAsTold(t, x, c.Key)
	}
	for home := range cells {
		keyIsAsTold(t, x, homed(home, 20))
	}
}

// isBad tells that an index is not valid, and that nothing else is answered for it.
func isBad(t *testing.T, x []api.Cell) {
	t.Helper()
	checkIs(t, x, api.ErrBad)
	keys := []uint32{0, 1, 2, 8, 1<<32 - 1}
	for _, c := range x[:min(len(x), 20)] {
		keys = append(keys, c.Key)
	}
	for _, key := range keys {
		findIs(t, x, key, 0, api.ErrBad)
		stepsIs(t, x, key, 0, api.ErrBad)
		dropIs(t, x, key, nil, api.ErrBad)
		for _, place := range []int{0, 7, 15, -1, 16} {
			putIs(t, x, key, place, nil, api.ErrBad)
		}
	}
}

func put(t *testing.T, x []api.Cell, key uint32, place int) []api.Cell {
	t.Helper()
	got, e := probe.Put(x, key, place)
	if e != api.OK {
		t.Fatalf("Put(%v, %d, %d): error %d", x, key, place, e)
	}
	return got
}

func drop(t *testing.T, x []api.Cell, key uint32) []api.Cell {
	t.Helper()
	got, e := probe.Drop(x, key)
	if e != api.OK {
		t.Fatalf("Drop(%v, %d): error %d", x, key, e)
	}
	return got
}

// homed gives the key with a home before which there are so many smaller ones with it.
func homed(home, smaller int) uint32 { return homeds[home][smaller] }

// homeds are the first 40 keys with each home.
var homeds = func() (l [cells][]uint32) {
	for key := uint32(0); slices.ContainsFunc(l[:], func(keys []uint32) bool { return len(keys) < 40 }); key++ {
		home := wantHome(key)
		l[home] = append(l[home], key)
	}
	return l
}()

// laid gives the index whose used cells have keys with these homes, -1 for one that is not used: a key's number tells its cell, as does its place, all of them different.
func laid(homes [cells]int) []api.Cell {
	x := make([]api.Cell, cells)
	for i, home := range homes {
		if home >= 0 {
			x[i] = api.Cell{Key: homed(home, i), Place: (i*5 + 3) % places, Used: true}
		}
	}
	return x
}

// empty are the homes of an index without used cells.
func empty() (homes [cells]int) {
	for i := range homes {
		homes[i] = -1
	}
	return homes
}

// at gives the homes of an index whose used cells are these ones, from one cell on.
func at(first int, homes ...int) [cells]int {
	l := empty()
	for n, home := range homes {
		l[(first+n)%cells] = home
	}
	return l
}

// someHomes gives homes of a valid index whose used cells are those of the set.
func someHomes(m *rand.Rand, used uint) [cells]int {
	homes := empty()
	for i := range homes {
		if used>>i&1 == 0 {
			continue
		}
		back := 0
		for used>>((i-back-1+cells)%cells)&1 == 1 && back < cells-1 {
			back++
		}
		homes[i] = (i - m.IntN(back+1) + cells) % cells
	}
	return homes
}

// someIndex gives a valid index of so many keys.
func someIndex(m *rand.Rand, n int) []api.Cell {
	used := uint(0)
	for _, i := range m.Perm(cells)[:n] {
		used |= 1 << i
	}
	if m.IntN(2) == 0 {
		// Many used cells stand behind one another, so that more is moved.
		first := m.IntN(cells)
		used = 0
		for i := range n {
			used |= 1 << ((first + i) % cells)
		}
	}
	return laid(someHomes(m, used))
}

// filled gives an index with so many keys, put one after the other.
func filled(t *testing.T, keys ...uint32) []api.Cell {
	t.Helper()
	x := probe.New()
	for i, key := range keys {
		x = put(t, x, key, i)
	}
	return x
}

func TestNumbersAreThoseOfTheChapter(t *testing.T) {
	if api.OK != 0 || api.ErrArg != 2 || api.ErrNone != 6 || api.ErrBad != 8 || api.ErrTwice != 14 || api.ErrFull != 18 {
		t.Error(api.OK, api.ErrArg, api.ErrNone, api.ErrBad, api.ErrTwice, api.ErrFull)
	}
	if api.IndexSize != cells || api.MaxKeys != mostKeys || api.MaxPlaces != places {
		t.Error(api.IndexSize, api.MaxKeys, api.MaxPlaces)
	}
}

// The chapter's example, sentence by sentence.
func TestExample(t *testing.T) {
	homeIs(t, 0, 0)
	homeIs(t, 1, 9)
	homeIs(t, 2, 3)
	homeIs(t, 8, 15)
	homeIs(t, 22, 9)
	x := put(t, put(t, probe.New(), 1, 4), 22, 6)
	want := make([]api.Cell, cells)
	want[9], want[10] = api.Cell{Key: 1, Place: 4, Used: true}, api.Cell{Key: 22, Place: 6, Used: true}
	if !slices.Equal(x, want) {
		t.Fatal(x)
	}
	x = drop(t, x, 1)
	want[9], want[10] = want[10], api.Cell{}
	if !slices.Equal(x, want) {
		t.Fatal(x)
	}
	stepsIs(t, x, 1, 2, api.OK)
	findIs(t, x, 1, 0, api.ErrNone)
	findIs(t, x, 22, 6, api.OK)
}

func TestP14_1_Homes(t *testing.T) {
	for _, c := range []struct {
		key  uint32
		home int
	}{
		{0, 0}, {1, 9}, {2, 3}, {3, 13}, {7, 5}, {8, 15}, {9, 8}, {15, 4}, {16, 14}, {21, 15}, {22, 9}, {43, 9}, {100, 12},
		{255, 9}, {256, 3}, {65535, 13}, {65536, 7}, {1000000, 15}, {340573321, 0}, {2147483647, 14}, {2147483648, 8},
		{2147483649, 1}, {2654435769, 14}, {4294967280, 1}, {4294967294, 12}, {4294967295, 6},
	} {
		homeIs(t, c.key, c.home)
	}
}

func TestP14_1_ManyHomes(t *testing.T) {
	m, found := mixed(), [cells]int{}
	for n := range 200000 {
		for _, key := range []uint32{uint32(n), -uint32(n), m.Uint32(), 1 << 31 / (uint32(n) + 1)} {
			homeIs(t, key, wantHome(key))
			found[wantHome(key)]++
		}
	}
	for home, n := range found {
		if n < 1000 {
			t.Errorf("%d keys with the home %d", n, home)
		}
	}
}

func TestP14_1_New(t *testing.T) {
	x := probe.New()
	if len(x) != cells {
		t.Fatal(x)
	}
	for _, c := range x {
		if c.Used || c.Key != 0 || c.Place != 0 {
			t.Fatal(x)
		}
	}
	checkIs(t, x, api.OK)
	isAsTold(t, x)
}

func TestP14_1_SizesOfIndexes(t *testing.T) {
	isBad(t, nil)
	for _, n := range []int{0, 1, 2, 12, 14, 15, 17, 18, 31, 32, 33, 255, 256, 272, 65536, 65552} {
		isBad(t, make([]api.Cell, n))
		x := make([]api.Cell, n)
		if n > 9 {
			x[9] = api.Cell{Key: 1, Used: true}
			isBad(t, x)
		}
	}
	x := filled(t, 0, 1, 2, 3)
	for n := range cells {
		isBad(t, x[:n])
		isBad(t, slices.Concat(x, x[:n+1]))
		isBad(t, slices.Concat(x, make([]api.Cell, n+1)))
	}
}

// One that is not valid for each reason that the chapter names.
func TestP14_1_ReasonsWhyAnIndexIsBad(t *testing.T) {
	one := func(i int, c api.Cell) []api.Cell {
		x := filled(t, 1, 22, 0)
		x[i] = c
		return x
	}
	for _, c := range []struct {
		why string
		x   []api.Cell
	}{
		{"a cell that is not used has a key", one(5, api.Cell{Key: 7})},
		{"a cell that is not used has a place", one(5, api.Cell{Place: 1})},
		{"a cell that is not used has a place below 0", one(5, api.Cell{Place: -1})},
		{"a cell that is not used has both", one(5, api.Cell{Key: 7, Place: 3})},
		{"the last cell of the keys has a key, though it is not used", one(10, api.Cell{Key: 22})},
		{"a key is there twice", one(11, api.Cell{Key: 1, Place: 3, Used: true})},
		{"a key is there twice, with the same place", one(10, api.Cell{Key: 1, Place: 0, Used: true})},
		{"a key is there twice, once behind a cell that is not used", one(12, api.Cell{Key: 1, Place: 3, Used: true})},
		{"the key 0 is there twice", one(1, api.Cell{Place: 3, Used: true})},
		{"a place is below 0", one(9, api.Cell{Key: 1, Place: -1, Used: true})},
		{"a place is MaxPlaces", one(9, api.Cell{Key: 1, Place: 16, Used: true})},
		{"a place is far away", one(0, api.Cell{Place: 1 << 32, Used: true})},
		{"the home of a key is not used", one(9, api.Cell{})},
		{"a key stands before its home", one(8, api.Cell{Key: 43, Place: 3, Used: true})},
		{"a key stands behind a cell that is not used", one(12, api.Cell{Key: 43, Place: 3, Used: true})},
		{"a key stands behind the end, its home is not used", one(1, api.Cell{Key: 8, Place: 3, Used: true})},
	} {
		t.Run(c.why, func(t *testing.T) { isBad(t, c.x) })
	}
	// Cells beside these are valid.
	checkIs(t, one(5, api.Cell{}), api.OK)
	checkIs(t, one(5, api.Cell{Key: 7, Place: 3, Used: true}), api.OK)
	checkIs(t, one(11, api.Cell{Key: 43, Place: 3, Used: true}), api.OK)
	checkIs(t, one(10, api.Cell{Key: 43, Place: 15, Used: true}), api.OK)
	checkIs(t, one(15, api.Cell{Key: 8, Place: 3, Used: true}), api.OK)
}

// Nothing is said of places that are there twice.
func TestP14_1_PlacesMayBeTheSame(t *testing.T) {
	for place := range places {
		x := probe.New()
		for _, key := range []uint32{0, 1, 2, 3, 22, 43} {
			x = put(t, x, key, place)
			checkIs(t, x, api.OK)
		}
		isAsTold(t, x)
	}
}

// All sets of used cells: with at most 12 of them they are valid if each key stands at home, or behind it.
func TestP14_1_AllSetsOfUsedCells(t *testing.T) {
	m, valid := mixed(), 0
	for used := uint(0); used < 1<<cells; used++ {
		home := empty()
		n := 0
		for i := range home {
			if used>>i&1 == 1 {
				home[i] = i
				n++
			}
		}
		want := api.OK
		if n > mostKeys {
			want = api.ErrBad
		} else {
			valid++
		}
		checkIs(t, laid(home), want)
		x := laid(someHomes(m, used))
		checkIs(t, x, want)
		if want == api.OK && wantCheck(x) != api.OK {
			t.Fatalf("%v should be valid", x)
		}
		if used%41 == 0 {
			isAsTold(t, x)
		}
	}
	if valid != 1<<16-560-120-16-1 {
		t.Error(valid)
	}
}

// One key has each home, whatever cells are used: it is valid just from where all cells up to it are used.
func TestP14_1_AllHomesOfAKey(t *testing.T) {
	m := mixed()
	for used := uint(0); used < 1<<cells; used++ {
		homes := someHomes(m, used)
		i := m.IntN(cells)
		if homes[i] < 0 {
			continue
		}
		for home := range cells {
			homes[i] = home
			x := laid(homes)
			checkIs(t, x, wantCheck(x))
		}
	}
}

func TestP14_1_TooManyKeys(t *testing.T) {
	m := mixed()
	for n := 13; n <= cells; n++ {
		for range 200 {
			x := someIndex(m, n)
			isBad(t, x)
			for i := range x {
				if x[i].Used && n == 13 {
					y := slices.Clone(x)
					y[i] = api.Cell{}
					checkIs(t, y, wantCheck(y))
				}
			}
		}
	}
	for range 200 {
		x := someIndex(m, mostKeys)
		checkIs(t, x, api.OK)
		isAsTold(t, x)
	}
}

// Indexes of all sizes in which one cell was changed.
func TestP14_1_OneChange(t *testing.T) {
	m := mixed()
	for n := 0; n <= mostKeys; n++ {
		for range 4 {
			x := someIndex(m, n)
			isAsTold(t, x)
			for i, was := range x {
				others := []api.Cell{{}, {Key: was.Key, Place: was.Place, Used: !was.Used}}
				for _, place := range append(farNumbers(), 0, 1, 14, 15) {
					others = append(others, api.Cell{Key: was.Key, Place: place, Used: was.Used})
				}
				for _, c := range append(slices.Clone(x), api.Cell{Key: 5}, api.Cell{Key: 1<<32 - 1}) {
					others = append(others, api.Cell{Key: c.Key, Place: was.Place, Used: was.Used}, c)
				}
				for _, c := range others {
					x[i] = c
					if wantCheck(x) != api.OK {
						isBad(t, x)
					} else {
						checkIs(t, x, api.OK)
						keyIsAsTold(t, x, c.Key)
						keyIsAsTold(t, x, was.Key)
					}
				}
				x[i] = was
			}
		}
	}
}

// A key that is there twice is bad, wherever it stands.
func TestP14_1_EachKeyTwice(t *testing.T) {
	m := mixed()
	for n := 2; n <= mostKeys; n++ {
		for range 10 {
			x := someIndex(m, n)
			for i := range x {
				for j := range x {
					if i != j && x[i].Used && x[j].Used {
						y := slices.Clone(x)
						y[j].Key = x[i].Key
						isBad(t, y)
					}
				}
			}
		}
	}
}

func TestP14_2_PlacesThatAreFound(t *testing.T) {
	x := probe.New()
	for _, c := range []struct {
		key          uint32
		place, steps int
	}{
		{1, 5, 1}, {22, 0, 2}, {43, 15, 3}, {255, 5, 4}, {0, 0, 1}, {8, 15, 1}, {21, 9, 3},
	} {
		findIs(t, x, c.key, 0, api.ErrNone)
		stepsIs(t, x, c.key, c.steps, api.OK)
		x = put(t, x, c.key, c.place)
		findIs(t, x, c.key, c.place, api.OK)
		stepsIs(t, x, c.key, c.steps, api.OK)
	}
	// 8 is in the cell 15, 0 in 0, and 21, whose home is 15, in 1.
	findIs(t, x, 8, 15, api.OK)
	findIs(t, x, 21, 9, api.OK)
	// 1000000 has the home 15, and is not there: the cell 2 is not used.
	stepsIs(t, x, 1000000, 4, api.OK)
	findIs(t, x, 1000000, 0, api.ErrNone)
}

// A cell that is not used has the key 0, but it is not there.
func TestP14_2_TheKey0(t *testing.T) {
	x := probe.New()
	findIs(t, x, 0, 0, api.ErrNone)
	stepsIs(t, x, 0, 1, api.OK)
	dropIs(t, x, 0, nil, api.ErrNone)
	y := put(t, x, 0, 15)
	findIs(t, y, 0, 15, api.OK)
	stepsIs(t, y, 0, 1, api.OK)
	putIs(t, y, 0, 3, nil, api.ErrTwice)
	dropIs(t, y, 0, x, api.OK)
	// Behind another key, too.
	other := homed(0, 1)
	x = put(t, x, other, 2)
	findIs(t, x, 0, 0, api.ErrNone)
	stepsIs(t, x, 0, 2, api.OK)
	dropIs(t, x, 0, nil, api.ErrNone)
	y = put(t, x, 0, 0)
	findIs(t, y, 0, 0, api.OK)
	stepsIs(t, y, 0, 2, api.OK)
	dropIs(t, y, 0, x, api.OK)
}

// Twelve keys with the same home, whichever it is: they stand behind one another, round the end.
func TestP14_2_KeysWithOneHome(t *testing.T) {
	for home := range cells {
		x := probe.New()
		for n := range mostKeys {
			key := homed(home, n)
			findIs(t, x, key, 0, api.ErrNone)
			stepsIs(t, x, key, n+1, api.OK)
			x = put(t, x, key, n+2)
			if want := (api.Cell{Key: key, Place: n + 2, Used: true}); x[(home+n)%cells] != want {
				t.Fatalf("%v: %v is not in the cell %d", x, want, (home+n)%cells)
			}
		}
		for n := range mostKeys {
			findIs(t, x, homed(home, n), n+2, api.OK)
			stepsIs(t, x, homed(home, n), n+1, api.OK)
		}
		for n := range cells {
			key := homed((home+n)%cells, 12)
			findIs(t, x, key, 0, api.ErrNone)
			stepsIs(t, x, key, max(13-n, 1), api.OK)
		}
		isAsTold(t, x)
	}
}

func TestP14_2_KeysAtTheEnds(t *testing.T) {
	x := probe.New()
	for i, key := range farKeys() {
		findIs(t, x, key, 0, api.ErrNone)
		x = put(t, x, key, 15-i)
		for j, other := range farKeys() {
			keyIsAsTold(t, x, other)
			if j <= i {
				findIs(t, x, other, 15-j, api.OK)
			}
		}
	}
	isAsTold(t, x)
}

func TestP14_3_CellsThatAreFilled(t *testing.T) {
	x, want := probe.New(), make([]api.Cell, cells)
	for _, c := range []struct {
		key         uint32
		place, cell int
	}{
		{8, 3, 15}, {21, 15, 0}, {0, 0, 1}, {1, 3, 9}, {9, 1, 8}, {0xffffffff, 2, 6}, {255, 7, 10}, {16, 9, 14}, {2147483647, 9, 2},
	} {
		x = put(t, x, c.key, c.place)
		want[c.cell] = api.Cell{Key: c.key, Place: c.place, Used: true}
		if !slices.Equal(x, want) {
			t.Fatalf("%v, not %v", x, want)
		}
		checkIs(t, x, api.OK)
	}
}

func TestP14_3_PlacesThatAreNone(t *testing.T) {
	m := mixed()
	for n := 0; n <= mostKeys; n++ {
		x := someIndex(m, n)
		other := homed(m.IntN(cells), 30)
		for _, place := range farNumbers() {
			putIs(t, x, other, place, nil, api.ErrArg)
			for _, key := range keysOf(x) {
				putIs(t, x, key, place, nil, api.ErrArg)
			}
		}
		for place := range places {
			putIsAsTold(t, x, other, place)
			if n < mostKeys {
				findIs(t, put(t, x, other, place), other, place, api.OK)
			}
		}
	}
}

func TestP14_3_KeysThatAreThere(t *testing.T) {
	m := mixed()
	for n := 1; n <= mostKeys; n++ {
		for range 20 {
			x := someIndex(m, n)
			for _, key := range keysOf(x) {
				for place := range places {
					putIs(t, x, key, place, nil, api.ErrTwice)
				}
			}
		}
	}
}

func TestP14_3_FullOnes(t *testing.T) {
	m := mixed()
	for range 100 {
		x := someIndex(m, mostKeys)
		for home := range cells {
			for place := range places {
				putIs(t, x, homed(home, 25), place, nil, api.ErrFull)
			}
		}
		x = drop(t, x, pick(m, keysOf(x)))
		for home := range cells {
			checkIs(t, put(t, x, homed(home, 25), home), api.OK)
		}
	}
}

func TestP14_3_OrderOfErrors(t *testing.T) {
	m := mixed()
	x := someIndex(m, mostKeys)
	key, other := keysOf(x)[3], homed(3, 30)
	for _, place := range []int{-1, 16} {
		putIs(t, x, key, place, nil, api.ErrArg)
		putIs(t, x, other, place, nil, api.ErrArg)
	}
	putIs(t, x, key, 0, nil, api.ErrTwice)
	putIs(t, x, other, 0, nil, api.ErrFull)
	dropIs(t, x, other, nil, api.ErrNone)
	findIs(t, x, other, 0, api.ErrNone)
	// One that is not valid is that, whatever else is wrong.
	i := cellOf(x, keysOf(x)[0])
	x[i].Place = 16
	isBad(t, x)
	for _, key := range []uint32{key, other} {
		for _, place := range []int{-1, 0, 16} {
			putIs(t, x, key, place, nil, api.ErrBad)
		}
		dropIs(t, x, key, nil, api.ErrBad)
		findIs(t, x, key, 0, api.ErrBad)
		stepsIs(t, x, key, 0, api.ErrBad)
	}
}

// What is moved back when a key is dropped: cells from one on have keys with these homes, the key in a cell is dropped, and then these cells are those that are used.
func TestP14_3_WhatIsMovedBack(t *testing.T) {
	for _, c := range []struct {
		why   string
		homes []int
		drop  int
		// after tells which of the cells' keys each cell has then, -1 for one that is not used.
		after []int
	}{
		{"nothing stands behind it", []int{0}, 0, []int{-1}},
		{"the one behind stands at home", []int{0, 1}, 0, []int{-1, 1}},
		{"the one behind comes back", []int{0, 0}, 0, []int{1, -1}},
		{"the last one is dropped", []int{0, 0, 0}, 2, []int{0, 1, -1}},
		{"the one in the middle is dropped", []int{0, 0, 0}, 1, []int{0, 2, -1}},
		{"all come back", []int{0, 0, 1, 2}, 0, []int{1, 2, 3, -1}},
		{"one passes another at home", []int{0, 1, 0}, 0, []int{2, 1, -1}},
		{"one passes two", []int{0, 1, 1, 0}, 0, []int{3, 1, 2, -1}},
		{"one passes another, one behind comes into its cell", []int{0, 1, 0, 1}, 0, []int{2, 1, 3, -1}},
		{"one behind a cell that stays", []int{0, 1, 2, 2}, 0, []int{-1, 1, 2, 3}},
		{"the home is the empty cell", []int{0, 0, 2, 1}, 1, []int{0, 3, 2, -1}},
		{"the home is just behind the empty cell", []int{0, 1, 2, 2, 4}, 1, []int{0, -1, 2, 3, 4}},
		{"the home is before the empty cell", []int{0, 1, 2, 0}, 2, []int{0, 1, 3, -1}},
		{"the home is a cell emptied later", []int{0, 0, 1, 3, 1}, 0, []int{1, 2, 4, 3, -1}},
		{"nothing behind a cell that is not used comes back", []int{0, 0, -1, 3, 3}, 0, []int{1, -1, -1, 3, 4}},
	} {
		t.Run(c.why, func(t *testing.T) {
			for first := range cells {
				homes := empty()
				for n, home := range c.homes {
					if home >= 0 {
						homes[(first+n)%cells] = (first + home) % cells
					}
				}
				x := laid(homes)
				checkIs(t, x, api.OK)
				want := make([]api.Cell, cells)
				for n, from := range c.after {
					if from >= 0 {
						want[(first+n)%cells] = x[(first+from)%cells]
					}
				}
				dropIs(t, x, x[(first+c.drop)%cells].Key, want, api.OK)
			}
		})
	}
}

// All rows of up to six cells behind one another, with all homes that their keys may have; each key is dropped.
func TestP14_3_AllShortRows(t *testing.T) {
	for n := 1; n <= 6; n++ {
		all := 1
		for i := range n {
			all *= i + 1
		}
		for number := range all {
			homes := make([]int, n)
			left := number
			for i := range homes {
				homes[i], left = left%(i+1), left/(i+1)
			}
			for _, first := range []int{0, 5, 16 - n, 17 - n, 15} {
				shifted := slices.Clone(homes)
				for i := range shifted {
					shifted[i] = (shifted[i] + first) % cells
				}
				x := laid(at(first%cells, shifted...))
				checkIs(t, x, api.OK)
				for _, key := range keysOf(x) {
					want, e := wantDrop(x, key)
					dropIs(t, x, key, want, e)
					checkIs(t, want, api.OK)
				}
			}
		}
	}
}

func TestP14_3_KeysThatAreNotThere(t *testing.T) {
	m := mixed()
	for n := 0; n <= mostKeys; n++ {
		for range 20 {
			x := someIndex(m, n)
			for home := range cells {
				dropIs(t, x, homed(home, 20), nil, api.ErrNone)
				findIs(t, x, homed(home, 20), 0, api.ErrNone)
			}
			for _, key := range keysOf(x) {
				y := drop(t, x, key)
				dropIs(t, y, key, nil, api.ErrNone)
				findIs(t, y, key, 0, api.ErrNone)
			}
		}
	}
}

// Long runs against a map: a key is found exactly if it was put, and not dropped since.
func TestP14_4_LongRuns(t *testing.T) {
	m := mixed()
	for _, keys := range [][]uint32{
		homeds[0][:14],
		homeds[15][:14],
		slices.Concat(homeds[13][:5], homeds[14][:5], homeds[15][:5], homeds[0][:5]),
		slices.Concat(farKeys(), homeds[9][:8]),
		manyKeys(m, 30),
	} {
		x, held := probe.New(), map[uint32]int{}
		for step := range 6000 {
			key, place := pick(m, keys), m.IntN(places)
			_, there := held[key]
			// Now more is put, now more is dropped, so that all numbers of keys come up.
			if m.IntN(4) > step/150%2*2 {
				y, e := probe.Put(x, key, place)
				switch {
				case there && e != api.ErrTwice, !there && len(held) == mostKeys && e != api.ErrFull, !there && len(held) < mostKeys && e != api.OK:
					t.Fatalf("Put(%v, %d, %d): error %d", x, key, place, e)
				case e == api.OK:
					x, held[key] = y, place
				}
			} else {
				if there {
					delete(held, key)
					x = drop(t, x, key)
				} else {
					dropIs(t, x, key, nil, api.ErrNone)
				}
			}
			hasJust(t, x, held, keys)
		}
	}
}

func manyKeys(m *rand.Rand, n int) (keys []uint32) {
	for range n {
		keys = append(keys, m.Uint32())
	}
	return keys
}

// hasJust tells that an index has these keys with their places, and no others.
func hasJust(t *testing.T, x []api.Cell, held map[uint32]int, keys []uint32) {
	t.Helper()
	checkIs(t, x, api.OK)
	if len(keysOf(x)) != len(held) {
		t.Fatalf("%v has not just %v", x, held)
	}
	for _, key := range keys {
		place, there := held[key]
		most, wantE := len(held)+1, api.ErrNone
		if there {
			most, wantE = len(held), api.OK
		}
		findIs(t, x, key, place, wantE)
		if steps, e := probe.Steps(x, key); steps < 1 || steps > most || e != api.OK {
			t.Fatalf("Steps(%v, %d) = %d, %d, not up to %d", x, key, steps, e, most)
		}
	}
}

// Dropping the keys of a full index one after the other keeps it valid, and all others found.
func TestP14_4_DroppingKeepsIndexesValid(t *testing.T) {
	m := mixed()
	for range 300 {
		x := someIndex(m, mostKeys)
		held := map[uint32]int{}
		for _, c := range x {
			if c.Used {
				held[c.Key] = c.Place
			}
		}
		keys := keysOf(x)
		m.Shuffle(len(keys), func(i, j int) { keys[i], keys[j] = keys[j], keys[i] })
		for _, key := range keys {
			x = drop(t, x, key)
			delete(held, key)
			hasJust(t, x, held, keys)
		}
		if !slices.Equal(x, probe.New()) {
			t.Fatal(x)
		}
	}
}

func TestP14_4_StepsAreFew(t *testing.T) {
	m := mixed()
	for n := 0; n <= mostKeys; n++ {
		for range 200 {
			x := someIndex(m, n)
			for _, key := range keysOf(x) {
				if steps, e := probe.Steps(x, key); steps < 1 || steps > n || e != api.OK {
					t.Fatalf("Steps(%v, %d) = %d, %d", x, key, steps, e)
				}
			}
			for home := range cells {
				if steps, e := probe.Steps(x, homed(home, 20)); steps < 1 || steps > n+1 || e != api.OK {
					t.Fatalf("Steps(%v, %d) = %d, %d", x, homed(home, 20), steps, e)
				}
			}
		}
	}
}

// A key that is put and then dropped leaves the same keys and places.
func TestP14_4_PutAndDropped(t *testing.T) {
	m := mixed()
	for n := range mostKeys {
		for range 100 {
			x := someIndex(m, n)
			for home := range cells {
				key := homed(home, 20)
				dropIs(t, put(t, x, key, m.IntN(places)), key, x, api.OK)
			}
		}
	}
}

// A key that is dropped and then put again with its place is found as before.
func TestP14_4_DroppedAndPut(t *testing.T) {
	m := mixed()
	for n := 1; n <= mostKeys; n++ {
		for range 100 {
			x := someIndex(m, n)
			held := map[uint32]int{}
			for _, c := range x {
				if c.Used {
					held[c.Key] = c.Place
				}
			}
			for key, place := range held {
				hasJust(t, put(t, drop(t, x, key), key, place), held, keysOf(x))
			}
		}
	}
}

// spare gives a copy with room behind it, which has these values.
func spare(x []api.Cell, behind ...api.Cell) []api.Cell { return slices.Concat(x, behind)[:len(x)] }

// whole gives a slice with all the room behind it.
func whole(x []api.Cell) []api.Cell { return x[:cap(x)] }

// overwrite changes all that an index has, with the room behind it.
func overwrite(x []api.Cell) {
	for i := range whole(x) {
		whole(x)[i] = api.Cell{Key: 99 + uint32(i), Place: 77 + i, Used: i%2 == 0}
	}
}

// indexes are some that are valid, and some that are not.
func indexes() [][]api.Cell {
	m := mixed()
	l := [][]api.Cell{nil, {{Used: true}}, make([]api.Cell, 15), make([]api.Cell, 17), make([]api.Cell, 16)}
	for n := 0; n <= cells; n++ {
		for range 4 {
			l = append(l, someIndex(m, n))
		}
	}
	x := someIndex(m, 8)
	for i := range x {
		y := slices.Clone(x)
		y[i].Used = !y[i].Used
		l = append(l, y)
	}
	return l
}

// changes are calls that give an index: for some keys that it has, and for others.
func changes(x []api.Cell) (l []func(x []api.Cell) ([]api.Cell, api.Errno)) {
	keys := append(keysOf(x), 0, 1<<32-1, homed(0, 30), homed(7, 30), homed(15, 30))
	for _, key := range keys {
		l = append(l, func(x []api.Cell) ([]api.Cell, api.Errno) { return probe.Drop(x, key) })
		for _, place := range []int{-1, 0, 9, 15, 16} {
			l = append(l, func(x []api.Cell) ([]api.Cell, api.Errno) { return probe.Put(x, key, place) })
		}
	}
	return l
}

// Neither an index nor the room behind it changes, whatever is asked.
func TestP1_ArgumentsAreOnlyRead(t *testing.T) {
	for _, x := range indexes() {
		x = spare(x, api.Cell{}, api.Cell{Key: 5, Place: 3, Used: true}, api.Cell{Place: -1})
		before := slices.Clone(whole(x))
		for i, change := range changes(x) {
			change(x)
			probe.Check(x)
			for _, key := range append(keysOf(x), 0, 5, 1<<32-1) {
				probe.Find(x, key)
				probe.Steps(x, key)
			}
			if !slices.Equal(whole(x), before) {
				t.Fatalf("%d: %v, not %v", i, whole(x), before)
			}
		}
	}
}

// What stands in the room behind an index is not of it.
func TestP1_RoomBehindIsNothing(t *testing.T) {
	for _, x := range indexes() {
		for _, behind := range []api.Cell{{}, {Key: 1}, {Key: 1, Place: 2, Used: true}, {Place: -1}} {
			isAsTold(t, spare(x, slices.Repeat([]api.Cell{behind}, 20)...))
		}
		if len(x) == cells {
			isBad(t, x[:cells-1])
			isBad(t, spare(x, api.Cell{})[:cells+1])
		}
	}
}

// A result can be changed without changing the argument or another result, and the other way round; and nothing of it is kept.
func TestP1_ResultsShareNoMemory(t *testing.T) {
	for _, original := range indexes() {
		for i, change := range changes(original) {
			x := spare(original, api.Cell{}, api.Cell{Key: 5, Place: 3, Used: true})
			before := slices.Clone(whole(x))
			first, _ := change(x)
			want := slices.Clone(first)
			second, _ := change(x)
			overwrite(second)
			if !slices.Equal(first, want) || !slices.Equal(whole(x), before) {
				t.Fatalf("%d: %v, not %v; %v, not %v", i, first, want, whole(x), before)
			}
			overwrite(x)
			if !slices.Equal(first, want) {
				t.Fatalf("%d: %v, not %v", i, first, want)
			}
			overwrite(first)
			if again, _ := change(original); !slices.Equal(again, want) {
				t.Fatalf("%d: %v, not %v", i, again, want)
			}
		}
	}
}

// Each index that is new is new, whatever was done with others.
func TestP1_NewIsNewEachTime(t *testing.T) {
	first, second := probe.New(), probe.New()
	overwrite(first)
	for _, x := range [][]api.Cell{second, probe.New()} {
		if !slices.Equal(x, make([]api.Cell, cells)) {
			t.Fatal(x)
		}
	}
}

// An index to which was put, and from which was dropped, is what it was, and answers as before.
func TestP1_IndexesAreValues(t *testing.T) {
	m := mixed()
	for n := 0; n <= mostKeys; n++ {
		x := someIndex(m, n)
		steps := [][]api.Cell{x}
		for range 40 {
			if y, e := pick(m, changes(x))(x); e == api.OK {
				x = y
				steps = append(steps, y)
			}
		}
		want := make([][]api.Cell, len(steps))
		for i, x := range steps {
			want[i] = slices.Clone(x)
			isAsTold(t, x)
		}
		for i, x := range steps {
			if !slices.Equal(x, want[i]) {
				t.Fatalf("%v, not %v", x, want[i])
			}
		}
	}
}

// Nil and empty slices are the same: no index.
func TestP1_NilAndEmpty(t *testing.T) {
	for _, x := range [][]api.Cell{nil, {}, make([]api.Cell, 0, 16), probe.New()[:0]} {
		isBad(t, x)
		isAsTold(t, x)
	}
}

// anyIndex gives an index that is often valid, and often just not.
func anyIndex(m *rand.Rand) []api.Cell {
	x := someIndex(m, m.IntN(mostKeys+2))
	for range m.IntN(3) {
		i := m.IntN(cells)
		switch m.IntN(6) {
		case 0:
			x[i].Key = pick(m, []uint32{m.Uint32(), pick(m, farKeys()), pick(m, x).Key})
		case 1:
			x[i].Place = pick(m, []int{m.IntN(places), pick(m, farNumbers()), int(m.Uint64())})
		case 2:
			x[i].Used = !x[i].Used
		case 3:
			x[i] = api.Cell{}
		case 4:
			j := m.IntN(cells)
			x[i], x[j] = x[j], x[i]
		case 5:
			return x[:m.IntN(cells+1)]
		}
	}
	return x
}

// Any values at all are answered, the same ones each time, and an answer with an error has nothing else.
func TestP1_AllArgumentsAreAnswered(t *testing.T) {
	m := mixed()
	found := map[api.Errno]int{}
	for range 6000 {
		x := anyIndex(m)
		found[wantCheck(x)]++
		keys := append(keysOf(x), m.Uint32(), pick(m, farKeys()))
		for range 2 {
			checkIs(t, x, wantCheck(x))
			for _, key := range keys {
				keyIsAsTold(t, x, key)
				putIsAsTold(t, x, key, pick(m, farNumbers()))
				putIsAsTold(t, x, key, int(m.Uint64()))
			}
		}
	}
	for _, e := range []api.Errno{api.OK, api.ErrBad} {
		if found[e] < 1500 {
			t.Errorf("%d indexes with the error %d", found[e], e)
		}
	}
}
