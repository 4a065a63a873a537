package lru_test

import (
	"math"
	"math/rand/v2"
	"slices"
	"testing"

	"spigot/api"
	"spigot/lru"
)

const most = 16

// mixed gives numbers that are mixed, the same ones in each test.
func mixed() *rand.Rand { return rand.New(rand.NewPCG(15, 107)) }

func pick[E any](m *rand.Rand, l []E) E { return l[m.IntN(len(l))] }

func equal(a, b api.Order) bool {
	return slices.Equal(a.Prev, b.Prev) && slices.Equal(a.Next, b.Next) && a.Head == b.Head && a.Tail == b.Tail
}

// of gives the order of n places with this list.
func of(n int, list ...int) api.Order {
	o := api.Order{Prev: slices.Repeat([]int{-1}, n), Next: slices.Repeat([]int{-1}, n), Head: -1, Tail: -1}
	for i, place := range list {
		if i == 0 {
			o.Head = place
		} else {
			o.Prev[place] = list[i-1]
		}
		if i == len(list)-1 {
			o.Tail = place
		} else {
			o.Next[place] = list[i+1]
		}
	}
	return o
}

// counted gives 0, 1, and so on, n numbers.
func counted(n int) (l []int) {
	for i := range n {
		l = append(l, i)
	}
	return l
}

// without gives a list in which a place is not there.
func without(l []int, place int) (rest []int) {
	for _, x := range l {
		if x != place {
			rest = append(rest, x)
		}
	}
	return rest
}

// touched gives a list in which a place is the first one.
func touched(l []int, place int) []int { return append([]int{place}, without(l, place)...) }

// allLists gives all lists that an order of n places may have.
func allLists(n int) [][]int {
	all := [][]int{nil}
	for i := 0; i < len(all); i++ {
		for place := range n {
			if !slices.Contains(all[i], place) {
				all = append(all, append(slices.Clone(all[i]), place))
			}
		}
	}
	return all
}

// someList gives a list for n places, mixed.
func someList(m *rand.Rand, n int) []int { return m.Perm(n)[:m.IntN(n+1)] }

// lists gives some lists for n places: with none of them, with all of them, and with some.
func lists(m *rand.Rand, n int) [][]int {
	return [][]int{nil, {n - 1}, counted(n), m.Perm(n), someList(m, n), someList(m, n), someList(m, n)}
}

// farNumbers are no places of any order, though some would be if they were cut to fewer bits.
func farNumbers() []int {
	return []int{math.MinInt, math.MinInt + 1, -1 << 40, -1 << 32, -65536, -256, -17, -16, -2, 16, 17, 32, 64, 128, 255, 256, 257, 1 << 16, 1<<16 + 1, 1 << 31, 1<<32 - 1, 1 << 32, 1<<32 + 1, 1 << 40, math.MaxInt - 1, math.MaxInt}
}

// The definitions, put down once more: an order is valid if it is that of its list.

func listOf(o api.Order) ([]int, bool) {
	n := len(o.Prev)
	if n < 1 || n > most || len(o.Next) != n {
		return nil, false
	}
	var l []int
	for place := o.Head; place >= 0 && place < n && len(l) < n; place = o.Next[place] {
		l = append(l, place)
	}
	for i, place := range l {
		if slices.Contains(l[:i], place) {
			return nil, false
		}
	}
	return l, equal(o, of(n, l...))
}

func wantCheck(o api.Order) api.Errno {
	if _, valid := listOf(o); !valid {
		return api.ErrBad
	}
	return api.OK
}

func wantTouch(o api.Order, place int) (api.Order, api.Errno) {
	l, valid := listOf(o)
	if !valid {
		return api.Order{}, api.ErrBad
	}
	if place < 0 || place >= len(o.Prev) {
		return api.Order{}, api.ErrArg
	}
	return of(len(o.Prev), touched(l, place)...), api.OK
}

func wantRemove(o api.Order, place int) (api.Order, api.Errno) {
	l, valid := listOf(o)
	if !valid {
		return api.Order{}, api.ErrBad
	}
	if place < 0 || place >= len(o.Prev) {
		return api.Order{}, api.ErrArg
	}
	if !slices.Contains(l, place) {
		return api.Order{}, api.ErrNone
	}
	return of(len(o.Prev), without(l, place)...), api.OK
}

func wantLast(o api.Order) (int, api.Errno) {
	l, valid := listOf(o)
	if !valid {
		return 0, api.ErrBad
	}
	if len(l) == 0 {
		return 0, api.ErrNone
	}
	return l[len(l)-1], api.OK
}

// What a function answers, held against the definitions.

func checkIs(t *testing.T, o api.Order, want api.Errno) {
	t.Helper()
	if e := lru.Check(o); e != want {
		t.Fatalf("Check(%v) = %d, not %d", o, e, want)
	}
}

func touchIs(t *testing.T, o api.Order, place int, want api.Order, wantE api.Errno) {
	t.Helper()
	if got, e := lru.Touch(o, place); !equal(got, want) || e != wantE {
		t.Fatalf("Touch(%v, %d) = %v, %d, not %v, %d", o, place, got, e, want, wantE)
	}
}

func removeIs(t *testing.T, o api.Order, place int, want api.Order, wantE api.Errno) {
	t.Helper()
	if got, e := lru.Remove(o, place); !equal(got, want) || e != wantE {
		t.Fatalf("Remove(%v, %d) = %v, %d, not %v, %d", o, place, got, e, want, wantE)
	}
}

func lastIs(t *testing.T, o api.Order, want int, wantE api.Errno) {
	t.Helper()
	if place, e := lru.Last(o); place != want || e != wantE {
		t.Fatalf("Last(%v) = %d, %d, not %d, %d", o, place, e, want, wantE)
	}
}

func listIs(t *testing.T, o api.Order, want []int, wantE api.Errno) {
	t.Helper()
	if l, e := lru.List(o); !slices.Equal(l, want) || e != wantE {
		t.Fatalf("List(%v) = %v, %d, not %v, %d", o, l, e, want, wantE)
	}
}

// placeIsAsTold holds what is answered for an order and a number against the definitions.
func placeIsAsTold(t *testing.T, o api.Order, place int) {
	t.Helper()
	want, e := wantTouch(o, place)
	touchIs(t, o, place, want, e)
	want, e = wantRemove(o, place)
	removeIs(t, o, place, want, e)
}

// isAsTold holds all that is answered for an order against the definitions.
func isAsTold(t *testing.T, o api.Order) {
	t.Helper()
	l, valid := listOf(o)
	if !valid {
		isBad(t, o)
		return
	}
	checkIs(t, o, api.OK)
	listIs(t, o, l, api.OK)
	last, e := wantLast(o)
	lastIs(t, o, last, e)
	for place := -2; place < len(o.Prev)+2; place++ {
		placeIsAsTold(t, o, place)
	}
}

// isBad tells that an order is not valid, and that nothing else is answered for it.
func isBad(t *testing.T, o api.Order) {
	t.Helper()
	checkIs(t, o, api.ErrBad)
	listIs(t, o, nil, api.ErrBad)
	lastIs(t, o, 0, api.ErrBad)
	for _, place := range []int{-1, 0, 1, 2, 3, 15, 16, math.MinInt, math.MaxInt} {
		touchIs(t, o, place, api.Order{}, api.ErrBad)
		removeIs(t, o, place, api.Order{}, api.ErrBad)
	}
}

func made(t *testing.T, n int) api.Order {
	t.Helper()
	o, e := lru.New(n)
	if e != api.OK {
		t.Fatalf("New(%d): error %d", n, e)
	}
	return o
}

func touch(t *testing.T, o api.Order, places ...int) api.Order {
	t.Helper()
	for _, place := range places {
		got, e := lru.Touch(o, place)
		if e != api.OK {
			t.Fatalf("Touch(%v, %d): error %d", o, place, e)
		}
		o = got
	}
	return o
}

func remove(t *testing.T, o api.Order, place int) api.Order {
	t.Helper()
	got, e := lru.Remove(o, place)
	if e != api.OK {
		t.Fatalf("Remove(%v, %d): error %d", o, place, e)
	}
	return got
}

func TestNumbersAreThoseOfTheChapter(t *testing.T) {
	if api.OK != 0 || api.ErrArg != 2 || api.ErrNone != 6 || api.ErrBad != 8 || api.MaxPlaces != most {
		t.Error(api.OK, api.ErrArg, api.ErrNone, api.ErrBad, api.MaxPlaces)
	}
}

// The chapter's example, sentence by sentence.
func TestExample(t *testing.T) {
	o := touch(t, made(t, 4), 2, 0, 3)
	listIs(t, o, []int{3, 0, 2}, api.OK)
	if !equal(o, api.Order{Prev: []int{3, -1, 0, -1}, Next: []int{2, -1, -1, 0}, Head: 3, Tail: 2}) {
		t.Fatal(o)
	}
	o = touch(t, o, 0)
	listIs(t, o, []int{0, 3, 2}, api.OK)
	o = remove(t, o, 3)
	listIs(t, o, []int{0, 2}, api.OK)
	lastIs(t, o, 2, api.OK)
}

func TestP15_1_NewOrders(t *testing.T) {
	for n := 1; n <= most; n++ {
		o := made(t, n)
		if len(o.Prev) != n || len(o.Next) != n || o.Head != -1 || o.Tail != -1 {
			t.Fatalf("New(%d) = %v", n, o)
		}
		for place := range n {
			if o.Prev[place] != -1 || o.Next[place] != -1 {
				t.Fatalf("New(%d) = %v", n, o)
			}
		}
		checkIs(t, o, api.OK)
		listIs(t, o, nil, api.OK)
	}
}

func TestP15_1_NewOutsideOfTheRange(t *testing.T) {
	for _, n := range append(farNumbers(), 0, -1, 18, 100, -100) {
		if n == most {
			continue
		}
		if o, e := lru.New(n); !equal(o, api.Order{}) || e != api.ErrArg {
			t.Errorf("New(%d) = %v, %d", n, o, e)
		}
	}
}

func TestP15_1_SizesOfOrders(t *testing.T) {
	isBad(t, api.Order{})
	isBad(t, api.Order{Head: -1, Tail: -1})
	for prev := range most + 5 {
		for next := range most + 5 {
			empty := api.Order{Prev: of(prev).Prev, Next: of(next).Next, Head: -1, Tail: -1}
			if prev == next && prev >= 1 && prev <= most {
				checkIs(t, empty, api.OK)
				checkIs(t, of(prev, counted(prev)...), api.OK)
				continue
			}
			isBad(t, empty)
			isBad(t, api.Order{Prev: of(prev, counted(prev)...).Prev, Next: of(next, counted(next)...).Next, Tail: prev - 1})
			if prev > 0 && next > 0 {
				isBad(t, api.Order{Prev: of(prev).Prev, Next: of(next).Next})
			}
		}
	}
	for _, n := range []int{17, 31, 32, 33, 64, 255, 256, 257, 256 + 8, 65536, 65536 + 16} {
		isBad(t, of(n))
		isBad(t, of(n, 0))
		isBad(t, of(n, counted(n)...))
		isBad(t, api.Order{Prev: of(3).Prev, Next: of(n).Next, Head: -1, Tail: -1})
		isBad(t, api.Order{Prev: of(n).Prev, Next: of(3).Next, Head: -1, Tail: -1})
	}
}

// One that is not valid for each reason that the chapter names.
func TestP15_1_ReasonsWhyAnOrderIsBad(t *testing.T) {
	for _, c := range []struct {
		why string
		o   api.Order
	}{
		{"Head is no place", api.Order{Prev: []int{-1, 0, 1}, Next: []int{1, 2, -1}, Head: 3, Tail: 2}},
		{"Head is below -1", api.Order{Prev: []int{-1, 0, 1}, Next: []int{1, 2, -1}, Head: -2, Tail: 2}},
		{"Head is below -1, and the list is empty", api.Order{Prev: []int{-1, -1, -1}, Next: []int{-1, -1, -1}, Head: -2, Tail: -1}},
		{"Head is -1, and places have others about them", api.Order{Prev: []int{-1, 0, 1}, Next: []int{1, 2, -1}, Head: -1, Tail: -1}},
		{"Head is -1, and Tail is a place", api.Order{Prev: []int{-1, -1, -1}, Next: []int{-1, -1, -1}, Head: -1, Tail: 0}},
		{"Head is a place, and Tail is -1", api.Order{Prev: []int{-1, -1, -1}, Next: []int{-1, -1, -1}, Head: 0, Tail: -1}},
		{"Head is the second place", api.Order{Prev: []int{-1, 0, 1}, Next: []int{1, 2, -1}, Head: 1, Tail: 2}},
		{"Head is the last place", api.Order{Prev: []int{-1, 0, 1}, Next: []int{1, 2, -1}, Head: 2, Tail: 2}},
		{"Tail is the first place", api.Order{Prev: []int{-1, 0, 1}, Next: []int{1, 2, -1}, Head: 0, Tail: 0}},
		{"Tail is a place before the last one", api.Order{Prev: []int{-1, 0, 1}, Next: []int{1, 2, -1}, Head: 0, Tail: 1}},
		{"Tail is -1", api.Order{Prev: []int{-1, 0, 1}, Next: []int{1, 2, -1}, Head: 0, Tail: -1}},
		{"Tail is below -1", api.Order{Prev: []int{-1, -1, -1}, Next: []int{-1, -1, -1}, Head: -1, Tail: -2}},
		{"Tail is no place", api.Order{Prev: []int{-1, 0, 1}, Next: []int{1, 2, -1}, Head: 0, Tail: 3}},
		{"Tail is a place that is not in the list", api.Order{Prev: []int{-1, 0, -1}, Next: []int{1, -1, -1}, Head: 0, Tail: 2}},
		{"Next of the last place is no place", api.Order{Prev: []int{-1, 0, 1}, Next: []int{1, 2, 3}, Head: 0, Tail: 2}},
		{"Next of the last place is below -1", api.Order{Prev: []int{-1, 0, 1}, Next: []int{1, 2, -2}, Head: 0, Tail: 2}},
		{"Prev of the first place is below -1", api.Order{Prev: []int{-2, 0, 1}, Next: []int{1, 2, -1}, Head: 0, Tail: 2}},
		{"Prev of the first place is itself", api.Order{Prev: []int{0, 0, 1}, Next: []int{1, 2, -1}, Head: 0, Tail: 2}},
		{"Prev of the first place is the last one", api.Order{Prev: []int{2, 0, 1}, Next: []int{1, 2, -1}, Head: 0, Tail: 2}},
		{"Prev of the first place is one that is not in the list", api.Order{Prev: []int{2, 0, -1}, Next: []int{1, -1, -1}, Head: 0, Tail: 1}},
		{"Prev of the second place is -1", api.Order{Prev: []int{-1, -1, 1}, Next: []int{1, 2, -1}, Head: 0, Tail: 2}},
		{"Prev of the second place is the one behind it", api.Order{Prev: []int{-1, 2, 1}, Next: []int{1, 2, -1}, Head: 0, Tail: 2}},
		{"Prev of the last place is the first one of three", api.Order{Prev: []int{-1, 0, 0}, Next: []int{1, 2, -1}, Head: 0, Tail: 2}},
		{"Prev of the last place is -1", api.Order{Prev: []int{-1, 0, -1}, Next: []int{1, 2, -1}, Head: 0, Tail: 2}},
		{"the list goes round to its first place", api.Order{Prev: []int{-1, 0, 1}, Next: []int{1, 2, 0}, Head: 0, Tail: 2}},
		{"the list goes round, and Prev, too", api.Order{Prev: []int{2, 0, 1}, Next: []int{1, 2, 0}, Head: 0, Tail: 2}},
		{"the list goes round to its second place", api.Order{Prev: []int{-1, 0, 1}, Next: []int{1, 2, 1}, Head: 0, Tail: 2}},
		{"the list goes round to its second place, and Prev, too", api.Order{Prev: []int{-1, 2, 1}, Next: []int{1, 2, 1}, Head: 0, Tail: 2}},
		{"the last place is its own Next", api.Order{Prev: []int{-1, 0, 1}, Next: []int{1, 2, 2}, Head: 0, Tail: 2}},
		{"the last place is its own Next and Prev", api.Order{Prev: []int{-1, 0, 2}, Next: []int{1, 2, 2}, Head: 0, Tail: 2}},
		{"the only place is its own Next", api.Order{Prev: []int{-1, -1, -1}, Next: []int{0, -1, -1}, Head: 0, Tail: 0}},
		{"the only place is its own Next and Prev", api.Order{Prev: []int{0, -1, -1}, Next: []int{0, -1, -1}, Head: 0, Tail: 0}},
		{"a place that is not in the list has a Next in it", api.Order{Prev: []int{-1, 0, -1}, Next: []int{1, -1, 0}, Head: 0, Tail: 1}},
		{"a place that is not in the list has a Prev in it", api.Order{Prev: []int{-1, 0, 1}, Next: []int{1, -1, -1}, Head: 0, Tail: 1}},
		{"a place that is not in the list is its own Next", api.Order{Prev: []int{-1, 0, -1}, Next: []int{1, -1, 2}, Head: 0, Tail: 1}},
		{"a place that is not in the list is its own Prev", api.Order{Prev: []int{-1, 0, 2}, Next: []int{1, -1, -1}, Head: 0, Tail: 1}},
		{"Next of a place that is not in the list is below -1", api.Order{Prev: []int{-1, 0, -1}, Next: []int{1, -1, -2}, Head: 0, Tail: 1}},
		{"Prev of a place that is not in the list is below -1", api.Order{Prev: []int{-1, 0, -2}, Next: []int{1, -1, -1}, Head: 0, Tail: 1}},
		{"Next of a place that is not in the list is no place", api.Order{Prev: []int{-1, 0, -1}, Next: []int{1, -1, 3}, Head: 0, Tail: 1}},
		{"Prev of a place that is not in the list is no place", api.Order{Prev: []int{-1, 0, 3}, Next: []int{1, -1, -1}, Head: 0, Tail: 1}},
		{"two places are a list of their own", api.Order{Prev: []int{-1, -1, 1}, Next: []int{-1, 2, -1}, Head: 0, Tail: 0}},
		{"two places are a ring of their own", api.Order{Prev: []int{-1, 2, 1}, Next: []int{-1, 2, 1}, Head: 0, Tail: 0}},
		{"all places have the number 0", api.Order{Prev: []int{0, 0, 0}, Next: []int{0, 0, 0}}},
		{"Prev has no elements", api.Order{Next: []int{-1, -1, -1}, Head: -1, Tail: -1}},
		{"Next has no elements", api.Order{Prev: []int{-1, -1, -1}, Head: -1, Tail: -1}},
		{"Prev has fewer elements", api.Order{Prev: []int{-1, 0}, Next: []int{1, -1, -1}, Head: 0, Tail: 1}},
		{"Next has fewer elements", api.Order{Prev: []int{-1, 0, -1}, Next: []int{1, -1}, Head: 0, Tail: 1}},
	} {
		t.Run(c.why, func(t *testing.T) { isBad(t, c.o) })
	}
}

// All orders of few places, with all numbers about the places: valid ones and others.
func TestP15_1_AllSmallOrders(t *testing.T) {
	for n := 1; n <= 3; n++ {
		valid := map[[8]int]bool{}
		for _, l := range allLists(n) {
			valid[asNumbers(of(n, l...))] = true
		}
		found := 0
		for o := range small(n) {
			want := api.ErrBad
			if valid[asNumbers(o)] {
				want = api.OK
				found++
			}
			checkIs(t, o, want)
			// The others of 3 places would take long.
			if n < 3 || want == api.OK {
				isAsTold(t, o)
			}
		}
		if found != len(valid) || found != len(allLists(n)) {
			t.Errorf("%d valid orders of %d places, not %d", found, n, len(allLists(n)))
		}
	}
}

// asNumbers tells orders of up to 3 places with the same number of places from each other.
func asNumbers(o api.Order) (k [8]int) {
	copy(k[:], slices.Concat(o.Prev, o.Next, []int{o.Head, o.Tail}))
	return k
}

// small goes over all orders of n places in which all numbers are from -2 to n.
func small(n int) func(func(api.Order) bool) {
	return func(yield func(api.Order) bool) {
		all := 1
		for range 2*n + 2 {
			all *= n + 3
		}
		for i := range all {
			numbers := make([]int, 2*n+2)
			for j := range numbers {
				numbers[j], i = i%(n+3)-2, i/(n+3)
			}
			if !yield(api.Order{Prev: numbers[:n:n], Next: numbers[n : 2*n : 2*n], Head: numbers[2*n], Tail: numbers[2*n+1]}) {
				return
			}
		}
	}
}

// Orders of all sizes in which one number was changed.
func TestP15_1_OneChange(t *testing.T) {
	m := mixed()
	for n := 1; n <= most; n++ {
		for _, l := range lists(m, n) {
			isAsTold(t, of(n, l...))
			for _, x := range append(farNumbers(), counted(n+2)...) {
				for _, x := range []int{x, -1} {
					o := of(n, l...)
					o.Head = x
					isAsTold(t, o)
					o = of(n, l...)
					o.Tail = x
					isAsTold(t, o)
				}
				for place := range n {
					o := of(n, l...)
					o.Prev[place] = x
					isAsTold(t, o)
					o = of(n, l...)
					o.Next[place] = x
					isAsTold(t, o)
				}
			}
		}
	}
}

// The list may go round from its last place to each one that it had before, with and without Prev.
func TestP15_1_ListsThatGoRound(t *testing.T) {
	m := mixed()
	for n := 1; n <= most; n++ {
		for range 5 {
			l := m.Perm(n)
			for length := 1; length <= n; length++ {
				last := l[length-1]
				for _, back := range l[:length] {
					o := of(n, l[:length]...)
					o.Next[last] = back
					isBad(t, o)
					o.Prev[back] = last
					isBad(t, o)
					o.Tail = -1
					isBad(t, o)
					o.Tail = back
					isBad(t, o)
				}
			}
		}
	}
}

// A list that was cut in two is none, with a second list or a ring beside it.
func TestP15_1_PlacesBesideTheList(t *testing.T) {
	for n := 3; n <= most; n++ {
		for cut := 1; cut < n; cut++ {
			o := of(n, counted(n)...)
			o.Next[cut-1] = -1
			isBad(t, o)
			o.Tail = cut - 1
			isBad(t, o)
			o.Next[n-1], o.Prev[cut] = cut, n-1
			isBad(t, o)
			o = of(n, counted(n)...)
			o.Prev[cut] = -1
			isBad(t, o)
			o.Head = cut
			isBad(t, o)
			o.Next[cut-1] = -1
			// A single place beside the list is one that is not in it.
			if cut > 1 {
				isBad(t, o)
				o.Prev[0], o.Next[cut-1] = cut-1, 0
				isBad(t, o)
			}
			if cut < n-1 {
				o.Head, o.Tail = 0, cut-1
				o.Prev[0], o.Next[cut-1] = -1, -1
				isBad(t, o)
			}
		}
	}
}

// The same places the other way round: each of the two directions counts.
func TestP15_1_TurnedRound(t *testing.T) {
	m := mixed()
	for n := 2; n <= most; n++ {
		for length := 2; length <= n; length++ {
			l := m.Perm(n)[:length]
			o := of(n, l...)
			o.Prev, o.Next = o.Next, o.Prev
			isBad(t, o)
			o.Head, o.Tail = o.Tail, o.Head
			slices.Reverse(l)
			if !equal(o, of(n, l...)) {
				t.Fatal(o, l)
			}
			isAsTold(t, o)
			o.Prev, o.Next = o.Next, o.Prev
			isBad(t, o)
		}
	}
}

func TestP15_2_TouchedPlaces(t *testing.T) {
	o := api.Order{Prev: []int{-1, -1, -1, -1}, Next: []int{-1, -1, -1, -1}, Head: -1, Tail: -1}
	for _, c := range []struct {
		why   string
		place int
		after api.Order
	}{
		{"the list was empty", 1, api.Order{Prev: []int{-1, -1, -1, -1}, Next: []int{-1, -1, -1, -1}, Head: 1, Tail: 1}},
		{"the only place", 1, api.Order{Prev: []int{-1, -1, -1, -1}, Next: []int{-1, -1, -1, -1}, Head: 1, Tail: 1}},
		{"a second place", 3, api.Order{Prev: []int{-1, 3, -1, -1}, Next: []int{-1, -1, -1, 1}, Head: 3, Tail: 1}},
		{"the last one of two", 1, api.Order{Prev: []int{-1, -1, -1, 1}, Next: []int{-1, 3, -1, -1}, Head: 1, Tail: 3}},
		{"the first one of two", 1, api.Order{Prev: []int{-1, -1, -1, 1}, Next: []int{-1, 3, -1, -1}, Head: 1, Tail: 3}},
		{"a third place", 0, api.Order{Prev: []int{-1, 0, -1, 1}, Next: []int{1, 3, -1, -1}, Head: 0, Tail: 3}},
		{"the one in the middle", 1, api.Order{Prev: []int{1, -1, -1, 0}, Next: []int{3, 0, -1, -1}, Head: 1, Tail: 3}},
		{"the last one of three", 3, api.Order{Prev: []int{1, 3, -1, -1}, Next: []int{-1, 0, -1, 1}, Head: 3, Tail: 0}},
		{"all places", 2, api.Order{Prev: []int{1, 3, -1, 2}, Next: []int{-1, 0, 3, 1}, Head: 2, Tail: 0}},
		{"the last one of all", 0, api.Order{Prev: []int{-1, 3, 0, 2}, Next: []int{2, -1, 3, 1}, Head: 0, Tail: 1}},
	} {
		t.Run(c.why, func(t *testing.T) {
			touchIs(t, o, c.place, c.after, api.OK)
			checkIs(t, c.after, api.OK)
		})
		o = c.after
	}
}

func TestP15_2_RemovedPlaces(t *testing.T) {
	all := api.Order{Prev: []int{2, 0, -1, 1}, Next: []int{1, 3, 0, -1}, Head: 2, Tail: 3}
	for _, c := range []struct {
		why       string
		o         api.Order
		place     int
		after     api.Order
		wantError api.Errno
	}{
		{"the first one", all, 2, api.Order{Prev: []int{-1, 0, -1, 1}, Next: []int{1, 3, -1, -1}, Head: 0, Tail: 3}, api.OK},
		{"the second one", all, 0, api.Order{Prev: []int{-1, 2, -1, 1}, Next: []int{-1, 3, 1, -1}, Head: 2, Tail: 3}, api.OK},
		{"the third one", all, 1, api.Order{Prev: []int{2, -1, -1, 0}, Next: []int{3, -1, 0, -1}, Head: 2, Tail: 3}, api.OK},
		{"the last one", all, 3, api.Order{Prev: []int{2, 0, -1, -1}, Next: []int{1, -1, 0, -1}, Head: 2, Tail: 1}, api.OK},
		{"the only one", of(2, 1), 1, of(2), api.OK},
		{"the only one of one place", of(1, 0), 0, of(1), api.OK},
		{"the first one of two", of(3, 0, 2), 0, of(3, 2), api.OK},
		{"the last one of two", of(3, 0, 2), 2, of(3, 0), api.OK},
		{"one that is not in the list", of(3, 0, 2), 1, api.Order{}, api.ErrNone},
		{"any one of an empty list", of(3), 0, api.Order{}, api.ErrNone},
	} {
		t.Run(c.why, func(t *testing.T) { removeIs(t, c.o, c.place, c.after, c.wantError) })
	}
}

// Each place is removed from orders of all sizes; a second time it is not in the list.
func TestP15_2_PlacesThatAreNotInTheList(t *testing.T) {
	m := mixed()
	for n := 1; n <= most; n++ {
		for _, l := range lists(m, n) {
			for place := range n {
				o := of(n, l...)
				if slices.Contains(l, place) {
					removeIs(t, o, place, of(n, without(l, place)...), api.OK)
					o = of(n, without(l, place)...)
				}
				removeIs(t, o, place, api.Order{}, api.ErrNone)
				touchIs(t, o, place, of(n, touched(l, place)...), api.OK)
			}
		}
	}
}

func TestP15_2_PlacesThatAreNone(t *testing.T) {
	m := mixed()
	for n := 1; n <= most; n++ {
		for _, l := range lists(m, n) {
			for _, place := range append(farNumbers(), -1, -n, n, n+1, n+256, n+1<<32, most+n) {
				touchIs(t, of(n, l...), place, api.Order{}, api.ErrArg)
				removeIs(t, of(n, l...), place, api.Order{}, api.ErrArg)
			}
		}
	}
}

// An order that is not valid is that, whatever else is wrong; and a number that is no place is that before it is not in the list.
func TestP15_2_OrderOfErrors(t *testing.T) {
	empty, some := of(3), of(3, 1, 2)
	for _, o := range []api.Order{empty, some} {
		for _, place := range []int{-1, 3} {
			touchIs(t, o, place, api.Order{}, api.ErrArg)
			removeIs(t, o, place, api.Order{}, api.ErrArg)
		}
		removeIs(t, o, 0, api.Order{}, api.ErrNone)
		o.Next[0] = 0
		for place := -1; place <= 3; place++ {
			touchIs(t, o, place, api.Order{}, api.ErrBad)
			removeIs(t, o, place, api.Order{}, api.ErrBad)
		}
		lastIs(t, o, 0, api.ErrBad)
		listIs(t, o, nil, api.ErrBad)
	}
}

func TestP15_3_LastOnes(t *testing.T) {
	lastIs(t, of(1, 0), 0, api.OK)
	lastIs(t, of(4, 3), 3, api.OK)
	lastIs(t, of(4, 3, 0), 0, api.OK)
	lastIs(t, of(16, 7, 3, 15, 0, 1), 1, api.OK)
	lastIs(t, of(16, 0, 15), 15, api.OK)
	m := mixed()
	for n := 1; n <= most; n++ {
		lastIs(t, of(n), 0, api.ErrNone)
		l := m.Perm(n)
		for i, place := range l {
			lastIs(t, of(n, l[:i+1]...), place, api.OK)
		}
	}
}

func TestP15_3_Lists(t *testing.T) {
	listIs(t, of(1), nil, api.OK)
	listIs(t, of(1, 0), []int{0}, api.OK)
	listIs(t, of(4, 3, 0), []int{3, 0}, api.OK)
	listIs(t, of(16, 7, 3, 15, 0, 1), []int{7, 3, 15, 0, 1}, api.OK)
	m := mixed()
	for n := 1; n <= most; n++ {
		for range 20 {
			l := m.Perm(n)
			for length := range n + 1 {
				listIs(t, of(n, l[:length]...), l[:length], api.OK)
			}
		}
	}
}

// Neither a last place nor a list is told of an order with one wrong number.
func TestP15_3_NothingOfBadOnes(t *testing.T) {
	for n := 1; n <= most; n++ {
		for place := range n {
			for _, o := range []api.Order{of(n), of(n, counted(n)...)} {
				o.Prev[place] = place
				lastIs(t, o, 0, api.ErrBad)
				listIs(t, o, nil, api.ErrBad)
			}
		}
	}
}

// lastUses gives the places of some uses, the one used last first, each one once.
func lastUses(uses []int) (l []int) {
	for _, place := range slices.Backward(uses) {
		if !slices.Contains(l, place) {
			l = append(l, place)
		}
	}
	return l
}

// All short rows of touches of few places.
func TestP15_4_AllShortRowsOfTouches(t *testing.T) {
	for n := 1; n <= 4; n++ {
		all := 1
		for length := range 7 {
			for number := range all {
				uses := make([]int, length)
				for i := range uses {
					uses[i], number = number%n, number/n
				}
				o := touch(t, made(t, n), uses...)
				if !equal(o, of(n, lastUses(uses)...)) {
					t.Fatalf("%v behind %v, not the list %v", o, uses, lastUses(uses))
				}
			}
			all *= n
		}
	}
}

// Long rows of touches of many places, in which some places come more often than others.
func TestP15_4_LongRowsOfTouches(t *testing.T) {
	m := mixed()
	for n := 1; n <= most; n++ {
		for range 20 {
			o, uses := made(t, n), []int(nil)
			for range 100 {
				place := m.IntN(1 + m.IntN(n))
				o, uses = touch(t, o, place), append(uses, place)
				listIs(t, o, lastUses(uses), api.OK)
				lastIs(t, o, lastUses(uses)[len(lastUses(uses))-1], api.OK)
				checkIs(t, o, api.OK)
			}
		}
	}
}

// each goes over all orders of few places, and some of many.
func each(do func(n int, l []int)) {
	for n := 1; n <= 5; n++ {
		for _, l := range allLists(n) {
			do(n, l)
		}
	}
	m := mixed()
	for n := 6; n <= most; n++ {
		for range 60 {
			do(n, someList(m, n))
		}
	}
}

func TestP15_4_TouchingTheFirstChangesNothing(t *testing.T) {
	each(func(n int, l []int) {
		if len(l) > 0 {
			touchIs(t, of(n, l...), l[0], of(n, l...), api.OK)
		}
	})
}

func TestP15_4_TouchingTwiceIsTouchingOnce(t *testing.T) {
	each(func(n int, l []int) {
		for place := range n {
			once := touch(t, of(n, l...), place)
			touchIs(t, once, place, once, api.OK)
			listIs(t, once, touched(l, place), api.OK)
		}
	})
}

func TestP15_4_RemovingKeepsTheOrderOfOthers(t *testing.T) {
	each(func(n int, l []int) {
		for _, place := range l {
			o := remove(t, of(n, l...), place)
			checkIs(t, o, api.OK)
			listIs(t, o, without(l, place), api.OK)
		}
	})
}

// A place that was not in the list, and is touched and removed, leaves the order as it was.
func TestP15_4_TouchedAndRemoved(t *testing.T) {
	each(func(n int, l []int) {
		for place := range n {
			removeIs(t, touch(t, of(n, l...), place), place, of(n, without(l, place)...), api.OK)
		}
	})
}

// All places are removed one after the other, in each order of many, and then touched again.
func TestP15_4_AllPlacesGoAndComeBack(t *testing.T) {
	m := mixed()
	for n := 1; n <= most; n++ {
		for range 30 {
			l := m.Perm(n)
			o := of(n, l...)
			for _, place := range m.Perm(n) {
				o, l = remove(t, o, place), without(l, place)
				listIs(t, o, l, api.OK)
			}
			if !equal(o, made(t, n)) {
				t.Fatal(o)
			}
			uses := m.Perm(n)
			listIs(t, touch(t, o, uses...), lastUses(uses), api.OK)
		}
	}
}

// Long runs of both against a plain list.
func TestP15_4_LongRuns(t *testing.T) {
	m := mixed()
	for n := 1; n <= most; n++ {
		o, l := made(t, n), []int(nil)
		for step := range 1500 {
			place := m.IntN(n)
			// Now more is touched, now more is removed, so that lists of all lengths come up.
			if m.IntN(4) > step/100%2*2 {
				o, l = touch(t, o, place), touched(l, place)
			} else if slices.Contains(l, place) {
				o, l = remove(t, o, place), without(l, place)
			} else {
				removeIs(t, o, place, api.Order{}, api.ErrNone)
			}
			if !equal(o, of(n, l...)) {
				t.Fatalf("%v, not %v", o, of(n, l...))
			}
			checkIs(t, o, api.OK)
			listIs(t, o, l, api.OK)
			last, e := wantLast(o)
			lastIs(t, o, last, e)
		}
	}
}

// spare gives a copy with room behind it, which has these values.
func spare(l []int, behind ...int) []int { return slices.Concat(l, behind)[:len(l)] }

// whole gives a slice with all the room behind it.
func whole(l []int) []int { return l[:cap(l)] }

func spareOrder(o api.Order, behind ...int) api.Order {
	return api.Order{Prev: spare(o.Prev, behind...), Next: spare(o.Next, behind...), Head: o.Head, Tail: o.Tail}
}

func copied(o api.Order) api.Order {
	return api.Order{Prev: slices.Clone(o.Prev), Next: slices.Clone(o.Next), Head: o.Head, Tail: o.Tail}
}

// wholeOrder gives a copy of all that an order has, with the room behind it.
func wholeOrder(o api.Order) api.Order {
	return copied(api.Order{Prev: whole(o.Prev), Next: whole(o.Next), Head: o.Head, Tail: o.Tail})
}

// overwrite changes all the numbers of a list, with the room behind it.
func overwrite(l []int) {
	for i := range whole(l) {
		whole(l)[i] = 99 + i
	}
}

func overwriteOrder(o api.Order) {
	overwrite(o.Prev)
	overwrite(o.Next)
}

// orders are some that are valid, and some that are not.
func orders() []api.Order {
	m := mixed()
	l := []api.Order{{}, {Prev: []int{0}, Next: []int{0}}, {Prev: []int{-1}, Next: []int{-1}, Head: -1}, of(17, counted(17)...)}
	for n := 1; n <= most; n++ {
		for _, list := range lists(m, n) {
			l = append(l, of(n, list...))
		}
	}
	return l
}

// changes are calls that give an order.
func changes() (l []func(o api.Order) (api.Order, api.Errno)) {
	for place := -1; place <= most; place++ {
		l = append(l,
			func(o api.Order) (api.Order, api.Errno) { return lru.Touch(o, place) },
			func(o api.Order) (api.Order, api.Errno) { return lru.Remove(o, place) })
	}
	return l
}

// Neither an order nor the room behind it changes, whatever is asked.
func TestP1_ArgumentsAreOnlyRead(t *testing.T) {
	for _, o := range orders() {
		o = spareOrder(o, 77, 0, -1)
		before := wholeOrder(o)
		for i, change := range changes() {
			change(o)
			lru.Check(o)
			lru.Last(o)
			lru.List(o)
			if !equal(wholeOrder(o), before) {
				t.Fatalf("%d: %v, not %v", i, wholeOrder(o), before)
			}
		}
	}
}

// What stands in the room behind a list is not of the order.
func TestP1_RoomBehindIsNothing(t *testing.T) {
	for _, o := range orders() {
		for _, behind := range []int{-1, 0, 3, 99} {
			isAsTold(t, spareOrder(o, slices.Repeat([]int{behind}, 20)...))
		}
		if n := len(o.Prev); n > 1 {
			isAsTold(t, api.Order{Prev: o.Prev[:n-1], Next: o.Next[:n-1], Head: o.Head, Tail: o.Tail})
			isBad(t, api.Order{Prev: o.Prev, Next: o.Next[:n-1], Head: o.Head, Tail: o.Tail})
			isBad(t, api.Order{Prev: o.Prev[:n-1], Next: o.Next, Head: o.Head, Tail: o.Tail})
		}
	}
}

// A result can be changed without changing the argument or another result, and the other way round; and nothing of it is kept.
func TestP1_ResultsShareNoMemory(t *testing.T) {
	for _, original := range orders() {
		for i, change := range changes() {
			o := spareOrder(original, 77, 0, -1)
			before := wholeOrder(o)
			first, _ := change(o)
			want := copied(first)
			second, _ := change(o)
			overwriteOrder(second)
			if !equal(first, want) || !equal(wholeOrder(o), before) {
				t.Fatalf("%d: %v, not %v; %v, not %v", i, first, want, wholeOrder(o), before)
			}
			overwriteOrder(o)
			if !equal(first, want) {
				t.Fatalf("%d: %v, not %v", i, first, want)
			}
			overwrite(first.Prev)
			if !slices.Equal(first.Next, want.Next) {
				t.Fatalf("%d: %v, not %v", i, first.Next, want.Next)
			}
			overwrite(first.Next)
			if again, _ := change(original); !equal(again, want) {
				t.Fatalf("%d: %v, not %v", i, again, want)
			}
		}
	}
}

func TestP1_ListsShareNoMemory(t *testing.T) {
	for _, original := range orders() {
		o := spareOrder(original, 77, 0, -1)
		before := wholeOrder(o)
		first, e := lru.List(o)
		want := slices.Clone(first)
		second, _ := lru.List(o)
		overwrite(second)
		if !slices.Equal(first, want) || !equal(wholeOrder(o), before) {
			t.Fatalf("%v, not %v; %v, not %v", first, want, wholeOrder(o), before)
		}
		overwriteOrder(o)
		if !slices.Equal(first, want) {
			t.Fatalf("%v, not %v", first, want)
		}
		overwrite(first)
		listIs(t, original, want, e)
	}
}

// Each order that is new is new, whatever was done with others, and its two lists are two.
func TestP1_NewIsNewEachTime(t *testing.T) {
	for n := 1; n <= most; n++ {
		first, second := made(t, n), made(t, n)
		overwrite(first.Prev)
		if !slices.Equal(first.Next, second.Next) {
			t.Fatal(first)
		}
		overwrite(first.Next)
		for _, o := range []api.Order{second, made(t, n)} {
			if !equal(o, of(n)) {
				t.Fatal(o)
			}
		}
	}
}

// An order of which places were touched and removed is what it was, and answers as before.
func TestP1_OrdersAreValues(t *testing.T) {
	m := mixed()
	for n := 1; n <= most; n++ {
		o := of(n, someList(m, n)...)
		steps := []api.Order{o}
		for range 50 {
			if next, e := pick(m, changes())(o); e == api.OK {
				o = next
				steps = append(steps, o)
			}
		}
		want := make([]api.Order, len(steps))
		for i, o := range steps {
			want[i] = copied(o)
			isAsTold(t, o)
		}
		for i, o := range steps {
			if !equal(o, want[i]) {
				t.Fatalf("%v, not %v", o, want[i])
			}
		}
	}
}

// Nil and empty slices are the same: no places.
func TestP1_NilAndEmpty(t *testing.T) {
	for _, end := range []int{-2, -1, 0, 1} {
		for _, prev := range [][]int{nil, {}, make([]int, 0, 9)} {
			for _, next := range [][]int{nil, {}, make([]int, 0, 9), {-1}, {0}} {
				for _, tail := range []int{-1, 0, end} {
					isBad(t, api.Order{Prev: prev, Next: next, Head: end, Tail: tail})
					isBad(t, api.Order{Prev: next, Next: prev, Head: end, Tail: tail})
				}
			}
		}
	}
}

// anyOrder gives an order that is often valid, and often just not.
func anyOrder(m *rand.Rand) api.Order {
	n := 1 + m.IntN(most+1)
	o := of(n, someList(m, n)...)
	number := func() int { return pick(m, []int{m.IntN(n), m.IntN(n), -1, n, pick(m, farNumbers()), int(m.Uint64())}) }
	for range m.IntN(3) {
		switch m.IntN(5) {
		case 0:
			o.Prev[m.IntN(n)] = number()
		case 1:
			o.Next[m.IntN(n)] = number()
		case 2:
			o.Head = number()
		case 3:
			o.Tail = number()
		case 4:
			o.Prev, o.Next = o.Prev[:m.IntN(n+1)], o.Next[:m.IntN(n+1)]
			return o
		}
	}
	return o
}

// Any values at all are answered, the same ones each time, and an answer with an error has nothing else.
func TestP1_AllArgumentsAreAnswered(t *testing.T) {
	m := mixed()
	found := map[api.Errno]int{}
	for range 30000 {
		o := anyOrder(m)
		found[wantCheck(o)]++
		for range 2 {
			isAsTold(t, o)
			for _, place := range []int{pick(m, farNumbers()), int(m.Uint64())} {
				placeIsAsTold(t, o, place)
			}
		}
	}
	for _, e := range []api.Errno{api.OK, api.ErrBad} {
		if found[e] < 5000 {
			t.Errorf("%d orders with the error %d", found[e], e)
		}
	}
}
