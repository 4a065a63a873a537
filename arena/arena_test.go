package arena_test

import (
	"math"
	"math/rand/v2"
	"slices"
	"testing"

	"spigot/api"
	"spigot/arena"
)

const most = 16

// mixed gives numbers that are mixed, the same ones in each test.
func mixed() *rand.Rand { return rand.New(rand.NewPCG(13, 105)) }

func pick[E any](m *rand.Rand, l []E) E { return l[m.IntN(len(l))] }

func equal(a, b api.Arena) bool {
	return slices.Equal(a.Next, b.Next) && slices.Equal(a.Used, b.Used) && a.Free == b.Free
}

// of gives the arena of n places with this free list: all other places are used.
func of(n int, free ...int) api.Arena {
	a := api.Arena{Next: slices.Repeat([]int{-1}, n), Used: slices.Repeat([]bool{true}, n), Free: -1}
	for _, place := range slices.Backward(free) {
		a.Next[place], a.Used[place], a.Free = a.Free, false, place
	}
	return a
}

// counted gives 0, 1, and so on, n numbers.
func counted(n int) (l []int) {
	for i := range n {
		l = append(l, i)
	}
	return l
}

// freeLists gives all lists of different places that an arena of n places may have.
func freeLists(n int) [][]int {
	all := [][]int{nil}
	for i := 0; i < len(all); i++ {
		for place := range n {
			if !slices.Contains(all[i], place) {
				all = append(all, append(slices.Clone(all[i]), place))
			}
		}
	}
	return all
}

// someList gives a free list for n places, mixed.
func someList(m *rand.Rand, n int) []int { return m.Perm(n)[:m.IntN(n+1)] }

// farNumbers are no places of any arena, though some would be if they were cut to fewer bits.
func farNumbers() []int {
	return []int{math.MinInt, math.MinInt + 1, -1 << 40, -1 << 32, -65536, -256, -17, -16, -2, 16, 17, 32, 64, 128, 255, 256, 257, 1 << 16, 1<<16 + 1, 1 << 31, 1<<32 - 1, 1 << 32, 1<<32 + 1, 1 << 40, math.MaxInt - 1, math.MaxInt}
}

// The definitions, put down once more: an arena is valid if it is that of its free list.

func freeList(a api.Arena) ([]int, bool) {
	n := len(a.Next)
	if n < 1 || n > most {
		return nil, false
	}
	var l []int
	for place := a.Free; place >= 0 && place < n && len(l) < n; place = a.Next[place] {
		l = append(l, place)
	}
	for i, place := range l {
		if slices.Contains(l[:i], place) {
			return nil, false
		}
	}
	return l, equal(a, of(n, l...))
}

func wantCheck(a api.Arena) api.Errno {
	if _, valid := freeList(a); !valid {
		return api.ErrBad
	}
	return api.OK
}

func wantTake(a api.Arena) (api.Arena, int, api.Errno) {
	l, valid := freeList(a)
	if !valid {
		return api.Arena{}, 0, api.ErrBad
	}
	if len(l) == 0 {
		return api.Arena{}, 0, api.ErrFull
	}
	return of(len(a.Next), l[1:]...), l[0], api.OK
}

func wantGive(a api.Arena, place int) (api.Arena, api.Errno) {
	l, valid := freeList(a)
	if !valid {
		return api.Arena{}, api.ErrBad
	}
	if place < 0 || place >= len(a.Next) {
		return api.Arena{}, api.ErrArg
	}
	if slices.Contains(l, place) {
		return api.Arena{}, api.ErrState
	}
	return of(len(a.Next), append([]int{place}, l...)...), api.OK
}

func wantCount(a api.Arena) (int, int, api.Errno) {
	l, valid := freeList(a)
	if !valid {
		return 0, 0, api.ErrBad
	}
	return len(a.Next) - len(l), len(l), api.OK
}

// What a function answers, held against the definitions.

func checkIs(t *testing.T, a api.Arena, want api.Errno) {
	t.Helper()
	if e := arena.Check(a); e != want {
		t.Fatalf("Check(%v) = %d, not %d", a, e, want)
	}
}

func takeIs(t *testing.T, a, want api.Arena, wantPlace int, wantE api.Errno) {
	t.Helper()
	if got, place, e := arena.Take(a); !equal(got, want) || place != wantPlace || e != wantE {
		t.Fatalf("Take(%v) = %v, %d, %d, not %v, %d, %d", a, got, place, e, want, wantPlace, wantE)
	}
}

func giveIs(t *testing.T, a api.Arena, place int, want api.Arena, wantE api.Errno) {
	t.Helper()
	if got, e := arena.Give(a, place); !equal(got, want) || e != wantE {
		t.Fatalf("Give(%v, %d) = %v, %d, not %v, %d", a, place, got, e, want, wantE)
	}
}

func countIs(t *testing.T, a api.Arena, wantUsed, wantFree int, wantE api.Errno) {
	t.Helper()
	if used, free, e := arena.Count(a); used != wantUsed || free != wantFree || e != wantE {
		t.Fatalf("Count(%v) = %d, %d, %d, not %d, %d, %d", a, used, free, e, wantUsed, wantFree, wantE)
	}
}

func giveIsAsTold(t *testing.T, a api.Arena, place int) {
	t.Helper()
	want, e := wantGive(a, place)
	giveIs(t, a, place, want, e)
}

// isAsTold holds all that is answered for an arena against the definitions.
func isAsTold(t *testing.T, a api.Arena) {
	t.Helper()
	checkIs(t, a, wantCheck(a))
	taken, place, e := wantTake(a)
	takeIs(t, a, taken, place, e)
	used, free, e := wantCount(a)
	countIs(t, a, used, free, e)
	for place := -2; place < len(a.Next)+2 && place < 20; place++ {
		giveIsAsTold(t, a, place)
	}
}

// isBad tells that an arena is not valid, and that nothing else is answered for it.
func isBad(t *testing.T, a api.Arena) {
	t.Helper()
	checkIs(t, a, api.ErrBad)
	takeIs(t, a, api.Arena{}, 0, api.ErrBad)
	countIs(t, a, 0, 0, api.ErrBad)
	for _, place := range append(farNumbers(), -1, 0, 1, 2, 3, 15) {
		giveIs(t, a, place, api.Arena{}, api.ErrBad)
	}
}

func made(t *testing.T, n int) api.Arena {
	t.Helper()
	a, e := arena.New(n)
	if e != api.OK {
		t.Fatalf("New(%d): error %d", n, e)
	}
	return a
}

func take(t *testing.T, a api.Arena) (api.Arena, int) {
	t.Helper()
	got, place, e := arena.Take(a)
	if e != api.OK {
		t.Fatalf("Take(%v): error %d", a, e)
	}
	return got, place
}

func give(t *testing.T, a api.Arena, place int) api.Arena {
	t.Helper()
	got, e := arena.Give(a, place)
	if e != api.OK {
		t.Fatalf("Give(%v, %d): error %d", a, place, e)
	}
	return got
}

func TestNumbersAreThoseOfTheChapter(t *testing.T) {
	if api.OK != 0 || api.ErrArg != 2 || api.ErrBad != 8 || api.ErrFull != 18 || api.ErrState != 36 || api.MaxPlaces != most {
		t.Error(api.OK, api.ErrArg, api.ErrBad, api.ErrFull, api.ErrState, api.MaxPlaces)
	}
}

// The chapter's example, sentence by sentence.
func TestExample(t *testing.T) {
	a := made(t, 3)
	if !slices.Equal(a.Next, []int{1, 2, -1}) || !slices.Equal(a.Used, []bool{false, false, false}) || a.Free != 0 {
		t.Fatal(a)
	}
	a, first := take(t, a)
	a, second := take(t, a)
	if first != 0 || second != 1 || a.Free != 2 {
		t.Fatal(first, second, a)
	}
	if !slices.Equal(a.Next, []int{-1, -1, -1}) || !slices.Equal(a.Used, []bool{true, true, false}) {
		t.Fatal(a)
	}
	a = give(t, a, 0)
	if a.Free != 0 || a.Next[0] != 2 || !slices.Equal(a.Next, []int{2, -1, -1}) || !slices.Equal(a.Used, []bool{false, true, false}) {
		t.Fatal(a)
	}
	if _, place := take(t, a); place != 0 {
		t.Fatal(place)
	}
}

func TestP13_1_NewArenas(t *testing.T) {
	for n := 1; n <= most; n++ {
		a := made(t, n)
		if len(a.Next) != n || len(a.Used) != n || a.Free != 0 {
			t.Fatalf("New(%d) = %v", n, a)
		}
		for place := range n {
			next := place + 1
			if next == n {
				next = -1
			}
			if a.Next[place] != next || a.Used[place] {
				t.Fatalf("New(%d) = %v", n, a)
			}
		}
		checkIs(t, a, api.OK)
		countIs(t, a, 0, n, api.OK)
	}
}

func TestP13_1_NewOutsideOfTheRange(t *testing.T) {
	for _, n := range append(farNumbers(), 0, -1, 18, 100, -100) {
		if n == most {
			continue
		}
		if a, e := arena.New(n); !equal(a, api.Arena{}) || e != api.ErrArg {
			t.Errorf("New(%d) = %v, %d", n, a, e)
		}
	}
}

func TestP13_1_SizesOfArenas(t *testing.T) {
	isBad(t, api.Arena{})
	isBad(t, api.Arena{Free: -1})
	for next := range most + 5 {
		for used := range most + 5 {
			a := api.Arena{Next: of(next, counted(next)...).Next, Used: make([]bool, used)}
			full := api.Arena{Next: slices.Repeat([]int{-1}, next), Used: slices.Repeat([]bool{true}, used), Free: -1}
			if next == used && next >= 1 && next <= most {
				checkIs(t, a, api.OK)
				checkIs(t, full, api.OK)
				continue
			}
			isBad(t, a)
			isBad(t, full)
		}
	}
	for _, n := range []int{17, 31, 32, 33, 64, 255, 256, 257, 256 + 8, 65536, 65536 + 16} {
		isBad(t, of(n, counted(n)...))
		isBad(t, of(n, 0))
		isBad(t, of(n))
		isBad(t, api.Arena{Next: of(3, 0, 1, 2).Next, Used: make([]bool, n)})
		isBad(t, api.Arena{Next: of(n, counted(n)...).Next, Used: make([]bool, 3)})
	}
}

// One that is not valid for each reason that the chapter names.
func TestP13_1_ReasonsWhyAnArenaIsBad(t *testing.T) {
	free, used := []bool{false, false, false}, []bool{true, true, true}
	for _, c := range []struct {
		why string
		a   api.Arena
	}{
		{"Free is no place", api.Arena{Next: []int{1, 2, -1}, Used: free, Free: 3}},
		{"Free is below -1", api.Arena{Next: []int{1, 2, -1}, Used: free, Free: -2}},
		{"Free is -1, and no place is used", api.Arena{Next: []int{1, 2, -1}, Used: free, Free: -1}},
		{"Free is used", api.Arena{Next: []int{-1, -1, -1}, Used: used, Free: 0}},
		{"Free is used, and goes on", api.Arena{Next: []int{1, 2, -1}, Used: []bool{true, false, false}, Free: 0}},
		{"Next is no place", api.Arena{Next: []int{1, 2, 3}, Used: free, Free: 0}},
		{"Next is below -1", api.Arena{Next: []int{1, 2, -2}, Used: free, Free: 0}},
		{"the free list goes on to a used place", api.Arena{Next: []int{1, -1, -1}, Used: []bool{false, true, true}, Free: 0}},
		{"a place is its own Next", api.Arena{Next: []int{0, 2, -1}, Used: free, Free: 0}},
		{"the free list goes round", api.Arena{Next: []int{1, 2, 0}, Used: free, Free: 0}},
		{"the free list goes round from its second place", api.Arena{Next: []int{1, 2, 1}, Used: free, Free: 0}},
		{"the last place is its own Next", api.Arena{Next: []int{1, 2, 2}, Used: free, Free: 0}},
		{"the first place is not in the free list", api.Arena{Next: []int{1, 2, -1}, Used: free, Free: 1}},
		{"the last place is not in the free list", api.Arena{Next: []int{1, -1, -1}, Used: free, Free: 0}},
		{"a place in the middle is not in the free list", api.Arena{Next: []int{2, 2, -1}, Used: free, Free: 0}},
		{"a used place goes on to a free one", api.Arena{Next: []int{1, 2, -1}, Used: []bool{true, false, false}, Free: 1}},
		{"a used place goes on to another one", api.Arena{Next: []int{-1, 2, -1}, Used: []bool{false, true, true}, Free: 0}},
		{"a used place goes on to itself", api.Arena{Next: []int{-1, -1, 2}, Used: used, Free: -1}},
		{"a used place goes on below -1", api.Arena{Next: []int{-1, -2, -1}, Used: used, Free: -1}},
		{"a used place goes on to no place", api.Arena{Next: []int{-1, -1, 3}, Used: used, Free: -1}},
		{"Next has no elements", api.Arena{Used: free, Free: -1}},
		{"Used has no elements", api.Arena{Next: []int{1, 2, -1}}},
		{"Used has fewer elements", api.Arena{Next: []int{1, 2, -1}, Used: free[:2]}},
		{"Used has more elements", api.Arena{Next: []int{1, -1}, Used: free}},
	} {
		t.Run(c.why, func(t *testing.T) { isBad(t, c.a) })
	}
}

// All arenas of few places, with all numbers about the places: valid ones and others.
func TestP13_1_AllSmallArenas(t *testing.T) {
	for n := 1; n <= 4; n++ {
		valid := map[[6]int]bool{}
		for _, l := range freeLists(n) {
			valid[asNumbers(of(n, l...))] = true
		}
		found := 0
		for a := range small(n) {
			want := api.ErrBad
			if valid[asNumbers(a)] {
				want = api.OK
				found++
			}
			checkIs(t, a, want)
			// The others of 4 places would take long.
			if n < 4 || want == api.OK {
				isAsTold(t, a)
			}
		}
		if found != len(valid) || found != len(freeLists(n)) {
			t.Errorf("%d valid arenas of %d places, not %d", found, n, len(freeLists(n)))
		}
	}
}

// asNumbers tells arenas of up to 4 places with the same number of places from each other.
func asNumbers(a api.Arena) (k [6]int) {
	copy(k[:], a.Next)
	for i, is := range a.Used {
		if is {
			k[4] += 1 << i
		}
	}
	k[5] = a.Free
	return k
}

// small goes over all arenas of n places in which Free and each Next is from -2 to n.
func small(n int) func(func(api.Arena) bool) {
	return func(yield func(api.Arena) bool) {
		all := 1
		for range n + 1 {
			all *= (n + 3) * 2
		}
		for i := range all / 2 {
			a := api.Arena{Next: make([]int, n), Used: make([]bool, n), Free: i%(n+3) - 2}
			i /= n + 3
			for place := range n {
				a.Next[place], i = i%(n+3)-2, i/(n+3)
				a.Used[place], i = i%2 == 1, i/2
			}
			if !yield(a) {
				return
			}
		}
	}
}

// Arenas of all sizes in which one number or flag was changed.
func TestP13_1_OneChange(t *testing.T) {
	m := mixed()
	for n := 1; n <= most; n++ {
		for _, l := range [][]int{nil, counted(n), m.Perm(n), someList(m, n), someList(m, n), someList(m, n)} {
			isAsTold(t, of(n, l...))
			for _, x := range append(farNumbers(), counted(n+2)...) {
				a := of(n, l...)
				a.Free = x
				isAsTold(t, a)
				for place := range n {
					a := of(n, l...)
					a.Next[place] = x
					isAsTold(t, a)
				}
			}
			for place := range n {
				a := of(n, l...)
				a.Used[place] = !a.Used[place]
				isBad(t, a)
				a.Next[place] = -1
				isAsTold(t, a)
			}
		}
	}
}

// The free list may go round from each place to each one that it had before.
func TestP13_1_ListsThatGoRound(t *testing.T) {
	m := mixed()
	for n := 1; n <= most; n++ {
		for range 5 {
			l := m.Perm(n)
			for length := 1; length <= n; length++ {
				for back := range length {
					a := of(n, l[:length]...)
					a.Next[l[length-1]] = l[back]
					isBad(t, a)
				}
			}
		}
	}
}

// Two lists of free places, or a ring of some beside the list, are none.
func TestP13_1_PlacesBesideTheList(t *testing.T) {
	for n := 2; n <= most; n++ {
		for cut := 1; cut < n; cut++ {
			a := of(n, counted(n)...)
			a.Next[cut-1] = -1
			isBad(t, a)
			a.Next[n-1] = cut
			isBad(t, a)
			a.Next[n-1] = 0
			isBad(t, a)
		}
	}
}

func TestP13_2_TakenPlaces(t *testing.T) {
	a := of(5, 3, 0, 4)
	for _, c := range []struct {
		place int
		after api.Arena
	}{
		{3, api.Arena{Next: []int{4, -1, -1, -1, -1}, Used: []bool{false, true, true, true, false}, Free: 0}},
		{0, api.Arena{Next: []int{-1, -1, -1, -1, -1}, Used: []bool{true, true, true, true, false}, Free: 4}},
		{4, api.Arena{Next: []int{-1, -1, -1, -1, -1}, Used: []bool{true, true, true, true, true}, Free: -1}},
	} {
		takeIs(t, a, c.after, c.place, api.OK)
		a = c.after
	}
	takeIs(t, a, api.Arena{}, 0, api.ErrFull)
}

func TestP13_2_PlacesGivenBack(t *testing.T) {
	a := api.Arena{Next: []int{-1, -1, -1, -1}, Used: []bool{true, true, true, true}, Free: -1}
	for _, c := range []struct {
		place int
		after api.Arena
	}{
		{2, api.Arena{Next: []int{-1, -1, -1, -1}, Used: []bool{true, true, false, true}, Free: 2}},
		{0, api.Arena{Next: []int{2, -1, -1, -1}, Used: []bool{false, true, false, true}, Free: 0}},
		{3, api.Arena{Next: []int{2, -1, -1, 0}, Used: []bool{false, true, false, false}, Free: 3}},
		{1, api.Arena{Next: []int{2, 3, -1, 0}, Used: []bool{false, false, false, false}, Free: 1}},
	} {
		giveIs(t, a, c.place, c.after, api.OK)
		a = c.after
		giveIs(t, a, c.place, api.Arena{}, api.ErrState)
	}
}

func TestP13_2_NothingIsTakenOfFullOnes(t *testing.T) {
	for n := 1; n <= most; n++ {
		takeIs(t, of(n), api.Arena{}, 0, api.ErrFull)
		for place := range n {
			// One place is enough, wherever it is.
			takeIs(t, of(n, place), of(n), place, api.OK)
		}
	}
}

func TestP13_2_PlacesThatAreNone(t *testing.T) {
	m := mixed()
	for n := 1; n <= most; n++ {
		for _, l := range [][]int{nil, counted(n), someList(m, n)} {
			for _, place := range append(farNumbers(), -1, -n, n, n+1, n+256, n+1<<32, most+n) {
				giveIs(t, of(n, l...), place, api.Arena{}, api.ErrArg)
			}
		}
	}
}

func TestP13_2_PlacesThatAreNotUsed(t *testing.T) {
	m := mixed()
	for n := 1; n <= most; n++ {
		for _, l := range [][]int{nil, counted(n), m.Perm(n), someList(m, n), someList(m, n)} {
			a := of(n, l...)
			for place := range n {
				if slices.Contains(l, place) {
					giveIs(t, a, place, api.Arena{}, api.ErrState)
				} else {
					giveIs(t, a, place, of(n, append([]int{place}, l...)...), api.OK)
				}
			}
		}
	}
}

// An arena that is not valid is that, whatever else is wrong.
func TestP13_2_OrderOfErrors(t *testing.T) {
	full, free := of(3), of(3, 0, 1, 2)
	full.Next[1], free.Next[1] = 0, 0
	takeIs(t, full, api.Arena{}, 0, api.ErrBad)
	for _, place := range []int{-1, 0, 1, 2, 3} {
		giveIs(t, full, place, api.Arena{}, api.ErrBad)
		giveIs(t, free, place, api.Arena{}, api.ErrBad)
	}
}

func TestP13_3_Counts(t *testing.T) {
	countIs(t, of(1), 1, 0, api.OK)
	countIs(t, of(1, 0), 0, 1, api.OK)
	countIs(t, of(3, 2), 2, 1, api.OK)
	countIs(t, of(16, 7, 3, 15, 0, 1), 11, 5, api.OK)
	m := mixed()
	for n := 1; n <= most; n++ {
		l := m.Perm(n)
		for free := range n + 1 {
			countIs(t, of(n, l[:free]...), n-free, free, api.OK)
		}
	}
}

func TestP13_3_NoCountsOfBadOnes(t *testing.T) {
	for n := 1; n <= most; n++ {
		for place := range n {
			a := of(n, counted(n)...)
			a.Used[place] = true
			countIs(t, a, 0, 0, api.ErrBad)
		}
	}
	countIs(t, api.Arena{}, 0, 0, api.ErrBad)
}

func TestP13_4_IncreasingOrder(t *testing.T) {
	for n := 1; n <= most; n++ {
		a := made(t, n)
		for want := range n {
			var place int
			if a, place = take(t, a); place != want {
				t.Fatalf("place %d, not %d, of %d", place, want, n)
			}
			checkIs(t, a, api.OK)
			countIs(t, a, want+1, n-want-1, api.OK)
		}
		takeIs(t, a, api.Arena{}, 0, api.ErrFull)
	}
}

// What is given back last is taken first.
func TestP13_4_GivenBackIsTakenNext(t *testing.T) {
	m := mixed()
	for n := 1; n <= most; n++ {
		for range 20 {
			a, back := of(n, someList(m, n)...), []int(nil)
			for _, place := range m.Perm(n) {
				if a.Used[place] {
					a, back = give(t, a, place), append(back, place)
					takeIs(t, a, wanted(a), place, api.OK)
				}
			}
			for _, want := range slices.Backward(back) {
				var place int
				if a, place = take(t, a); place != want {
					t.Fatalf("%d, not %d", place, want)
				}
			}
		}
	}
}

func wanted(a api.Arena) api.Arena {
	a, _, _ = wantTake(a)
	return a
}

func TestP13_4_TakenAndGivenBack(t *testing.T) {
	m := mixed()
	both := func(n int, l []int) {
		a := of(n, l...)
		if len(l) > 0 {
			b, place := take(t, a)
			giveIs(t, b, place, a, api.OK)
		}
		for place := range n {
			if a.Used[place] {
				takeIs(t, give(t, a, place), a, place, api.OK)
			}
		}
	}
	for n := 1; n <= 6; n++ {
		for _, l := range freeLists(n) {
			both(n, l)
		}
	}
	for n := 7; n <= most; n++ {
		for range 200 {
			both(n, someList(m, n))
		}
	}
}

// All that is taken is taken and given back in turn, and in the end given back in each order and taken again.
func TestP13_4_AllPlacesComeBack(t *testing.T) {
	m := mixed()
	for n := 1; n <= most; n++ {
		a := made(t, n)
		for range n {
			a, _ = take(t, a)
		}
		for range 10 {
			order := m.Perm(n)
			for i, place := range order {
				a = give(t, a, place)
				countIs(t, a, n-i-1, i+1, api.OK)
			}
			for _, want := range slices.Backward(order) {
				var place int
				if a, place = take(t, a); place != want {
					t.Fatalf("%d, not %d", place, want)
				}
			}
			takeIs(t, a, api.Arena{}, 0, api.ErrFull)
		}
	}
}

// Long runs of both: no place is taken twice without being given back between, and none is lost.
func TestP13_4_LongRuns(t *testing.T) {
	m := mixed()
	for n := 1; n <= most; n++ {
		a, held := made(t, n), map[int]bool{}
		free := counted(n)
		for step := range 2000 {
			// Now more is taken, now more is given back, so that all numbers of used places come up.
			if m.IntN(4) > step/100%2*2 {
				b, place, e := arena.Take(a)
				if len(free) == 0 {
					if e != api.ErrFull || len(held) != n {
						t.Fatalf("Take(%v): error %d", a, e)
					}
					continue
				}
				if e != api.OK || held[place] || place != free[0] {
					t.Fatalf("Take(%v) = %v, %d, %d", a, b, place, e)
				}
				a, held[place], free = b, true, free[1:]
			} else {
				place := m.IntN(n)
				b, e := arena.Give(a, place)
				if !held[place] {
					if e != api.ErrState {
						t.Fatalf("Give(%v, %d): error %d", a, place, e)
					}
					continue
				}
				if e != api.OK {
					t.Fatalf("Give(%v, %d): error %d", a, place, e)
				}
				a, free = b, append([]int{place}, free...)
				delete(held, place)
			}
			if !equal(a, of(n, free...)) {
				t.Fatalf("%v, not %v", a, of(n, free...))
			}
			checkIs(t, a, api.OK)
			countIs(t, a, len(held), n-len(held), api.OK)
		}
	}
}

// spare gives a copy with room behind it, which has these values.
func spare[E any](l []E, behind ...E) []E { return slices.Concat(l, behind)[:len(l)] }

// whole gives a slice with all the room behind it.
func whole[E any](l []E) []E { return l[:cap(l)] }

func spareArena(a api.Arena) api.Arena {
	return api.Arena{Next: spare(a.Next, 77, 0, -1), Used: spare(a.Used, true, false, true), Free: a.Free}
}

func copied(a api.Arena) api.Arena {
	return api.Arena{Next: slices.Clone(a.Next), Used: slices.Clone(a.Used), Free: a.Free}
}

// wholeArena gives a copy of all that an arena has, with the room behind it.
func wholeArena(a api.Arena) api.Arena {
	return copied(api.Arena{Next: whole(a.Next), Used: whole(a.Used), Free: a.Free})
}

// overwrite changes all that an arena has, with the room behind it.
func overwrite(a api.Arena) {
	for i := range whole(a.Next) {
		whole(a.Next)[i] = 99 + i
	}
	for i := range whole(a.Used) {
		whole(a.Used)[i] = !whole(a.Used)[i]
	}
}

// arenas are some that are valid, and some that are not.
func arenas() []api.Arena {
	m := mixed()
	l := []api.Arena{{}, {Next: []int{0}, Used: []bool{false}}, {Next: []int{-1}, Used: []bool{true}}, of(17, counted(17)...)}
	for n := 1; n <= most; n++ {
		l = append(l, of(n), of(n, counted(n)...), of(n, m.Perm(n)...), of(n, someList(m, n)...))
	}
	return l
}

// changes are all calls that give an arena.
func changes() []func(a api.Arena) (api.Arena, api.Errno) {
	l := []func(a api.Arena) (api.Arena, api.Errno){
		func(a api.Arena) (api.Arena, api.Errno) { b, _, e := arena.Take(a); return b, e },
	}
	for place := -1; place <= most; place++ {
		l = append(l, func(a api.Arena) (api.Arena, api.Errno) { return arena.Give(a, place) })
	}
	return l
}

// Neither an arena nor the room behind it changes, whatever is asked.
func TestP1_ArgumentsAreOnlyRead(t *testing.T) {
	for _, a := range arenas() {
		a = spareArena(a)
		before := wholeArena(a)
		for i, change := range changes() {
			change(a)
			arena.Check(a)
			arena.Count(a)
			if !equal(wholeArena(a), before) {
				t.Fatalf("%d: %v, not %v", i, wholeArena(a), before)
			}
		}
	}
}

// What stands in the room behind a list is not of the arena.
func TestP1_RoomBehindIsNothing(t *testing.T) {
	for _, a := range arenas() {
		isAsTold(t, spareArena(a))
		n := len(a.Next)
		isAsTold(t, api.Arena{Next: spare(a.Next, slices.Repeat([]int{-1}, 20)...), Used: spare(a.Used, make([]bool, 20)...), Free: a.Free})
		if n > 1 {
			isAsTold(t, api.Arena{Next: a.Next[:n-1], Used: a.Used[:n-1], Free: a.Free})
			isAsTold(t, api.Arena{Next: a.Next, Used: a.Used[:n-1], Free: a.Free})
			isAsTold(t, api.Arena{Next: a.Next[:n-1], Used: a.Used, Free: a.Free})
		}
	}
}

// A result can be changed without changing the argument or another result, and the other way round; and nothing of it is kept.
func TestP1_ResultsShareNoMemory(t *testing.T) {
	for _, original := range arenas() {
		for i, change := range changes() {
			a := spareArena(original)
			before := wholeArena(a)
			first, _ := change(a)
			want := copied(first)
			second, _ := change(a)
			overwrite(second)
			if !equal(first, want) || !equal(wholeArena(a), before) {
				t.Fatalf("%d: %v, not %v; %v, not %v", i, first, want, wholeArena(a), before)
			}
			overwrite(a)
			if !equal(first, want) {
				t.Fatalf("%d: %v, not %v", i, first, want)
			}
			overwrite(first)
			if again, _ := change(original); !equal(again, want) {
				t.Fatalf("%d: %v, not %v", i, again, want)
			}
		}
	}
}

// Each arena that is new is new, whatever was done with others.
func TestP1_NewIsNewEachTime(t *testing.T) {
	for n := 1; n <= most; n++ {
		first := made(t, n)
		second := made(t, n)
		overwrite(first)
		if !equal(second, of(n, counted(n)...)) || !equal(made(t, n), second) {
			t.Fatalf("%v, %v", second, made(t, n))
		}
	}
}

// An arena from which was taken, and to which was given, is what it was, and answers as before.
func TestP1_ArenasAreValues(t *testing.T) {
	m := mixed()
	for n := 1; n <= most; n++ {
		a := of(n, someList(m, n)...)
		steps := []api.Arena{a}
		for range 50 {
			change := pick(m, changes())
			if b, e := change(a); e == api.OK {
				a = b
				steps = append(steps, b)
			}
		}
		want := make([]api.Arena, len(steps))
		for i, a := range steps {
			want[i] = copied(a)
			isAsTold(t, a)
		}
		for i, a := range steps {
			if !equal(a, want[i]) {
				t.Fatalf("%v, not %v", a, want[i])
			}
		}
	}
}

// Nil and empty slices are the same.
func TestP1_NilAndEmpty(t *testing.T) {
	for _, free := range []int{-2, -1, 0, 1} {
		for _, next := range [][]int{nil, {}, make([]int, 0, 9)} {
			for _, used := range [][]bool{nil, {}, make([]bool, 0, 9), {false}, {true}} {
				isBad(t, api.Arena{Next: next, Used: used, Free: free})
			}
		}
	}
}

// anyArena gives an arena that is often valid, and often just not.
func anyArena(m *rand.Rand) api.Arena {
	n := 1 + m.IntN(most+1)
	a := of(n, someList(m, n)...)
	number := func() int { return pick(m, []int{m.IntN(n), m.IntN(n), -1, n, pick(m, farNumbers()), int(m.Uint64())}) }
	for range m.IntN(3) {
		place := m.IntN(n)
		switch m.IntN(4) {
		case 0:
			a.Next[place] = number()
		case 1:
			a.Used[place] = !a.Used[place]
		case 2:
			a.Free = number()
		case 3:
			a.Next, a.Used = a.Next[:m.IntN(n+1)], a.Used[:m.IntN(n+1)]
			return a
		}
	}
	return a
}

// Any values at all are answered, the same ones each time, and an answer with an error has nothing else.
func TestP1_AllArgumentsAreAnswered(t *testing.T) {
	m := mixed()
	found := map[api.Errno]int{}
	for range 30000 {
		a := anyArena(m)
		found[wantCheck(a)]++
		for range 2 {
			isAsTold(t, a)
			for _, place := range []int{pick(m, farNumbers()), int(m.Uint64())} {
				giveIsAsTold(t, a, place)
			}
		}
	}
	for _, e := range []api.Errno{api.OK, api.ErrBad} {
		if found[e] < 5000 {
			t.Errorf("%d arenas with the error %d", found[e], e)
		}
	}
}
