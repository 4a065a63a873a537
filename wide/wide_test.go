package wide_test

import (
	"math/big"
	"slices"
	"testing"

	"spigot/api"
	"spigot/wide"
)

const maxSmall = 1<<64 - 1

var (
	zero    = api.Wide{}
	one     = api.Wide{Lo: 1}
	topLow  = api.Wide{Lo: maxSmall}               // 2^64 - 1
	bottom  = api.Wide{Hi: 1}                      // 2^64
	maxWide = api.Wide{Hi: maxSmall, Lo: maxSmall} // 2^128 - 1
	tooWide = new(big.Int).Lsh(big.NewInt(1), 128) // 2^128
)

// edges are numbers near the ends of 32 and 64 bits, where carries begin.
func edges() []uint64 {
	return []uint64{
		0, 1, 2, 3, 10,
		1<<32 - 1, 1 << 32, 1<<32 + 1,
		1<<63 - 1, 1 << 63, 1<<63 + 1,
		maxSmall - 1, maxSmall,
	}
}

// spread gives n numbers of all sizes, the same ones at each call.
func spread(n int) []uint64 {
	var l []uint64
	x := uint64(88172645463325252)
	for i := range n {
		x ^= x << 13
		x ^= x >> 7
		x ^= x << 17
		l = append(l, x>>(uint(i)*11%64))
	}
	return l
}

func smalls() []uint64 { return append(edges(), spread(30)...) }

// wides gives each pair of edges as a wide number, and some others.
func wides() []api.Wide {
	var l []api.Wide
	for _, hi := range edges() {
		for _, lo := range edges() {
			l = append(l, api.Wide{Hi: hi, Lo: lo})
		}
	}
	for pair := range slices.Chunk(spread(40), 2) {
		l = append(l, api.Wide{Hi: pair[0], Lo: pair[1]})
	}
	return l
}

func whole(x uint64) *big.Int { return new(big.Int).SetUint64(x) }

func number(a api.Wide) *big.Int {
	n := new(big.Int).Lsh(whole(a.Hi), 64)
	return n.Add(n, whole(a.Lo))
}

// inRange says what a function must answer whose exact result is n.
func inRange(n *big.Int) (api.Wide, api.Errno) {
	if n.Sign() < 0 || n.Cmp(tooWide) >= 0 {
		return api.Wide{}, api.ErrRange
	}
	hi := new(big.Int).Rsh(n, 64).Uint64()
	lo := new(big.Int).And(n, whole(maxSmall)).Uint64()
	return api.Wide{Hi: hi, Lo: lo}, api.OK
}

func TestP1_1_Of(t *testing.T) {
	for _, x := range smalls() {
		if got := wide.Of(x); got != (api.Wide{Lo: x}) {
			t.Errorf("Of(%d) = %v", x, got)
		}
	}
}

func TestP1_1_Small(t *testing.T) {
	for _, c := range []struct {
		a    api.Wide
		want uint64
		e    api.Errno
	}{
		{zero, 0, api.OK},
		{one, 1, api.OK},
		{api.Wide{Lo: 1 << 32}, 1 << 32, api.OK},
		{topLow, maxSmall, api.OK},
		{bottom, 0, api.ErrRange},
		{api.Wide{Hi: 1, Lo: 7}, 0, api.ErrRange},
		{api.Wide{Hi: 1 << 63, Lo: 7}, 0, api.ErrRange},
		{maxWide, 0, api.ErrRange},
	} {
		if got, e := wide.Small(c.a); got != c.want || e != c.e {
			t.Errorf("Small(%v) = %d, %d", c.a, got, e)
		}
	}
}

func TestP1_1_SmallIsInverseOfOf(t *testing.T) {
	for _, x := range smalls() {
		if got, e := wide.Small(wide.Of(x)); got != x || e != api.OK {
			t.Errorf("Small(Of(%d)) = %d, %d", x, got, e)
		}
	}
	for _, a := range wides() {
		x, e := wide.Small(a)
		if a.Hi > 0 && (x != 0 || e != api.ErrRange) {
			t.Errorf("Small(%v) = %d, %d", a, x, e)
		}
		if a.Hi == 0 && (wide.Of(x) != a || e != api.OK) {
			t.Errorf("Small(%v) = %d, %d", a, x, e)
		}
	}
}

func TestP1_1_Cmp(t *testing.T) {
	for _, c := range []struct {
		a, b api.Wide
		want int
	}{
		{zero, zero, 0},
		{zero, one, -1},
		{one, zero, 1},
		{topLow, bottom, -1},
		{bottom, topLow, 1},
		{bottom, bottom, 0},
		{api.Wide{Hi: 1, Lo: 5}, api.Wide{Hi: 2, Lo: 4}, -1},
		{api.Wide{Hi: 2, Lo: 4}, api.Wide{Hi: 1, Lo: 5}, 1},
		{api.Wide{Hi: 7, Lo: 1 << 63}, api.Wide{Hi: 7, Lo: 1}, 1},
		{api.Wide{Hi: 1 << 63}, api.Wide{Hi: 1}, 1},
		{maxWide, zero, 1},
		{maxWide, maxWide, 0},
	} {
		if got := wide.Cmp(c.a, c.b); got != c.want {
			t.Errorf("Cmp(%v, %v) = %d", c.a, c.b, got)
		}
	}
}

func TestP1_1_CmpOfAllPairs(t *testing.T) {
	for _, a := range wides() {
		for _, b := range wides() {
			if got := wide.Cmp(a, b); got != number(a).Cmp(number(b)) {
				t.Errorf("Cmp(%v, %v) = %d", a, b, got)
			}
		}
	}
}

func TestP1_2_Add(t *testing.T) {
	for _, c := range []struct {
		a, b, want api.Wide
		e          api.Errno
	}{
		{zero, zero, zero, api.OK},
		{topLow, one, bottom, api.OK},
		{topLow, topLow, api.Wide{Hi: 1, Lo: maxSmall - 1}, api.OK},
		{maxWide, zero, maxWide, api.OK},
		{api.Wide{Hi: maxSmall, Lo: maxSmall - 1}, one, maxWide, api.OK},
		{maxWide, one, zero, api.ErrRange},
		{one, maxWide, zero, api.ErrRange},
		{maxWide, maxWide, zero, api.ErrRange},
		{api.Wide{Hi: 1 << 63}, api.Wide{Hi: 1 << 63}, zero, api.ErrRange},
		{api.Wide{Hi: maxSmall, Lo: 9}, api.Wide{Hi: 1, Lo: 9}, zero, api.ErrRange},
	} {
		if got, e := wide.Add(c.a, c.b); got != c.want || e != c.e {
			t.Errorf("Add(%v, %v) = %v, %d", c.a, c.b, got, e)
		}
	}
}

func TestP1_2_Sub(t *testing.T) {
	for _, c := range []struct {
		a, b, want api.Wide
		e          api.Errno
	}{
		{zero, zero, zero, api.OK},
		{bottom, one, topLow, api.OK},
		{maxWide, zero, maxWide, api.OK},
		{maxWide, maxWide, zero, api.OK},
		{api.Wide{Hi: 3, Lo: 1}, api.Wide{Hi: 1, Lo: 2}, api.Wide{Hi: 1, Lo: maxSmall}, api.OK},
		{zero, one, zero, api.ErrRange},
		{topLow, bottom, zero, api.ErrRange},
		{zero, maxWide, zero, api.ErrRange},
		{api.Wide{Hi: 5, Lo: 5}, api.Wide{Hi: 5, Lo: 6}, zero, api.ErrRange},
		{api.Wide{Hi: 5, Lo: 6}, api.Wide{Hi: 6, Lo: 5}, zero, api.ErrRange},
	} {
		if got, e := wide.Sub(c.a, c.b); got != c.want || e != c.e {
			t.Errorf("Sub(%v, %v) = %v, %d", c.a, c.b, got, e)
		}
	}
}

func TestP1_2_AddAndSubOfAllPairs(t *testing.T) {
	for _, a := range wides() {
		for _, b := range wides() {
			want, we := inRange(new(big.Int).Add(number(a), number(b)))
			if got, e := wide.Add(a, b); got != want || e != we {
				t.Errorf("Add(%v, %v) = %v, %d", a, b, got, e)
			}
			want, we = inRange(new(big.Int).Sub(number(a), number(b)))
			if got, e := wide.Sub(a, b); got != want || e != we {
				t.Errorf("Sub(%v, %v) = %v, %d", a, b, got, e)
			}
		}
	}
}

func TestP1_2_Mul(t *testing.T) {
	for _, c := range []struct {
		x, y uint64
		want api.Wide
	}{
		{0, 0, zero},
		{0, maxSmall, zero},
		{1, maxSmall, topLow},
		{1 << 63, 2, bottom},
		{1 << 63, 4, api.Wide{Hi: 2}},
		{maxSmall, maxSmall, api.Wide{Hi: maxSmall - 1, Lo: 1}},
	} {
		if got := wide.Mul(c.x, c.y); got != c.want {
			t.Errorf("Mul(%d, %d) = %v", c.x, c.y, got)
		}
	}
}

func TestP1_2_MulOfAllPairs(t *testing.T) {
	for _, x := range smalls() {
		for _, y := range smalls() {
			want, _ := inRange(new(big.Int).Mul(whole(x), whole(y)))
			if got := wide.Mul(x, y); got != want {
				t.Errorf("Mul(%d, %d) = %v", x, y, got)
			}
		}
	}
}

func TestP1_3_DivAndUp(t *testing.T) {
	for _, c := range []struct {
		a    api.Wide
		d    uint64
		q    api.Wide
		rest uint64
		up   api.Wide
	}{
		{zero, 1, zero, 0, zero},
		{zero, maxSmall, zero, 0, zero},
		{one, 1, one, 0, one},
		{one, 2, zero, 1, one},
		{topLow, maxSmall, one, 0, one},
		{topLow, 2, api.Wide{Lo: 1<<63 - 1}, 1, api.Wide{Lo: 1 << 63}},
		{bottom, 10, api.Wide{Lo: 1844674407370955161}, 6, api.Wide{Lo: 1844674407370955162}},
		{bottom, 1, bottom, 0, bottom},
		{bottom, maxSmall, one, 1, api.Wide{Lo: 2}},
		{api.Wide{Hi: 2, Lo: maxSmall}, 2, api.Wide{Hi: 1, Lo: 1<<63 - 1}, 1, api.Wide{Hi: 1, Lo: 1 << 63}},
		{maxWide, 1, maxWide, 0, maxWide},
		{maxWide, 2, api.Wide{Hi: 1<<63 - 1, Lo: maxSmall}, 1, api.Wide{Hi: 1 << 63}},
		{maxWide, maxSmall, api.Wide{Hi: 1, Lo: 1}, 0, api.Wide{Hi: 1, Lo: 1}},
		// Raising carries from the low part into the high one.
		{api.Wide{Hi: 5, Lo: maxSmall}, 3, api.Wide{Hi: 1, Lo: maxSmall}, 2, api.Wide{Hi: 2}},
	} {
		q, rest, e := wide.Div(c.a, c.d)
		if q != c.q || rest != c.rest || e != api.OK {
			t.Errorf("Div(%v, %d) = %v, %d, %d", c.a, c.d, q, rest, e)
		}
		if up, e := wide.Up(c.a, c.d); up != c.up || e != api.OK {
			t.Errorf("Up(%v, %d) = %v, %d", c.a, c.d, up, e)
		}
	}
}

func TestP1_3_DivAndUpOfAllPairs(t *testing.T) {
	for _, a := range wides() {
		for _, d := range smalls() {
			if d == 0 {
				continue
			}
			q, r := new(big.Int).QuoRem(number(a), whole(d), new(big.Int))
			want, _ := inRange(q)
			if got, rest, e := wide.Div(a, d); got != want || rest != r.Uint64() || e != api.OK {
				t.Errorf("Div(%v, %d) = %v, %d, %d", a, d, got, rest, e)
			}
			if r.Sign() > 0 {
				q.Add(q, big.NewInt(1))
			}
			want, _ = inRange(q)
			if got, e := wide.Up(a, d); got != want || e != api.OK {
				t.Errorf("Up(%v, %d) = %v, %d", a, d, got, e)
			}
		}
	}
}

func TestP1_3_DivisionByZero(t *testing.T) {
	for _, a := range wides() {
		if q, rest, e := wide.Div(a, 0); q != zero || rest != 0 || e != api.ErrZero {
			t.Errorf("Div(%v, 0) = %v, %d, %d", a, q, rest, e)
		}
		if u, e := wide.Up(a, 0); u != zero || e != api.ErrZero {
			t.Errorf("Up(%v, 0) = %v, %d", a, u, e)
		}
	}
}

// times multiplies a wide number by a small one, by the package's own functions.
func times(t *testing.T, a api.Wide, d uint64) api.Wide {
	t.Helper()
	high, e := wide.Small(wide.Mul(a.Hi, d))
	if e != api.OK {
		t.Fatalf("%v times %d is out of range", a, d)
	}
	return sum(t, api.Wide{Hi: high}, wide.Mul(a.Lo, d))
}

func sum(t *testing.T, a, b api.Wide) api.Wide {
	t.Helper()
	s, e := wide.Add(a, b)
	if e != api.OK {
		t.Fatalf("Add(%v, %v) = %d", a, b, e)
	}
	return s
}

func TestP1_4_QuotientAndRestGiveTheNumberBack(t *testing.T) {
	for _, a := range wides() {
		for _, d := range smalls() {
			if d == 0 {
				continue
			}
			q, rest, e := wide.Div(a, d)
			if e != api.OK || rest >= d {
				t.Errorf("Div(%v, %d) has the rest %d, and %d", a, d, rest, e)
				continue
			}
			if back := sum(t, times(t, q, d), wide.Of(rest)); back != a {
				t.Errorf("Div(%v, %d) gives %v back", a, d, back)
			}
		}
	}
}

func TestP1_4_RaisedQuotientIsQuotientOrOneMore(t *testing.T) {
	for _, a := range wides() {
		for _, d := range smalls() {
			if d == 0 {
				continue
			}
			want, rest, _ := wide.Div(a, d)
			if rest != 0 {
				want = sum(t, want, one)
			}
			if u, e := wide.Up(a, d); u != want || e != api.OK {
				t.Errorf("Up(%v, %d) = %v, %d", a, d, u, e)
			}
		}
	}
}

func TestP1_4_OrderDoesNotMatter(t *testing.T) {
	for _, a := range wides() {
		for _, b := range wides() {
			s, e := wide.Add(a, b)
			if r, f := wide.Add(b, a); r != s || f != e {
				t.Errorf("Add(%v, %v) = %v, %d, but %v, %d the other way round", a, b, s, e, r, f)
			}
		}
	}
	for _, x := range smalls() {
		for _, y := range smalls() {
			if wide.Mul(x, y) != wide.Mul(y, x) {
				t.Errorf("Mul(%d, %d) depends on the order", x, y)
			}
		}
	}
}

func TestP1_4_ProductsDistributeOverSums(t *testing.T) {
	for _, x := range smalls() {
		for _, y := range smalls() {
			for _, z := range smalls() {
				s, e := wide.Small(sum(t, wide.Of(y), wide.Of(z)))
				if e != api.OK {
					continue
				}
				want := sum(t, wide.Mul(x, y), wide.Mul(x, z))
				if got := wide.Mul(x, s); got != want {
					t.Errorf("%d times %d + %d = %v, not %v", x, y, z, got, want)
				}
			}
		}
	}
}

func TestP1_4_DifferenceAddedAgainGivesTheNumber(t *testing.T) {
	for _, a := range wides() {
		for _, b := range wides() {
			d, e := wide.Sub(a, b)
			if (e == api.OK) != (wide.Cmp(a, b) >= 0) {
				t.Errorf("Sub(%v, %v) = %v, %d", a, b, d, e)
			}
			if e != api.OK {
				continue
			}
			if back := sum(t, d, b); back != a {
				t.Errorf("Sub(%v, %v) = %v, added again %v", a, b, d, back)
			}
		}
	}
}

// answers holds what all functions of the package answer to the same numbers.
type answers struct {
	of, add, sub, mul, quotient, up       api.Wide
	small, rest                           uint64
	cmp                                   int
	smallE, addE, subE, quotientE, raiseE api.Errno
}

func ask(a, b api.Wide) (r answers) {
	r.of = wide.Of(a.Lo)
	r.small, r.smallE = wide.Small(a)
	r.cmp = wide.Cmp(a, b)
	r.add, r.addE = wide.Add(a, b)
	r.sub, r.subE = wide.Sub(a, b)
	r.mul = wide.Mul(a.Lo, b.Lo)
	r.quotient, r.rest, r.quotientE = wide.Div(a, b.Lo)
	r.up, r.raiseE = wide.Up(a, b.Lo)
	return r
}

func TestP1_NothingIsKeptFromCallToCall(t *testing.T) {
	var first []answers
	for _, a := range wides() {
		for _, b := range wides() {
			first = append(first, ask(a, b))
		}
	}
	slices.Reverse(first)
	i := 0
	for _, a := range slices.Backward(wides()) {
		for _, b := range slices.Backward(wides()) {
			if again := ask(a, b); again != first[i] {
				t.Errorf("%v and %v: %v, then %v", a, b, first[i], again)
			}
			i++
		}
	}
}
