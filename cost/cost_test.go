package cost_test

import (
	"math"
	"math/big"
	"math/rand/v2"
	"slices"
	"testing"

	"spigot/api"
	"spigot/cost"
)

const (
	mostRules    = 20
	mostClass    = 9
	mostFactor   = 10000
	mostRequests = 60
	lastEnd      = math.MaxUint16
	mostCost     = math.MaxUint32
)

// mixed gives numbers that are mixed, the same ones in each test.
func mixed() *rand.Rand { return rand.New(rand.NewPCG(17, 113)) }

func pick[E any](m *rand.Rand, l []E) E { return l[m.IntN(len(l))] }

// Values at the edges, and some about and between them.

func ends() []uint16 { return []uint16{0, 1, 2, 9, 10, 255, 256, 32767, 32768, 65534, lastEnd} }

func costs() []uint32 {
	return []uint32{0, 1, 2, 5, 6, 100, 255, 256, 65535, 65536, 1<<31 - 1, 1 << 31, mostCost - 1, mostCost}
}

func factors() []uint32 { return []uint32{0, 1, 2, 3, 255, 256, 5000, mostFactor - 1, mostFactor} }

// farFactors are no factors, though some would be if they were cut to fewer bits.
func farFactors() []uint32 {
	return []uint32{mostFactor + 1, mostFactor + 2, 16384, 65535, 65536, 65537, 65536 + mostFactor, 1<<31 - 1, 1 << 31, 1<<31 + 1, mostCost - 1, mostCost}
}

// farClasses are no classes, though some would be if they were cut to fewer bits.
func farClasses() []int {
	return []int{math.MinInt, math.MinInt + 1, -1 << 40, -1 << 32, 9 - 1<<32, -65536, -256, -247, -10, -9, -2, -1, 10, 11, 16, 20, 64, 255, 256, 257, 265, 1 << 16, 1<<16 + 9, 1 << 31, 1<<32 - 1, 1 << 32, 1<<32 + 9, 1 << 40, math.MaxInt - 1, math.MaxInt}
}

// all is a rule that fits everything, and has costs as prices.
func all() api.Rule { return api.Rule{To: lastEnd, Most: mostCost, Factor: 1} }

// never is a valid rule that fits hardly anything.
func never() api.Rule { return api.Rule{From: 77, To: 77, Class: 7, Factor: 7, Plus: 7} }

// asks gives requests for endpoints and costs, which are told in turn.
func asks(numbers ...int) (r []api.Request) {
	for i := 0; i < len(numbers); i += 2 {
		r = append(r, api.Request{Endpoint: uint16(numbers[i]), Cost: uint32(numbers[i+1])})
	}
	return r
}

// The definitions, put down once more.

func valid(r api.Rule) bool {
	span := int(r.To) - int(r.From)
	return span >= 0 && slices.Contains([]int{0, 1, 2, 3, 4, 5, 6, 7, 8, 9}, r.Class) && max(r.Factor, r.Plus) < mostFactor+1
}

func wantCheck(l []api.Rule) api.Errno {
	e := api.OK
	for _, r := range l {
		if !valid(r) {
			e = api.ErrBad
		}
	}
	if len(l) >= mostRules+1 {
		e = api.ErrMany
	}
	return e
}

func wantFind(l []api.Rule, endpoint uint16, asked uint32) (int, api.Errno) {
	if e := wantCheck(l); e != api.OK {
		return 0, e
	}
	found, e := 0, api.ErrNone
	for i := len(l) - 1; i >= 0; i-- {
		if r := l[i]; int(endpoint) > int(r.From)-1 && int(endpoint) < int(r.To)+1 && int(asked) < int(r.Most)+1 {
			found, e = i, api.OK
		}
	}
	return found, e
}

func wantPrice(l []api.Rule, endpoint uint16, asked uint32) (int, uint64, api.Errno) {
	i, e := wantFind(l, endpoint, asked)
	if e != api.OK {
		return 0, 0, e
	}
	n := big.NewInt(int64(l[i].Factor))
	n.Mul(n, big.NewInt(int64(asked))).Add(n, big.NewInt(int64(l[i].Plus)))
	return l[i].Class, n.Uint64(), api.OK
}

func wantTotals(l []api.Rule, r []api.Request) ([]api.Line, api.Errno) {
	if e := wantCheck(l); e != api.OK {
		return nil, e
	}
	if len(r) >= mostRequests+1 {
		return nil, api.ErrMany
	}
	var lines []api.Line
	for class := range mostClass + 1 {
		line := api.Line{Class: class}
		for _, q := range r {
			c, price, e := wantPrice(l, q.Endpoint, q.Cost)
			if e != api.OK {
				return nil, e
			}
			if c == class {
				line.Count, line.Total = line.Count+1, line.Total+price
			}
		}
		if line.Count != 0 {
			lines = append(lines, line)
		}
	}
	return lines, api.OK
}

// What a function answers, held against the definitions.

func checkIs(t *testing.T, l []api.Rule, want api.Errno) {
	t.Helper()
	if e := cost.Check(l); e != want {
		t.Fatalf("Check(%v) = %d, not %d", l, e, want)
	}
}

func findIs(t *testing.T, l []api.Rule, endpoint uint16, asked uint32, want int, wantE api.Errno) {
	t.Helper()
	if i, e := cost.Find(l, endpoint, asked); i != want || e != wantE {
		t.Fatalf("Find(%v, %d, %d) = %d, %d, not %d, %d", l, endpoint, asked, i, e, want, wantE)
	}
}

func priceIs(t *testing.T, l []api.Rule, endpoint uint16, asked uint32, wantClass int, want uint64, wantE api.Errno) {
	t.Helper()
	if class, n, e := cost.Price(l, endpoint, asked); class != wantClass || n != want || e != wantE {
		t.Fatalf("Price(%v, %d, %d) = %d, %d, %d, not %d, %d, %d", l, endpoint, asked, class, n, e, wantClass, want, wantE)
	}
}

func totalsAre(t *testing.T, l []api.Rule, r []api.Request, want []api.Line, wantE api.Errno) {
	t.Helper()
	if lines, e := cost.Totals(l, r); !slices.Equal(lines, want) || e != wantE {
		t.Fatalf("Totals(%v, %v) = %v, %d, not %v, %d", l, r, lines, e, want, wantE)
	}
}

// requestIsAsTold holds what is answered for a list, an endpoint and a cost against the definitions.
func requestIsAsTold(t *testing.T, l []api.Rule, endpoint uint16, asked uint32) {
	t.Helper()
	i, e := wantFind(l, endpoint, asked)
	findIs(t, l, endpoint, asked, i, e)
	class, n, e := wantPrice(l, endpoint, asked)
	priceIs(t, l, endpoint, asked, class, n, e)
}

// isAsTold holds all that is answered for a list and some requests against the definitions.
func isAsTold(t *testing.T, l []api.Rule, r []api.Request) {
	t.Helper()
	checkIs(t, l, wantCheck(l))
	for _, q := range r {
		requestIsAsTold(t, l, q.Endpoint, q.Cost)
	}
	lines, e := wantTotals(l, r)
	totalsAre(t, l, r, lines, e)
}

// isWrong tells that a list has an error, and that nothing else is answered for it.
func isWrong(t *testing.T, l []api.Rule, e api.Errno) {
	t.Helper()
	checkIs(t, l, e)
	for _, n := range []uint32{0, 5, mostCost} {
		for _, endpoint := range []uint16{0, 5, lastEnd} {
			findIs(t, l, endpoint, n, 0, e)
			priceIs(t, l, endpoint, n, 0, 0, e)
		}
	}
	for _, r := range [][]api.Request{nil, asks(0, 0), asks(5, 5, 77, 1), slices.Repeat(asks(4, 4), mostRequests), slices.Repeat(asks(4, 4), mostRequests+1)} {
		totalsAre(t, l, r, nil, e)
	}
}

// Rules and requests, mixed.

func someRule(m *rand.Rand) api.Rule {
	from, to := pick(m, ends()), pick(m, ends())
	return api.Rule{From: min(from, to), To: max(from, to), Most: pick(m, costs()), Class: m.IntN(mostClass + 1), Factor: pick(m, factors()), Plus: pick(m, factors())}
}

// nearRule gives a rule among few endpoints and costs, so that often several fit.
func nearRule(m *rand.Rand) api.Rule {
	from := m.IntN(5)
	return api.Rule{From: uint16(from), To: uint16(from + m.IntN(4)), Most: uint32(m.IntN(6)), Class: m.IntN(mostClass + 1), Factor: uint32(m.IntN(4)), Plus: uint32(m.IntN(4))}
}

func someRules(m *rand.Rand) (l []api.Rule) {
	kind := pick(m, []func(*rand.Rand) api.Rule{someRule, nearRule})
	for range m.IntN(mostRules + 1) {
		l = append(l, kind(m))
	}
	return l
}

func someAsk(m *rand.Rand) api.Request {
	if m.IntN(2) == 0 {
		return api.Request{Endpoint: uint16(m.IntN(9)), Cost: uint32(m.IntN(7))}
	}
	return api.Request{Endpoint: pick(m, ends()), Cost: pick(m, costs())}
}

func someAsks(m *rand.Rand, n int) (r []api.Request) {
	for range n {
		r = append(r, someAsk(m))
	}
	return r
}

// fitting gives those requests that have a price.
func fitting(l []api.Rule, r []api.Request) (rest []api.Request) {
	for _, q := range r {
		if _, e := wantFind(l, q.Endpoint, q.Cost); e == api.OK {
			rest = append(rest, q)
		}
	}
	return rest
}

func TestNumbersAreThoseOfTheChapter(t *testing.T) {
	if api.OK != 0 || api.ErrMany != 4 || api.ErrNone != 6 || api.ErrBad != 8 {
		t.Error(api.OK, api.ErrMany, api.ErrNone, api.ErrBad)
	}
	if api.MaxRules != mostRules || api.MaxClass != mostClass || api.MaxFactor != mostFactor || api.MaxScript != mostRequests {
		t.Error(api.MaxRules, api.MaxClass, api.MaxFactor, api.MaxScript)
	}
}

// The chapter's example, sentence by sentence.
func TestExample(t *testing.T) {
	l := []api.Rule{{From: 0, To: 9, Most: 5, Class: 1, Factor: 2, Plus: 3}, {From: 0, To: 65535, Most: 4294967295, Class: 0, Factor: 1}}
	checkIs(t, l, api.OK)
	findIs(t, l, 4, 5, 0, api.OK)
	priceIs(t, l, 4, 5, 1, 13, api.OK)
	findIs(t, l, 4, 6, 1, api.OK)
	priceIs(t, l, 4, 6, 0, 6, api.OK)
	lines := []api.Line{{Class: 0, Count: 1, Total: 6}, {Class: 1, Count: 1, Total: 13}}
	totalsAre(t, l, asks(4, 5, 4, 6), lines, api.OK)
	totalsAre(t, l, asks(4, 6, 4, 5), lines, api.OK)
}

func TestP17_1_ValidRules(t *testing.T) {
	for _, r := range []api.Rule{
		{}, all(), never(), {From: lastEnd, To: lastEnd}, {To: lastEnd}, {To: 1}, {From: 65534, To: lastEnd}, {From: 256, To: 511}, {From: 255, To: 256},
		{Most: mostCost}, {Class: mostClass}, {Factor: mostFactor}, {Plus: mostFactor}, {Factor: mostFactor, Plus: mostFactor},
		{From: lastEnd, To: lastEnd, Most: mostCost, Class: mostClass, Factor: mostFactor, Plus: mostFactor},
	} {
		checkIs(t, []api.Rule{r}, api.OK)
		checkIs(t, slices.Repeat([]api.Rule{r}, mostRules), api.OK)
	}
	for class := range mostClass + 1 {
		checkIs(t, []api.Rule{{Class: class}}, api.OK)
	}
	for n := range uint32(mostFactor + 1) {
		checkIs(t, []api.Rule{{Factor: n}, {Plus: n}, {Factor: n, Plus: mostFactor - n}}, api.OK)
	}
	for _, n := range costs() {
		checkIs(t, []api.Rule{{Most: n}}, api.OK)
	}
}

// badRules are not valid, each one for one reason.
func badRules() (l []api.Rule) {
	for _, r := range []api.Rule{{}, all(), {From: 3, To: 8, Most: 100, Class: 5, Factor: 100, Plus: 100}} {
		for _, class := range farClasses() {
			bad := r
			bad.Class = class
			l = append(l, bad)
		}
		for _, n := range farFactors() {
			factor, plus := r, r
			factor.Factor, plus.Plus = n, n
			l = append(l, factor, plus)
		}
	}
	for _, c := range [][2]uint16{{1, 0}, {2, 1}, {8, 3}, {256, 255}, {256, 1}, {511, 256}, {32768, 32767}, {lastEnd, 65534}, {lastEnd, 0}, {65280, 255}} {
		l = append(l, api.Rule{From: c[0], To: c[1]}, api.Rule{From: c[0], To: c[1], Most: mostCost, Class: 3, Factor: 1, Plus: 1})
	}
	return l
}

func TestP17_1_ReasonsWhyARuleIsBad(t *testing.T) {
	for _, bad := range badRules() {
		isWrong(t, []api.Rule{bad}, api.ErrBad)
		isWrong(t, []api.Rule{bad, all()}, api.ErrBad)
		isWrong(t, []api.Rule{all(), bad}, api.ErrBad)
		isWrong(t, append(slices.Repeat([]api.Rule{all()}, mostRules-1), bad), api.ErrBad)
	}
}

// One rule that is bad is enough, wherever it is.
func TestP17_1_PlacesOfABadRule(t *testing.T) {
	for _, bad := range []api.Rule{{From: 1}, {Class: -1}, {Class: 10}, {Factor: mostFactor + 1}, {Plus: mostFactor + 1}} {
		for n := 1; n <= mostRules; n++ {
			for i := range n {
				l := slices.Repeat([]api.Rule{all()}, n)
				l[i] = bad
				isWrong(t, l, api.ErrBad)
			}
		}
	}
}

func TestP17_1_HowManyRules(t *testing.T) {
	for n := range mostRules + 1 {
		for _, r := range []api.Rule{{}, all(), never()} {
			checkIs(t, slices.Repeat([]api.Rule{r}, n), api.OK)
		}
	}
	for _, n := range []int{mostRules + 1, mostRules + 2, 30, 40, 60, 61, 255, 256, 256 + mostRules, 65536, 65536 + 1} {
		isWrong(t, slices.Repeat([]api.Rule{all()}, n), api.ErrMany)
		isWrong(t, make([]api.Rule, n), api.ErrMany)
	}
}

// That there are too many rules is told before that one of them is bad.
func TestP17_1_ManyBeforeBad(t *testing.T) {
	for _, bad := range []api.Rule{{From: 1}, {Class: -1}, {Class: 10}, {Factor: mostFactor + 1}, {Plus: mostFactor + 1}} {
		for n := mostRules + 1; n < mostRules+5; n++ {
			isWrong(t, slices.Repeat([]api.Rule{bad}, n), api.ErrMany)
			for i := range n {
				l := slices.Repeat([]api.Rule{all()}, n)
				l[i] = bad
				isWrong(t, l, api.ErrMany)
			}
		}
	}
}

func TestP17_1_EdgesOfWhatARuleFits(t *testing.T) {
	for _, from := range ends() {
		for _, to := range ends() {
			for _, most := range costs() {
				if from > to {
					continue
				}
				l := []api.Rule{{From: from, To: to, Most: most, Class: 4, Factor: 2, Plus: 9}}
				for _, endpoint := range []uint16{from, from - 1, from + 1, to, to - 1, to + 1, 0, lastEnd} {
					for _, n := range []uint32{most, most - 1, most + 1, 0, mostCost} {
						e := api.ErrNone
						if from <= endpoint && endpoint <= to && n <= most {
							e = api.OK
						}
						findIs(t, l, endpoint, n, 0, e)
						requestIsAsTold(t, l, endpoint, n)
					}
				}
			}
		}
	}
}

// The rule of one endpoint fits this one alone.
func TestP17_1_AllEndpoints(t *testing.T) {
	l := []api.Rule{{From: 300, To: 300, Most: 5}, {From: 299, To: 301, Most: 5}, {From: 1000, To: 60000, Most: 5}, {From: 0, To: 200, Most: 4}}
	for endpoint := range lastEnd + 1 {
		want, e := 0, api.OK
		switch {
		case endpoint == 300:
		case endpoint == 299 || endpoint == 301:
			want = 1
		case endpoint >= 1000 && endpoint <= 60000:
			want = 2
		default:
			e = api.ErrNone
		}
		findIs(t, l, uint16(endpoint), 5, want, e)
	}
}

// The first rule that fits is found, and no later one, at whatever index it is.
func TestP17_1_FirstOfSeveral(t *testing.T) {
	for n := 1; n <= mostRules; n++ {
		for first := range n {
			l := slices.Repeat([]api.Rule{never()}, n)
			for i := first; i < n; i += 1 + n%3 {
				l[i] = all()
				l[i].Class = i % (mostClass + 1)
			}
			findIs(t, l, 4, 5, first, api.OK)
			priceIs(t, l, 4, 5, first%(mostClass+1), 5, api.OK)
			findIs(t, l[:first], 4, 5, 0, api.ErrNone)
			priceIs(t, l[:first], 4, 5, 0, 0, api.ErrNone)
		}
	}
}

// A rule may not fit by its endpoint, or by its cost; one that does is behind.
func TestP17_1_NarrowBeforeWide(t *testing.T) {
	l := []api.Rule{{From: 5, To: 5, Most: 1}, {From: 5, To: 5, Most: 3}, {From: 4, To: 6, Most: 2}, {From: 0, To: 9, Most: 5}, {From: 0, To: 5, Most: 9}, {From: 6, To: 6, Most: mostCost}}
	for _, c := range []struct {
		endpoint uint16
		cost     uint32
		want     int
		e        api.Errno
	}{
		{5, 0, 0, api.OK}, {5, 1, 0, api.OK}, {5, 2, 1, api.OK}, {5, 3, 1, api.OK}, {5, 4, 3, api.OK}, {5, 5, 3, api.OK}, {5, 6, 4, api.OK}, {5, 9, 4, api.OK}, {5, 10, 0, api.ErrNone},
		{4, 0, 2, api.OK}, {4, 2, 2, api.OK}, {4, 3, 3, api.OK}, {4, 9, 4, api.OK}, {4, 10, 0, api.ErrNone},
		{6, 2, 2, api.OK}, {6, 3, 3, api.OK}, {6, 6, 5, api.OK}, {6, mostCost, 5, api.OK},
		{0, 5, 3, api.OK}, {9, 5, 3, api.OK}, {9, 6, 0, api.ErrNone}, {10, 0, 0, api.ErrNone}, {lastEnd, 0, 0, api.ErrNone},
	} {
		findIs(t, l, c.endpoint, c.cost, c.want, c.e)
	}
}

func TestP17_1_NoRules(t *testing.T) {
	for _, l := range [][]api.Rule{nil, {}, make([]api.Rule, 0, 9)} {
		checkIs(t, l, api.OK)
		for _, endpoint := range ends() {
			for _, n := range costs() {
				findIs(t, l, endpoint, n, 0, api.ErrNone)
				priceIs(t, l, endpoint, n, 0, 0, api.ErrNone)
			}
		}
		totalsAre(t, l, nil, nil, api.OK)
		totalsAre(t, l, asks(0, 0), nil, api.ErrNone)
	}
}

// All lists of up to three rules among few endpoints and costs.
func TestP17_1_AllSmallLists(t *testing.T) {
	var rules []api.Rule
	for from := range uint16(3) {
		for to := from; to < 3; to++ {
			for most := range uint32(3) {
				rules = append(rules, api.Rule{From: from, To: to, Most: most, Class: int(to), Factor: uint32(from), Plus: most})
			}
		}
	}
	r := asks(0, 0, 0, 1, 0, 2, 1, 0, 1, 1, 1, 2, 2, 0, 2, 1, 2, 2, 3, 0, 0, 3)
	for _, a := range rules {
		isAsTold(t, []api.Rule{a}, r)
		for _, b := range rules {
			isAsTold(t, []api.Rule{a, b}, r)
			for _, c := range rules {
				isAsTold(t, []api.Rule{a, b, c}, r)
			}
		}
	}
}

func TestP17_2_Prices(t *testing.T) {
	for _, c := range []struct {
		factor, plus, cost uint32
		want               uint64
	}{
		{0, 0, 0, 0}, {0, 0, mostCost, 0}, {0, 7, mostCost, 7}, {1, 0, 0, 0}, {1, 0, 5, 5}, {1, 1, 5, 6}, {2, 3, 5, 13}, {3, 2, 5, 17}, {7, 0, 6, 42}, {7, 9, 0, 9},
		{1, 0, mostCost, 4294967295}, {1, 1, mostCost, 4294967296}, {2, 0, 1 << 31, 4294967296}, {2, 0, mostCost, 8589934590}, {256, 255, 1 << 24, 4294967551},
		{10000, 10000, 0, 10000}, {10000, 10000, 1, 20000}, {10000, 0, mostCost, 42949672950000}, {0, 10000, mostCost, 10000}, {9999, 10000, mostCost, 42945377992705}, {10000, 10000, mostCost, 42949672960000},
	} {
		for class := range mostClass + 1 {
			l := []api.Rule{{From: 3, To: 8, Most: mostCost, Class: class, Factor: c.factor, Plus: c.plus}}
			priceIs(t, l, 3, c.cost, class, c.want, api.OK)
			priceIs(t, l, 8, c.cost, class, c.want, api.OK)
			priceIs(t, l, 2, c.cost, 0, 0, api.ErrNone)
			priceIs(t, l, 9, c.cost, 0, 0, api.ErrNone)
		}
	}
}

// The greatest price is less than 2^46, and no total of 60 requests is out of its bits.
func TestP17_2_TheGreatestPrice(t *testing.T) {
	l := []api.Rule{{To: lastEnd, Most: mostCost, Class: mostClass, Factor: mostFactor, Plus: mostFactor}}
	_, price, e := cost.Price(l, lastEnd, mostCost)
	if e != api.OK || price != 42949672960000 || price >= 1<<46 {
		t.Fatal(price, e)
	}
	for n := 1; n <= mostRequests; n++ {
		totalsAre(t, l, slices.Repeat(asks(lastEnd, mostCost), n), []api.Line{{Class: mostClass, Count: n, Total: uint64(n) * 42949672960000}}, api.OK)
	}
}

func TestP17_2_AllFactors(t *testing.T) {
	for n := range uint32(mostFactor + 1) {
		l := []api.Rule{{To: 4, Most: mostCost, Class: 2, Factor: n, Plus: mostFactor - n}, {From: 5, To: 9, Most: 1000000, Class: 3, Factor: mostFactor - n, Plus: n}}
		priceIs(t, l, 4, 1000001, 2, uint64(1000001*int(n)+mostFactor-int(n)), api.OK)
		priceIs(t, l, 5, 1000000, 3, uint64(1000000*(mostFactor-int(n))+int(n)), api.OK)
		priceIs(t, l, 5, 1000001, 0, 0, api.ErrNone)
	}
}

// Class, Factor and Plus are those of the rule that is found.
func TestP17_2_TheRuleThatIsFound(t *testing.T) {
	var l []api.Rule
	for i := range mostRules {
		l = append(l, api.Rule{From: uint16(10 * i), To: uint16(10*i + 14), Most: uint32(1000 - i), Class: (i * 7) % 10, Factor: uint32(i + 1), Plus: uint32(100 * i)})
	}
	for i := range mostRules {
		for _, endpoint := range []int{10*i + 5, 10*i + 9} {
			priceIs(t, l, uint16(endpoint), uint32(1000-i), (i*7)%10, uint64((i+1)*(1000-i)+100*i), api.OK)
			priceIs(t, l, uint16(endpoint), uint32(1001-i), 0, 0, api.ErrNone)
		}
	}
}

// Price has just the errors that Find has.
func TestP17_2_ErrorsAreThoseOfFind(t *testing.T) {
	m := mixed()
	found := map[api.Errno]int{}
	for range 20000 {
		l, q := anyRules(m), someAsk(m)
		_, want := cost.Find(l, q.Endpoint, q.Cost)
		class, price, e := cost.Price(l, q.Endpoint, q.Cost)
		if e != want || e != api.OK && (class != 0 || price != 0) {
			t.Fatalf("Price(%v, %d, %d) = %d, %d, %d, not %d", l, q.Endpoint, q.Cost, class, price, e, want)
		}
		found[e]++
	}
	for _, e := range []api.Errno{api.OK, api.ErrMany, api.ErrNone, api.ErrBad} {
		if found[e] < 1000 {
			t.Errorf("%d prices with the error %d", found[e], e)
		}
	}
}

// classRules has a rule of each class, for the endpoint of the same number; classes are told from 9 on downwards.
func classRules() (l []api.Rule) {
	for class := mostClass; class >= 0; class-- {
		l = append(l, api.Rule{From: uint16(class), To: uint16(class), Most: 1000, Class: class, Factor: uint32(class), Plus: 1})
	}
	return l
}

func TestP17_3_LinesInOrder(t *testing.T) {
	for _, c := range []struct {
		r    []api.Request
		want []api.Line
	}{
		{nil, nil},
		{asks(0, 5), []api.Line{{Class: 0, Count: 1, Total: 1}}},
		{asks(9, 5), []api.Line{{Class: 9, Count: 1, Total: 46}}},
		{asks(9, 5, 0, 5), []api.Line{{Class: 0, Count: 1, Total: 1}, {Class: 9, Count: 1, Total: 46}}},
		{asks(3, 1, 1, 1, 2, 1), []api.Line{{Class: 1, Count: 1, Total: 2}, {Class: 2, Count: 1, Total: 3}, {Class: 3, Count: 1, Total: 4}}},
		{asks(5, 0, 3, 10, 5, 1000, 3, 1, 5, 7), []api.Line{{Class: 3, Count: 2, Total: 35}, {Class: 5, Count: 3, Total: 5038}}},
		{asks(0, 0, 0, 1000, 0, 7), []api.Line{{Class: 0, Count: 3, Total: 3}}},
	} {
		totalsAre(t, classRules(), c.r, c.want, api.OK)
	}
}

// Each set of classes has just its lines.
func TestP17_3_AllSetsOfClasses(t *testing.T) {
	for set := range 1 << (mostClass + 1) {
		var r []api.Request
		var want []api.Line
		for class := range mostClass + 1 {
			if set>>class&1 == 0 {
				continue
			}
			n := 1 + (set+class)%5
			r = append(slices.Repeat(asks(class, 10+class), n), r...)
			want = append(want, api.Line{Class: class, Count: n, Total: uint64(n * (class*(10+class) + 1))})
		}
		totalsAre(t, classRules(), r, want, api.OK)
	}
}

// A class of which there is a request has a line, though its prices are 0.
func TestP17_3_PricesOfNothing(t *testing.T) {
	for class := range mostClass + 1 {
		l := []api.Rule{{From: 1, To: 2, Most: 9, Class: class, Factor: 3}}
		totalsAre(t, l, asks(1, 0), []api.Line{{Class: class, Count: 1}}, api.OK)
		totalsAre(t, l, asks(1, 0, 2, 0), []api.Line{{Class: class, Count: 2}}, api.OK)
		totalsAre(t, l, asks(1, 0, 2, 4), []api.Line{{Class: class, Count: 2, Total: 12}}, api.OK)
	}
}

// Several rules may have the same class: they have one line together.
func TestP17_3_RulesOfOneClass(t *testing.T) {
	l := []api.Rule{{From: 1, To: 1, Most: 9, Class: 4, Factor: 2}, {From: 2, To: 2, Most: 9, Class: 3, Factor: 5}, {From: 3, To: 3, Most: 9, Class: 4, Factor: 1, Plus: 100}}
	totalsAre(t, l, asks(3, 1, 1, 9, 2, 1), []api.Line{{Class: 3, Count: 1, Total: 5}, {Class: 4, Count: 2, Total: 119}}, api.OK)
}

func TestP17_3_HowManyRequests(t *testing.T) {
	l := []api.Rule{{To: 9, Most: 9, Class: 2, Factor: 3, Plus: 4}}
	for n := 1; n <= mostRequests; n++ {
		totalsAre(t, l, slices.Repeat(asks(1, 2), n), []api.Line{{Class: 2, Count: n, Total: uint64(10 * n)}}, api.OK)
	}
	for _, n := range []int{61, 62, 100, 120, 255, 256, 256 + 60, 65536, 65536 + 60} {
		totalsAre(t, l, slices.Repeat(asks(1, 2), n), nil, api.ErrMany)
		totalsAre(t, l, slices.Repeat(asks(10, 2), n), nil, api.ErrMany)
	}
}

// One request without a price is enough, wherever it is, and whether its endpoint or its cost is the reason.
func TestP17_3_RequestsWithoutAPrice(t *testing.T) {
	l := []api.Rule{{From: 3, To: 9, Most: 9, Class: 2, Factor: 3, Plus: 4}}
	for _, q := range asks(2, 5, 10, 5, 5, 10, 0, 0, lastEnd, mostCost) {
		for n := 1; n <= mostRequests; n++ {
			for i := range n {
				r := slices.Repeat(asks(4, 5), n)
				r[i] = q
				totalsAre(t, l, r, nil, api.ErrNone)
			}
		}
	}
}

// The errors of a list come first, then that there are too many requests, then that one has no price.
func TestP17_3_OrderOfErrors(t *testing.T) {
	good := []api.Rule{{From: 1, To: 9, Most: 9, Factor: 1}}
	bad := []api.Rule{{From: 1, To: 9, Most: 9, Factor: 1}, {Class: 10}}
	long := slices.Repeat(good, mostRules+1)
	for _, r := range [][]api.Request{nil, asks(1, 1), asks(0, 1), asks(1, 1, 1, 10), slices.Repeat(asks(1, 1), 61), slices.Repeat(asks(0, 1), 61)} {
		totalsAre(t, bad, r, nil, api.ErrBad)
		totalsAre(t, long, r, nil, api.ErrMany)
		totalsAre(t, append(slices.Clone(long), bad...), r, nil, api.ErrMany)
	}
	for i := range mostRequests + 1 {
		r := slices.Repeat(asks(1, 1), mostRequests+1)
		r[i].Endpoint = 0
		totalsAre(t, good, r, nil, api.ErrMany)
	}
	findIs(t, bad, 0, 1, 0, api.ErrBad)
	priceIs(t, bad, 0, 1, 0, 0, api.ErrBad)
	findIs(t, long, 0, 1, 0, api.ErrMany)
	priceIs(t, long, 0, 1, 0, 0, api.ErrMany)
}

// Nothing of the tokens is looked at, whatever they are.
func TestP17_3_TokensAreNothing(t *testing.T) {
	tokens := []api.Token{{Tenant: 1, User: 2, Epoch: 3, Expiry: 4}, {Tenant: 16}, {Tenant: mostCost, User: mostCost, Epoch: mostCost, Expiry: api.MaxTick}, {Epoch: api.MaxEpoch + 1}, {Tag: api.Digest{31: 255}}, {Expiry: api.MaxTick, Tag: api.Digest{1, 2, 3}}}
	m := mixed()
	for range 500 {
		l := someRules(m)
		r := someAsks(m, m.IntN(mostRequests+1))
		if m.IntN(4) > 0 {
			r = fitting(l, r)
		}
		want, e := wantTotals(l, r)
		totalsAre(t, l, r, want, e)
		for i := range r {
			r[i].Token = pick(m, tokens)
		}
		totalsAre(t, l, r, want, e)
	}
}

// Totals are those of Price, one request after the other.
func TestP17_3_TotalsArePricesTogether(t *testing.T) {
	m := mixed()
	for range 3000 {
		l := someRules(m)
		r := fitting(l, someAsks(m, m.IntN(mostRequests+1)))
		var lines [mostClass + 1]api.Line
		for _, q := range r {
			class, price, e := cost.Price(l, q.Endpoint, q.Cost)
			if e != api.OK {
				t.Fatal(l, q, e)
			}
			lines[class] = api.Line{Class: class, Count: lines[class].Count + 1, Total: lines[class].Total + price}
		}
		totalsAre(t, l, r, slices.DeleteFunc(lines[:], func(x api.Line) bool { return x.Count == 0 }), api.OK)
	}
}

// A rule behind the first one that fits changes nothing: neither the index nor the price.
func TestP17_4_RulesBehindChangeNothing(t *testing.T) {
	m := mixed()
	seen := 0
	for range 20000 {
		l, q := someRules(m), someAsk(m)
		i, e := cost.Find(l, q.Endpoint, q.Cost)
		if e != api.OK || len(l) == mostRules {
			continue
		}
		seen++
		class, price, _ := cost.Price(l, q.Endpoint, q.Cost)
		at := i + 1 + m.IntN(len(l)-i)
		more := slices.Insert(slices.Clone(l), at, pick(m, []api.Rule{all(), someRule(m), nearRule(m)}))
		for _, with := range [][]api.Rule{more, l[:i+1]} {
			findIs(t, with, q.Endpoint, q.Cost, i, api.OK)
			priceIs(t, with, q.Endpoint, q.Cost, class, price, api.OK)
		}
	}
	if seen < 5000 {
		t.Error(seen)
	}
}

// One in front that does not fit changes no price, and moves the index on by one; whether there is a price stays, too.
func TestP17_4_RulesInFrontThatDoNotFit(t *testing.T) {
	m := mixed()
	seen := map[api.Errno]int{}
	for range 20000 {
		l, q, front := someRules(m), someAsk(m), pick(m, []func(*rand.Rand) api.Rule{someRule, nearRule})(m)
		if _, fits := wantFind([]api.Rule{front}, q.Endpoint, q.Cost); fits == api.OK || len(l) == mostRules {
			continue
		}
		i, e := cost.Find(l, q.Endpoint, q.Cost)
		seen[e]++
		class, price, _ := cost.Price(l, q.Endpoint, q.Cost)
		at := m.IntN(i + 1)
		more := slices.Insert(slices.Clone(l), at, front)
		if e == api.OK {
			i++
		}
		findIs(t, more, q.Endpoint, q.Cost, i, e)
		priceIs(t, more, q.Endpoint, q.Cost, class, price, e)
	}
	if seen[api.OK] < 2000 || seen[api.ErrNone] < 1000 {
		t.Error(seen)
	}
}

// The totals do not depend on the order of requests, and the counts add up to them.
func TestP17_4_OrderOfRequests(t *testing.T) {
	m := mixed()
	for range 2000 {
		l := someRules(m)
		r := someAsks(m, m.IntN(mostRequests+1))
		if m.IntN(5) > 0 {
			r = fitting(l, r)
		}
		want, wantE := cost.Totals(l, r)
		for range 3 {
			m.Shuffle(len(r), func(i, j int) { r[i], r[j] = r[j], r[i] })
			totalsAre(t, l, r, want, wantE)
		}
		slices.Reverse(r)
		totalsAre(t, l, r, want, wantE)
		n, last := 0, -1
		for _, line := range want {
			n += line.Count
			if line.Count < 1 || line.Class <= last {
				t.Fatal(l, r, want)
			}
			last = line.Class
		}
		if wantE == api.OK && n != len(r) {
			t.Fatalf("%d requests, and counts of %d together: %v, %v", len(r), n, l, want)
		}
	}
}

// The totals of two lists one behind the other are those of both, added class by class.
func TestP17_4_TwoListsOfRequests(t *testing.T) {
	m := mixed()
	for range 3000 {
		l := someRules(m)
		r := fitting(l, someAsks(m, m.IntN(mostRequests+1)))
		cut := m.IntN(len(r) + 1)
		var sums [mostClass + 1]api.Line
		for _, list := range [][]api.Request{r[:cut], r[cut:]} {
			lines, e := cost.Totals(l, list)
			if e != api.OK {
				t.Fatal(l, list, e)
			}
			for _, x := range lines {
				sums[x.Class] = api.Line{Class: x.Class, Count: sums[x.Class].Count + x.Count, Total: sums[x.Class].Total + x.Total}
			}
		}
		totalsAre(t, l, r, slices.DeleteFunc(sums[:], func(x api.Line) bool { return x.Count == 0 }), api.OK)
	}
}

// If Factor is 1 and Plus 0 everywhere, prices are costs.
func TestP17_4_PricesThatAreCosts(t *testing.T) {
	m := mixed()
	for range 5000 {
		l := someRules(m)
		for i := range l {
			l[i].Factor, l[i].Plus = 1, 0
		}
		r := fitting(l, someAsks(m, m.IntN(mostRequests+1)))
		sum, total := uint64(0), uint64(0)
		for _, q := range r {
			sum += uint64(q.Cost)
			if _, price, e := cost.Price(l, q.Endpoint, q.Cost); e != api.OK || price != uint64(q.Cost) {
				t.Fatal(l, q, price, e)
			}
		}
		lines, e := cost.Totals(l, r)
		for _, x := range lines {
			total += x.Total
		}
		if e != api.OK || total != sum {
			t.Fatal(l, r, lines, e)
		}
	}
}

// spare gives a copy with room behind it, which has these values.
func spare[E any](l []E, behind ...E) []E { return slices.Concat(l, behind)[:len(l)] }

// whole gives a copy of a list with all the room behind it.
func whole[E any](l []E) []E { return slices.Clone(l[:cap(l)]) }

func overwrite[E any](l []E, with E) {
	l = l[:cap(l)]
	for i := range l {
		l[i] = with
	}
}

// ruleLists are some that are valid, and some that are not.
func ruleLists() [][]api.Rule {
	l := [][]api.Rule{nil, {}, {all()}, {never()}, classRules(), {{From: 1}}, {all(), {Class: 10}}, slices.Repeat([]api.Rule{all()}, mostRules), slices.Repeat([]api.Rule{all()}, mostRules+1)}
	m := mixed()
	for range 30 {
		l = append(l, someRules(m))
	}
	return l
}

// requestLists are some with prices, some without, and some that are too long.
func requestLists(l []api.Rule) [][]api.Request {
	m := mixed()
	r := [][]api.Request{nil, {}, asks(4, 5), asks(9, 1, 0, 1), slices.Repeat(asks(4, 5), mostRequests), slices.Repeat(asks(4, 5), mostRequests+1)}
	for range 5 {
		r = append(r, someAsks(m, 10), fitting(l, someAsks(m, mostRequests)))
	}
	return r
}

// Neither a list nor the room behind it changes, whatever is asked.
func TestP1_ArgumentsAreOnlyRead(t *testing.T) {
	for _, l := range ruleLists() {
		l = spare(l, all(), never(), api.Rule{From: 9, Class: -1})
		beforeL := whole(l)
		for _, r := range requestLists(l) {
			r = spare(r, asks(1, 2, 3, 4, 5, 6)...)
			beforeR := whole(r)
			cost.Check(l)
			cost.Find(l, 4, 5)
			cost.Price(l, 4, 5)
			cost.Totals(l, r)
			if !slices.Equal(whole(l), beforeL) || !slices.Equal(whole(r), beforeR) {
				t.Fatalf("%v, not %v; %v, not %v", whole(l), beforeL, whole(r), beforeR)
			}
		}
	}
}

// What stands in the room behind a list is not of the list.
func TestP1_RoomBehindIsNothing(t *testing.T) {
	for _, l := range ruleLists() {
		for _, r := range requestLists(l) {
			for _, behind := range []api.Rule{{}, all(), {From: 9}, {Class: 10}} {
				isAsTold(t, spare(l, slices.Repeat([]api.Rule{behind}, 25)...), spare(r, slices.Repeat(asks(4, 5), 65)...))
			}
		}
		for n := range len(l) {
			isAsTold(t, l[:n], asks(4, 5, 5, 4))
		}
	}
}

// A result can be changed without changing an argument or another result, and the other way round; and nothing of it is kept.
func TestP1_ResultsShareNoMemory(t *testing.T) {
	for _, original := range ruleLists() {
		for _, requests := range requestLists(original) {
			l, r := spare(original, all()), spare(requests, asks(4, 5)...)
			beforeL, beforeR := whole(l), whole(r)
			first, e := cost.Totals(l, r)
			want := slices.Clone(first)
			second, _ := cost.Totals(l, r)
			overwrite(second, api.Line{Class: 77, Count: 77, Total: 77})
			if !slices.Equal(first, want) || !slices.Equal(whole(l), beforeL) || !slices.Equal(whole(r), beforeR) {
				t.Fatalf("%v, not %v", first, want)
			}
			overwrite(l, api.Rule{From: 7, To: 8, Class: 7})
			overwrite(r, api.Request{Endpoint: 7, Cost: 7})
			if !slices.Equal(first, want) {
				t.Fatalf("%v, not %v", first, want)
			}
			overwrite(first, api.Line{Class: -1})
			totalsAre(t, original, requests, want, e)
		}
	}
}

// Nil and empty lists are the same: nothing.
func TestP1_NilAndEmpty(t *testing.T) {
	for _, l := range ruleLists() {
		for _, r := range [][]api.Request{nil, {}, make([]api.Request, 0, 9)} {
			totalsAre(t, l, r, nil, wantCheck(l))
		}
	}
	for _, r := range requestLists(nil) {
		want, e := wantTotals(nil, r)
		for _, l := range [][]api.Rule{nil, {}, make([]api.Rule, 0, 9)} {
			totalsAre(t, l, r, want, e)
		}
	}
}

// anyRules gives a list that is often valid, and often just not.
func anyRules(m *rand.Rand) []api.Rule {
	l := someRules(m)
	switch m.IntN(6) {
	case 0:
		l = append(l, slices.Repeat([]api.Rule{someRule(m)}, m.IntN(mostRules+4))...)
	case 1:
		l = slices.Insert(l, m.IntN(len(l)+1), pick(m, badRules()))
	case 2:
		l = slices.Insert(l, m.IntN(len(l)+1), api.Rule{From: uint16(m.Uint32()), To: uint16(m.Uint32()), Most: m.Uint32(), Class: int(m.Uint64()), Factor: m.Uint32(), Plus: m.Uint32()})
	}
	return l
}

// Any values at all are answered, the same ones each time, and an answer with an error has nothing else.
func TestP1_AllArgumentsAreAnswered(t *testing.T) {
	m := mixed()
	found, totals := map[api.Errno]int{}, map[api.Errno]int{}
	for range 20000 {
		l := anyRules(m)
		r := someAsks(m, pick(m, []int{0, 1, 2, 5, 20, 60, 61, 70}))
		if m.IntN(2) == 0 {
			r = fitting(l, r)
		}
		_, e := wantTotals(l, r)
		found[wantCheck(l)]++
		totals[e]++
		for range 2 {
			isAsTold(t, l, r)
			requestIsAsTold(t, l, uint16(m.Uint32()), m.Uint32())
		}
	}
	for _, e := range []api.Errno{api.OK, api.ErrMany, api.ErrBad} {
		if found[e] < 1000 {
			t.Errorf("%d lists with the error %d", found[e], e)
		}
	}
	for _, e := range []api.Errno{api.OK, api.ErrMany, api.ErrNone, api.ErrBad} {
		if totals[e] < 1000 {
			t.Errorf("%d totals with the error %d", totals[e], e)
		}
	}
}
