package ideal_test

import (
	"bytes"
	"math"
	"math/rand/v2"
	"slices"
	"testing"

	"spigot/api"
	"spigot/frame"
	"spigot/ideal"
	"spigot/keys"
)

const (
	top  = math.MaxUint32
	most = 100
)

// mixed gives numbers that are mixed, the same ones in each test.
func mixed() *rand.Rand { return rand.New(rand.NewPCG(12, 105)) }

func pick[E any](m *rand.Rand, l []E) E { return l[m.IntN(len(l))] }

func someDigest(m *rand.Rand) (d api.Digest) {
	for i := range d {
		d[i] = byte(m.Uint32())
	}
	return d
}

func allOnes() api.Digest { return api.Digest(bytes.Repeat([]byte{255}, 32)) }

func flipped(d api.Digest, bit int) api.Digest {
	d[bit/8] ^= 1 << (bit % 8)
	return d
}

func someWord(m *rand.Rand) uint32 {
	return pick(m, []uint32{0, 1, 15, 16, 1 << 31, top, m.Uint32(), m.Uint32()})
}

func someLong(m *rand.Rand) uint64 {
	return pick(m, []uint64{0, 1, 258, 1 << 63, math.MaxUint64, m.Uint64(), m.Uint64() >> 32})
}

// someToken gives a token of a table: its tenant is one of the 16, all else is any.
func someToken(m *rand.Rand) api.Token {
	return api.Token{Tenant: m.Uint32N(16), User: someWord(m), Epoch: someWord(m), Expiry: someLong(m), Tag: someDigest(m)}
}

func someLimits(m *rand.Rand) (l [3]api.Limit) {
	n := func(least int64) int64 {
		return pick(m, []int64{least, 1, 2, 256, 1e9 - 1, 1e9, 1 + m.Int64N(1e9)})
	}
	for i := range l {
		l[i] = api.Limit{Burst: n(1), Rate: n(0), Per: n(1)}
	}
	return l
}

// someCommand gives a valid command.
func someCommand(m *rand.Rand) api.Command {
	c := api.Command{Op: 1 + uint8(m.UintN(5)), Tenant: m.Uint32N(16), Expiry: someLong(m), Tag: someDigest(m)}
	switch c.Op {
	case 1:
		c.Limits, c.Users, c.Ends = someLimits(m), 1+uint8(m.UintN(8)), 1+uint8(m.UintN(8))
	case 3:
		c.Limits = someLimits(m)
	case 5:
		c.User = someWord(m)
	}
	return c
}

// plainCommands has one valid command for each Op, with no bytes 0 in what is used.
func plainCommands() []api.Command {
	limits := [3]api.Limit{
		{Burst: 0x01020304, Rate: 0x05060708, Per: 0x090a0b0c},
		{Burst: 0x0d0e0f10, Rate: 0x11121314, Per: 0x15161718},
		{Burst: 0x191a1b1c, Rate: 0x1d1e1f20, Per: 0x21222324},
	}
	const expiry = 0x2526272829303132
	return []api.Command{
		{Op: 1, Tenant: 11, Limits: limits, Users: 7, Ends: 8, Expiry: expiry},
		{Op: 2, Tenant: 12, Expiry: expiry},
		{Op: 3, Tenant: 13, Limits: limits, Expiry: expiry},
		{Op: 4, Tenant: 14, Expiry: expiry},
		{Op: 5, Tenant: 15, User: 0xa1a2a3a4, Expiry: expiry},
	}
}

func badTenants() []uint32 {
	return []uint32{16, 17, 31, 32, 255, 256, 257, 1 << 16, 1 << 24, 1<<24 + 1, 1 << 31, 1<<31 + 1, top - 15, top}
}

// badCommands are not valid, each one for another reason.
func badCommands() []api.Command {
	p := plainCommands()
	l := []api.Command{{}, {Op: 6}, {Op: 255}, {Op: 1}, {Op: 3}, {Op: 2, User: 1}, {Op: 4, User: 1 << 31}, {Op: 5, Users: 1}, {Op: 2, Ends: 1}}
	for _, c := range p {
		for _, c.Tenant = range badTenants() {
			l = append(l, c)
		}
	}
	for i := range 3 {
		for _, limit := range []api.Limit{{}, {Burst: 1}, {Per: 1}, {Burst: 1e9 + 1, Per: 1}, {Burst: 1, Rate: 1e9 + 1, Per: 1}, {Burst: 1, Per: 1e9 + 1}, {Burst: 1, Rate: -1, Per: 1}, {Burst: 1 + 1<<32, Per: 1}} {
			a, b := p[0], p[2]
			a.Limits[i], b.Limits[i] = limit, limit
			l = append(l, a, b)
		}
		c := p[3]
		c.Limits[i].Rate = 1
		l = append(l, c)
	}
	for _, n := range []uint8{0, 9, 255} {
		a, b := p[0], p[0]
		a.Users, b.Ends = n, n
		l = append(l, a, b)
	}
	return l
}

func command(c api.Command) api.Frame { return api.Frame{Kind: 2, Command: c} }

func request(a api.Token) api.Frame { return api.Frame{Kind: 1, Request: api.Request{Token: a}} }

// someRequest asks with a token for any cost at any endpoint.
func someRequest(m *rand.Rand, a api.Token) api.Frame {
	f := request(a)
	f.Request.Endpoint, f.Request.Cost = uint16(m.Uint32()), someWord(m)
	return f
}

// numbered gives a table with so many tokens and commands, all with messages of their own, and with Tags that repeat.
func numbered(tokens, commands int) (d api.Ideal) {
	for i := range tokens {
		d.Tokens = append(d.Tokens, api.Token{Tenant: uint32(i % 16), User: uint32(i), Tag: api.Digest{byte(i % 3)}})
	}
	for i := range commands {
		d.Commands = append(d.Commands, api.Command{Op: 5, Tenant: uint32(i % 16), User: uint32(i), Tag: api.Digest{byte(i % 3)}})
	}
	return d
}

// fullTables have as much as there may be.
func fullTables() []api.Ideal {
	return []api.Ideal{numbered(most, 0), numbered(0, most), numbered(50, 50), numbered(1, 99), numbered(99, 1)}
}

// The definitions, put down once more, each one in the plainest way.

func equal(a, b api.Ideal) bool {
	return slices.Equal(a.Tokens, b.Tokens) && slices.Equal(a.Commands, b.Commands)
}

func sameMessage(a, b api.Token) bool {
	return a.Tenant == b.Tenant && a.User == b.User && a.Epoch == b.Epoch && a.Expiry == b.Expiry
}

func sameBefore(a, b api.Command) bool {
	return a.Op == b.Op && a.Tenant == b.Tenant && a.User == b.User && a.Limits == b.Limits && a.Users == b.Users && a.Ends == b.Ends && a.Expiry == b.Expiry
}

func isToken(a api.Token) bool { return a.Tenant < 16 }

func isCommand(c api.Command) bool { return frame.Check(command(c)) == api.OK }

func wantCheck(d api.Ideal) api.Errno {
	if len(d.Tokens)+len(d.Commands) > most {
		return api.ErrMany
	}
	isBad := func(c api.Command) bool { return !isCommand(c) }
	if slices.ContainsFunc(d.Commands, isBad) || slices.ContainsFunc(d.Tokens, func(a api.Token) bool { return !isToken(a) }) {
		return api.ErrBad
	}
	for i, a := range d.Tokens {
		for _, b := range d.Tokens[:i] {
			if sameMessage(a, b) {
				return api.ErrTwice
			}
		}
	}
	for i, a := range d.Commands {
		for _, b := range d.Commands[:i] {
			if sameBefore(a, b) {
				return api.ErrTwice
			}
		}
	}
	return api.OK
}

func wantToken(d api.Ideal, a api.Token) (api.Ideal, api.Errno) {
	if e := wantCheck(d); e != api.OK {
		return api.Ideal{}, e
	}
	if !isToken(a) {
		return api.Ideal{}, api.ErrBad
	}
	for _, b := range d.Tokens {
		if sameMessage(a, b) && a.Tag == b.Tag {
			return d, api.OK
		}
		if sameMessage(a, b) {
			return api.Ideal{}, api.ErrTwice
		}
	}
	if len(d.Tokens)+len(d.Commands) == most {
		return api.Ideal{}, api.ErrMany
	}
	return api.Ideal{Tokens: append(slices.Clip(d.Tokens), a), Commands: d.Commands}, api.OK
}

func wantCommand(d api.Ideal, c api.Command) (api.Ideal, api.Errno) {
	if e := wantCheck(d); e != api.OK {
		return api.Ideal{}, e
	}
	if !isCommand(c) {
		return api.Ideal{}, api.ErrBad
	}
	for _, b := range d.Commands {
		if sameBefore(c, b) && c.Tag == b.Tag {
			return d, api.OK
		}
		if sameBefore(c, b) {
			return api.Ideal{}, api.ErrTwice
		}
	}
	if len(d.Tokens)+len(d.Commands) == most {
		return api.Ideal{}, api.ErrMany
	}
	return api.Ideal{Tokens: d.Tokens, Commands: append(slices.Clip(d.Commands), c)}, api.OK
}

func wantAccepts(d api.Ideal, f api.Frame) (bool, api.Errno) {
	if e := wantCheck(d); e != api.OK {
		return false, e
	}
	if frame.Check(f) != api.OK {
		return false, api.ErrBad
	}
	if f.Kind == 1 {
		return slices.Contains(d.Tokens, f.Request.Token), api.OK
	}
	return slices.Contains(d.Commands, f.Command), api.OK
}

// What a function answers, held against the definitions.

func checkIs(t *testing.T, d api.Ideal, want api.Errno) {
	t.Helper()
	if e := ideal.Check(d); e != want {
		t.Fatalf("Check(%v) = %d, not %d", d, e, want)
	}
}

func tokenIs(t *testing.T, d api.Ideal, a api.Token) {
	t.Helper()
	want, wantE := wantToken(d, a)
	if got, e := ideal.Token(d, a); !equal(got, want) || e != wantE {
		t.Fatalf("Token(%v, %v) = %v, %d, not %v, %d", d, a, got, e, want, wantE)
	}
}

func commandIs(t *testing.T, d api.Ideal, c api.Command) {
	t.Helper()
	want, wantE := wantCommand(d, c)
	if got, e := ideal.Command(d, c); !equal(got, want) || e != wantE {
		t.Fatalf("Command(%v, %v) = %v, %d, not %v, %d", d, c, got, e, want, wantE)
	}
}

func acceptsIs(t *testing.T, d api.Ideal, f api.Frame) {
	t.Helper()
	want, wantE := wantAccepts(d, f)
	if got, e := ideal.Accepts(d, f); got != want || e != wantE {
		t.Fatalf("Accepts(%v, %v) = %v, %d, not %v, %d", d, f, got, e, want, wantE)
	}
}

// noTable tells that nothing can be put into a table, and that nothing is accepted by it, for this reason.
func noTable(t *testing.T, d api.Ideal, want api.Errno) {
	t.Helper()
	checkIs(t, d, want)
	for _, a := range append(slices.Clone(d.Tokens), api.Token{}, api.Token{Tenant: 16}, api.Token{Tenant: 15, User: top}) {
		if got, e := ideal.Token(d, a); !equal(got, api.Ideal{}) || e != want {
			t.Fatalf("Token(%v, %v) = %v, %d, not %d", d, a, got, e, want)
		}
		if is, e := ideal.Accepts(d, request(a)); is || e != want {
			t.Fatalf("Accepts(%v, request of %v) = %v, %d, not %d", d, a, is, e, want)
		}
	}
	for _, c := range append(slices.Clone(d.Commands), api.Command{}, plainCommands()[0]) {
		if got, e := ideal.Command(d, c); !equal(got, api.Ideal{}) || e != want {
			t.Fatalf("Command(%v, %v) = %v, %d, not %d", d, c, got, e, want)
		}
		if is, e := ideal.Accepts(d, command(c)); is || e != want {
			t.Fatalf("Accepts(%v, %v) = %v, %d, not %d", d, c, is, e, want)
		}
	}
	if is, e := ideal.Accepts(d, api.Frame{}); is || e != want {
		t.Fatalf("Accepts(%v, no frame) = %v, %d, not %d", d, is, e, want)
	}
}

func withToken(t *testing.T, d api.Ideal, a api.Token) api.Ideal {
	t.Helper()
	got, e := ideal.Token(d, a)
	if e != api.OK {
		t.Fatalf("Token(%v, %v): error %d", d, a, e)
	}
	return got
}

func withCommand(t *testing.T, d api.Ideal, c api.Command) api.Ideal {
	t.Helper()
	got, e := ideal.Command(d, c)
	if e != api.OK {
		t.Fatalf("Command(%v, %v): error %d", d, c, e)
	}
	return got
}

func isAccepted(t *testing.T, d api.Ideal, f api.Frame) {
	t.Helper()
	if is, e := ideal.Accepts(d, f); !is || e != api.OK {
		t.Fatalf("Accepts(%v, %v) = %v, %d", d, f, is, e)
	}
}

func isRejected(t *testing.T, d api.Ideal, f api.Frame) {
	t.Helper()
	if is, e := ideal.Accepts(d, f); is || e != api.OK {
		t.Fatalf("Accepts(%v, %v) = %v, %d", d, f, is, e)
	}
}

func isBad(t *testing.T, d api.Ideal, f api.Frame) {
	t.Helper()
	if is, e := ideal.Accepts(d, f); is || e != api.ErrBad {
		t.Fatalf("Accepts(%v, %v) = %v, %d", d, f, is, e)
	}
}

func TestNumbersAreThoseOfTheChapter(t *testing.T) {
	if api.OK != 0 || api.ErrMany != 4 || api.ErrBad != 8 || api.ErrTwice != 14 || api.MaxTenants != 16 || api.MaxMinted != most {
		t.Error(api.OK, api.ErrMany, api.ErrBad, api.ErrTwice, api.MaxTenants, api.MaxMinted)
	}
}

// The chapter's example, with all three of its sentences.
func TestExample(t *testing.T) {
	a := api.Token{Tenant: 1, User: 2, Tag: api.Digest{9}}
	d := withToken(t, ideal.New(), a)
	if !equal(d, api.Ideal{Tokens: []api.Token{a}}) {
		t.Fatal(d)
	}
	f := request(a)
	for endpoint := range 1 << 16 {
		f.Request.Endpoint = uint16(endpoint)
		isAccepted(t, d, f)
	}
	for bit := range 256 {
		f := f
		f.Request.Token.Tag = flipped(a.Tag, bit)
		isRejected(t, d, f)
		if got, e := ideal.Token(d, f.Request.Token); !equal(got, api.Ideal{}) || e != api.ErrTwice {
			t.Fatalf("%d: %v, %d", bit, got, e)
		}
	}
}

func TestP12_1_NewHasNothing(t *testing.T) {
	d := ideal.New()
	if len(d.Tokens) != 0 || len(d.Commands) != 0 {
		t.Fatal(d)
	}
	checkIs(t, d, api.OK)
	checkIs(t, api.Ideal{Tokens: []api.Token{}, Commands: []api.Command{}}, api.OK)
	isRejected(t, d, request(api.Token{}))
	isRejected(t, d, request(api.Token{Tenant: 1, Tag: api.Digest{1}}))
	for _, c := range plainCommands() {
		isRejected(t, d, command(c))
	}
}

// Each table that is new begins with nothing, whatever was done with others.
func TestP12_1_NewIsNewEachTime(t *testing.T) {
	first := ideal.New()
	d := withCommand(t, withToken(t, first, api.Token{User: 1}), plainCommands()[1])
	for _, other := range []api.Ideal{first, ideal.New()} {
		if len(other.Tokens) != 0 || len(other.Commands) != 0 {
			t.Fatal(other)
		}
		isRejected(t, other, request(d.Tokens[0]))
		isRejected(t, other, command(d.Commands[0]))
	}
}

// Tokens and commands are counted together.
func TestP12_1_AsMuchAsThereMayBe(t *testing.T) {
	for tokens := range most + 1 {
		checkIs(t, numbered(tokens, most-tokens), api.OK)
		checkIs(t, numbered(tokens, most-tokens+1), api.ErrMany)
		checkIs(t, numbered(tokens+1, most-tokens), api.ErrMany)
		checkIs(t, numbered(tokens, 0), api.OK)
		checkIs(t, numbered(0, tokens), api.OK)
	}
	for _, d := range []api.Ideal{numbered(101, 0), numbered(0, 101), numbered(51, 50), numbered(100, 1), numbered(1, 100), numbered(100, 100), numbered(256, 0), numbered(0, 512), numbered(65536, 0), numbered(65536, 65536)} {
		checkIs(t, d, api.ErrMany)
	}
	for _, d := range []api.Ideal{numbered(101, 0), numbered(0, 101), numbered(50, 51), numbered(256, 0)} {
		noTable(t, d, api.ErrMany)
	}
}

// What is valid has any numbers, and any Tag.
func TestP12_1_ValidTables(t *testing.T) {
	m := mixed()
	for tenant := range uint32(16) {
		for _, a := range []api.Token{{}, {User: top}, {Epoch: 1000001}, {Epoch: top}, {Expiry: math.MaxUint64}, {Tag: allOnes()}, someToken(m)} {
			a.Tenant = tenant
			checkIs(t, api.Ideal{Tokens: []api.Token{a}}, api.OK)
		}
		for _, c := range plainCommands() {
			for _, c.Tag = range []api.Digest{{}, {31: 1}, allOnes(), someDigest(m)} {
				c.Tenant = tenant
				checkIs(t, api.Ideal{Commands: []api.Command{c}}, api.OK)
			}
		}
	}
	checkIs(t, api.Ideal{Commands: plainCommands()}, api.OK)
}

func TestP12_1_TokensThatAreNotAsTold(t *testing.T) {
	for _, tenant := range badTenants() {
		noTable(t, api.Ideal{Tokens: []api.Token{{Tenant: tenant}}}, api.ErrBad)
		for i := range most {
			d := numbered(most, 0)
			d.Tokens[i].Tenant = tenant
			checkIs(t, d, api.ErrBad)
		}
	}
}

func TestP12_1_CommandsThatAreNotAsTold(t *testing.T) {
	for _, c := range badCommands() {
		noTable(t, api.Ideal{Commands: []api.Command{c}}, api.ErrBad)
		for _, i := range []int{0, 1, 25, 49} {
			d := numbered(50, 50)
			d.Commands[i] = c
			checkIs(t, d, api.ErrBad)
		}
	}
}

// The same message twice is an error with the same Tag and with another one, wherever both stand.
func TestP12_1_TheSameMessageTwice(t *testing.T) {
	for i := range 50 {
		for j := range 50 {
			if i == j {
				continue
			}
			d, c := numbered(50, 50), numbered(50, 50)
			d.Tokens[i], c.Commands[i] = d.Tokens[j], c.Commands[j]
			checkIs(t, d, api.ErrTwice)
			checkIs(t, c, api.ErrTwice)
			d.Tokens[i].Tag[31]++
			c.Commands[i].Tag[31]++
			checkIs(t, d, api.ErrTwice)
			checkIs(t, c, api.ErrTwice)
		}
	}
	a, c := api.Token{Tenant: 1, Tag: api.Digest{1}}, plainCommands()[0]
	noTable(t, api.Ideal{Tokens: []api.Token{a, {User: 1}, a}}, api.ErrTwice)
	noTable(t, api.Ideal{Commands: []api.Command{c, plainCommands()[1], c}}, api.ErrTwice)
	other, changed := a, c
	other.Tag, changed.Tag = api.Digest{2}, allOnes()
	noTable(t, api.Ideal{Tokens: []api.Token{a, other}}, api.ErrTwice)
	noTable(t, api.Ideal{Commands: []api.Command{c, changed}}, api.ErrTwice)
}

// othersOf are tokens that differ in one bit of a number. Their tenants are still valid.
func othersOf(a api.Token) []api.Token {
	var l []api.Token
	for i := range 64 {
		b := a
		b.Expiry ^= 1 << i
		l = append(l, b)
	}
	for i := range 32 {
		b, c := a, a
		b.User ^= 1 << i
		c.Epoch ^= 1 << i
		l = append(l, b, c)
	}
	for i := range 4 {
		b := a
		b.Tenant ^= 1 << i
		l = append(l, b)
	}
	return l
}

// changedCommands are pairs of a valid command and another one, which differ in one thing beside the Tag.
func changedCommands(t *testing.T) [][2]api.Command {
	t.Helper()
	var l [][2]api.Command
	for _, change := range []func(c *api.Command){
		func(c *api.Command) { c.Op ^= 6 }, // 2 and 4
		func(c *api.Command) { c.Op = 5 },
		func(c *api.Command) { c.Tenant ^= 1 },
		func(c *api.Command) { c.Tenant ^= 8 },
		func(c *api.Command) { c.User ^= 1 },
		func(c *api.Command) { c.User ^= 1 << 31 },
		func(c *api.Command) { c.Users-- },
		func(c *api.Command) { c.Ends-- },
		func(c *api.Command) { c.Expiry ^= 1 },
		func(c *api.Command) { c.Expiry ^= 1 << 63 },
		func(c *api.Command) { c.Limits[0].Burst++ },
		func(c *api.Command) { c.Limits[0].Rate++ },
		func(c *api.Command) { c.Limits[0].Per++ },
		func(c *api.Command) { c.Limits[1].Burst++ },
		func(c *api.Command) { c.Limits[1].Rate++ },
		func(c *api.Command) { c.Limits[1].Per++ },
		func(c *api.Command) { c.Limits[2].Burst++ },
		func(c *api.Command) { c.Limits[2].Rate++ },
		func(c *api.Command) { c.Limits[2].Per++ },
	} {
		n := len(l)
		for _, c := range plainCommands() {
			d := c
			if change(&d); isCommand(d) && d != c {
				l = append(l, [2]api.Command{c, d})
			}
		}
		if len(l) == n {
			t.Fatal("no command can be changed so")
		}
	}
	return l
}

// What differs in anything but the Tag is another message, also with the same Tag.
func TestP12_1_OtherMessages(t *testing.T) {
	m := mixed()
	for range 10 {
		a := someToken(m)
		for _, b := range othersOf(a) {
			checkIs(t, api.Ideal{Tokens: []api.Token{a, b}}, api.OK)
		}
	}
	for _, p := range changedCommands(t) {
		checkIs(t, api.Ideal{Commands: p[:]}, api.OK)
	}
}

// A token and a command that have what they can in common are not the same.
func TestP12_1_TokensAndCommandsAreApart(t *testing.T) {
	a, c := api.Token{Tenant: 3, User: 4, Expiry: 5, Tag: api.Digest{6}}, api.Command{Op: 5, Tenant: 3, User: 4, Expiry: 5, Tag: api.Digest{6}}
	d := api.Ideal{Tokens: []api.Token{a}, Commands: []api.Command{c}}
	checkIs(t, d, api.OK)
	isRejected(t, api.Ideal{Tokens: d.Tokens}, command(c))
	isRejected(t, api.Ideal{Commands: d.Commands}, request(a))
	if got := withCommand(t, withToken(t, ideal.New(), a), c); !equal(got, d) {
		t.Error(got)
	}
	if got := withToken(t, withCommand(t, ideal.New(), c), a); !equal(got, d) {
		t.Error(got)
	}
}

// ErrMany comes first, then ErrBad, and then ErrTwice, in whatever order the reasons stand.
func TestP12_1_TheOrderOfErrors(t *testing.T) {
	bad, twice, badCommand, twiceCommand := api.Token{Tenant: 16}, api.Token{User: 200}, api.Command{Op: 6}, plainCommands()[4]
	for _, tokens := range [][]api.Token{{bad, twice, twice}, {twice, bad, twice}, {twice, twice, bad}, {bad, bad}} {
		noTable(t, api.Ideal{Tokens: tokens}, api.ErrBad)
		noTable(t, api.Ideal{Tokens: append(numbered(97, 0).Tokens, tokens...)}, api.ErrBad)
		noTable(t, api.Ideal{Tokens: append(numbered(99, 0).Tokens, tokens...)}, api.ErrMany)
	}
	for _, commands := range [][]api.Command{{badCommand, twiceCommand, twiceCommand}, {twiceCommand, badCommand, twiceCommand}, {twiceCommand, twiceCommand, badCommand}, {badCommand, badCommand}} {
		noTable(t, api.Ideal{Commands: commands}, api.ErrBad)
		noTable(t, api.Ideal{Tokens: numbered(97, 0).Tokens, Commands: commands}, api.ErrBad)
		noTable(t, api.Ideal{Tokens: numbered(99, 0).Tokens, Commands: commands}, api.ErrMany)
	}
	noTable(t, api.Ideal{Tokens: []api.Token{twice, twice}, Commands: []api.Command{badCommand}}, api.ErrBad)
	noTable(t, api.Ideal{Tokens: []api.Token{bad}, Commands: []api.Command{twiceCommand, twiceCommand}}, api.ErrBad)
	noTable(t, api.Ideal{Tokens: append(numbered(99, 0).Tokens, twice, twice)}, api.ErrMany)
	noTable(t, api.Ideal{Tokens: append(numbered(98, 0).Tokens, twice, twice)}, api.ErrTwice)
}

// A token stands behind the tokens, and a command behind the commands; all else stays.
func TestP12_2_PutBehind(t *testing.T) {
	for tokens := range most {
		for _, commands := range []int{0, 1, most - 1 - tokens} {
			d := numbered(tokens, commands)
			if len(d.Tokens)+len(d.Commands) == most {
				continue
			}
			a, c := api.Token{Tenant: 15, User: 1000, Epoch: 7, Expiry: 8, Tag: api.Digest{9}}, plainCommands()[tokens%5]
			got := withToken(t, d, a)
			if !slices.Equal(got.Tokens, append(slices.Clone(d.Tokens), a)) || !slices.Equal(got.Commands, d.Commands) {
				t.Fatalf("Token(%v, %v) = %v", d, a, got)
			}
			got = withCommand(t, d, c)
			if !slices.Equal(got.Tokens, d.Tokens) || !slices.Equal(got.Commands, append(slices.Clone(d.Commands), c)) {
				t.Fatalf("Command(%v, %v) = %v", d, c, got)
			}
		}
	}
}

// Tables grow to just as much as there may be, in any order.
func TestP12_2_UpToTheEnd(t *testing.T) {
	m := mixed()
	for range 10 {
		d, want := ideal.New(), api.Ideal{}
		for i := range most {
			if m.IntN(2) == 0 {
				a := api.Token{Tenant: m.Uint32N(16), User: uint32(i), Tag: someDigest(m)}
				d, want.Tokens = withToken(t, d, a), append(want.Tokens, a)
			} else {
				c := api.Command{Op: 5, Tenant: m.Uint32N(16), User: uint32(i), Tag: someDigest(m)}
				d, want.Commands = withCommand(t, d, c), append(want.Commands, c)
			}
		}
		if !equal(d, want) {
			t.Fatalf("%v, not %v", d, want)
		}
		checkIs(t, d, api.OK)
		noRoom(t, d)
	}
}

func noRoom(t *testing.T, d api.Ideal) {
	t.Helper()
	if got, e := ideal.Token(d, api.Token{User: 1000}); !equal(got, api.Ideal{}) || e != api.ErrMany {
		t.Fatalf("Token(%v, ..) = %v, %d", d, got, e)
	}
	for _, c := range plainCommands() {
		if got, e := ideal.Command(d, c); !equal(got, api.Ideal{}) || e != api.ErrMany {
			t.Fatalf("Command(%v, %v) = %v, %d", d, c, got, e)
		}
	}
}

// In a full table what is there stays, or is there twice; only what is new is too much.
func TestP12_2_FullTables(t *testing.T) {
	for _, d := range fullTables() {
		noRoom(t, d)
		for _, a := range d.Tokens {
			if got := withToken(t, d, a); !equal(got, d) {
				t.Fatalf("Token(%v, %v) = %v", d, a, got)
			}
			a.Tag[5]++
			if got, e := ideal.Token(d, a); !equal(got, api.Ideal{}) || e != api.ErrTwice {
				t.Fatalf("Token(%v, %v) = %v, %d", d, a, got, e)
			}
		}
		for _, c := range d.Commands {
			if got := withCommand(t, d, c); !equal(got, d) {
				t.Fatalf("Command(%v, %v) = %v", d, c, got)
			}
			c.Tag[5]++
			if got, e := ideal.Command(d, c); !equal(got, api.Ideal{}) || e != api.ErrTwice {
				t.Fatalf("Command(%v, %v) = %v, %d", d, c, got, e)
			}
		}
	}
}

// What is not as told is ErrBad in any valid table, also in a full one.
func TestP12_2_WhatIsNotAsTold(t *testing.T) {
	for _, d := range append(fullTables(), ideal.New(), numbered(1, 1), numbered(3, 5)) {
		for _, tenant := range badTenants() {
			for _, a := range []api.Token{{Tenant: tenant}, {Tenant: tenant, User: 1, Tag: api.Digest{1}}} {
				if got, e := ideal.Token(d, a); !equal(got, api.Ideal{}) || e != api.ErrBad {
					t.Fatalf("Token(%v, %v) = %v, %d", d, a, got, e)
				}
			}
		}
		for _, c := range badCommands() {
			for _, c.Tag = range []api.Digest{{}, {1}} {
				if got, e := ideal.Command(d, c); !equal(got, api.Ideal{}) || e != api.ErrBad {
					t.Fatalf("Command(%v, %v) = %v, %d", d, c, got, e)
				}
			}
		}
	}
}

// To put in again what is there changes nothing, with another Tag it is an error, whichever bit differs.
func TestP12_2_AgainAndWithAnotherTag(t *testing.T) {
	m := mixed()
	d := ideal.New()
	for range 5 {
		d = withCommand(t, withToken(t, d, someToken(m)), someCommand(m))
	}
	for i := range 5 {
		if got := withToken(t, d, d.Tokens[i]); !equal(got, d) {
			t.Fatal(got)
		}
		if got := withCommand(t, d, d.Commands[i]); !equal(got, d) {
			t.Fatal(got)
		}
		for bit := range 256 {
			a, c := d.Tokens[i], d.Commands[i]
			a.Tag, c.Tag = flipped(a.Tag, bit), flipped(c.Tag, bit)
			if got, e := ideal.Token(d, a); !equal(got, api.Ideal{}) || e != api.ErrTwice {
				t.Fatalf("Token(%v, %v) = %v, %d", d, a, got, e)
			}
			if got, e := ideal.Command(d, c); !equal(got, api.Ideal{}) || e != api.ErrTwice {
				t.Fatalf("Command(%v, %v) = %v, %d", d, c, got, e)
			}
		}
	}
}

// What differs in anything but the Tag is put in beside the other one.
func TestP12_2_OtherMessages(t *testing.T) {
	m := mixed()
	a := someToken(m)
	d := withToken(t, ideal.New(), a)
	for _, b := range othersOf(a) {
		if got := withToken(t, d, b); !equal(got, api.Ideal{Tokens: []api.Token{a, b}}) {
			t.Fatal(got)
		}
	}
	for _, p := range changedCommands(t) {
		if got := withCommand(t, withCommand(t, ideal.New(), p[0]), p[1]); !equal(got, api.Ideal{Commands: p[:]}) {
			t.Fatal(got)
		}
	}
}

// Each one of a table is found, in whatever place it is.
func TestP12_3_AllThatIsThere(t *testing.T) {
	m := mixed()
	for _, d := range append(fullTables(), numbered(1, 0), numbered(0, 1), numbered(1, 1), numbered(3, 5)) {
		for _, a := range d.Tokens {
			isAccepted(t, d, request(a))
			isAccepted(t, d, someRequest(m, a))
			a.Tag[31]++
			isRejected(t, d, request(a))
		}
		for _, c := range d.Commands {
			isAccepted(t, d, command(c))
			c.Tag[31]++
			isRejected(t, d, command(c))
		}
		isRejected(t, d, request(api.Token{User: 1000}))
		isRejected(t, d, command(plainCommands()[0]))
	}
}

// The endpoint and the cost are any numbers, for what is accepted and for what is not.
func TestP12_3_AnyEndpointAndCost(t *testing.T) {
	m := mixed()
	d := withToken(t, numbered(3, 3), someToken(m))
	f := request(d.Tokens[3])
	g := f
	g.Request.Token.Tag[0]++
	for i := range 32 {
		for _, n := range []uint32{1<<i - 1, 1 << i, ^(uint32(1) << i), m.Uint32()} {
			for _, r := range []api.Request{{Cost: n}, {Endpoint: uint16(n)}, {Endpoint: uint16(n), Cost: n}} {
				f.Request.Endpoint, f.Request.Cost = r.Endpoint, r.Cost
				g.Request.Endpoint, g.Request.Cost = r.Endpoint, r.Cost
				isAccepted(t, d, f)
				isRejected(t, d, g)
			}
		}
	}
}

// Each bit of a token and of its Tag counts.
func TestP12_3_OtherTokens(t *testing.T) {
	m := mixed()
	for range 10 {
		a := someToken(m)
		d := api.Ideal{Tokens: []api.Token{a}}
		isAccepted(t, d, request(a))
		for _, b := range othersOf(a) {
			isRejected(t, d, request(b))
		}
		for bit := range 256 {
			b := a
			b.Tag = flipped(a.Tag, bit)
			isRejected(t, d, request(b))
		}
	}
}

// Each part of a command and each bit of its Tag counts.
func TestP12_3_OtherCommands(t *testing.T) {
	m := mixed()
	for _, p := range changedCommands(t) {
		isAccepted(t, api.Ideal{Commands: p[:1]}, command(p[0]))
		isRejected(t, api.Ideal{Commands: p[:1]}, command(p[1]))
	}
	for _, c := range plainCommands() {
		c.Tag = someDigest(m)
		d := api.Ideal{Commands: []api.Command{c}}
		isAccepted(t, d, command(c))
		for bit := range 256 {
			other := c
			other.Tag = flipped(c.Tag, bit)
			isRejected(t, d, command(other))
		}
	}
}

// The Tag of one that is there makes no other one accepted.
func TestP12_3_TagsOfOthers(t *testing.T) {
	m := mixed()
	d := ideal.New()
	for range 10 {
		d = withCommand(t, withToken(t, d, someToken(m)), someCommand(m))
	}
	for i := range 10 {
		for j := range 10 {
			a, c := d.Tokens[i], d.Commands[i]
			if a.Tag, c.Tag = d.Tokens[j].Tag, d.Commands[j].Tag; i != j {
				isRejected(t, d, request(a))
				isRejected(t, d, command(c))
			}
			a.Tag, c.Tag = d.Commands[j].Tag, d.Tokens[j].Tag
			isRejected(t, d, request(a))
			isRejected(t, d, command(c))
		}
	}
}

// A frame that is not valid is an error, also where what it has is there.
func TestP12_3_FramesThatAreNotValid(t *testing.T) {
	a, c := api.Token{Tenant: 1, Tag: api.Digest{1}}, plainCommands()[0]
	for _, d := range []api.Ideal{ideal.New(), {Tokens: []api.Token{a}, Commands: []api.Command{c}}, numbered(50, 50)} {
		isBad(t, d, api.Frame{})
		for _, tenant := range badTenants() {
			isBad(t, d, request(api.Token{Tenant: tenant, Tag: api.Digest{1}}))
		}
		for _, c := range badCommands() {
			isBad(t, d, command(c))
		}
		f, g := request(a), command(c)
		both := api.Frame{Request: f.Request, Command: g.Command}
		for kind := range 256 {
			f.Kind, g.Kind, both.Kind = uint8(kind), uint8(kind), uint8(kind)
			isBad(t, d, both)
			if kind != 1 {
				isBad(t, d, f)
			}
			if kind != 2 {
				isBad(t, d, g)
			}
		}
	}
}

// The other one of a frame is the zero value: an endpoint or a cost beside a command is an error.
func TestP12_3_TheOtherOneIsZero(t *testing.T) {
	a, c := api.Token{Tenant: 1, Tag: api.Digest{1}}, plainCommands()[0]
	d := api.Ideal{Tokens: []api.Token{a}, Commands: []api.Command{c}}
	f, g := request(a), command(c)
	isAccepted(t, d, f)
	isAccepted(t, d, g)
	for _, c := range []api.Command{{Op: 1}, {Tenant: 1}, {User: 1}, {Limits: [3]api.Limit{2: {Per: 1}}}, {Users: 1}, {Ends: 1}, {Expiry: 1}, {Tag: api.Digest{31: 1}}} {
		f.Command = c
		isBad(t, d, f)
	}
	for _, r := range []api.Request{{Endpoint: 1}, {Cost: 1}, {Token: api.Token{User: 1}}, {Token: api.Token{Tag: api.Digest{31: 1}}}} {
		g.Request = r
		isBad(t, d, g)
	}
}

// A command that is put in is accepted, and nothing else is that was not before.
func TestP12_4_JustWhatWasMinted(t *testing.T) {
	m := mixed()
	var frames []api.Frame
	for range 40 {
		a, c := someToken(m), someCommand(m)
		b, x := a, c
		b.Tag, x.Tag = flipped(b.Tag, m.IntN(256)), flipped(x.Tag, m.IntN(256))
		other := a
		other.User++
		frames = append(frames, request(a), request(b), request(other), command(c), command(x))
	}
	d, there := ideal.New(), map[api.Frame]bool{}
	for range 150 {
		f := pick(m, frames)
		put := func() (api.Ideal, api.Errno) { return ideal.Token(d, f.Request.Token) }
		if f.Kind == 2 {
			put = func() (api.Ideal, api.Errno) { return ideal.Command(d, f.Command) }
		}
		if next, e := put(); e == api.OK {
			d, there[f] = next, true
		}
		for _, f := range frames {
			asked := f
			if f.Kind == 1 {
				asked = someRequest(m, f.Request.Token)
			}
			if is, e := ideal.Accepts(d, asked); is != there[f] || e != api.OK {
				t.Fatalf("Accepts(%v, %v) = %v, %d", d, asked, is, e)
			}
		}
	}
	if len(there) < 60 || len(there) > most {
		t.Error(len(there))
	}
}

// The order in which things are put in, and what is put in again, changes nothing of what is accepted.
func TestP12_4_MintedAgain(t *testing.T) {
	m := mixed()
	d := ideal.New()
	for range most / 2 {
		d = withCommand(t, withToken(t, d, someToken(m)), someCommand(m))
	}
	again := d
	for range 3 {
		for i := range d.Tokens {
			again = withCommand(t, withToken(t, again, d.Tokens[i]), d.Commands[i])
		}
	}
	if !equal(again, d) {
		t.Fatalf("%v, not %v", again, d)
	}
	back := ideal.New()
	for i := range slices.Backward(d.Tokens) {
		back = withToken(t, withCommand(t, back, d.Commands[i]), d.Tokens[i])
	}
	for i := range d.Tokens {
		isAccepted(t, back, request(d.Tokens[i]))
		isAccepted(t, back, command(d.Commands[i]))
	}
	if len(back.Tokens)+len(back.Commands) != most {
		t.Fatal(back)
	}
}

// rightFrame gives a frame that is right for a seed (layer 11).
func rightFrame(t *testing.T, m *rand.Rand, seed api.Digest) api.Frame {
	t.Helper()
	if m.IntN(2) == 0 {
		c, e := keys.Sign(seed, someCommand(m))
		if e != api.OK {
			t.Fatal(e)
		}
		return command(c)
	}
	a, e := keys.Token(seed, m.Uint32N(16), m.Uint32N(4), m.Uint32N(3), m.Uint64N(3))
	if e != api.OK {
		t.Fatal(e)
	}
	return request(a)
}

// forged gives a frame with another Tag, as it is right for another seed, or for none.
func forged(t *testing.T, m *rand.Rand, seed api.Digest, f api.Frame) api.Frame {
	t.Helper()
	bit := m.IntN(256)
	switch {
	case f.Kind == 2 && m.IntN(2) == 0:
		f.Command, _ = keys.Sign(flipped(seed, bit), f.Command)
	case f.Kind == 2:
		f.Command.Tag = flipped(f.Command.Tag, bit)
	case m.IntN(2) == 0:
		a := f.Request.Token
		f.Request.Token, _ = keys.Token(flipped(seed, bit), a.Tenant, a.User, a.Epoch, a.Expiry)
	default:
		f.Request.Token.Tag = flipped(f.Request.Token.Tag, bit)
	}
	return f
}

// A table of what is right accepts only what is right, and of what is right all whose message was put in.
func TestP12_4_WhatIsRight(t *testing.T) {
	m := mixed()
	for range 20 {
		seed := someDigest(m)
		d, messages := ideal.New(), map[api.Frame]bool{}
		for range 40 {
			f := rightFrame(t, m, seed)
			if f.Kind == 1 {
				d = withToken(t, d, f.Request.Token)
			} else {
				d = withCommand(t, d, f.Command)
			}
			messages[untagged(f)] = true
		}
		for range 100 {
			f := rightFrame(t, m, seed)
			if m.IntN(2) == 0 && len(d.Tokens) > 0 {
				f = request(pick(m, d.Tokens))
			}
			if is, e := ideal.Accepts(d, f); is != messages[untagged(f)] || e != api.OK {
				t.Fatalf("Accepts(%v, %v) = %v, %d", d, f, is, e)
			}
			f = forged(t, m, seed, f)
			if right, e := keys.Right(seed, f); right || e != api.OK {
				t.Fatalf("Right(%x, %v) = %v, %d", seed, f, right, e)
			}
			isRejected(t, d, f)
		}
	}
}

func untagged(f api.Frame) api.Frame {
	f.Request.Token.Tag, f.Command.Tag = api.Digest{}, api.Digest{}
	return f
}

// spare gives a copy with room behind it, which has these values.
func spare[E any](l []E, behind ...E) []E { return slices.Concat(l, behind)[:len(l)] }

func copied(d api.Ideal) api.Ideal {
	return api.Ideal{Tokens: slices.Clone(d.Tokens), Commands: slices.Clone(d.Commands)}
}

// whole gives a slice with all the room behind it.
func whole[E any](l []E) []E { return l[:cap(l)] }

func spareTable(d api.Ideal) api.Ideal {
	return api.Ideal{
		Tokens:   spare(d.Tokens, api.Token{User: 77}, api.Token{User: 78}),
		Commands: spare(d.Commands, api.Command{User: 77}, api.Command{User: 78}),
	}
}

// wholeTable gives a copy of all that a table has, with the room behind it.
func wholeTable(d api.Ideal) api.Ideal {
	return copied(api.Ideal{Tokens: whole(d.Tokens), Commands: whole(d.Commands)})
}

// overwrite changes all that a table has, with the room behind it.
func overwrite(d api.Ideal) {
	for i := range whole(d.Tokens) {
		whole(d.Tokens)[i] = api.Token{User: 99}
	}
	for i := range whole(d.Commands) {
		whole(d.Commands)[i] = api.Command{User: 99}
	}
}

// tables are some that are valid, and some that are not.
func tables() []api.Ideal {
	return append(fullTables(), ideal.New(), numbered(1, 0), numbered(0, 1), numbered(3, 5), numbered(101, 0), numbered(0, 101),
		api.Ideal{Tokens: []api.Token{{Tenant: 16}}}, api.Ideal{Commands: []api.Command{{}}}, api.Ideal{Tokens: []api.Token{{}, {}}})
}

// puts are all that changes a table: to something new, to something that is there, and to errors.
func puts(d api.Ideal) []func(d api.Ideal) (api.Ideal, api.Errno) {
	a, c := api.Token{User: 500}, plainCommands()[0]
	tokens, commands := []api.Token{a, {Tenant: 16}}, []api.Command{c, {}}
	for _, b := range slices.Concat(d.Tokens[:min(1, len(d.Tokens))], d.Tokens[max(0, len(d.Tokens)-1):]) {
		other := b
		other.Tag[3]++
		tokens = append(tokens, b, other)
	}
	for _, b := range slices.Concat(d.Commands[:min(1, len(d.Commands))], d.Commands[max(0, len(d.Commands)-1):]) {
		other := b
		other.Tag[3]++
		commands = append(commands, b, other)
	}
	var l []func(d api.Ideal) (api.Ideal, api.Errno)
	for _, a := range tokens {
		l = append(l, func(d api.Ideal) (api.Ideal, api.Errno) { return ideal.Token(d, a) })
	}
	for _, c := range commands {
		l = append(l, func(d api.Ideal) (api.Ideal, api.Errno) { return ideal.Command(d, c) })
	}
	return l
}

// Neither a table nor the room behind it changes, whatever is asked.
func TestP1_ArgumentsAreOnlyRead(t *testing.T) {
	for _, d := range tables() {
		d = spareTable(d)
		before := wholeTable(d)
		for i, put := range puts(d) {
			put(d)
			ideal.Check(d)
			for _, f := range []api.Frame{{}, request(api.Token{User: 500}), request(api.Token{Tenant: 16}), command(plainCommands()[0]), command(api.Command{})} {
				ideal.Accepts(d, f)
			}
			if !equal(wholeTable(d), before) {
				t.Fatalf("%d: %v, not %v", i, wholeTable(d), before)
			}
		}
	}
}

// A result can be changed without changing the argument or another result, and the other way round; and nothing of it is kept.
func TestP1_ResultsShareNoMemory(t *testing.T) {
	for _, table := range tables() {
		for i, put := range puts(table) {
			d := spareTable(table)
			before := wholeTable(d)
			first, _ := put(d)
			want := copied(first)
			second, _ := put(d)
			overwrite(second)
			if !equal(first, want) || !equal(wholeTable(d), before) {
				t.Fatalf("%d: %v, not %v; %v, not %v", i, first, want, wholeTable(d), before)
			}
			overwrite(d)
			if !equal(first, want) {
				t.Fatalf("%d: %v, not %v", i, first, want)
			}
			overwrite(first)
			if again, _ := put(table); !equal(again, want) {
				t.Fatalf("%d: %v, not %v", i, again, want)
			}
		}
	}
}

// Two that are put into the same table do not get into each other's way.
func TestP1_TwoFromTheSameTable(t *testing.T) {
	d := ideal.New()
	for i := range uint32(30) {
		a, b := api.Token{Tenant: 1, User: i}, api.Token{Tenant: 2, User: i}
		c, x := api.Command{Op: 5, Tenant: 1, User: i}, api.Command{Op: 5, Tenant: 2, User: i}
		withA, withB, withC, withX := withToken(t, d, a), withToken(t, d, b), withCommand(t, d, c), withCommand(t, d, x)
		isAccepted(t, withA, request(a))
		isRejected(t, withA, request(b))
		isAccepted(t, withB, request(b))
		isRejected(t, withB, request(a))
		isAccepted(t, withC, command(c))
		isRejected(t, withC, command(x))
		isAccepted(t, withX, command(x))
		isRejected(t, withX, command(c))
		d = withCommand(t, withA, c)
	}
}

// Nil and empty slices are the same.
func TestP1_NilAndEmpty(t *testing.T) {
	a, c := api.Token{User: 1}, plainCommands()[1]
	for _, d := range []api.Ideal{{}, {Tokens: []api.Token{}}, {Commands: []api.Command{}}, {Tokens: []api.Token{}, Commands: []api.Command{}}, {Tokens: make([]api.Token, 0, 9), Commands: make([]api.Command, 0, 9)}} {
		checkIs(t, d, api.OK)
		tokenIs(t, d, a)
		commandIs(t, d, c)
		acceptsIs(t, d, request(a))
		acceptsIs(t, d, command(c))
	}
}

// anyTable gives a table that is often valid, and often just not.
func anyTable(m *rand.Rand) api.Ideal {
	d := numbered(m.IntN(8), m.IntN(8))
	if m.IntN(5) == 0 {
		tokens := m.IntN(most + 1)
		d = numbered(tokens, most-tokens+m.IntN(2))
	}
	for range m.IntN(3) {
		d.Tokens = append(d.Tokens, pick(m, []api.Token{someToken(m), {User: m.Uint32N(10)}, {Tenant: someWord(m)}}))
	}
	for range m.IntN(3) {
		d.Commands = append(d.Commands, pick(m, []api.Command{someCommand(m), {Op: 5, User: m.Uint32N(10)}, pick(m, badCommands())}))
	}
	m.Shuffle(len(d.Tokens), func(i, j int) { d.Tokens[i], d.Tokens[j] = d.Tokens[j], d.Tokens[i] })
	m.Shuffle(len(d.Commands), func(i, j int) { d.Commands[i], d.Commands[j] = d.Commands[j], d.Commands[i] })
	return d
}

// anyOf gives a token and a command that are often those of a table, or nearly so.
func anyOf(m *rand.Rand, d api.Ideal) (api.Token, api.Command) {
	a, c := someToken(m), someCommand(m)
	if len(d.Tokens) > 0 && m.IntN(3) > 0 {
		a = pick(m, d.Tokens)
	}
	if len(d.Commands) > 0 && m.IntN(3) > 0 {
		c = pick(m, d.Commands)
	}
	switch m.IntN(6) {
	case 0:
		a.Tag, c.Tag = flipped(a.Tag, m.IntN(256)), flipped(c.Tag, m.IntN(256))
	case 1:
		a.User, c.Expiry = a.User^1, c.Expiry^1
	case 2:
		a.Tenant, c.Op = someWord(m), uint8(m.UintN(8))
	}
	return a, c
}

// Any values at all are answered, the same ones each time, and an answer with an error has nothing else.
func TestP1_AllArgumentsAreAnswered(t *testing.T) {
	m := mixed()
	found := map[api.Errno]int{}
	for range 10000 {
		d := anyTable(m)
		a, c := anyOf(m, d)
		e := wantCheck(d)
		checkIs(t, d, e)
		found[e]++
		for range 2 {
			tokenIs(t, d, a)
			commandIs(t, d, c)
			acceptsIs(t, d, someRequest(m, a))
			acceptsIs(t, d, command(c))
			acceptsIs(t, d, api.Frame{Kind: uint8(m.UintN(4)), Request: api.Request{Token: a}, Command: c})
		}
	}
	for _, e := range []api.Errno{api.OK, api.ErrMany, api.ErrBad, api.ErrTwice} {
		if found[e] < 500 {
			t.Errorf("%d tables with the error %d", found[e], e)
		}
	}
}
