package frame_test

import (
	"bytes"
	"encoding/binary"
	"math"
	"math/rand/v2"
	"slices"
	"testing"

	"spigot/api"
	"spigot/frame"
	"spigot/token"
)

const (
	requestSize = 59
	commandSize = 88
	messageSize = 56
	top         = math.MaxUint32
)

// mixed gives numbers that are mixed, the same ones in each test.
func mixed() *rand.Rand { return rand.New(rand.NewPCG(9, 88)) }

func pick[E any](m *rand.Rand, l []E) E { return l[m.IntN(len(l))] }

func someBytes(m *rand.Rand, n int) []byte {
	b := make([]byte, n)
	for i := range b {
		b[i] = byte(m.Uint32())
	}
	return b
}

func someDigest(m *rand.Rand) api.Digest { return api.Digest(someBytes(m, 32)) }

// counted is the digest with the bytes 101 to 132.
func counted() (d api.Digest) {
	for i := range d {
		d[i] = byte(i + 101)
	}
	return d
}

func someWord(m *rand.Rand) uint32 {
	return pick(m, []uint32{0, 1, 15, 16, 1 << 31, top, m.Uint32(), m.Uint32()})
}

func someLong(m *rand.Rand) uint64 {
	return pick(m, []uint64{0, 1, 258, 1 << 63, math.MaxUint64, m.Uint64(), m.Uint64() >> 32})
}

func someRequest(m *rand.Rand) api.Request {
	return api.Request{
		Token:    api.Token{Tenant: m.Uint32N(16), User: someWord(m), Epoch: someWord(m), Expiry: someLong(m), Tag: someDigest(m)},
		Endpoint: pick(m, []uint16{0, 1, 255, 256, math.MaxUint16, uint16(m.Uint32())}),
		Cost:     someWord(m),
	}
}

func someLimit(m *rand.Rand) api.Limit {
	n := func(least int64) int64 {
		return pick(m, []int64{least, 1, 2, 256, 1e9 - 1, 1e9, 1 + m.Int64N(1e9)})
	}
	return api.Limit{Burst: n(1), Rate: n(0), Per: n(1)}
}

func someLimits(m *rand.Rand) [3]api.Limit {
	return [3]api.Limit{someLimit(m), someLimit(m), someLimit(m)}
}

// someOf gives a valid command with an Op.
func someOf(m *rand.Rand, op uint8) api.Command {
	c := api.Command{Op: op, Tenant: m.Uint32N(16), Expiry: someLong(m), Tag: someDigest(m)}
	if op == 1 || op == 3 {
		c.Limits = someLimits(m)
	}
	if op == 1 {
		c.Users, c.Ends = 1+uint8(m.UintN(8)), 1+uint8(m.UintN(8))
	}
	if op == 5 {
		c.User = someWord(m)
	}
	return c
}

func someCommand(m *rand.Rand) api.Command { return someOf(m, 1+uint8(m.UintN(5))) }

func request(r api.Request) api.Frame { return api.Frame{Kind: 1, Request: r} }

func command(c api.Command) api.Frame { return api.Frame{Kind: 2, Command: c} }

func of(tenant uint32) api.Request { return api.Request{Token: api.Token{Tenant: tenant}} }

// someFrame gives a valid frame.
func someFrame(m *rand.Rand) api.Frame {
	if m.IntN(3) == 0 {
		return request(someRequest(m))
	}
	return command(someCommand(m))
}

// plainCommands has one valid command for each Op, with no bytes 0 in what is used.
func plainCommands() []api.Command {
	limits := [3]api.Limit{
		{Burst: 0x01020304, Rate: 0x05060708, Per: 0x090a0b0c},
		{Burst: 0x0d0e0f10, Rate: 0x11121314, Per: 0x15161718},
		{Burst: 0x191a1b1c, Rate: 0x1d1e1f20, Per: 0x21222324},
	}
	const expiry = 0x2526272829303132
	return []api.Command{
		{Op: 1, Tenant: 11, Limits: limits, Users: 7, Ends: 8, Expiry: expiry, Tag: counted()},
		{Op: 2, Tenant: 12, Expiry: expiry, Tag: counted()},
		{Op: 3, Tenant: 13, Limits: limits, Expiry: expiry, Tag: counted()},
		{Op: 4, Tenant: 14, Expiry: expiry, Tag: counted()},
		{Op: 5, Tenant: 15, User: 0xa1a2a3a4, Expiry: expiry, Tag: counted()},
	}
}

// numbersOf puts down the nine numbers of three limits, in order.
func numbersOf(l [3]api.Limit) (n [9]int64) {
	for i, limit := range l {
		n[3*i], n[3*i+1], n[3*i+2] = limit.Burst, limit.Rate, limit.Per
	}
	return n
}

func limitsWith(n [9]int64) (l [3]api.Limit) {
	for i := range l {
		l[i] = api.Limit{Burst: n[3*i], Rate: n[3*i+1], Per: n[3*i+2]}
	}
	return l
}

func limitsAreFine(l [3]api.Limit) bool {
	for i, n := range numbersOf(l) {
		if n < 0 || n > 1e9 || n == 0 && i%3 != 1 {
			return false
		}
	}
	return true
}

func capIsFine(n uint8) bool { return n > 0 && n < 9 }

// isFine goes through the table of the chapter: what is used is as told, and all else 0.
func isFine(c api.Command) bool {
	row, there := map[uint8]struct{ limits, caps, user bool }{
		1: {limits: true, caps: true},
		2: {},
		3: {limits: true},
		4: {},
		5: {user: true},
	}[c.Op]
	if !there || c.Tenant > 15 {
		return false
	}
	if row.limits && !limitsAreFine(c.Limits) || !row.limits && numbersOf(c.Limits) != [9]int64{} {
		return false
	}
	if row.caps && (!capIsFine(c.Users) || !capIsFine(c.Ends)) || !row.caps && (c.Users != 0 || c.Ends != 0) {
		return false
	}
	return row.user || c.User == 0
}

func wantCheck(f api.Frame) api.Errno {
	none := api.Frame{Kind: f.Kind}
	fine := false
	if f.Kind == 1 {
		none.Request = f.Request
		fine = f.Request.Token.Tenant <= 15 && f == none
	}
	if f.Kind == 2 {
		none.Command = f.Command
		fine = f == none && isFine(f.Command)
	}
	if fine {
		return api.OK
	}
	return api.ErrBad
}

// messageOf puts down the message of a command as the definition says.
func messageOf(c api.Command) []byte {
	b := []byte{2, c.Op}
	b = binary.BigEndian.AppendUint32(b, c.Tenant)
	b = binary.BigEndian.AppendUint32(b, c.User)
	for _, n := range numbersOf(c.Limits) {
		b = binary.BigEndian.AppendUint32(b, uint32(n))
	}
	b = append(b, c.Users, c.Ends)
	return binary.BigEndian.AppendUint64(b, c.Expiry)
}

// bytesOf puts down the bytes of a valid frame as the definition says.
func bytesOf(f api.Frame) []byte {
	if f.Kind == 2 {
		return append(messageOf(f.Command), f.Command.Tag[:]...)
	}
	r := f.Request
	b := []byte{1}
	for _, n := range []uint32{r.Token.Tenant, r.Token.User, r.Token.Epoch} {
		b = binary.BigEndian.AppendUint32(b, n)
	}
	b = binary.BigEndian.AppendUint64(b, r.Token.Expiry)
	b = append(b, r.Token.Tag[:]...)
	b = binary.BigEndian.AppendUint16(b, r.Endpoint)
	return binary.BigEndian.AppendUint32(b, r.Cost)
}

// frameFrom puts down the numbers in some bytes, whether they are those of a valid frame or not.
func frameFrom(b []byte) api.Frame {
	word := func(at int) uint32 { return binary.BigEndian.Uint32(b[at:]) }
	if b[0] == 1 {
		return request(api.Request{
			Token:    api.Token{Tenant: word(1), User: word(5), Epoch: word(9), Expiry: binary.BigEndian.Uint64(b[13:]), Tag: api.Digest(b[21:53])},
			Endpoint: binary.BigEndian.Uint16(b[53:]),
			Cost:     word(55),
		})
	}
	var n [9]int64
	for i := range n {
		n[i] = int64(word(10 + 4*i))
	}
	return command(api.Command{Op: b[1], Tenant: word(2), User: word(6), Limits: limitsWith(n), Users: b[46], Ends: b[47], Expiry: binary.BigEndian.Uint64(b[48:]), Tag: api.Digest(b[56:])})
}

func wantParse(b []byte) (api.Frame, api.Errno) {
	if len(b) == 0 || len(b) != map[byte]int{1: requestSize, 2: commandSize}[b[0]] {
		return api.Frame{}, api.ErrForm
	}
	f := frameFrom(b)
	if wantCheck(f) != api.OK {
		return api.Frame{}, api.ErrForm
	}
	return f, api.OK
}

func tenantOf(f api.Frame) uint32 {
	if f.Kind == 1 {
		return f.Request.Token.Tenant
	}
	return f.Command.Tenant
}

// isBad tells that a frame is not valid: no function has a result for it.
func isBad(t *testing.T, f api.Frame) {
	t.Helper()
	if e := frame.Check(f); e != api.ErrBad {
		t.Fatalf("Check(%v) = %d", f, e)
	}
	if b, e := frame.Write(f); len(b) != 0 || e != api.ErrBad {
		t.Fatalf("Write(%v) = %v, %d", f, b, e)
	}
	if n, e := frame.Tenant(f); n != 0 || e != api.ErrBad {
		t.Fatalf("Tenant(%v) = %d, %d", f, n, e)
	}
}

func isBadCommand(t *testing.T, c api.Command) {
	t.Helper()
	isBad(t, command(c))
	if b, e := frame.Before(c); len(b) != 0 || e != api.ErrBad {
		t.Fatalf("Before(%v) = %v, %d", c, b, e)
	}
}

// isValid tells that a frame is valid, has these bytes and this tenant, and that the bytes have it.
func isValid(t *testing.T, f api.Frame) {
	t.Helper()
	if e := frame.Check(f); e != api.OK {
		t.Fatalf("Check(%v) = %d", f, e)
	}
	want := bytesOf(f)
	if b, e := frame.Write(f); !bytes.Equal(b, want) || e != api.OK {
		t.Fatalf("Write(%v) = %v, %d, not %v", f, b, e, want)
	}
	if n, e := frame.Tenant(f); n != tenantOf(f) || e != api.OK {
		t.Fatalf("Tenant(%v) = %d, %d", f, n, e)
	}
	if g, e := frame.Parse(want); g != f || e != api.OK {
		t.Fatalf("Parse(%v) = %v, %d, not %v", want, g, e, f)
	}
}

func isValidCommand(t *testing.T, c api.Command) {
	t.Helper()
	isValid(t, command(c))
	if b, e := frame.Before(c); !bytes.Equal(b, messageOf(c)) || e != api.OK {
		t.Fatalf("Before(%v) = %v, %d", c, b, e)
	}
}

// isAsWanted tells whether a frame is valid, or not, as the definition says.
func isAsWanted(t *testing.T, f api.Frame) {
	t.Helper()
	if wantCheck(f) == api.OK {
		isValid(t, f)
		return
	}
	isBad(t, f)
}

func hasNoFrame(t *testing.T, b []byte) {
	t.Helper()
	if f, e := frame.Parse(b); f != (api.Frame{}) || e != api.ErrForm {
		t.Fatalf("Parse(%v) = %v, %d", b, f, e)
	}
}

// parses tells whether bytes have a frame, or none, as the definition says.
func parses(t *testing.T, b []byte) {
	t.Helper()
	want, wantE := wantParse(b)
	f, e := frame.Parse(b)
	if f != want || e != wantE {
		t.Fatalf("Parse(%v) = %v, %d, not %v, %d", b, f, e, want, wantE)
	}
}

func written(t *testing.T, f api.Frame) []byte {
	t.Helper()
	b, e := frame.Write(f)
	if e != api.OK {
		t.Fatalf("Write(%v): error %d", f, e)
	}
	return b
}

func before(t *testing.T, c api.Command) []byte {
	t.Helper()
	b, e := frame.Before(c)
	if e != api.OK {
		t.Fatalf("Before(%v): error %d", c, e)
	}
	return b
}

func TestNumbersAreThoseOfTheChapter(t *testing.T) {
	if api.OK != 0 || api.ErrBad != 8 || api.ErrForm != 12 || api.KindRequest != 1 || api.KindCommand != 2 {
		t.Error(api.OK, api.ErrBad, api.ErrForm, api.KindRequest, api.KindCommand)
	}
	if ops := [5]uint8{api.OpCreate, api.OpDelete, api.OpLimits, api.OpRotate, api.OpRevoke}; ops != [5]uint8{1, 2, 3, 4, 5} {
		t.Error(ops)
	}
	if api.MaxTenants != 16 || api.MaxCap != 8 || api.MaxBurst != 1e9 || api.MaxRate != 1e9 || api.MaxPer != 1e9 {
		t.Error(api.MaxTenants, api.MaxCap, api.MaxBurst, api.MaxRate, api.MaxPer)
	}
}

// The chapter's first example: the request of the tenant 1, with all else 0, and that of the tenant 16.
func TestP9_1_ExampleOfARequest(t *testing.T) {
	b, e := frame.Write(request(of(1)))
	want := make([]byte, 59)
	want[0], want[4] = 1, 1
	if !bytes.Equal(b, want) || e != api.OK {
		t.Errorf("Write = %v, %d", b, e)
	}
	if n, e := frame.Tenant(request(of(1))); n != 1 || e != api.OK {
		t.Errorf("Tenant = %d, %d", n, e)
	}
	isBad(t, request(of(16)))
}

// The chapter's second example: the command that deletes the tenant 3.
func TestP9_1_ExampleOfACommand(t *testing.T) {
	f := command(api.Command{Op: api.OpDelete, Tenant: 3})
	b, e := frame.Write(f)
	if want := append([]byte{2, 2, 0, 0, 0, 3}, make([]byte, 82)...); !bytes.Equal(b, want) || e != api.OK {
		t.Errorf("Write = %v, %d", b, e)
	}
	if n, e := frame.Tenant(f); n != 3 || e != api.OK {
		t.Errorf("Tenant = %d, %d", n, e)
	}
}

func TestP9_1_KnownBytesOfARequest(t *testing.T) {
	f := request(api.Request{
		Token:    api.Token{Tenant: 15, User: 0x05060708, Epoch: 0x090a0b0c, Expiry: 0x0d0e0f1011121314, Tag: counted()},
		Endpoint: 0x3132,
		Cost:     0x33343536,
	})
	tag := counted()
	want := slices.Concat([]byte{1, 0, 0, 0, 15, 5, 6, 7, 8, 9, 10, 11, 12, 13, 14, 15, 16, 17, 18, 19, 20}, tag[:], []byte{0x31, 0x32, 0x33, 0x34, 0x35, 0x36})
	if b := written(t, f); !bytes.Equal(b, want) {
		t.Errorf("Write = %v", b)
	}
	isValid(t, f)
}

func TestP9_1_KnownBytesOfCommands(t *testing.T) {
	limits := []byte{1, 2, 3, 4, 5, 6, 7, 8, 9, 10, 11, 12, 13, 14, 15, 16, 17, 18, 19, 20, 21, 22, 23, 24, 25, 26, 27, 28, 29, 30, 31, 32, 33, 34, 35, 36}
	none, expiry, tag := make([]byte, 36), []byte{0x25, 0x26, 0x27, 0x28, 0x29, 0x30, 0x31, 0x32}, counted()
	want := [][]byte{
		slices.Concat([]byte{2, 1, 0, 0, 0, 11, 0, 0, 0, 0}, limits, []byte{7, 8}, expiry, tag[:]),
		slices.Concat([]byte{2, 2, 0, 0, 0, 12, 0, 0, 0, 0}, none, []byte{0, 0}, expiry, tag[:]),
		slices.Concat([]byte{2, 3, 0, 0, 0, 13, 0, 0, 0, 0}, limits, []byte{0, 0}, expiry, tag[:]),
		slices.Concat([]byte{2, 4, 0, 0, 0, 14, 0, 0, 0, 0}, none, []byte{0, 0}, expiry, tag[:]),
		slices.Concat([]byte{2, 5, 0, 0, 0, 15, 0xa1, 0xa2, 0xa3, 0xa4}, none, []byte{0, 0}, expiry, tag[:]),
	}
	for i, c := range plainCommands() {
		if b := written(t, command(c)); !bytes.Equal(b, want[i]) {
			t.Errorf("Write(%v) = %v, not %v", c, b, want[i])
		}
		isValidCommand(t, c)
	}
}

// The bytes of the token are those of layer 8.
func TestP9_1_TheBytesOfTheToken(t *testing.T) {
	m := mixed()
	for range 300 {
		r := someRequest(m)
		if b := written(t, request(r)); !bytes.Equal(b[1:53], token.Write(r.Token)) {
			t.Fatalf("Write(%v) = %v", r, b)
		}
	}
}

// With any kind but these two nothing is valid.
func TestP9_1_AllKinds(t *testing.T) {
	m := mixed()
	for kind := range 256 {
		for _, f := range []api.Frame{{}, request(of(1)), request(someRequest(m)), command(plainCommands()[1]), command(someCommand(m))} {
			f.Kind = uint8(kind)
			isAsWanted(t, f)
			if kind != 1 && kind != 2 {
				isBad(t, f)
			}
		}
	}
	isValid(t, api.Frame{Kind: 1})
	isBad(t, api.Frame{Kind: 2})
	isBad(t, api.Frame{})
}

func TestP9_1_AllTenants(t *testing.T) {
	for n := range uint32(16) {
		isValid(t, request(of(n)))
		for _, c := range plainCommands() {
			c.Tenant = n
			isValidCommand(t, c)
		}
	}
	for _, n := range []uint32{16, 17, 31, 32, 255, 256, 257, 1 << 16, 1<<24 + 1, 1<<31 - 1, 1 << 31, top - 15, top} {
		isBad(t, request(of(n)))
		for _, c := range plainCommands() {
			c.Tenant = n
			isBadCommand(t, c)
		}
	}
}

// Everything else of a request is any number.
func TestP9_1_NumbersOfRequests(t *testing.T) {
	for i := range 64 {
		x := uint64(1) << i
		for _, n := range []uint64{x - 1, x, ^x} {
			w := uint32(n)
			isValid(t, request(api.Request{Token: api.Token{User: w}}))
			isValid(t, request(api.Request{Token: api.Token{Epoch: w}}))
			isValid(t, request(api.Request{Token: api.Token{Expiry: n}}))
			isValid(t, request(api.Request{Endpoint: uint16(n)}))
			isValid(t, request(api.Request{Cost: w}))
		}
	}
	for i := range 256 {
		r := of(2)
		r.Token.Tag[i/8] = 1 << (i % 8)
		isValid(t, request(r))
	}
}

// requestParts are requests with one part that is not 0.
func requestParts() []api.Request {
	var l []api.Request
	for _, a := range []api.Token{{Tenant: 1}, {User: 1}, {Epoch: 1}, {Expiry: 1}, {Tag: api.Digest{0: 1}}, {Tag: api.Digest{31: 1}}} {
		l = append(l, api.Request{Token: a})
	}
	return append(l, api.Request{Endpoint: 1}, api.Request{Cost: 1}, api.Request{Endpoint: 256}, api.Request{Cost: 1 << 31})
}

// commandParts are commands with one part that is not 0.
func commandParts() []api.Command {
	l := []api.Command{{Op: 1}, {Op: 2}, {Tenant: 1}, {User: 1}, {Users: 1}, {Ends: 1}, {Expiry: 1}, {Tag: api.Digest{0: 1}}, {Tag: api.Digest{31: 1}}}
	for i := range 9 {
		for _, x := range []int64{1, -1, 1 << 32} {
			l = append(l, api.Command{Limits: limitsWith(one(i, x))})
		}
	}
	return l
}

func one(at int, x int64) (n [9]int64) {
	n[at] = x
	return n
}

// The other one of a frame is the zero value.
func TestP9_1_TheOtherOneIsZero(t *testing.T) {
	m := mixed()
	for _, c := range append(commandParts(), plainCommands()...) {
		for _, r := range []api.Request{{}, of(1), someRequest(m)} {
			isBad(t, api.Frame{Kind: 1, Request: r, Command: c})
		}
	}
	for _, r := range append(requestParts(), someRequest(m)) {
		for _, c := range plainCommands() {
			isBad(t, api.Frame{Kind: 2, Request: r, Command: c})
		}
	}
}

func TestP9_1_AllOps(t *testing.T) {
	for op := range 256 {
		for i, c := range plainCommands() {
			c.Op = uint8(op)
			isAsWanted(t, command(c))
			if op < 1 || op > 5 {
				isBadCommand(t, c)
			}
			if op == i+1 {
				isValidCommand(t, c)
			}
		}
		// With nothing that is used only those that use nothing, or any user, are valid.
		c := api.Command{Op: uint8(op)}
		if op == 2 || op == 4 || op == 5 {
			isValidCommand(t, c)
		} else {
			isBadCommand(t, c)
		}
	}
}

// change changes one part of a command, which only some Ops use.
type change struct {
	part func(c *api.Command)
	ops  []uint8
}

func changes() []change {
	some := plainCommands()[0].Limits
	least := limitsWith([9]int64{1, 0, 1, 1, 0, 1, 1, 0, 1})
	l := []change{
		{func(c *api.Command) { c.User++ }, []uint8{5}},
		{func(c *api.Command) { c.User = 1 << 31 }, []uint8{5}},
		{func(c *api.Command) { c.Users = 1 }, []uint8{1}},
		{func(c *api.Command) { c.Ends = 1 }, []uint8{1}},
		{func(c *api.Command) { c.Users, c.Ends = 8, 8 }, []uint8{1}},
		{func(c *api.Command) { c.Limits = some }, []uint8{1, 3}},
		{func(c *api.Command) { c.Limits = least }, []uint8{1, 3}},
	}
	for i := range 9 {
		more := func(c *api.Command) { c.Limits = limitsWith(plus(numbersOf(c.Limits), i)) }
		l = append(l, change{more, []uint8{1, 3}})
	}
	return l
}

// What an Op does not use is 0.
func TestP9_1_WhatIsNotUsed(t *testing.T) {
	for _, h := range changes() {
		for _, c := range plainCommands() {
			h.part(&c)
			if slices.Contains(h.ops, c.Op) {
				isValidCommand(t, c)
			} else {
				isBadCommand(t, c)
			}
		}
	}
}

func plus(n [9]int64, at int) [9]int64 {
	n[at]++
	return n
}

// Users and Ends that are used are from 1 to 8.
func TestP9_1_AllCapacities(t *testing.T) {
	for n := range 256 {
		for _, c := range plainCommands() {
			users, ends := c, c
			users.Users, ends.Ends = uint8(n), uint8(n)
			for _, c := range []api.Command{users, ends} {
				fine := c.Op == 1 && 1 <= n && n <= 8 || c.Op != 1 && n == 0
				if fine {
					isValidCommand(t, c)
				} else {
					isBadCommand(t, c)
				}
			}
		}
	}
	for users := range uint8(10) {
		for ends := range uint8(10) {
			c := plainCommands()[0]
			c.Users, c.Ends = users, ends
			isAsWanted(t, command(c))
		}
	}
}

// Each one of the nine numbers of three limits is as those of a limit are.
func TestP9_1_AllNumbersOfLimits(t *testing.T) {
	least := []int64{1, 0, 1}
	for i := range 9 {
		from := least[i%3]
		for _, c := range []api.Command{plainCommands()[0], plainCommands()[2]} {
			numbers := numbersOf(c.Limits)
			for _, n := range []int64{from, from + 1, 2, 255, 256, 1 << 24, 1e9 - 1, 1e9} {
				numbers[i] = n
				c.Limits = limitsWith(numbers)
				isValidCommand(t, c)
			}
			for _, n := range []int64{from - 1, -1, -2, 1e9 + 1, 1 << 31, top, 1 << 32, 1<<32 + 1, 1<<32 + 1e9, 1<<40 + 5, math.MaxInt64, math.MinInt64, math.MinInt64 + 1} {
				numbers[i] = n
				c.Limits = limitsWith(numbers)
				isBadCommand(t, c)
			}
		}
	}
}

// Expiry and Tag of a command are any ones, with each Op.
func TestP9_1_AnyExpiryAndTag(t *testing.T) {
	for _, c := range plainCommands() {
		for i := range 64 {
			for _, c.Expiry = range []uint64{1<<i - 1, 1 << i, ^(uint64(1) << i)} {
				isValidCommand(t, c)
			}
		}
		for i := range 256 {
			c.Tag = api.Digest{}
			c.Tag[i/8] = 1 << (i % 8)
			isValidCommand(t, c)
		}
	}
}

// The user that is revoked is any number.
func TestP9_1_AnyUser(t *testing.T) {
	for i := range 32 {
		for _, n := range []uint32{1<<i - 1, 1 << i, ^(uint32(1) << i)} {
			isValidCommand(t, api.Command{Op: 5, User: n})
			if n != 0 {
				isBadCommand(t, api.Command{Op: 2, User: n})
				isBadCommand(t, api.Command{Op: 4, User: n})
			}
		}
	}
}

func TestP9_1_ManyFrames(t *testing.T) {
	m := mixed()
	for range 5000 {
		isValid(t, someFrame(m))
		isAsWanted(t, anyFrame(m))
	}
}

// anyFrame gives a frame of which some parts are often not as they should be.
func anyFrame(m *rand.Rand) api.Frame {
	f := someFrame(m)
	for range m.IntN(3) {
		switch m.IntN(9) {
		case 0:
			f.Kind = pick(m, []uint8{0, 1, 2, 3, 255, uint8(m.Uint32())})
		case 1:
			f.Request = pick(m, append(requestParts(), api.Request{}, someRequest(m)))
		case 2:
			f.Command = pick(m, append(commandParts(), api.Command{}, someCommand(m)))
		case 3:
			f.Command.Op = pick(m, []uint8{0, 1, 2, 3, 4, 5, 6, 255})
		case 4:
			f.Request.Token.Tenant = someWord(m)
		case 5:
			f.Command.Tenant = someWord(m)
		case 6:
			f.Command.User = someWord(m)
		case 7:
			f.Command.Users, f.Command.Ends = uint8(m.UintN(10)), uint8(m.UintN(10))
		case 8:
			numbers := numbersOf(f.Command.Limits)
			numbers[m.IntN(9)] = pick(m, []int64{math.MinInt64, -1, 0, 1, 1e9, 1e9 + 1, 1 << 32, math.MaxInt64})
			f.Command.Limits = limitsWith(numbers)
		}
	}
	return f
}

// The chapter's second example: with the byte with the index 9 changed there is no frame.
func TestP9_2_Example(t *testing.T) {
	b := append([]byte{2, 2, 0, 0, 0, 3}, make([]byte, 82)...)
	if f, e := frame.Parse(b); f != command(api.Command{Op: api.OpDelete, Tenant: 3}) || e != api.OK {
		t.Errorf("Parse = %v, %d", f, e)
	}
	for x := range 255 {
		b[9] = byte(x + 1)
		hasNoFrame(t, b)
	}
}

func TestP9_2_BytesZero(t *testing.T) {
	for n := range 300 {
		hasNoFrame(t, make([]byte, n))
	}
	hasNoFrame(t, nil)
	b := make([]byte, requestSize)
	b[0] = 1
	if f, e := frame.Parse(b); f != (api.Frame{Kind: 1}) || e != api.OK {
		t.Errorf("Parse = %v, %d", f, e)
	}
	b = make([]byte, commandSize)
	b[0] = 2
	hasNoFrame(t, b)
}

// Each byte of a frame is changed to each other one.
func TestP9_2_EachByteIsRead(t *testing.T) {
	m := mixed()
	frames := []api.Frame{{Kind: 1}, request(someRequest(m)), command(api.Command{Op: 2}), command(api.Command{Op: 4}), command(api.Command{Op: 5})}
	for _, c := range plainCommands() {
		frames = append(frames, command(c))
	}
	for op := range uint8(5) {
		frames = append(frames, command(someOf(m, op+1)))
	}
	for _, f := range frames {
		b := bytesOf(f)
		for at := range b {
			for x := range 256 {
				c := slices.Clone(b)
				c[at] = byte(x)
				parses(t, c)
			}
		}
	}
}

func TestP9_2_BytesOfTenants(t *testing.T) {
	m := mixed()
	for at := 1; at <= 4; at++ {
		for x := range 256 {
			b := bytesOf(request(of(0)))
			c := bytesOf(command(plainCommands()[1]))
			c[5] = 0
			b[at], c[at+1] = byte(x), byte(x)
			for _, b := range [][]byte{b, c} {
				f, e := frame.Parse(b)
				if at == 4 && x < 16 || x == 0 {
					if e != api.OK || tenantOf(f) != uint32(x) {
						t.Fatalf("Parse(%v) = %v, %d", b, f, e)
					}
					continue
				}
				hasNoFrame(t, b)
			}
		}
	}
	for range 1000 {
		b, n := bytesOf(someFrame(m)), 16+m.Uint32N(top-15)
		at := int(b[0]) // the tenant is the second thing of a request, and the third one of a command
		binary.BigEndian.PutUint32(b[at:], n)
		hasNoFrame(t, b)
	}
}

// With another number of bytes there is no frame, whatever they are.
func TestP9_2_BytesOfOtherLengths(t *testing.T) {
	m := mixed()
	whole := [][]byte{bytesOf(request(someRequest(m)))}
	for _, c := range plainCommands() {
		whole = append(whole, bytesOf(command(c)))
	}
	for _, b := range whole {
		long := slices.Concat(b, make([]byte, 400), b)
		for n := range long {
			if n == len(b) {
				continue
			}
			hasNoFrame(t, long[:n])
			hasNoFrame(t, slices.Concat(b[:min(n, len(b))], someBytes(m, max(0, n-len(b)))))
		}
		for _, n := range []int{256 + len(b), 1000, 65536, 65536 + len(b), 1 << 20} {
			hasNoFrame(t, append(slices.Clone(b), make([]byte, n-len(b))...))
		}
		hasNoFrame(t, b[1:])
		hasNoFrame(t, append([]byte{b[0]}, b...))
		hasNoFrame(t, slices.Concat(b, b))
	}
}

// The request's first byte with the number of bytes of a command has no frame, and the other way round.
func TestP9_2_AllFirstBytes(t *testing.T) {
	m := mixed()
	for first := range 256 {
		for n := 1; n < 300; n++ {
			for _, b := range [][]byte{make([]byte, n), someBytes(m, n), bytesOf(request(of(1))), bytesOf(command(plainCommands()[3]))} {
				b = append(b, make([]byte, n)...)[:n]
				b[0] = byte(first)
				parses(t, b)
				if !(first == 1 && n == requestSize) && !(first == 2 && n == commandSize) {
					hasNoFrame(t, b)
				}
			}
		}
	}
}

// Any 59 bytes that begin with 1 and a tenant are a request.
func TestP9_2_AnyRequest(t *testing.T) {
	m := mixed()
	for range 3000 {
		b := append([]byte{1, 0, 0, 0, byte(m.UintN(16))}, someBytes(m, requestSize-5)...)
		f, e := frame.Parse(b)
		if e != api.OK || f.Kind != 1 || f != frameFrom(b) {
			t.Fatalf("Parse(%v) = %v, %d", b, f, e)
		}
	}
}

// The words of limits are those of valid limits, or there is no frame.
func TestP9_2_WordsOfLimits(t *testing.T) {
	m := mixed()
	for _, c := range []api.Command{plainCommands()[0], plainCommands()[2]} {
		for i := range 9 {
			for _, n := range []uint32{0, 1, 2, 1e9 - 1, 1e9, 1e9 + 1, 1<<31 - 1, 1 << 31, top - 1, top, m.Uint32(), m.Uint32()} {
				b := bytesOf(command(c))
				binary.BigEndian.PutUint32(b[10+4*i:], n)
				parses(t, b)
				if fine := n <= 1e9 && (n > 0 || i%3 == 1); !fine {
					hasNoFrame(t, b)
				}
			}
		}
	}
}

func TestP9_2_AnyBytes(t *testing.T) {
	m := mixed()
	for range 20000 {
		parses(t, anyBytes(m))
	}
}

// anyBytes gives bytes that are often those of a frame, or nearly so.
func anyBytes(m *rand.Rand) []byte {
	if m.IntN(4) == 0 {
		b := someBytes(m, pick(m, []int{0, 1, 58, 59, 60, 87, 88, 89, m.IntN(300)}))
		if len(b) > 0 {
			b[0] = pick(m, []byte{0, 1, 2, 3, b[0]})
		}
		return b
	}
	b := bytesOf(someFrame(m))
	for range m.IntN(3) {
		b[m.IntN(len(b))] = byte(m.IntN(256))
	}
	return b
}

func TestP9_3_Example(t *testing.T) {
	b, e := frame.Before(api.Command{Op: api.OpDelete, Tenant: 3, Tag: counted()})
	if want := append([]byte{2, 2, 0, 0, 0, 3}, make([]byte, 50)...); !bytes.Equal(b, want) || e != api.OK {
		t.Errorf("Before = %v, %d", b, e)
	}
}

func TestP9_3_MessagesOfManyCommands(t *testing.T) {
	m := mixed()
	for range 3000 {
		c := someCommand(m)
		b := before(t, c)
		if len(b) != messageSize || !bytes.Equal(b, messageOf(c)) || !bytes.Equal(b, written(t, command(c))[:messageSize]) {
			t.Fatalf("Before(%v) = %v", c, b)
		}
	}
}

func TestP9_3_CommandsThatAreNotValid(t *testing.T) {
	for _, c := range append(commandParts(), api.Command{}) {
		if !isFine(c) {
			isBadCommand(t, c)
		}
	}
	m := mixed()
	for range 5000 {
		c := anyFrame(m).Command
		b, e := frame.Before(c)
		if isFine(c) != (e == api.OK) || e == api.OK && len(b) != messageSize || e != api.OK && (len(b) != 0 || e != api.ErrBad) {
			t.Fatalf("Before(%v) = %v, %d", c, b, e)
		}
	}
}

func TestP9_4_WriteAndParseAreInverse(t *testing.T) {
	m := mixed()
	for range 5000 {
		f := someFrame(m)
		if g, e := frame.Parse(written(t, f)); g != f || e != api.OK {
			t.Fatalf("%v has become %v, %d", f, g, e)
		}
		b := anyBytes(m)
		f, e := frame.Parse(b)
		if e == api.OK && !bytes.Equal(written(t, f), b) {
			t.Fatalf("%v has become %v", b, written(t, f))
		}
	}
}

// What is parsed is valid, and what is not valid has no bytes that could be parsed.
func TestP9_4_WhatIsParsedIsValid(t *testing.T) {
	m := mixed()
	for range 5000 {
		b := anyBytes(m)
		if f, e := frame.Parse(b); e == api.OK && frame.Check(f) != api.OK {
			t.Fatalf("Parse(%v) = %v", b, f)
		}
		f := anyFrame(m)
		if wantCheck(f) == api.OK || f.Kind != 1 && f.Kind != 2 {
			continue
		}
		if g, e := frame.Parse(bytesOf(f)); g == f && e == api.OK {
			t.Fatalf("%v is not valid, and Parse(%v) = %v", f, bytesOf(f), g)
		}
	}
}

func TestP9_4_OneStringForEachFrame(t *testing.T) {
	m := mixed()
	strings := map[string]api.Frame{}
	for range 5000 {
		f := someFrame(m)
		b := string(written(t, f))
		if g, there := strings[b]; there && g != f {
			t.Fatalf("%v and %v have the same bytes", f, g)
		}
		strings[b] = f
	}
}

// The first byte and the number of bytes tell the kind.
func TestP9_4_FirstByteAndLengthTellTheKind(t *testing.T) {
	m := mixed()
	sizes := map[uint8]int{1: requestSize, 2: commandSize}
	for range 5000 {
		f := someFrame(m)
		if b := written(t, f); b[0] != f.Kind || len(b) != sizes[f.Kind] {
			t.Fatalf("Write(%v) = %v", f, b)
		}
		b := anyBytes(m)
		if f, e := frame.Parse(b); e == api.OK && (f.Kind != b[0] || len(b) != sizes[f.Kind]) {
			t.Fatalf("Parse(%v) = %v", b, f)
		}
	}
}

func TestP9_4_TheTagIsNotOfTheMessage(t *testing.T) {
	m := mixed()
	for range 2000 {
		c := someCommand(m)
		message := before(t, c)
		for _, tag := range []api.Digest{{}, counted(), someDigest(m)} {
			d := c
			d.Tag = tag
			if b := before(t, d); !bytes.Equal(b, message) {
				t.Fatalf("%v and %v have other messages", c, d)
			}
		}
	}
}

// Commands that differ in one thing, or in any, have different messages, but for the Tag.
func TestP9_4_WhatIsChangedIsAnotherMessage(t *testing.T) {
	m := mixed()
	for range 1000 {
		c := someCommand(m)
		others := []api.Command{someCommand(m), someOf(m, c.Op)}
		for range 30 {
			others = append(others, nearby(m, c))
		}
		for _, d := range others {
			if !isFine(d) {
				continue
			}
			same := c
			same.Tag = d.Tag
			if bytes.Equal(before(t, c), before(t, d)) != (same == d) {
				t.Fatalf("%v and %v: the messages %v and %v", c, d, before(t, c), before(t, d))
			}
		}
	}
}

// nearby gives a command that differs in one thing. It may not be valid.
func nearby(m *rand.Rand, c api.Command) api.Command {
	switch m.IntN(8) {
	case 0:
		c.Op = 1 + uint8(m.UintN(5))
	case 1:
		c.Tenant = m.Uint32N(16)
	case 2:
		c.User ^= 1 << m.IntN(32)
	case 3:
		c.Users = 1 + uint8(m.UintN(8))
	case 4:
		c.Ends = 1 + uint8(m.UintN(8))
	case 5:
		c.Expiry ^= 1 << m.IntN(64)
	case 6:
		c.Users, c.Ends = c.Ends, c.Users
	case 7:
		numbers := numbersOf(c.Limits)
		numbers[m.IntN(9)] ^= 1 << m.IntN(30)
		c.Limits = limitsWith(numbers)
	}
	return c
}

// room is the size of the room that spare leaves.
const room = 100

// spare gives a copy with marked room behind it.
func spare(b []byte) []byte {
	return append(slices.Clone(b), bytes.Repeat([]byte{77}, room)...)[:len(b)]
}

func TestP1_ArgumentsAreOnlyRead(t *testing.T) {
	m := mixed()
	for range 3000 {
		was := anyBytes(m)
		b := spare(was)
		frame.Parse(b)
		behind := b[len(b) : len(b)+room]
		if !bytes.Equal(b, was) || !bytes.Equal(behind, bytes.Repeat([]byte{77}, room)) {
			t.Fatalf("%v has become %v, and %v behind it", was, b, behind)
		}
	}
}

// What stands in the room behind some bytes is not of them.
func TestP1_NothingBehindTheEndIsLookedAt(t *testing.T) {
	m := mixed()
	for range 500 {
		f := someFrame(m)
		b := bytesOf(f)
		for _, n := range []int{0, 1, len(b) - 1} {
			hasNoFrame(t, b[:n])
		}
		whole := slices.Concat(b, someBytes(m, room))
		if g, e := frame.Parse(whole[:len(b)]); g != f || e != api.OK {
			t.Fatalf("Parse(%v) = %v, %d", b, g, e)
		}
		if g, e := frame.Parse(whole[:len(b):len(b)]); g != f || e != api.OK {
			t.Fatalf("Parse(%v) = %v, %d", b, g, e)
		}
	}
}

func TestP1_ResultsShareNoMemory(t *testing.T) {
	m := mixed()
	for range 1000 {
		f := someFrame(m)
		was := f
		one, two := written(t, f), written(t, f)
		argument := bytesOf(f)
		g, e := frame.Parse(argument)
		clear(argument)
		clear(one[:cap(one)])
		if f != was || g != was || e != api.OK || !bytes.Equal(two, bytesOf(f)) {
			t.Fatalf("%v has become %v, with %v", was, g, two)
		}
		if f.Kind == 1 {
			continue
		}
		one, two = before(t, f.Command), before(t, f.Command)
		clear(one[:cap(one)])
		if f != was || !bytes.Equal(two, messageOf(f.Command)) || !bytes.Equal(before(t, f.Command), two) {
			t.Fatalf("%v has the message %v", f, two)
		}
	}
}

// answers holds what all functions of the package answer to the same arguments.
type answers struct {
	check, writeE, parseE, beforeE, tenantE api.Errno
	written, before                         string
	parsed                                  api.Frame
	tenant                                  uint32
}

type question struct {
	f api.Frame
	b []byte
}

func (q question) ask() (s answers) {
	s.check = frame.Check(q.f)
	b, e := frame.Write(q.f)
	s.written, s.writeE = string(b), e
	s.parsed, s.parseE = frame.Parse(q.b)
	b, e = frame.Before(q.f.Command)
	s.before, s.beforeE = string(b), e
	s.tenant, s.tenantE = frame.Tenant(q.f)
	return s
}

// want puts down what the definitions say.
func (q question) want() (s answers) {
	s.check = wantCheck(q.f)
	s.writeE, s.tenantE, s.beforeE = s.check, s.check, api.ErrBad
	if s.check == api.OK {
		s.written, s.tenant = string(bytesOf(q.f)), tenantOf(q.f)
	}
	if isFine(q.f.Command) {
		s.before, s.beforeE = string(messageOf(q.f.Command)), api.OK
	}
	s.parsed, s.parseE = wantParse(q.b)
	return s
}

func anyQuestion(m *rand.Rand) question { return question{anyFrame(m), anyBytes(m)} }

func TestP1_TheSameCallHasTheSameAnswer(t *testing.T) {
	m := mixed()
	var questions []question
	var first []answers
	for range 1000 {
		q := anyQuestion(m)
		questions, first = append(questions, q), append(first, q.ask())
	}
	for i, q := range slices.Backward(questions) {
		if again := q.ask(); again != first[i] {
			t.Fatalf("%v: %v, then %v", q, first[i], again)
		}
	}
}

// Any values at all are answered, and an answer with an error has nothing else.
func TestP1_AllArgumentsAreAnswered(t *testing.T) {
	m := mixed()
	for range 20000 {
		q := anyQuestion(m)
		if got, want := q.ask(), q.want(); got != want {
			t.Fatalf("%v: %v, not %v", q, got, want)
		}
	}
}
