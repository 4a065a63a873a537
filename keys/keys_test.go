package keys_test

import (
	"bytes"
	"crypto/hmac"
	"crypto/sha256"
	"encoding/binary"
	"encoding/hex"
	"math"
	"math/rand/v2"
	"slices"
	"testing"

	"spigot/api"
	"spigot/frame"
	"spigot/keys"
	"spigot/mac"
	"spigot/token"
)

const (
	top      = math.MaxUint32
	maxEpoch = 1000000
)

// mixed gives numbers that are mixed, the same ones in each test.
func mixed() *rand.Rand { return rand.New(rand.NewPCG(11, 107)) }

func pick[E any](m *rand.Rand, l []E) E { return l[m.IntN(len(l))] }

func someDigest(m *rand.Rand) (d api.Digest) {
	for i := range d {
		d[i] = byte(m.Uint32())
	}
	return d
}

func allOnes() api.Digest { return api.Digest(bytes.Repeat([]byte{255}, 32)) }

// counted is the seed with the bytes 1 to 32.
func counted() (d api.Digest) {
	for i := range d {
		d[i] = byte(i + 1)
	}
	return d
}

func flipped(d api.Digest, bit int) api.Digest {
	d[bit/8] ^= 1 << (bit % 8)
	return d
}

func reversed(d api.Digest) api.Digest {
	slices.Reverse(d[:])
	return d
}

func someSeeds(m *rand.Rand) []api.Digest {
	return []api.Digest{{}, {0: 1}, {31: 1}, allOnes(), counted(), someDigest(m), someDigest(m)}
}

func someWord(m *rand.Rand) uint32 {
	return pick(m, []uint32{0, 1, 15, 16, 1 << 31, top, m.Uint32(), m.Uint32()})
}

func someLong(m *rand.Rand) uint64 {
	return pick(m, []uint64{0, 1, 258, 1 << 63, math.MaxUint64, m.Uint64(), m.Uint64() >> 32})
}

func someEpoch(m *rand.Rand) uint32 {
	return pick(m, []uint32{0, 1, 2, 255, 256, 65535, 65536, maxEpoch - 1, maxEpoch, m.Uint32N(maxEpoch + 1)})
}

// goodEpochs have each byte, and the end.
func goodEpochs() []uint32 {
	return []uint32{0, 1, 2, 107, 255, 256, 257, 65535, 65536, 0x00010203, 999999, maxEpoch}
}

func badEpochs() []uint32 {
	return []uint32{maxEpoch + 1, maxEpoch + 2, 1<<20 - 1, 1 << 20, 1 << 24, 1 << 30, 1 << 31, 1<<31 + 1, top - 1, top}
}

func badTenants() []uint32 {
	return []uint32{16, 17, 31, 32, 255, 256, 257, 1 << 16, 1 << 24, 1<<24 + 1, 1 << 31, 1<<31 + 1, top - 15, top}
}

// hmacOf gives the library's tag.
func hmacOf(key api.Digest, b []byte) api.Digest {
	h := hmac.New(sha256.New, key[:])
	h.Write(b)
	return api.Digest(h.Sum(nil))
}

// keyOf puts down the key as the definition says, also where there is none.
func keyOf(seed api.Digest, tenant, epoch uint32) api.Digest {
	b := binary.BigEndian.AppendUint32([]byte{107}, tenant)
	return hmacOf(seed, binary.BigEndian.AppendUint32(b, epoch))
}

func commandKeyOf(seed api.Digest) api.Digest { return hmacOf(seed, []byte{97}) }

func tokenMessage(a api.Token) []byte {
	b := binary.BigEndian.AppendUint32(nil, a.Tenant)
	b = binary.BigEndian.AppendUint32(b, a.User)
	b = binary.BigEndian.AppendUint32(b, a.Epoch)
	return binary.BigEndian.AppendUint64(b, a.Expiry)
}

func commandMessage(c api.Command) []byte {
	b := []byte{2, c.Op}
	b = binary.BigEndian.AppendUint32(b, c.Tenant)
	b = binary.BigEndian.AppendUint32(b, c.User)
	for _, l := range c.Limits {
		for _, n := range []int64{l.Burst, l.Rate, l.Per} {
			b = binary.BigEndian.AppendUint32(b, uint32(n))
		}
	}
	b = append(b, c.Users, c.Ends)
	return binary.BigEndian.AppendUint64(b, c.Expiry)
}

// trueToken gives the token with the Tag that the definition says, also where there is no key.
func trueToken(seed api.Digest, a api.Token) api.Token {
	a.Tag = hmacOf(keyOf(seed, a.Tenant, a.Epoch), tokenMessage(a))
	return a
}

// trueCommand gives the command with the Tag that the definition says, also where it is not valid.
func trueCommand(seed api.Digest, c api.Command) api.Command {
	c.Tag = hmacOf(commandKeyOf(seed), commandMessage(c))
	return c
}

func hasKey(tenant, epoch uint32) bool { return tenant < 16 && epoch <= maxEpoch }

func wantTenant(seed api.Digest, tenant, epoch uint32) (api.Digest, api.Errno) {
	if !hasKey(tenant, epoch) {
		return api.Digest{}, api.ErrArg
	}
	return keyOf(seed, tenant, epoch), api.OK
}

func wantToken(seed api.Digest, a api.Token) (api.Token, api.Errno) {
	if !hasKey(a.Tenant, a.Epoch) {
		return api.Token{}, api.ErrArg
	}
	return trueToken(seed, a), api.OK
}

func wantSign(seed api.Digest, c api.Command) (api.Command, api.Errno) {
	if frame.Check(command(c)) != api.OK {
		return api.Command{}, api.ErrBad
	}
	return trueCommand(seed, c), api.OK
}

func wantRight(seed api.Digest, f api.Frame) (bool, api.Errno) {
	if frame.Check(f) != api.OK {
		return false, api.ErrBad
	}
	if f.Kind == 2 {
		return f.Command == trueCommand(seed, f.Command), api.OK
	}
	a := f.Request.Token
	return a.Epoch <= maxEpoch && a == trueToken(seed, a), api.OK
}

// tokenOf asks for a token with the numbers of another one.
func tokenOf(seed api.Digest, a api.Token) (api.Token, api.Errno) {
	return keys.Token(seed, a.Tenant, a.User, a.Epoch, a.Expiry)
}

func command(c api.Command) api.Frame { return api.Frame{Kind: 2, Command: c} }

func request(a api.Token) api.Frame { return api.Frame{Kind: 1, Request: api.Request{Token: a}} }

// someToken gives a token of a tenant and an epoch that have a key.
func someToken(m *rand.Rand) api.Token {
	return api.Token{Tenant: m.Uint32N(16), User: someWord(m), Epoch: someEpoch(m), Expiry: someLong(m), Tag: someDigest(m)}
}

func someLimits(m *rand.Rand) (l [3]api.Limit) {
	n := func(least int64) int64 {
		return pick(m, []int64{least, 1, 2, 256, 1e9 - 1, 1e9, 1 + m.Int64N(1e9)})
	}
	for i := range l {
		l[i] = api.Limit{Burst: n(1), Rate: n(0), Per: n(1)}
	}
	return l
}

// someCommand gives a valid command.
func someCommand(m *rand.Rand) api.Command {
	c := api.Command{Op: 1 + uint8(m.UintN(5)), Tenant: m.Uint32N(16), Expiry: someLong(m), Tag: someDigest(m)}
	switch c.Op {
	case 1:
		c.Limits, c.Users, c.Ends = someLimits(m), 1+uint8(m.UintN(8)), 1+uint8(m.UintN(8))
	case 3:
		c.Limits = someLimits(m)
	case 5:
		c.User = someWord(m)
	}
	return c
}

// plainCommands has one valid command for each Op, with no bytes 0 in what is used.
func plainCommands() []api.Command {
	limits := [3]api.Limit{
		{Burst: 0x01020304, Rate: 0x05060708, Per: 0x090a0b0c},
		{Burst: 0x0d0e0f10, Rate: 0x11121314, Per: 0x15161718},
		{Burst: 0x191a1b1c, Rate: 0x1d1e1f20, Per: 0x21222324},
	}
	const expiry = 0x2526272829303132
	return []api.Command{
		{Op: 1, Tenant: 11, Limits: limits, Users: 7, Ends: 8, Expiry: expiry},
		{Op: 2, Tenant: 12, Expiry: expiry},
		{Op: 3, Tenant: 13, Limits: limits, Expiry: expiry},
		{Op: 4, Tenant: 14, Expiry: expiry},
		{Op: 5, Tenant: 15, User: 0xa1a2a3a4, Expiry: expiry},
	}
}

// badCommands are not valid, each one for another reason.
func badCommands() []api.Command {
	p := plainCommands()
	l := []api.Command{{}, {Op: 6}, {Op: 255}, {Op: 1}, {Op: 3}, {Op: 2, User: 1}, {Op: 4, User: 1 << 31}, {Op: 5, Users: 1}, {Op: 2, Ends: 1}}
	for _, c := range p {
		for _, c.Tenant = range badTenants() {
			l = append(l, c)
		}
	}
	for i := range 3 {
		for _, limit := range []api.Limit{{}, {Burst: 1}, {Per: 1}, {Burst: 1e9 + 1, Per: 1}, {Burst: 1, Rate: 1e9 + 1, Per: 1}, {Burst: 1, Per: 1e9 + 1}, {Burst: 1, Rate: -1, Per: 1}, {Burst: 1 + 1<<32, Per: 1}} {
			a, b := p[0], p[2]
			a.Limits[i], b.Limits[i] = limit, limit
			l = append(l, a, b)
		}
		c := p[3]
		c.Limits[i].Rate = 1
		l = append(l, c)
	}
	for _, n := range []uint8{0, 9, 255} {
		a, b := p[0], p[0]
		a.Users, b.Ends = n, n
		l = append(l, a, b)
	}
	return l
}

func isRight(t *testing.T, seed api.Digest, f api.Frame) {
	t.Helper()
	if is, e := keys.Right(seed, f); !is || e != api.OK {
		t.Fatalf("Right(%x, %v) = %v, %d", seed, f, is, e)
	}
}

func isWrong(t *testing.T, seed api.Digest, f api.Frame) {
	t.Helper()
	if is, e := keys.Right(seed, f); is || e != api.OK {
		t.Fatalf("Right(%x, %v) = %v, %d", seed, f, is, e)
	}
}

func isBad(t *testing.T, seed api.Digest, f api.Frame) {
	t.Helper()
	if is, e := keys.Right(seed, f); is || e != api.ErrBad {
		t.Fatalf("Right(%x, %v) = %v, %d", seed, f, is, e)
	}
}

func keyIs(t *testing.T, seed api.Digest, tenant, epoch uint32) {
	t.Helper()
	want, wantE := wantTenant(seed, tenant, epoch)
	if key, e := keys.Tenant(seed, tenant, epoch); key != want || e != wantE {
		t.Fatalf("Tenant(%x, %d, %d) = %x, %d, not %x, %d", seed, tenant, epoch, key, e, want, wantE)
	}
}

func tokenIs(t *testing.T, seed api.Digest, a api.Token) {
	t.Helper()
	want, wantE := wantToken(seed, a)
	if got, e := tokenOf(seed, a); got != want || e != wantE {
		t.Fatalf("Token(%x, ..) of %v = %v, %d, not %v, %d", seed, a, got, e, want, wantE)
	}
}

func signIs(t *testing.T, seed api.Digest, c api.Command) {
	t.Helper()
	want, wantE := wantSign(seed, c)
	if got, e := keys.Sign(seed, c); got != want || e != wantE {
		t.Fatalf("Sign(%x, %v) = %v, %d, not %v, %d", seed, c, got, e, want, wantE)
	}
}

func minted(t *testing.T, seed api.Digest, a api.Token) api.Token {
	t.Helper()
	got, e := tokenOf(seed, a)
	if e != api.OK {
		t.Fatalf("Token(%x, ..) of %v: error %d", seed, a, e)
	}
	return got
}

func signed(t *testing.T, seed api.Digest, c api.Command) api.Command {
	t.Helper()
	got, e := keys.Sign(seed, c)
	if e != api.OK {
		t.Fatalf("Sign(%x, %v): error %d", seed, c, e)
	}
	return got
}

func TestNumbersAreThoseOfTheChapter(t *testing.T) {
	if api.OK != 0 || api.ErrArg != 2 || api.ErrBad != 8 || api.MaxTenants != 16 || api.MaxEpoch != maxEpoch {
		t.Error(api.OK, api.ErrArg, api.ErrBad, api.MaxTenants, api.MaxEpoch)
	}
}

// The chapter's example: the key of the tenant 1 in the epoch 2, for the seed of bytes 0; and the tenant 16.
func TestP11_1_Example(t *testing.T) {
	want, f := mac.Sum(make([]byte, 32), []byte{107, 0, 0, 0, 1, 0, 0, 0, 2})
	if key, e := keys.Tenant(api.Digest{}, 1, 2); key != want || e != api.OK || f != api.OK {
		t.Errorf("Tenant = %x, %d, not %x", key, e, want)
	}
	if key, e := keys.Tenant(api.Digest{}, 16, 2); key != (api.Digest{}) || e != api.ErrArg {
		t.Errorf("Tenant = %x, %d", key, e)
	}
}

// These keys were computed by another program.
func TestP11_1_KnownKeys(t *testing.T) {
	for _, c := range []struct {
		seed          api.Digest
		tenant, epoch uint32
		want          string
	}{
		{api.Digest{}, 0, 0, "e2361bb6e9e8ce2ad4d03ef63fe546dce521bee36a904ab88c86c57927586b8f"},
		{api.Digest{}, 1, 2, "cf118e452d6defa4c7c4fa5e690f9ff57d22348792645bd2fd7df4b74ee6c56d"},
		{counted(), 1, 2, "da79537593a681547f4ba137573fd250e523965b575964f3342a6a3ce0709000"},
		{counted(), 15, maxEpoch, "d6fa31c25124e7bdcb75252519ca5ef6b66014698ff52270e710b0d6ce758ae3"},
		{allOnes(), 15, 0x00010203, "1fbb244f33dd3c62ba38e26d68ba8103ce74788b6050b9c1d1aa5961f63cb1a4"},
		{allOnes(), 0, maxEpoch, "ff2a82b693632e476312e5759228933c06e2679f61570ff269f3f129c36cb961"},
	} {
		key, e := keys.Tenant(c.seed, c.tenant, c.epoch)
		if hex.EncodeToString(key[:]) != c.want || e != api.OK {
			t.Errorf("Tenant(%x, %d, %d) = %x, %d", c.seed, c.tenant, c.epoch, key, e)
		}
	}
}

// These keys were computed by another program, too.
func TestP11_1_KnownKeysOfCommands(t *testing.T) {
	for _, c := range []struct {
		seed api.Digest
		want string
	}{
		{api.Digest{}, "9615a95d4a336118c435b9cd54c5e8644ab956b573aa2926274a1280b6674713"},
		{counted(), "3c72871ecb7b01fd5f131f10017c981b6052845c73544277fc28f8b16782c1ab"},
		{allOnes(), "69b0d8660a7b7724784e5a12cc624b22dc58e6202fb52ead541412f638a1bc66"},
	} {
		if key := keys.Commands(c.seed); hex.EncodeToString(key[:]) != c.want {
			t.Errorf("Commands(%x) = %x", c.seed, key)
		}
	}
}

func TestP11_1_AllTenantsInManyEpochs(t *testing.T) {
	m := mixed()
	for _, seed := range someSeeds(m) {
		for tenant := range uint32(16) {
			for _, epoch := range append(goodEpochs(), m.Uint32N(maxEpoch+1)) {
				keyIs(t, seed, tenant, epoch)
				if key, e := keys.Tenant(seed, tenant, epoch); e != api.OK || key == (api.Digest{}) {
					t.Fatalf("Tenant(%x, %d, %d) = %x, %d", seed, tenant, epoch, key, e)
				}
			}
		}
	}
}

// Each bit of a seed counts.
func TestP11_1_ManySeeds(t *testing.T) {
	m := mixed()
	for bit := range 256 {
		for _, seed := range []api.Digest{flipped(api.Digest{}, bit), flipped(allOnes(), bit), flipped(counted(), bit), someDigest(m)} {
			keyIs(t, seed, m.Uint32N(16), someEpoch(m))
			if key := keys.Commands(seed); key != commandKeyOf(seed) {
				t.Fatalf("Commands(%x) = %x", seed, key)
			}
		}
	}
}

// noKey tells that there is neither a key nor a token.
func noKey(t *testing.T, seed api.Digest, tenant, epoch uint32) {
	t.Helper()
	if key, e := keys.Tenant(seed, tenant, epoch); key != (api.Digest{}) || e != api.ErrArg {
		t.Fatalf("Tenant(%x, %d, %d) = %x, %d", seed, tenant, epoch, key, e)
	}
	if a, e := keys.Token(seed, tenant, 4, epoch, 99); a != (api.Token{}) || e != api.ErrArg {
		t.Fatalf("Token(%x, %d, 4, %d, 99) = %v, %d", seed, tenant, epoch, a, e)
	}
}

// The tenant or the epoch, or both, are out of their ranges: there is no key, and no token (P11.1, P11.2).
func TestP11_1_NoKey(t *testing.T) {
	for _, seed := range someSeeds(mixed()) {
		for _, tenant := range badTenants() {
			for _, epoch := range append(goodEpochs(), badEpochs()...) {
				noKey(t, seed, tenant, epoch)
			}
		}
		for tenant := range uint32(16) {
			for _, epoch := range badEpochs() {
				noKey(t, seed, tenant, epoch)
			}
		}
	}
}

// Of each epoch up to MaxEpoch there is a key, and of the next ones there is none.
func TestP11_1_EndsOfTheRanges(t *testing.T) {
	for _, c := range []struct {
		tenant, epoch uint32
		want          api.Errno
	}{
		{15, maxEpoch, api.OK},
		{16, maxEpoch, api.ErrArg},
		{15, maxEpoch + 1, api.ErrArg},
		{16, maxEpoch + 1, api.ErrArg},
		{0, 0, api.OK},
		{top, 0, api.ErrArg},
		{0, top, api.ErrArg},
	} {
		if _, e := keys.Tenant(counted(), c.tenant, c.epoch); e != c.want {
			t.Errorf("Tenant(.., %d, %d): %d", c.tenant, c.epoch, e)
		}
		if _, e := keys.Token(counted(), c.tenant, 0, c.epoch, 0); e != c.want {
			t.Errorf("Token(.., %d, 0, %d, 0): %d", c.tenant, c.epoch, e)
		}
	}
}

// The chapter's example: the token of the tenant 1 in the epoch 2 is right; with the epoch 3, and the same Tag, it is not.
func TestP11_2_ExampleOfAToken(t *testing.T) {
	a := minted(t, api.Digest{}, api.Token{Tenant: 1, User: 5, Epoch: 2, Expiry: 9})
	isRight(t, api.Digest{}, request(a))
	a.Epoch = 3
	isWrong(t, api.Digest{}, request(a))
}

// These tags were computed by another program.
func TestP11_2_KnownTokens(t *testing.T) {
	for _, c := range []struct {
		seed api.Digest
		a    api.Token
		want string
	}{
		{api.Digest{}, api.Token{Tenant: 1, User: 2, Epoch: 2, Expiry: 258}, "2c18520fe493bdf4c95e3c31867e222d7b1d2ce76b7fb5c1a99d759257415e5e"},
		{counted(), api.Token{Tenant: 15, User: 0x05060708, Epoch: maxEpoch, Expiry: 0x0d0e0f1011121314}, "db017fee061599ec9c8820b578fd1d8a0dbea502c59bc4c4f610c6a59fa0832d"},
		{allOnes(), api.Token{User: top, Expiry: math.MaxUint64}, "b09e0009b8753e242ff9e9c48287e3ecb78a164e161b80b707a73b051c01915e"},
	} {
		want := c.a
		got := minted(t, c.seed, c.a)
		want.Tag = got.Tag
		if got != want || hex.EncodeToString(got.Tag[:]) != c.want {
			t.Errorf("Token(%x, ..) of %v = %v", c.seed, c.a, got)
		}
		isRight(t, c.seed, request(got))
	}
}

func TestP11_2_ManyTokens(t *testing.T) {
	m := mixed()
	for range 2000 {
		seed, a := pick(m, someSeeds(m)), someToken(m)
		tokenIs(t, seed, a)
		key, e := keys.Tenant(seed, a.Tenant, a.Epoch)
		if got := minted(t, seed, a); got != token.Mint(key, a.Tenant, a.User, a.Epoch, a.Expiry) || e != api.OK {
			t.Fatalf("Token(%x, ..) of %v = %v, %d", seed, a, got, e)
		}
	}
}

// The user and the expiry of a token are any numbers.
func TestP11_2_AnyUserAndExpiry(t *testing.T) {
	for i := range 64 {
		for _, n := range []uint64{1<<i - 1, 1 << i, ^(uint64(1) << i)} {
			for _, a := range []api.Token{{Tenant: 1, User: uint32(n), Epoch: 2}, {Tenant: 1, Epoch: 2, Expiry: n}} {
				tokenIs(t, counted(), a)
				isRight(t, counted(), request(minted(t, counted(), a)))
			}
		}
	}
}

// These tags were computed by another program.
func TestP11_2_KnownSignatures(t *testing.T) {
	want := []string{
		"dec7932ed43f9534f04e36562d95459f942f156d017b6f675ab63b7351878618",
		"1966e1deb2bfe933bcb6db4fcdbea40aa13643f097c99036802ffca05dee06dc",
		"bc1851447bd564e1ee4185cb2f6551027b5dc0fd53d1966f1cdb69385639d051",
		"c26b3abbbc6d4268b0c41dfd595d91518acdb37387f3e91a3d31cd8adf2efa30",
		"cc495db01f1d040c67ca61cb4b9ddc09fb88611a68cbd6f17e77fce53b0f65a5",
	}
	for i, c := range plainCommands() {
		got := signed(t, counted(), c)
		c.Tag = got.Tag
		if got != c || hex.EncodeToString(got.Tag[:]) != want[i] {
			t.Errorf("Sign(.., %v) = %v", c, got)
		}
	}
	c := signed(t, api.Digest{}, api.Command{Op: api.OpDelete, Tenant: 3})
	if hex.EncodeToString(c.Tag[:]) != "07651ffc951ab5824992e2945c2dfa10f26747a4217be7e7387bf2a27d5799ab" {
		t.Errorf("Sign = %v", c)
	}
}

func TestP11_2_ManySignatures(t *testing.T) {
	m := mixed()
	for range 2000 {
		seed, c := pick(m, someSeeds(m)), someCommand(m)
		signIs(t, seed, c)
		key := keys.Commands(seed)
		message, e := frame.Before(c)
		tag, f := mac.Sum(key[:], message)
		if got := signed(t, seed, c); got.Tag != tag || e != api.OK || f != api.OK {
			t.Fatalf("Sign(%x, %v) = %v", seed, c, got)
		}
	}
}

// Whatever Tag a command has, it is signed the same; signing it again changes nothing.
func TestP11_2_SignWhateverTheTagIs(t *testing.T) {
	m := mixed()
	for _, c := range append(plainCommands(), someCommand(m), someCommand(m)) {
		seed := pick(m, someSeeds(m))
		want := trueCommand(seed, c)
		tags := []api.Digest{{}, allOnes(), counted(), someDigest(m), want.Tag, reversed(want.Tag)}
		for bit := range 256 {
			tags = append(tags, flipped(want.Tag, bit))
		}
		for _, c.Tag = range tags {
			if got := signed(t, seed, c); got != want {
				t.Fatalf("Sign(%x, %v) = %v, not %v", seed, c, got, want)
			}
		}
	}
}

// What is not valid is not signed, also if its Tag is what the definition of signing gives.
func TestP11_2_SignWhatIsNotValid(t *testing.T) {
	m := mixed()
	for _, c := range badCommands() {
		seed := pick(m, someSeeds(m))
		for _, c := range []api.Command{c, trueCommand(seed, c)} {
			if got, e := keys.Sign(seed, c); got != (api.Command{}) || e != api.ErrBad {
				t.Fatalf("Sign(%x, %v) = %v, %d", seed, c, got, e)
			}
		}
	}
}

// Tags that the library made are right.
func TestP11_3_WhatIsRight(t *testing.T) {
	m := mixed()
	for range 1000 {
		seed := pick(m, someSeeds(m))
		f := request(trueToken(seed, someToken(m)))
		f.Request.Endpoint, f.Request.Cost = uint16(m.Uint32()), someWord(m)
		isRight(t, seed, f)
		isRight(t, seed, command(trueCommand(seed, someCommand(m))))
	}
	for _, c := range plainCommands() {
		isRight(t, counted(), command(trueCommand(counted(), c)))
	}
}

func TestP11_3_AllTenantsInManyEpochs(t *testing.T) {
	for tenant := range uint32(16) {
		for _, epoch := range goodEpochs() {
			isRight(t, counted(), request(trueToken(counted(), api.Token{Tenant: tenant, User: 1, Epoch: epoch})))
		}
	}
}

// Above MaxEpoch nothing is right, and it is no error, as the frame is valid: not even with the tag that would follow from such an epoch.
func TestP11_3_EpochsWithoutAKey(t *testing.T) {
	m := mixed()
	for _, seed := range someSeeds(m) {
		for _, epoch := range append(badEpochs(), maxEpoch+1+m.Uint32N(top-maxEpoch)) {
			a := api.Token{Tenant: m.Uint32N(16), User: someWord(m), Epoch: epoch, Expiry: someLong(m)}
			isWrong(t, seed, request(a))
			isWrong(t, seed, request(trueToken(seed, a)))
			for _, a.Tag = range []api.Digest{hmacOf(api.Digest{}, tokenMessage(a)), allOnes(), seed, someDigest(m)} {
				isWrong(t, seed, request(a))
			}
			// An epoch that is cut, or that begins again at 0, has no key either.
			for _, near := range append(goodEpochs(), epoch%maxEpoch, epoch%(maxEpoch+1), epoch%(1<<16), epoch%256, epoch-maxEpoch, top-epoch) {
				a.Tag = hmacOf(keyOf(seed, a.Tenant, near), tokenMessage(a))
				isWrong(t, seed, request(a))
			}
		}
	}
}

// wrongTags are tags that resemble a right one, or come from other keys for the same message.
func wrongTags(m *rand.Rand, seed, tag api.Digest, message []byte) []api.Digest {
	l := []api.Digest{{}, allOnes(), seed, reversed(tag), someDigest(m), sha256.Sum256(message), hmacOf(seed, message), hmacOf(api.Digest{}, message), hmacOf(tag, message)}
	for bit := range 256 {
		l = append(l, flipped(tag, bit))
	}
	for n := range 32 {
		// the right beginning, and the right end
		l = append(l, api.Digest(slices.Concat(tag[:n], make([]byte, 32-n))), api.Digest(slices.Concat(make([]byte, 32-n), tag[32-n:])))
	}
	return l
}

func TestP11_3_WrongTagsOfRequests(t *testing.T) {
	m := mixed()
	for range 20 {
		seed := pick(m, someSeeds(m))
		a := trueToken(seed, someToken(m))
		message := tokenMessage(a)
		l := append(wrongTags(m, seed, a.Tag, message), hmacOf(commandKeyOf(seed), message), keyOf(seed, a.Tenant, a.Epoch))
		l = append(l, hmacOf(keyOf(seed, a.Tenant^1, a.Epoch), message), hmacOf(keyOf(seed, a.Tenant, a.Epoch^1), message))
		for _, a.Tag = range l {
			isWrong(t, seed, request(a))
		}
	}
}

func TestP11_3_WrongTagsOfCommands(t *testing.T) {
	m := mixed()
	for range 20 {
		seed := pick(m, someSeeds(m))
		c := trueCommand(seed, someCommand(m))
		message := commandMessage(c)
		l := append(wrongTags(m, seed, c.Tag, message), commandKeyOf(seed), hmacOf(keyOf(seed, c.Tenant, 0), message))
		for _, c.Tag = range l {
			isWrong(t, seed, command(c))
		}
	}
}

func TestP11_3_OtherSeeds(t *testing.T) {
	m := mixed()
	for _, seed := range someSeeds(m) {
		f, g := request(trueToken(seed, someToken(m))), command(trueCommand(seed, someCommand(m)))
		for bit := range 256 {
			isWrong(t, flipped(seed, bit), f)
			isWrong(t, flipped(seed, bit), g)
		}
		for _, other := range []api.Digest{someDigest(m), f.Request.Token.Tag, g.Command.Tag, commandKeyOf(seed)} {
			isWrong(t, other, f)
			isWrong(t, other, g)
		}
	}
}

// What is not valid is an error, also if its Tag is as the definition says.
func TestP11_3_FramesThatAreNotValid(t *testing.T) {
	m := mixed()
	for _, seed := range someSeeds(m) {
		isBad(t, seed, api.Frame{})
		for _, tenant := range badTenants() {
			a := api.Token{Tenant: tenant, User: 1, Epoch: 2, Expiry: 3}
			isBad(t, seed, request(a))
			isBad(t, seed, request(trueToken(seed, a)))
		}
		for _, c := range badCommands() {
			isBad(t, seed, command(c))
			isBad(t, seed, command(trueCommand(seed, c)))
		}
		f, g := request(trueToken(seed, someToken(m))), command(trueCommand(seed, plainCommands()[1]))
		both := api.Frame{Request: f.Request, Command: g.Command}
		for kind := range 256 {
			f.Kind, g.Kind, both.Kind = uint8(kind), uint8(kind), uint8(kind)
			isBad(t, seed, both)
			if kind != 1 {
				isBad(t, seed, f)
			}
			if kind != 2 {
				isBad(t, seed, g)
			}
		}
	}
}

// The other one of a frame is the zero value, or the frame is not valid.
func TestP11_3_TheOtherOneIsZero(t *testing.T) {
	seed := counted()
	f, g := request(trueToken(seed, api.Token{Tenant: 1})), command(trueCommand(seed, plainCommands()[0]))
	isRight(t, seed, f)
	isRight(t, seed, g)
	for _, c := range []api.Command{{Op: 1}, {Tenant: 1}, {User: 1}, {Limits: [3]api.Limit{2: {Per: 1}}}, {Users: 1}, {Ends: 1}, {Expiry: 1}, {Tag: api.Digest{31: 1}}} {
		f.Command = c
		isBad(t, seed, f)
	}
	for _, r := range []api.Request{{Endpoint: 1}, {Cost: 1}, {Token: api.Token{User: 1}}, {Token: api.Token{Tag: api.Digest{31: 1}}}} {
		g.Request = r
		isBad(t, seed, g)
	}
}

// A key depends on its seed, its tenant and its epoch: each one gives another key, and none is that of commands.
func TestP11_4_KeysDiffer(t *testing.T) {
	m := mixed()
	there := map[api.Digest]bool{}
	wanted := 0
	for _, seed := range append(someSeeds(m), flipped(counted(), 255)) {
		there[keys.Commands(seed)] = true
		wanted++
		for tenant := range uint32(16) {
			for _, epoch := range goodEpochs() {
				key, e := keys.Tenant(seed, tenant, epoch)
				if e != api.OK {
					t.Fatal(e)
				}
				there[key] = true
				wanted++
			}
		}
	}
	if len(there) != wanted {
		t.Errorf("%d keys, not %d", len(there), wanted)
	}
}

// The same key is given again, whatever was asked for before.
func TestP11_4_KeysDependOnNothingElse(t *testing.T) {
	m := mixed()
	for range 200 {
		seed, tenant, epoch := someDigest(m), m.Uint32N(16), someEpoch(m)
		first, _ := keys.Tenant(seed, tenant, epoch)
		commands := keys.Commands(seed)
		keys.Tenant(someDigest(m), tenant, epoch)
		keys.Tenant(seed, tenant^1, epoch)
		keys.Tenant(seed, 16, epoch)
		keys.Commands(someDigest(m))
		minted(t, seed, someToken(m))
		signed(t, seed, someCommand(m))
		if again, e := keys.Tenant(seed, tenant, epoch); again != first || e != api.OK || keys.Commands(seed) != commands {
			t.Fatalf("Tenant(%x, %d, %d) = %x, then %x", seed, tenant, epoch, first, again)
		}
	}
}

// The tokens of a tenant in an epoch are all minted with one key, whatever the user and the expiry are.
func TestP11_4_OneKeyForAllTokensOfAnEpoch(t *testing.T) {
	m := mixed()
	for range 200 {
		seed, a, b := someDigest(m), someToken(m), someToken(m)
		b.Tenant, b.Epoch = a.Tenant, a.Epoch
		key, e := keys.Tenant(seed, a.Tenant, a.Epoch)
		if e != api.OK || token.Verify(key, minted(t, seed, a)) != api.OK || token.Verify(key, minted(t, seed, b)) != api.OK {
			t.Fatalf("%x, %d: %v and %v", key, e, a, b)
		}
	}
}

// What Token and Sign return is right, with this Tag alone.
func TestP11_4_RightWithThisTagAlone(t *testing.T) {
	m := mixed()
	for range 20 {
		seed := pick(m, someSeeds(m))
		f, g := request(minted(t, seed, someToken(m))), command(signed(t, seed, someCommand(m)))
		isRight(t, seed, f)
		isRight(t, seed, g)
		tag, other := f.Request.Token.Tag, g.Command.Tag
		for bit := range 256 {
			f.Request.Token.Tag, g.Command.Tag = flipped(tag, bit), flipped(other, bit)
			isWrong(t, seed, f)
			isWrong(t, seed, g)
		}
		for range 50 {
			f.Request.Token.Tag, g.Command.Tag = someDigest(m), someDigest(m)
			isWrong(t, seed, f)
			isWrong(t, seed, g)
		}
		f.Request.Token.Tag, g.Command.Tag = other, tag
		isWrong(t, seed, f)
		isWrong(t, seed, g)
	}
}

// Whether a request is right depends neither on its endpoint nor on its cost.
func TestP11_4_AnyEndpointAndCost(t *testing.T) {
	m := mixed()
	f := request(minted(t, counted(), someToken(m)))
	g := f
	g.Request.Token.Tag[31]++
	for i := range 32 {
		for _, n := range []uint32{1<<i - 1, 1 << i, ^(uint32(1) << i), m.Uint32()} {
			for _, c := range []struct {
				endpoint uint16
				cost     uint32
			}{{uint16(n), 0}, {0, n}, {uint16(n), n}} {
				f.Request.Endpoint, f.Request.Cost = c.endpoint, c.cost
				g.Request.Endpoint, g.Request.Cost = c.endpoint, c.cost
				isRight(t, counted(), f)
				isWrong(t, counted(), g)
			}
		}
	}
}

// othersOf are the tokens with one number that differs in a bit. Their tenants are still valid.
func othersOf(a api.Token) []api.Token {
	var l []api.Token
	for i := range 64 {
		b, c, d, e := a, a, a, a
		b.Expiry ^= 1 << i
		c.User ^= 1 << (i % 32)
		d.Epoch ^= 1 << (i % 32)
		e.Tenant ^= 1 << (i % 4)
		l = append(l, b, c, d, e)
	}
	return l
}

// Whether a request is right depends on all numbers of its token.
func TestP11_4_AnotherToken(t *testing.T) {
	m := mixed()
	for range 20 {
		seed := pick(m, someSeeds(m))
		a := minted(t, seed, someToken(m))
		for _, b := range othersOf(a) {
			isWrong(t, seed, request(b))
		}
	}
}

// nearby gives a command that differs in one thing. It may not be valid.
func nearby(m *rand.Rand, c api.Command) api.Command {
	switch m.IntN(9) {
	case 0:
		c.Op = 1 + uint8(m.UintN(5))
	case 1:
		c.Tenant = m.Uint32N(16)
	case 2:
		c.User ^= 1 << m.IntN(32)
	case 3:
		c.Users = 1 + uint8(m.UintN(8))
	case 4:
		c.Ends = 1 + uint8(m.UintN(8))
	case 5:
		c.Expiry ^= 1 << m.IntN(64)
	case 6:
		c.Limits[m.IntN(3)].Burst ^= 1 << m.IntN(30)
	case 7:
		c.Limits[m.IntN(3)].Rate ^= 1 << m.IntN(30)
	case 8:
		c.Limits[m.IntN(3)].Per ^= 1 << m.IntN(30)
	}
	return c
}

// Whether a command is right depends on all that it has.
func TestP11_4_AnotherCommand(t *testing.T) {
	m := mixed()
	for range 500 {
		seed := pick(m, someSeeds(m))
		c := signed(t, seed, pick(m, append(plainCommands(), someCommand(m))))
		for range 20 {
			d := nearby(m, c)
			switch {
			case d == c:
				isRight(t, seed, command(d))
			case frame.Check(command(d)) == api.OK:
				isWrong(t, seed, command(d))
			default:
				isBad(t, seed, command(d))
			}
		}
	}
}

// Each part of each command is changed to another valid one.
func TestP11_4_EachPartOfACommand(t *testing.T) {
	for i, change := range []struct {
		ops    []uint8
		change func(c *api.Command)
	}{
		{[]uint8{2}, func(c *api.Command) { c.Op = 4 }},
		{[]uint8{4}, func(c *api.Command) { c.Op = 2 }},
		{[]uint8{2, 4}, func(c *api.Command) { c.Op = 5 }},
		{[]uint8{1, 2, 3, 4, 5}, func(c *api.Command) { c.Tenant ^= 1 }},
		{[]uint8{1, 2, 3, 4, 5}, func(c *api.Command) { c.Tenant ^= 8 }},
		{[]uint8{1, 2, 3, 4, 5}, func(c *api.Command) { c.Expiry++ }},
		{[]uint8{1, 2, 3, 4, 5}, func(c *api.Command) { c.Expiry ^= 1 << 63 }},
		{[]uint8{5}, func(c *api.Command) { c.User++ }},
		{[]uint8{5}, func(c *api.Command) { c.User ^= 1 << 31 }},
		{[]uint8{1}, func(c *api.Command) { c.Users-- }},
		{[]uint8{1}, func(c *api.Command) { c.Ends-- }},
		{[]uint8{1, 3}, func(c *api.Command) { c.Limits[0].Burst++ }},
		{[]uint8{1, 3}, func(c *api.Command) { c.Limits[0].Rate++ }},
		{[]uint8{1, 3}, func(c *api.Command) { c.Limits[0].Per++ }},
		{[]uint8{1, 3}, func(c *api.Command) { c.Limits[1].Burst++ }},
		{[]uint8{1, 3}, func(c *api.Command) { c.Limits[1].Rate++ }},
		{[]uint8{1, 3}, func(c *api.Command) { c.Limits[1].Per++ }},
		{[]uint8{1, 3}, func(c *api.Command) { c.Limits[2].Burst++ }},
		{[]uint8{1, 3}, func(c *api.Command) { c.Limits[2].Rate++ }},
		{[]uint8{1, 3}, func(c *api.Command) { c.Limits[2].Per++ }},
		{[]uint8{1, 3}, func(c *api.Command) { c.Limits[0], c.Limits[1] = c.Limits[1], c.Limits[0] }},
		{[]uint8{1, 3}, func(c *api.Command) { c.Limits[1], c.Limits[2] = c.Limits[2], c.Limits[1] }},
	} {
		for _, c := range plainCommands() {
			if !slices.Contains(change.ops, c.Op) {
				continue
			}
			c = signed(t, counted(), c)
			d := c
			change.change(&d)
			if frame.Check(command(d)) != api.OK || d == c {
				t.Fatalf("%d: %v is no other valid command than %v", i, d, c)
			}
			isRight(t, counted(), command(c))
			isWrong(t, counted(), command(d))
		}
	}
}

// answers holds what all functions of the package answer to the same arguments.
type answers struct {
	tenant, commands               api.Digest
	token                          api.Token
	sign                           api.Command
	right                          bool
	tenantE, tokenE, signE, rightE api.Errno
}

type question struct {
	seed api.Digest
	a    api.Token
	f    api.Frame
}

func (q question) ask() (s answers) {
	s.tenant, s.tenantE = keys.Tenant(q.seed, q.a.Tenant, q.a.Epoch)
	s.commands = keys.Commands(q.seed)
	s.token, s.tokenE = tokenOf(q.seed, q.a)
	s.sign, s.signE = keys.Sign(q.seed, q.f.Command)
	s.right, s.rightE = keys.Right(q.seed, q.f)
	return s
}

// want puts down what the definitions say.
func (q question) want() (s answers) {
	s.tenant, s.tenantE = wantTenant(q.seed, q.a.Tenant, q.a.Epoch)
	s.commands = commandKeyOf(q.seed)
	s.token, s.tokenE = wantToken(q.seed, q.a)
	s.sign, s.signE = wantSign(q.seed, q.f.Command)
	s.right, s.rightE = wantRight(q.seed, q.f)
	return s
}

// anyFrame gives a frame that is often right, and often not valid.
func anyFrame(m *rand.Rand, seed api.Digest) api.Frame {
	f := command(someCommand(m))
	if m.IntN(2) == 0 {
		f = request(someToken(m))
		f.Request.Endpoint, f.Request.Cost = uint16(m.Uint32()), someWord(m)
	}
	switch m.IntN(8) {
	case 0:
		f.Request.Token.Tenant = someWord(m)
	case 1:
		f.Request.Token.Epoch = pick(m, badEpochs())
	case 2:
		f.Command = pick(m, badCommands())
	case 3:
		f.Kind = pick(m, []uint8{0, 1, 2, 3, 255})
	}
	if m.IntN(3) > 0 && f.Kind == 1 {
		f.Request.Token = trueToken(seed, f.Request.Token)
	}
	if m.IntN(3) > 0 && f.Kind == 2 {
		f.Command = trueCommand(seed, f.Command)
	}
	return f
}

func anyQuestion(m *rand.Rand) question {
	q := question{seed: pick(m, someSeeds(m)), a: someToken(m)}
	if m.IntN(4) == 0 {
		q.a.Tenant = someWord(m)
	}
	if m.IntN(4) == 0 {
		q.a.Epoch = pick(m, append(badEpochs(), m.Uint32()))
	}
	q.f = anyFrame(m, q.seed)
	return q
}

func TestP1_TheSameCallHasTheSameAnswer(t *testing.T) {
	m := mixed()
	var questions []question
	var first []answers
	for range 500 {
		q := anyQuestion(m)
		questions, first = append(questions, q), append(first, q.ask())
	}
	for i, q := range slices.Backward(questions) {
		if again := q.ask(); again != first[i] {
			t.Fatalf("%v: %v, then %v", q, first[i], again)
		}
	}
}

// Any values at all are answered, and an answer with an error has nothing else.
func TestP1_AllArgumentsAreAnswered(t *testing.T) {
	m := mixed()
	for range 5000 {
		q := anyQuestion(m)
		if got, want := q.ask(), q.want(); got != want {
			t.Fatalf("%v: %v, not %v", q, got, want)
		}
	}
}
