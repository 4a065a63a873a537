package token_test

import (
	"bytes"
	"crypto/hmac"
	"crypto/sha256"
	"encoding/binary"
	"encoding/hex"
	"math"
	"math/rand/v2"
	"slices"
	"testing"

	"spigot/api"
	"spigot/token"
)

const (
	messageSize = 20
	size        = 52
)

// mixed gives numbers that are mixed, the same ones in each test.
func mixed() *rand.Rand { return rand.New(rand.NewPCG(8, 52)) }

func pick[E any](m *rand.Rand, l []E) E { return l[m.IntN(len(l))] }

func someBytes(m *rand.Rand, n int) []byte {
	b := make([]byte, n)
	for i := range b {
		b[i] = byte(m.Uint32())
	}
	return b
}

func someDigest(m *rand.Rand) api.Digest { return api.Digest(someBytes(m, 32)) }

func allOnes() api.Digest { return api.Digest(bytes.Repeat([]byte{255}, 32)) }

// counted is the key with the bytes 1 to 32.
func counted() (d api.Digest) {
	for i := range d {
		d[i] = byte(i + 1)
	}
	return d
}

func someKeys(m *rand.Rand) []api.Digest {
	return []api.Digest{{}, {0: 1}, {31: 1}, allOnes(), counted(), someDigest(m), someDigest(m)}
}

// someToken gives a token with any Tag, and often with numbers at an end.
func someToken(m *rand.Rand) api.Token {
	word := func() uint32 { return pick(m, []uint32{0, 1, 15, 1000000, math.MaxUint32, m.Uint32(), m.Uint32()}) }
	expiry := pick(m, []uint64{0, 1, 258, math.MaxUint64 - 1, math.MaxUint64, m.Uint64(), m.Uint64() >> 32})
	return api.Token{Tenant: word(), User: word(), Epoch: word(), Expiry: expiry, Tag: someDigest(m)}
}

// edgeTokens are tokens with each bit of each number alone, and with all bits but this one.
func edgeTokens() []api.Token {
	l := []api.Token{{}}
	for i := range 64 {
		x := uint64(1) << i
		w := uint32(x)
		l = append(l, api.Token{Expiry: x}, api.Token{Expiry: ^x})
		l = append(l, api.Token{Tenant: w}, api.Token{User: w}, api.Token{Epoch: w})
		l = append(l, api.Token{Tenant: ^w}, api.Token{User: ^w}, api.Token{Epoch: ^w})
	}
	return l
}

// wantMessage puts down the message as the definition says.
func wantMessage(t api.Token) []byte {
	b := binary.BigEndian.AppendUint32(nil, t.Tenant)
	b = binary.BigEndian.AppendUint32(b, t.User)
	b = binary.BigEndian.AppendUint32(b, t.Epoch)
	return binary.BigEndian.AppendUint64(b, t.Expiry)
}

// wantTag gives the library's tag of the message.
func wantTag(key api.Digest, t api.Token) api.Digest {
	h := hmac.New(sha256.New, key[:])
	h.Write(wantMessage(t))
	return api.Digest(h.Sum(nil))
}

func wantVerify(key api.Digest, t api.Token) api.Errno {
	if t.Tag != wantTag(key, t) {
		return api.ErrFalse
	}
	return api.OK
}

func wantValid(key api.Digest, t api.Token, tick uint64) api.Errno {
	if e := wantVerify(key, t); e != api.OK {
		return e
	}
	if t.Expiry < tick {
		return api.ErrLate
	}
	return api.OK
}

func wantRead(b []byte) (api.Token, api.Errno) {
	if len(b) != size {
		return api.Token{}, api.ErrForm
	}
	word := func(at int) uint32 { return binary.BigEndian.Uint32(b[at:]) }
	return api.Token{Tenant: word(0), User: word(4), Epoch: word(8), Expiry: binary.BigEndian.Uint64(b[12:]), Tag: api.Digest(b[messageSize:])}, api.OK
}

// trueToken gives the token with a true Tag, which the library made.
func trueToken(key api.Digest, t api.Token) api.Token {
	t.Tag = wantTag(key, t)
	return t
}

func mintAgain(key api.Digest, t api.Token) api.Token {
	return token.Mint(key, t.Tenant, t.User, t.Epoch, t.Expiry)
}

func flipped(d api.Digest, bit int) api.Digest {
	d[bit/8] ^= 1 << (bit % 8)
	return d
}

// othersOf are the token's neighbours: in each one a single bit of a number is another one.
func othersOf(t api.Token) []api.Token {
	var l []api.Token
	for i := range 32 {
		w := uint32(1) << i
		a, b, c := t, t, t
		a.Tenant ^= w
		b.User ^= w
		c.Epoch ^= w
		l = append(l, a, b, c)
	}
	for i := range 64 {
		a := t
		a.Expiry ^= 1 << i
		l = append(l, a)
	}
	return l
}

// swapped are the token with numbers that stand in for each other.
func swapped(t api.Token) []api.Token {
	a, b, c, d := t, t, t, t
	a.Tenant, a.User = t.User, t.Tenant
	b.User, b.Epoch = t.Epoch, t.User
	c.Tenant, c.Epoch = t.Epoch, t.Tenant
	d.Expiry = t.Expiry<<32 | t.Expiry>>32
	return []api.Token{a, b, c, d}
}

// ticksAround are the ends, and ticks about an expiry; some of them wrap around.
func ticksAround(expiry uint64) []uint64 {
	return []uint64{0, 1, expiry - 1, expiry, expiry + 1, expiry / 2, expiry ^ 1<<63, 1 << 32, 1<<63 - 1, 1 << 63, math.MaxUint64 - 1, math.MaxUint64}
}

func verifies(t *testing.T, key api.Digest, a api.Token) {
	t.Helper()
	if e, want := token.Verify(key, a), wantVerify(key, a); e != want {
		t.Fatalf("Verify(%x, %v) = %d, not %d", key, a, e, want)
	}
	for _, tick := range ticksAround(a.Expiry) {
		if e, want := token.Valid(key, a, tick), wantValid(key, a, tick); e != want {
			t.Fatalf("Valid(%x, %v, %d) = %d, not %d", key, a, tick, e, want)
		}
	}
}

// isFalse tells that a token is false, and at each tick: also where it is late.
func isFalse(t *testing.T, key api.Digest, a api.Token) {
	t.Helper()
	if e := token.Verify(key, a); e != api.ErrFalse {
		t.Fatalf("Verify(%x, %v) = %d", key, a, e)
	}
	for _, tick := range ticksAround(a.Expiry) {
		if e := token.Valid(key, a, tick); e != api.ErrFalse {
			t.Fatalf("Valid(%x, %v, %d) = %d", key, a, tick, e)
		}
	}
}

func read(t *testing.T, b []byte) api.Token {
	t.Helper()
	a, e := token.Read(b)
	if e != api.OK {
		t.Fatalf("Read(%v): error %d", b, e)
	}
	return a
}

func reads(t *testing.T, b []byte) {
	t.Helper()
	want, wantE := wantRead(b)
	if a, e := token.Read(b); a != want || e != wantE {
		t.Fatalf("Read(%v) = %v, %d, not %v, %d", b, a, e, want, wantE)
	}
}

func TestNumbersAreThoseOfTheChapter(t *testing.T) {
	if api.OK != 0 || api.ErrForm != 12 || api.ErrFalse != 22 || api.ErrLate != 24 || len(api.Digest{}) != size-messageSize {
		t.Error(api.OK, api.ErrForm, api.ErrFalse, api.ErrLate, len(api.Digest{}))
	}
}

func TestP8_1_MessageOfTheExample(t *testing.T) {
	want := [20]byte{0, 0, 0, 1, 0, 0, 0, 2, 0, 0, 0, 3, 0, 0, 0, 0, 0, 0, 1, 2}
	if b := token.Bytes(api.Token{Tenant: 1, User: 2, Epoch: 3, Expiry: 258}); b != want {
		t.Error(b)
	}
}

func TestP8_1_KnownMessages(t *testing.T) {
	const top = math.MaxUint32
	for _, c := range []struct {
		a    api.Token
		want [20]byte
	}{
		{api.Token{}, [20]byte{}},
		{api.Token{Tag: allOnes()}, [20]byte{}}, // the Tag is not of the message
		{api.Token{Tenant: top}, [20]byte{0: 255, 1: 255, 2: 255, 3: 255}},
		{api.Token{User: top}, [20]byte{4: 255, 5: 255, 6: 255, 7: 255}},
		{api.Token{Epoch: top}, [20]byte{8: 255, 9: 255, 10: 255, 11: 255}},
		{api.Token{Expiry: math.MaxUint64}, [20]byte{12: 255, 13: 255, 14: 255, 15: 255, 16: 255, 17: 255, 18: 255, 19: 255}},
		{api.Token{Tenant: 0x01020304, User: 0x05060708, Epoch: 0x090a0b0c, Expiry: 0x0d0e0f1011121314},
			[20]byte{1, 2, 3, 4, 5, 6, 7, 8, 9, 10, 11, 12, 13, 14, 15, 16, 17, 18, 19, 20}},
	} {
		if b := token.Bytes(c.a); b != c.want {
			t.Errorf("Bytes(%v) = %v", c.a, b)
		}
	}
}

func TestP8_1_MessagesOfManyTokens(t *testing.T) {
	m := mixed()
	l := edgeTokens()
	for range 3000 {
		l = append(l, someToken(m))
	}
	for _, a := range l {
		if b := token.Bytes(a); !bytes.Equal(b[:], wantMessage(a)) {
			t.Fatalf("Bytes(%v) = %v", a, b)
		}
	}
}

// These tags were computed by another program.
func TestP8_1_KnownTags(t *testing.T) {
	for _, c := range []struct {
		key                 api.Digest
		tenant, user, epoch uint32
		expiry              uint64
		want                string
	}{
		{api.Digest{}, 0, 0, 0, 0, "600933d0f4553b3e019a240fcef903b1bc97c40815a4099765b8e800c9f58e24"},
		{api.Digest{}, 1, 2, 3, 258, "b1d2a12aceeae9869f66190af766ceff16da80703e150070cb8089b18409649f"},
		{counted(), 1, 2, 3, 258, "48e86d4df6162f418bfe73d66707e9a24585c0e486214b72c5ce57fbe24b57d5"},
		{counted(), 0x01020304, 0x05060708, 0x090a0b0c, 0x0d0e0f1011121314, "e9409d8d95e0ed8f23d6859aa83bf603fb710944c832d177fa75b963da4674b7"},
		{allOnes(), math.MaxUint32, math.MaxUint32, math.MaxUint32, math.MaxUint64, "52d21759fd66a2e842dc5981dae34a44d6eede4c849535a4851e0a3e5c9ca31e"},
	} {
		a := token.Mint(c.key, c.tenant, c.user, c.epoch, c.expiry)
		want := api.Token{Tenant: c.tenant, User: c.user, Epoch: c.epoch, Expiry: c.expiry, Tag: a.Tag}
		if a != want || hex.EncodeToString(a.Tag[:]) != c.want {
			t.Errorf("Mint(%x, %d, %d, %d, %d) = %v", c.key, c.tenant, c.user, c.epoch, c.expiry, a)
		}
	}
}

func TestP8_1_MintOfManyNumbers(t *testing.T) {
	m := mixed()
	l := edgeTokens()
	for range 1000 {
		l = append(l, someToken(m))
	}
	for _, a := range l {
		key := pick(m, someKeys(m))
		if got := mintAgain(key, a); got != trueToken(key, a) {
			t.Fatalf("Mint(%x, ..) of %v = %v", key, a, got)
		}
	}
}

// Each bit of a key counts.
func TestP8_1_MintWithManyKeys(t *testing.T) {
	m := mixed()
	for bit := range 256 {
		for _, key := range []api.Digest{flipped(api.Digest{}, bit), flipped(allOnes(), bit)} {
			a := someToken(m)
			if got := mintAgain(key, a); got != trueToken(key, a) {
				t.Fatalf("Mint(%x, ..) of %v = %v", key, a, got)
			}
		}
	}
}

// The chapter's example: what is minted is valid at 258, and late at 259.
func TestP8_2_Example(t *testing.T) {
	m := mixed()
	for _, key := range someKeys(m) {
		a := token.Mint(key, 1, 2, 3, 258)
		if e := token.Verify(key, a); e != api.OK {
			t.Errorf("Verify: %d", e)
		}
		for _, c := range []struct {
			tick uint64
			want api.Errno
		}{{0, api.OK}, {257, api.OK}, {258, api.OK}, {259, api.ErrLate}, {math.MaxUint64, api.ErrLate}} {
			if e := token.Valid(key, a, c.tick); e != c.want {
				t.Errorf("Valid at %d: %d", c.tick, e)
			}
		}
		for bit := range 256 {
			b := a
			b.Tag = flipped(a.Tag, bit)
			isFalse(t, key, b)
		}
	}
}

func TestP8_2_ExpiriesAtTheEnds(t *testing.T) {
	for _, c := range []struct {
		expiry, tick uint64
		want         api.Errno
	}{
		{0, 0, api.OK},
		{0, 1, api.ErrLate},
		{0, math.MaxUint64, api.ErrLate},
		{1, 1, api.OK},
		{1, 2, api.ErrLate},
		{1<<63 - 1, 1 << 63, api.ErrLate},
		{1 << 63, 1<<63 - 1, api.OK},
		{1 << 63, 1 << 63, api.OK},
		{math.MaxUint64 - 1, math.MaxUint64 - 1, api.OK},
		{math.MaxUint64 - 1, math.MaxUint64, api.ErrLate},
		{math.MaxUint64, 0, api.OK},
		{math.MaxUint64, math.MaxUint64, api.OK},
	} {
		a := trueToken(counted(), api.Token{Tenant: 1, User: 2, Epoch: 3, Expiry: c.expiry})
		if e := token.Valid(counted(), a, c.tick); e != c.want {
			t.Errorf("Valid with the expiry %d, at %d: %d", c.expiry, c.tick, e)
		}
		// An expiry is nothing to Verify.
		if e := token.Verify(counted(), a); e != api.OK {
			t.Errorf("Verify with the expiry %d: %d", c.expiry, e)
		}
	}
}

// A tag that the library made is as true as one that was minted.
func TestP8_2_TrueTokens(t *testing.T) {
	m := mixed()
	l := edgeTokens()
	for range 200 {
		l = append(l, someToken(m))
	}
	for _, a := range l {
		key := pick(m, someKeys(m))
		a = trueToken(key, a)
		if e := token.Verify(key, a); e != api.OK {
			t.Fatalf("Verify(%x, %v) = %d", key, a, e)
		}
		verifies(t, key, a)
	}
}

// ErrFalse comes before ErrLate, as Valid returns Verify's error first.
func TestP8_2_FalseComesBeforeLate(t *testing.T) {
	a := token.Mint(counted(), 1, 2, 3, 258)
	a.Tag[7]++
	for _, tick := range []uint64{0, 258, 259, math.MaxUint64} {
		if e := token.Valid(counted(), a, tick); e != api.ErrFalse {
			t.Errorf("Valid at %d: %d", tick, e)
		}
	}
}

func TestP8_2_TagsThatAreNotTrue(t *testing.T) {
	m := mixed()
	for range 50 {
		key, a := pick(m, someKeys(m)), someToken(m)
		tag := wantTag(key, a)
		for bit := range 256 {
			a.Tag = flipped(tag, bit)
			isFalse(t, key, a)
		}
		back := tag
		slices.Reverse(back[:])
		wrong := []api.Digest{{}, allOnes(), key, someDigest(m), sha256.Sum256(wantMessage(a)), back, api.Digest(slices.Concat(tag[16:], tag[:16]))}
		for n := range 32 {
			// the right beginning, and the right end
			wrong = append(wrong, api.Digest(slices.Concat(tag[:n], make([]byte, 32-n))), api.Digest(slices.Concat(make([]byte, 32-n), tag[32-n:])))
		}
		for _, a.Tag = range wrong {
			isFalse(t, key, a)
		}
	}
}

func TestP8_2_OtherKeys(t *testing.T) {
	m := mixed()
	for _, key := range someKeys(m) {
		a := trueToken(key, someToken(m))
		for bit := range 256 {
			isFalse(t, flipped(key, bit), a)
		}
		isFalse(t, a.Tag, a)
		isFalse(t, someDigest(m), a)
	}
}

func TestP8_2_OtherMessages(t *testing.T) {
	m := mixed()
	for range 30 {
		key := pick(m, someKeys(m))
		a := trueToken(key, someToken(m))
		for _, b := range othersOf(a) {
			isFalse(t, key, b)
		}
		for _, b := range swapped(a) {
			verifies(t, key, b)
		}
	}
}

func TestP8_3_KnownBytes(t *testing.T) {
	a := api.Token{Tenant: 1, User: 2, Epoch: 3, Expiry: 258, Tag: counted()}
	want := []byte{0, 0, 0, 1, 0, 0, 0, 2, 0, 0, 0, 3, 0, 0, 0, 0, 0, 0, 1, 2,
		1, 2, 3, 4, 5, 6, 7, 8, 9, 10, 11, 12, 13, 14, 15, 16, 17, 18, 19, 20, 21, 22, 23, 24, 25, 26, 27, 28, 29, 30, 31, 32}
	if b := token.Write(a); !bytes.Equal(b, want) {
		t.Errorf("Write(%v) = %v", a, b)
	}
	if b := read(t, want); b != a {
		t.Errorf("Read(%v) = %v", want, b)
	}
	if b := token.Write(api.Token{}); !bytes.Equal(b, make([]byte, size)) {
		t.Errorf("Write of the zero token = %v", b)
	}
	if b := read(t, make([]byte, size)); b != (api.Token{}) {
		t.Errorf("Read of bytes 0 = %v", b)
	}
}

func TestP8_3_BytesOfManyTokens(t *testing.T) {
	m := mixed()
	l := edgeTokens()
	for bit := range 256 {
		l = append(l, api.Token{Tag: flipped(api.Digest{}, bit)}, api.Token{Tag: flipped(allOnes(), bit)})
	}
	for range 3000 {
		l = append(l, someToken(m))
	}
	for _, a := range l {
		want := append(wantMessage(a), a.Tag[:]...)
		if b := token.Write(a); !bytes.Equal(b, want) {
			t.Fatalf("Write(%v) = %v", a, b)
		}
		if b := read(t, want); b != a {
			t.Fatalf("Read(%v) = %v", want, b)
		}
	}
}

// Any 52 bytes are those of a token, whether it is true or not.
func TestP8_3_EachByteIsRead(t *testing.T) {
	for at := range size {
		for x := range 256 {
			b := make([]byte, size)
			b[at] = byte(x)
			reads(t, b)
			read(t, b)
		}
	}
}

func TestP8_3_BytesOfOtherLengths(t *testing.T) {
	m := mixed()
	for _, b := range [][]byte{nil, {}} {
		if a, e := token.Read(b); a != (api.Token{}) || e != api.ErrForm {
			t.Errorf("Read(%v) = %v, %d", b, a, e)
		}
	}
	lengths := []int{256 + size, 1000, 65536, 65536 + size}
	for n := range 300 {
		lengths = append(lengths, n)
	}
	for _, n := range lengths {
		for _, b := range [][]byte{make([]byte, n), someBytes(m, n)} {
			if a, e := token.Read(b); n != size && (a != (api.Token{}) || e != api.ErrForm) {
				t.Fatalf("Read of %d bytes = %v, %d", n, a, e)
			}
			reads(t, b)
		}
	}
}

// A token with a byte more or less in front or behind is none.
func TestP8_3_PartsOfAToken(t *testing.T) {
	whole := token.Write(token.Mint(counted(), 1, 2, 3, 258))
	for _, b := range [][]byte{whole[1:], whole[:size-1], append([]byte{0}, whole...), append(slices.Clone(whole), 0), slices.Concat(whole, whole), whole[:messageSize], whole[messageSize:]} {
		if a, e := token.Read(b); a != (api.Token{}) || e != api.ErrForm {
			t.Errorf("Read of %d bytes = %v, %d", len(b), a, e)
		}
	}
}

func TestP8_4_WhatIsMintedVerifies(t *testing.T) {
	m := mixed()
	for range 1000 {
		key, a := pick(m, someKeys(m)), someToken(m)
		b := mintAgain(key, a)
		if e := token.Verify(key, b); e != api.OK {
			t.Fatalf("Verify(%x, %v) = %d", key, b, e)
		}
		if e := token.Valid(key, b, b.Expiry); e != api.OK {
			t.Fatalf("Valid(%x, %v, %d) = %d", key, b, b.Expiry, e)
		}
	}
}

// Whoever is asked with any Tag: it is true if it is the one that is minted, and otherwise not.
func TestP8_4_JustOneTagIsTrue(t *testing.T) {
	m := mixed()
	for range 40 {
		key, a := pick(m, someKeys(m)), someToken(m)
		minted := mintAgain(key, a)
		tags := []api.Digest{minted.Tag, mintAgain(minted.Tag, a).Tag, {}, allOnes()}
		for bit := range 256 {
			tags = append(tags, flipped(minted.Tag, bit))
		}
		for range 100 {
			tags = append(tags, someDigest(m))
		}
		right := 0
		for _, a.Tag = range tags {
			if token.Verify(key, a) == api.OK {
				right++
			}
		}
		if right != 1 {
			t.Fatalf("%d of these tags are true for %x and %v", right, key, minted)
		}
	}
}

func TestP8_4_WhatIsChangedIsAnotherMessage(t *testing.T) {
	m := mixed()
	for range 300 {
		a := someToken(m)
		message := token.Bytes(a)
		for _, b := range othersOf(a) {
			if token.Bytes(b) == message {
				t.Fatalf("%v and %v have the same message", a, b)
			}
		}
		for _, b := range append(swapped(a), someToken(m), a) {
			b.Tag = a.Tag
			if (token.Bytes(b) == message) != (a == b) {
				t.Fatalf("%v and %v: the messages %v and %v", a, b, message, token.Bytes(b))
			}
		}
	}
}

// The Tag is no number: tokens that differ in it alone have the same message.
func TestP8_4_TheTagIsNotOfTheMessage(t *testing.T) {
	m := mixed()
	for range 300 {
		a := someToken(m)
		b := a
		b.Tag = someDigest(m)
		if token.Bytes(a) != token.Bytes(b) {
			t.Fatalf("%v and %v have other messages", a, b)
		}
	}
}

func TestP8_4_WriteAndReadAreInverse(t *testing.T) {
	m := mixed()
	for range 3000 {
		a, b := someToken(m), someBytes(m, size)
		if got := read(t, token.Write(a)); got != a {
			t.Fatalf("%v has become %v", a, got)
		}
		if got := token.Write(read(t, b)); !bytes.Equal(got, b) {
			t.Fatalf("%v has become %v", b, got)
		}
		if message := token.Bytes(a); !bytes.Equal(token.Write(a)[:messageSize], message[:]) {
			t.Fatalf("the bytes of %v do not begin with its message", a)
		}
	}
}

func TestP8_4_ValidAtEachTickBefore(t *testing.T) {
	m := mixed()
	for range 300 {
		key, a := pick(m, someKeys(m)), someToken(m)
		for _, a := range []api.Token{a, mintAgain(key, a)} {
			ticks := append(ticksAround(a.Expiry), m.Uint64(), m.Uint64()>>m.IntN(64))
			slices.Sort(ticks)
			valid := true
			for _, tick := range ticks {
				e := token.Valid(key, a, tick)
				if e == api.OK && !valid {
					t.Fatalf("%v is valid at %d, and not before", a, tick)
				}
				valid = e == api.OK
			}
		}
	}
}

// room is the size of the room that spare leaves.
const room = 60

// spare gives a copy with marked room behind it.
func spare(b []byte) []byte {
	return append(slices.Clone(b), bytes.Repeat([]byte{77}, room)...)[:len(b)]
}

func TestP1_ArgumentsAreOnlyRead(t *testing.T) {
	m := mixed()
	for n := range 2 * size {
		before := someBytes(m, n)
		b := spare(before)
		token.Read(b)
		behind := b[n : n+room]
		if !bytes.Equal(b, before) || !bytes.Equal(behind, bytes.Repeat([]byte{77}, room)) {
			t.Fatalf("%v has become %v, and %v behind it", before, b, behind)
		}
	}
}

// What stands in the room behind some bytes is not of them.
func TestP1_NothingBehindTheEndIsLookedAt(t *testing.T) {
	m := mixed()
	whole := someBytes(m, 3*size)
	for n := range 2*size + 1 {
		reads(t, whole[:n])
		reads(t, whole[n:][:size:size])
		if a, b := read(t, whole[n:][:size]), read(t, slices.Clone(whole[n:][:size])); a != b {
			t.Fatalf("%v with room behind it, and %v without", a, b)
		}
	}
}

func TestP1_ResultsShareNoMemory(t *testing.T) {
	m := mixed()
	for range 300 {
		a := someToken(m)
		want := append(wantMessage(a), a.Tag[:]...)
		before := a
		one, two := token.Write(a), token.Write(a)
		argument := spare(want)
		got := read(t, argument)
		clear(argument)
		clear(one[:cap(one)])
		if got != before || a != before || !bytes.Equal(two, want) {
			t.Fatalf("%v: %v, %v", before, got, two)
		}
	}
}

// answers holds what all functions of the package answer to the same arguments.
type answers struct {
	message       [20]byte
	minted, read  api.Token
	verify, valid api.Errno
	readE         api.Errno
	written       string
}

type question struct {
	key  api.Digest
	a    api.Token
	tick uint64
	b    []byte
}

func (q question) ask() (s answers) {
	s.message = token.Bytes(q.a)
	s.minted = mintAgain(q.key, q.a)
	s.verify = token.Verify(q.key, q.a)
	s.valid = token.Valid(q.key, q.a, q.tick)
	s.written = string(token.Write(q.a))
	s.read, s.readE = token.Read(q.b)
	return s
}

// want puts down what the definitions say.
func (q question) want() (s answers) {
	s.message = [20]byte(wantMessage(q.a))
	s.minted = trueToken(q.key, q.a)
	s.verify = wantVerify(q.key, q.a)
	s.valid = wantValid(q.key, q.a, q.tick)
	s.written = string(wantMessage(q.a)) + string(q.a.Tag[:])
	s.read, s.readE = wantRead(q.b)
	return s
}

// anyQuestion gives any arguments at all; half of the tokens are true.
func anyQuestion(m *rand.Rand) question {
	q := question{key: pick(m, someKeys(m)), a: someToken(m)}
	if m.IntN(2) == 0 {
		q.a = trueToken(q.key, q.a)
	}
	q.tick = pick(m, append(ticksAround(q.a.Expiry), m.Uint64()))
	q.b = someBytes(m, pick(m, []int{0, 1, 19, 20, 21, 32, 51, 52, 52, 52, 53, 104, m.IntN(200)}))
	return q
}

func TestP1_TheSameCallHasTheSameAnswer(t *testing.T) {
	m := mixed()
	var questions []question
	var before []answers
	for range 1000 {
		q := anyQuestion(m)
		questions, before = append(questions, q), append(before, q.ask())
	}
	for i, q := range slices.Backward(questions) {
		if again := q.ask(); again != before[i] {
			t.Fatalf("%v: %v, then %v", q, before[i], again)
		}
	}
}

// Any values at all are answered, and an answer with an error has nothing else.
func TestP1_AllArgumentsAreAnswered(t *testing.T) {
	m := mixed()
	for range 10000 {
		q := anyQuestion(m)
		if got, want := q.ask(), q.want(); got != want {
			t.Fatalf("%v: %v, not %v", q, got, want)
		}
	}
}
