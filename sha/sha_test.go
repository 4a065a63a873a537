package sha_test

import (
	"bytes"
	"crypto/sha256"
	"encoding"
	"encoding/binary"
	"encoding/hex"
	"hash"
	"math"
	"slices"
	"strings"
	"testing"

	"spigot/api"
	"spigot/sha"
)

const (
	maxHash = 128000
	size    = 64
)

var firstWords = [8]uint32{0x6a09e667, 0xbb67ae85, 0x3c6ef372, 0xa54ff53a, 0x510e527f, 0x9b05688c, 0x1f83d9ab, 0x5be0cd19}

// numbers gives numbers that are mixed, the same ones in each test.
type numbers struct{ x uint64 }

func mixed() *numbers { return &numbers{x: 88172645463325252} }

func (m *numbers) next() uint64 {
	m.x ^= m.x << 13
	m.x ^= m.x >> 7
	m.x ^= m.x << 17
	return m.x
}

func (m *numbers) below(n int) int { return int(m.next() % uint64(n)) }

func pick[E any](m *numbers, l []E) E { return l[m.below(len(l))] }

func someBytes(m *numbers, n int) []byte {
	b := make([]byte, n)
	for i := range b {
		b[i] = byte(m.next() >> 20)
	}
	return b
}

// someWords gives eight words, some of them without any bits, or with all of them.
func someWords(m *numbers) [8]uint32 {
	var w [8]uint32
	for i := range w {
		w[i] = pick(m, []uint32{0, math.MaxUint32, 1 << 31, uint32(m.next() >> 9), uint32(m.next() >> 9), uint32(m.next() >> 9)})
	}
	return w
}

// someHash gives a valid hash of n bytes, with words that need not come from any bytes.
func someHash(m *numbers, n int) api.Hash {
	return api.Hash{Words: someWords(m), Rest: someBytes(m, n%size), N: n}
}

// edges are numbers of bytes around whole blocks, at which a padding has another block, and at the ends.
func edges() []int {
	l := []int{2, 3, 100, 1000, 4321, 99999}
	for _, n := range []int{0, 64, 128, 192, 640, 64000, maxHash - 64, maxHash} {
		for _, d := range []int{-10, -9, -8, -7, -1, 0, 1, 8} {
			if n+d >= 0 && n+d <= maxHash {
				l = append(l, n+d)
			}
		}
	}
	return l
}

func tooMany() []int { return []int{maxHash + 1, maxHash + 2, maxHash + 64, 131072, 256000, 1 << 20} }

func sum(t *testing.T, b []byte) api.Digest {
	t.Helper()
	d, e := sha.Sum(b)
	if e != api.OK {
		t.Fatalf("Sum of %d bytes: error %d", len(b), e)
	}
	return d
}

func write(t *testing.T, h api.Hash, b []byte) api.Hash {
	t.Helper()
	next, e := sha.Write(h, b)
	if e != api.OK {
		t.Fatalf("Write of %d bytes behind %d: error %d", len(b), h.N, e)
	}
	return next
}

func finish(t *testing.T, h api.Hash) api.Digest {
	t.Helper()
	d, e := sha.Finish(h)
	if e != api.OK {
		t.Fatalf("Finish of %v: error %d", h, e)
	}
	return d
}

func pad(t *testing.T, n int) []byte {
	t.Helper()
	p, e := sha.Pad(n)
	if e != api.OK {
		t.Fatalf("Pad(%d): error %d", n, e)
	}
	return p
}

func block(t *testing.T, w [8]uint32, b []byte) [8]uint32 {
	t.Helper()
	next, e := sha.Block(w, b)
	if e != api.OK {
		t.Fatalf("Block of %d bytes: error %d", len(b), e)
	}
	return next
}

// sameHash compares hashes; a Rest of no bytes may be nil or empty.
func sameHash(a, b api.Hash) bool {
	return a.Words == b.Words && a.N == b.N && bytes.Equal(a.Rest, b.Rest)
}

// The state of the library's SHA-256 in bytes: four bytes that say what it is, eight words, a block, and the number of bytes.
const state = "sha\x03"

// library gives the library's SHA-256 in the state of a hash.
func library(t *testing.T, h api.Hash) hash.Hash {
	t.Helper()
	b := []byte(state)
	for _, w := range h.Words {
		b = binary.BigEndian.AppendUint32(b, w)
	}
	b = append(append(b, h.Rest...), make([]byte, size-len(h.Rest))...)
	b = binary.BigEndian.AppendUint64(b, uint64(h.N))
	l := sha256.New()
	if e := l.(encoding.BinaryUnmarshaler).UnmarshalBinary(b); e != nil {
		t.Fatal(e)
	}
	return l
}

// hashOf gives the hash that the library's state is.
func hashOf(t *testing.T, l hash.Hash) api.Hash {
	t.Helper()
	b, e := l.(encoding.BinaryMarshaler).MarshalBinary()
	if e != nil || len(b) != len(state)+32+size+8 || string(b[:len(state)]) != state {
		t.Fatal(b, e)
	}
	b = b[len(state):]
	var h api.Hash
	for i := range h.Words {
		h.Words[i] = binary.BigEndian.Uint32(b[4*i:])
	}
	h.N = int(binary.BigEndian.Uint64(b[32+size:]))
	h.Rest = b[32 : 32+h.N%size]
	return h
}

// wantWrite gives the hash that the library has after bytes were written behind those of a hash.
func wantWrite(t *testing.T, h api.Hash, b []byte) api.Hash {
	t.Helper()
	l := library(t, h)
	l.Write(b)
	return hashOf(t, l)
}

func wantFinish(t *testing.T, h api.Hash) api.Digest {
	t.Helper()
	return api.Digest(library(t, h).Sum(nil))
}

func TestLimitsAreThoseOfTheChapter(t *testing.T) {
	if api.MaxHash != maxHash || len(api.Digest{}) != 32 {
		t.Error(api.MaxHash, len(api.Digest{}))
	}
}

// Digests that are known, some of them from FIPS 180's examples.
func TestP5_1_KnownDigests(t *testing.T) {
	for _, c := range []struct{ text, want string }{
		{"", "e3b0c44298fc1c149afbf4c8996fb92427ae41e4649b934ca495991b7852b855"},
		{"abc", "ba7816bf8f01cfea414140de5dae2223b00361a396177a9cb410ff61f20015ad"},
		{"abcdbcdecdefdefgefghfghighijhijkijkljklmklmnlmnomnopnopq", "248d6a61d20638b8e5c026930c3e6039a33ce45964ff2167f6ecedd419db06c1"},
		{"abcdefghbcdefghicdefghijdefghijkefghijklfghijklmghijklmnhijklmnoijklmnopjklmnopqklmnopqrlmnopqrsmnopqrstnopqrstu",
			"cf5b16a778af8380036ce59e7b0492370b249b11e8f07a51afac45037afee9d1"},
		{"The quick brown fox jumps over the lazy dog", "d7a8fbb307d7809469ca9abcb0082e4f8d5651e46d3cdb762d02d0bf37c9e592"},
	} {
		if d := sum(t, []byte(c.text)); hex.EncodeToString(d[:]) != c.want {
			t.Errorf("Sum(%q) = %x", c.text, d)
		}
	}
}

func TestP5_1_SumOfAllShortLengths(t *testing.T) {
	m := mixed()
	for n := range 700 {
		b := someBytes(m, n)
		if d := sum(t, b); d != sha256.Sum256(b) {
			t.Errorf("Sum(%x) = %x", b, d)
		}
	}
	if sum(t, nil) != sum(t, []byte{}) {
		t.Error("nil and no bytes have other digests")
	}
}

func TestP5_1_SumAtTheEdges(t *testing.T) {
	m := mixed()
	for _, n := range edges() {
		for _, b := range [][]byte{someBytes(m, n), make([]byte, n), bytes.Repeat([]byte{255}, n)} {
			if d := sum(t, b); d != sha256.Sum256(b) {
				t.Errorf("Sum of %d bytes = %x", n, d)
			}
		}
	}
}

func TestP5_1_SumOfTooMany(t *testing.T) {
	for _, n := range tooMany() {
		if d, e := sha.Sum(make([]byte, n)); d != (api.Digest{}) || e != api.ErrMany {
			t.Errorf("Sum of %d bytes = %x, %d", n, d, e)
		}
	}
}

func TestP5_1_Start(t *testing.T) {
	h := sha.Start()
	if !sameHash(h, api.Hash{Words: firstWords}) || !sameHash(h, hashOf(t, sha256.New())) {
		t.Errorf("Start() = %v", h)
	}
	if finish(t, h) != sum(t, nil) {
		t.Error("Start is not the hash of no bytes")
	}
}

func TestP5_1_WriteBehindAnyHash(t *testing.T) {
	m := mixed()
	for range 4000 {
		h, b := someHash(m, m.below(400)), someBytes(m, m.below(300))
		if next := write(t, h, b); !sameHash(next, wantWrite(t, h, b)) {
			t.Errorf("Write(%v, %x) = %v", h, b, next)
		}
	}
	for _, n := range edges() {
		h := someHash(m, n)
		for _, k := range []int{0, 1, 63, 64, 65, 200, maxHash - n - 65, maxHash - n - 1, maxHash - n} {
			if k < 0 || k > maxHash-n {
				continue
			}
			b := someBytes(m, k)
			if next := write(t, h, b); !sameHash(next, wantWrite(t, h, b)) {
				t.Errorf("Write of %d bytes behind %v = %v", k, h, next)
			}
		}
	}
}

func TestP5_1_WriteOfNoBytes(t *testing.T) {
	m := mixed()
	for _, n := range edges() {
		h := someHash(m, n)
		for _, b := range [][]byte{nil, {}} {
			if next := write(t, h, b); !sameHash(next, h) {
				t.Errorf("Write(%v, no bytes) = %v", h, next)
			}
		}
	}
}

func TestP5_1_FinishOfAnyHash(t *testing.T) {
	m := mixed()
	for n := range 700 {
		h := someHash(m, n)
		if d := finish(t, h); d != wantFinish(t, h) {
			t.Errorf("Finish(%v) = %x", h, d)
		}
	}
	for _, n := range edges() {
		h := someHash(m, n)
		if d := finish(t, h); d != wantFinish(t, h) {
			t.Errorf("Finish(%v) = %x", h, d)
		}
	}
}

// The words of a hash are not limited: that with no bits at all is valid.
func TestP5_1_TheZeroHashIsValid(t *testing.T) {
	b := []byte("bytes")
	for _, h := range []api.Hash{{}, {Rest: []byte{}}} {
		if d := finish(t, h); d != wantFinish(t, h) {
			t.Errorf("Finish(%v) = %x", h, d)
		}
		if next := write(t, h, b); !sameHash(next, wantWrite(t, h, b)) {
			t.Errorf("Write(%v, %q) = %v", h, b, next)
		}
	}
}

// invalid gives hashes whose number is out of its range, or does not go with the bytes that are left.
func invalid() []api.Hash {
	var l []api.Hash
	rest := func(n, of int) {
		l = append(l, api.Hash{Words: firstWords, Rest: make([]byte, of), N: n})
	}
	for _, n := range []int{math.MinInt, math.MinInt + 1, -128000, -65, -64, -63, -1} {
		rest(n, 0)
		rest(n, 1)
		rest(n, 63)
		rest(n, 64)
	}
	for _, n := range append(tooMany(), math.MaxInt-63, math.MaxInt) {
		rest(n, n%size)
		rest(n, 0)
		rest(n, size)
	}
	for _, n := range edges() {
		for _, of := range []int{0, n%size - 1, n%size + 1, 63, 64, n%size + 64, n} {
			if of >= 0 && of != n%size {
				rest(n, of)
			}
		}
	}
	return l
}

func TestP5_1_InvalidHashes(t *testing.T) {
	for _, h := range invalid() {
		if d, e := sha.Finish(h); d != (api.Digest{}) || e != api.ErrBad {
			t.Errorf("Finish of %d bytes, %d left = %x, %d", h.N, len(h.Rest), d, e)
		}
		for _, n := range []int{0, 1, 64, maxHash, maxHash + 1, 200000} {
			if next, e := sha.Write(h, make([]byte, n)); !sameHash(next, api.Hash{}) || e != api.ErrBad {
				t.Errorf("Write of %d bytes behind %d, %d left = %v, %d", n, h.N, len(h.Rest), next, e)
			}
		}
	}
}

func TestP5_1_WriteOfTooMany(t *testing.T) {
	m := mixed()
	for _, n := range edges() {
		h := someHash(m, n)
		for _, k := range []int{maxHash - n + 1, maxHash - n + 64, maxHash + 1, 256000} {
			if next, e := sha.Write(h, make([]byte, k)); !sameHash(next, api.Hash{}) || e != api.ErrMany {
				t.Errorf("Write of %d bytes behind %d = %v, %d", k, n, next, e)
			}
		}
	}
}

func TestP5_2_Examples(t *testing.T) {
	want := append(append([]byte{128}, make([]byte, 59)...), 24)
	if p := pad(t, 3); !bytes.Equal(p, want) || len(p) != 61 {
		t.Errorf("Pad(3) = %v", p)
	}
	want = append(append([]byte{128}, make([]byte, 69)...), 1, 192)
	if p := pad(t, 56); !bytes.Equal(p, want) || len(p) != 72 {
		t.Errorf("Pad(56) = %v", p)
	}
	if p := pad(t, 55); !bytes.Equal(p, []byte{128, 0, 0, 0, 0, 0, 0, 1, 184}) {
		t.Errorf("Pad(55) = %v", p)
	}
	if p := pad(t, maxHash); len(p) != 64 || !bytes.Equal(p[56:], []byte{0, 0, 0, 0, 0, 15, 160, 0}) {
		t.Errorf("Pad(128000) = %v", p)
	}
}

// wantPad puts down byte by byte what the definition of a padding says.
func wantPad(n int) []byte {
	p := []byte{128}
	for (n+len(p)+8)%size != 0 {
		p = append(p, 0)
	}
	return binary.BigEndian.AppendUint64(p, 8*uint64(n))
}

func TestP5_2_AllPaddings(t *testing.T) {
	for n := range maxHash + 1 {
		if p := pad(t, n); !bytes.Equal(p, wantPad(n)) {
			t.Fatalf("Pad(%d) = %v", n, p)
		}
	}
}

func TestP5_2_PadErrors(t *testing.T) {
	for _, n := range append(tooMany(), math.MinInt, -1<<32, -maxHash, -64, -56, -1, 1<<31-1, 1<<32, math.MaxInt) {
		if p, e := sha.Pad(n); len(p) > 0 || e != api.ErrArg {
			t.Errorf("Pad(%d) = %v, %d", n, p, e)
		}
	}
}

func TestP5_2_Block(t *testing.T) {
	m := mixed()
	for i := range 4000 {
		w, b := someWords(m), someBytes(m, size)
		switch i % 20 {
		case 0:
			b = make([]byte, size)
		case 1:
			b = bytes.Repeat([]byte{255}, size)
		case 2:
			b = make([]byte, size)
			b[m.below(size)] = 1 << m.below(8)
		}
		want := wantWrite(t, api.Hash{Words: w}, b).Words
		if next := block(t, w, b); next != want {
			t.Errorf("Block(%x, %x) = %x, not %x", w, b, next, want)
		}
	}
}

func TestP5_2_BlockErrors(t *testing.T) {
	m := mixed()
	for n := range 200 {
		if n == size {
			continue
		}
		if w, e := sha.Block(someWords(m), someBytes(m, n)); w != ([8]uint32{}) || e != api.ErrArg {
			t.Errorf("Block of %d bytes = %x, %d", n, w, e)
		}
	}
	for _, b := range [][]byte{nil, make([]byte, 640), make([]byte, maxHash)} {
		if w, e := sha.Block(firstWords, b); w != ([8]uint32{}) || e != api.ErrArg {
			t.Errorf("Block of %d bytes = %x, %d", len(b), w, e)
		}
	}
}

// writeParts writes bytes in parts of the sizes that a function gives, down to none at all.
func writeParts(t *testing.T, b []byte, part func(left int) int) api.Hash {
	t.Helper()
	h := sha.Start()
	for len(b) > 0 {
		n := part(len(b))
		h, b = write(t, h, b[:n]), b[n:]
	}
	return h
}

func TestP5_3_AnyPartsGiveTheDigest(t *testing.T) {
	m := mixed()
	for n := range 600 {
		b := someBytes(m, n)
		want := writeParts(t, b, func(left int) int { return left })
		for _, most := range []int{1, 2, 7, 63, 64, 65, 200} {
			h := writeParts(t, b, func(left int) int { return min(left, most) })
			if !sameHash(h, want) || finish(t, h) != sum(t, b) {
				t.Errorf("%x in parts of %d: %v", b, most, h)
			}
			h = writeParts(t, b, func(left int) int { return min(left, m.below(most+1)) })
			if !sameHash(h, want) || finish(t, h) != sum(t, b) {
				t.Errorf("%x in parts of at most %d: %v", b, most, h)
			}
		}
	}
}

func TestP5_3_AllCutsInTwoGiveTheDigest(t *testing.T) {
	m := mixed()
	for _, n := range []int{0, 1, 55, 56, 63, 64, 65, 119, 120, 127, 128, 129, 192, 200} {
		b := someBytes(m, n)
		for cut := range n + 1 {
			h := write(t, write(t, sha.Start(), b[:cut]), b[cut:])
			if h.N != n || finish(t, h) != sum(t, b) {
				t.Errorf("%x in two at %d: %v", b, cut, h)
			}
		}
	}
}

func TestP5_3_AsManyBytesAsThereMayBeInParts(t *testing.T) {
	m := mixed()
	b := someBytes(m, maxHash)
	h := writeParts(t, b, func(left int) int { return min(left, m.below(3000)) })
	if d := finish(t, h); d != sha256.Sum256(b) || d != sum(t, b) {
		t.Errorf("%d bytes in parts: %x", len(b), d)
	}
	if next, e := sha.Write(h, []byte{1}); !sameHash(next, api.Hash{}) || e != api.ErrMany {
		t.Errorf("one byte more: %v, %d", next, e)
	}
}

// A hash is a value: other bytes can be written behind the same one.
func TestP5_3_AHashCanBeGoneOnFromTwice(t *testing.T) {
	m := mixed()
	for n := range 200 {
		b, c, d := someBytes(m, n), someBytes(m, 40), someBytes(m, 90)
		h := write(t, sha.Start(), b)
		first, second := write(t, h, c), write(t, h, d)
		if finish(t, first) != sum(t, slices.Concat(b, c)) || finish(t, second) != sum(t, slices.Concat(b, d)) || finish(t, h) != sum(t, b) {
			t.Errorf("%d bytes, with 40 or 90 behind them", n)
		}
	}
}

func TestP5_3_TheBlocksGiveTheWordsOfTheDigest(t *testing.T) {
	m := mixed()
	lengths := edges()
	for n := range 300 {
		lengths = append(lengths, n)
	}
	for _, n := range lengths {
		b := someBytes(m, n)
		all := slices.Concat(b, pad(t, n))
		w := sha.Start().Words
		for c := range slices.Chunk(all, size) {
			w = block(t, w, c)
		}
		var d []byte
		for _, x := range w {
			d = binary.BigEndian.AppendUint32(d, x)
		}
		if api.Digest(d) != sum(t, b) {
			t.Errorf("the blocks of %d bytes give %x", n, d)
		}
	}
}

func TestP5_3_SizesOfPaddings(t *testing.T) {
	sizes := map[int]bool{}
	for n := range maxHash + 1 {
		sizes[len(pad(t, n))] = true
	}
	for n := range 200 {
		if sizes[n] != (n >= 9 && n <= 72) {
			t.Errorf("a padding of %d bytes: %v", n, sizes[n])
		}
	}
	if len(sizes) != 64 {
		t.Error(sizes)
	}
}

// spare gives a copy with marked room behind it.
func spare(b []byte) []byte {
	return append(slices.Clone(b), bytes.Repeat([]byte{77}, 150)...)[:len(b)]
}

func sameSpare(t *testing.T, what string, b, before []byte) {
	t.Helper()
	room := b[len(b) : len(b)+150]
	if !bytes.Equal(b, before) || strings.Trim(string(room), "\x4d") != "" {
		t.Errorf("%s has become %x, and %x behind it", what, b, room)
	}
}

func TestP1_ArgumentsAreOnlyRead(t *testing.T) {
	m := mixed()
	for n := range 300 {
		h, b := someHash(m, n), someBytes(m, m.below(200))
		h2, b2 := api.Hash{Words: h.Words, Rest: spare(h.Rest), N: n}, spare(b)
		sha.Write(h2, b2)
		sha.Finish(h2)
		sha.Sum(b2)
		sha.Block(h2.Words, b2)
		whole := spare(someBytes(m, size))
		before := slices.Clone(whole)
		sha.Block(h2.Words, whole)
		sameSpare(t, "a rest", h2.Rest, h.Rest)
		sameSpare(t, "an argument", b2, b)
		sameSpare(t, "a block", whole, before)
	}
}

// fill writes to bytes and to the room behind them.
func fill(b []byte) {
	whole := b[:cap(b)]
	for i := range whole {
		whole[i] = 99
	}
}

func TestP1_ResultsShareNoMemory(t *testing.T) {
	m := mixed()
	for n := range 200 {
		for _, k := range []int{0, 1, 30, 63, 64, 65, 128, 150} {
			h, b := someHash(m, n), spare(someBytes(m, k))
			h.Rest = spare(h.Rest)
			rest, before := slices.Clone(h.Rest), slices.Clone(b)
			first, second := write(t, h, b), write(t, h, b)
			want := wantWrite(t, h, b)
			fill(first.Rest)
			sameSpare(t, "a rest", h.Rest, rest)
			sameSpare(t, "an argument", b, before)
			if !sameHash(second, want) {
				t.Errorf("two hashes of %d and %d bytes share memory", n, k)
			}
			fill(h.Rest)
			fill(b)
			if !sameHash(second, want) {
				t.Errorf("a hash of %d and %d bytes shares memory with its arguments", n, k)
			}
		}
		first, second := pad(t, n), pad(t, n)
		fill(first)
		if !bytes.Equal(second, wantPad(n)) || !bytes.Equal(pad(t, n), wantPad(n)) {
			t.Errorf("two paddings of %d bytes share memory", n)
		}
	}
}

func TestP1_NothingIsKept(t *testing.T) {
	h := sha.Start()
	h.Words[0], h.Words[7] = 1, 2
	fill(h.Rest)
	if next := sha.Start(); !sameHash(next, api.Hash{Words: firstWords}) {
		t.Errorf("Start() = %v", next)
	}
	m := mixed()
	var hashes []api.Hash
	var digests []api.Digest
	for n := range 300 {
		hashes = append(hashes, someHash(m, n))
		digests = append(digests, finish(t, hashes[n]))
	}
	for i, h := range slices.Backward(hashes) {
		sha.Sum(h.Rest)
		sha.Finish(api.Hash{N: -1})
		if finish(t, h) != digests[i] {
			t.Errorf("%v has another digest now", h)
		}
	}
}

// Any values at all are answered, and an answer with an error has nothing else.
func TestP1_AllArgumentsAreAnswered(t *testing.T) {
	m := mixed()
	strange := []int{math.MinInt, -64, -1, 0, 1, 63, 64, 65, 127999, 128000, 128001, 128064, math.MaxInt}
	for range 5000 {
		n := pick(m, strange)
		h := api.Hash{Words: someWords(m), Rest: someBytes(m, m.below(70)), N: n}
		if m.below(2) == 0 {
			h.Rest = someBytes(m, max(0, n%size))
		}
		b := someBytes(m, m.below(70))
		next, e := sha.Write(h, b)
		if e != api.OK && !sameHash(next, api.Hash{}) || e == api.OK && !sameHash(next, wantWrite(t, h, b)) {
			t.Errorf("Write(%v, %x) = %v, %d", h, b, next, e)
		}
		d, e := sha.Finish(h)
		if e != api.OK && d != (api.Digest{}) || e == api.OK && d != wantFinish(t, h) {
			t.Errorf("Finish(%v) = %x, %d", h, d, e)
		}
		if p, e := sha.Pad(n); (e == api.OK) == (len(p) == 0) {
			t.Errorf("Pad(%d) = %v, %d", n, p, e)
		}
		if w, e := sha.Block(h.Words, b); (e == api.OK) != (len(b) == size) || e != api.OK && w != ([8]uint32{}) {
			t.Errorf("Block(%x, %x) = %x, %d", h.Words, b, w, e)
		}
	}
}
