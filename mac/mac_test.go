package mac_test

import (
	"bytes"
	"crypto/hmac"
	"crypto/sha256"
	"encoding/hex"
	"slices"
	"strings"
	"testing"

	"spigot/api"
	"spigot/mac"
)

const (
	maxHash   = 128000
	maxSecret = 200
	size      = 64
)

// numbers gives numbers that are mixed, the same ones in each test.
type numbers struct{ x uint64 }

func mixed() *numbers { return &numbers{x: 88172645463325252} }

func (m *numbers) next() uint64 {
	m.x ^= m.x << 13
	m.x ^= m.x >> 7
	m.x ^= m.x << 17
	return m.x
}

func (m *numbers) below(n int) int { return int(m.next() % uint64(n)) }

func pick[E any](m *numbers, l []E) E { return l[m.below(len(l))] }

func someBytes(m *numbers, n int) []byte {
	b := make([]byte, n)
	for i := range b {
		b[i] = byte(m.next() >> 20)
	}
	return b
}

func someDigest(m *numbers) api.Digest { return api.Digest(someBytes(m, 32)) }

// someKeys gives keys of some length, among them those of bytes that are alike.
func someKeys(m *numbers, n int) [][]byte {
	return [][]byte{someBytes(m, n), make([]byte, n), bytes.Repeat([]byte{0x36}, n), bytes.Repeat([]byte{0x5c}, n), bytes.Repeat([]byte{255}, n)}
}

// lengths are numbers of bytes around whole blocks, and at the ends.
func lengths() []int {
	l := []int{2, 3, 100, 1000, 99999}
	for _, n := range []int{0, 64, 128, 192, 640, 64000, maxHash - size} {
		for _, d := range []int{-65, -64, -63, -10, -9, -8, -1, 0, 1, 8} {
			if n+d >= 0 && n+d <= maxHash-size {
				l = append(l, n+d)
			}
		}
	}
	return l
}

// keyLengths are numbers of bytes of a key around a block, and at the ends.
func keyLengths() []int {
	return []int{0, 1, 2, 20, 31, 32, 33, 55, 56, 62, 63, 64, 65, 66, 100, 127, 128, 129, 131, 198, 199, 200}
}

func longKeys() []int { return []int{201, 202, 256, 264, 456, 1000, 65536, maxHash, maxHash + 1} }

func tooMany() []int {
	return []int{maxHash - 63, maxHash - 62, maxHash - 1, maxHash, maxHash + 1, 131072, 200000}
}

func pads(t *testing.T, key []byte) (inner, outer [size]byte) {
	t.Helper()
	inner, outer, e := mac.Pads(key)
	if e != api.OK {
		t.Fatalf("Pads of %d bytes: error %d", len(key), e)
	}
	return inner, outer
}

func inner(t *testing.T, key, b []byte) api.Digest {
	t.Helper()
	d, e := mac.Inner(key, b)
	if e != api.OK {
		t.Fatalf("Inner of a key of %d bytes, and %d: error %d", len(key), len(b), e)
	}
	return d
}

func outer(t *testing.T, key []byte, d api.Digest) api.Digest {
	t.Helper()
	tag, e := mac.Outer(key, d)
	if e != api.OK {
		t.Fatalf("Outer of a key of %d bytes: error %d", len(key), e)
	}
	return tag
}

func sum(t *testing.T, key, b []byte) api.Digest {
	t.Helper()
	d, e := mac.Sum(key, b)
	if e != api.OK {
		t.Fatalf("Sum of a key of %d bytes, and %d: error %d", len(key), len(b), e)
	}
	return d
}

// wantPad puts down byte by byte what the definition of a pad says.
func wantPad(key []byte, with byte) []byte {
	block := slices.Clone(key)
	if len(block) > size {
		d := sha256.Sum256(key)
		block = d[:]
	}
	for len(block) < size {
		block = append(block, 0)
	}
	for i := range block {
		block[i] ^= with
	}
	return block
}

func wantInner(key, b []byte) api.Digest {
	return sha256.Sum256(append(wantPad(key, 0x36), b...))
}

func wantOuter(key []byte, d api.Digest) api.Digest {
	return sha256.Sum256(append(wantPad(key, 0x5c), d[:]...))
}

// wantSum gives the library's tag.
func wantSum(key, b []byte) api.Digest {
	h := hmac.New(sha256.New, key)
	h.Write(b)
	return api.Digest(h.Sum(nil))
}

func TestLimitsAreThoseOfTheChapter(t *testing.T) {
	if api.MaxHash != maxHash || api.MaxSecret != maxSecret || len(api.Digest{}) != 32 {
		t.Error(api.MaxHash, api.MaxSecret, len(api.Digest{}))
	}
}

// The chapter's example, and tags that are known from RFC 4231.
func TestP6_1_KnownTags(t *testing.T) {
	rep := strings.Repeat
	for _, c := range []struct{ key, text, want string }{
		{"Jefe", "what do ya want for nothing?", "5bdcc146bf60754e6a042426089575c75a003f089d2739839dec58b964ec3843"},
		{rep("\x0b", 20), "Hi There", "b0344c61d8db38535ca8afceaf0bf12b881dc200c9833da726e9376c2e32cff7"},
		{rep("\xaa", 20), rep("\xdd", 50), "773ea91e36800e46854db8ebd09181a72959098b3ef8c122d9635514ced565fe"},
		{rep("\xaa", 131), "Test Using Larger Than Block-Size Key - Hash Key First", "60e431591ee0b67f0d8a26aacbf5b77f8e0bc6213728c5140546040f0ee37f54"},
		{rep("\xaa", 131), "This is a test using a larger than block-size key and a larger than block-size data. The key needs to be hashed before being used by the HMAC algorithm.",
			"9b09ffa71b942fcb27635fbcd5b0e944bfdc63644f0713938a7f51535c3a35e2"},
		{"", "", "b613679a0814d9ec772f95d778c35fc5ff1697c493715653c6c712144292c5ad"},
	} {
		if d := sum(t, []byte(c.key), []byte(c.text)); hex.EncodeToString(d[:]) != c.want {
			t.Errorf("Sum(%q, %q) = %x", c.key, c.text, d)
		}
	}
}

func TestP6_1_PadsOfAllLengths(t *testing.T) {
	m := mixed()
	for n := range maxSecret + 1 {
		for _, key := range someKeys(m, n) {
			in, out := pads(t, key)
			if !bytes.Equal(in[:], wantPad(key, 0x36)) || !bytes.Equal(out[:], wantPad(key, 0x5c)) {
				t.Errorf("Pads(%x) = %x, %x", key, in, out)
			}
		}
	}
}

func TestP6_1_PadsOfAFewKeys(t *testing.T) {
	for _, c := range []struct {
		key       []byte
		in, out   byte // the first byte
		in2, out2 byte // the last one
		what      string
	}{
		{nil, 54, 92, 54, 92, "nil"},
		{[]byte{}, 54, 92, 54, 92, "no bytes"},
		{[]byte{1}, 55, 93, 54, 92, "a byte"},
		{bytes.Repeat([]byte{255}, 63), 201, 163, 54, 92, "63 bytes"},
		{bytes.Repeat([]byte{255}, 64), 201, 163, 201, 163, "64 bytes"},
	} {
		in, out := pads(t, c.key)
		if in[0] != c.in || out[0] != c.out || in[63] != c.in2 || out[63] != c.out2 {
			t.Errorf("%s: %v %v", c.what, in, out)
		}
	}
}

func TestP6_1_InnerAndSumOfShortBytes(t *testing.T) {
	m := mixed()
	for _, k := range keyLengths() {
		key := someBytes(m, k)
		for n := range 200 {
			b := someBytes(m, n)
			if d := inner(t, key, b); d != wantInner(key, b) {
				t.Errorf("Inner(%x, %x) = %x", key, b, d)
			}
			if d := sum(t, key, b); d != wantSum(key, b) {
				t.Errorf("Sum(%x, %x) = %x", key, b, d)
			}
		}
	}
}

func TestP6_1_InnerAndSumAtTheEdges(t *testing.T) {
	m := mixed()
	for _, n := range lengths() {
		key, b := someBytes(m, pick(m, keyLengths())), someBytes(m, n)
		if d := inner(t, key, b); d != wantInner(key, b) {
			t.Errorf("Inner of a key of %d bytes, and %d = %x", len(key), n, d)
		}
		if d := sum(t, key, b); d != wantSum(key, b) {
			t.Errorf("Sum of a key of %d bytes, and %d = %x", len(key), n, d)
		}
	}
}

func TestP6_1_KeysOfAllLengths(t *testing.T) {
	m := mixed()
	for n := range maxSecret + 1 {
		for _, key := range someKeys(m, n) {
			b, d := someBytes(m, m.below(100)), someDigest(m)
			if got := inner(t, key, b); got != wantInner(key, b) {
				t.Errorf("Inner(%x, %x) = %x", key, b, got)
			}
			if got := outer(t, key, d); got != wantOuter(key, d) {
				t.Errorf("Outer(%x, %x) = %x", key, d, got)
			}
			if got := sum(t, key, b); got != wantSum(key, b) {
				t.Errorf("Sum(%x, %x) = %x", key, b, got)
			}
		}
	}
}

// An outer sum is one of any digest, whether it is an inner sum or not.
func TestP6_1_OuterOfAnyDigest(t *testing.T) {
	m := mixed()
	for _, n := range keyLengths() {
		key := someBytes(m, n)
		for _, d := range []api.Digest{{}, {0: 1}, {31: 1}, api.Digest(bytes.Repeat([]byte{255}, 32)), someDigest(m)} {
			if got := outer(t, key, d); got != wantOuter(key, d) {
				t.Errorf("Outer(%x, %x) = %x", key, d, got)
			}
		}
	}
}

func TestP6_1_LongKeys(t *testing.T) {
	m := mixed()
	for _, n := range longKeys() {
		key := someBytes(m, n)
		if in, out, e := mac.Pads(key); e != api.ErrMany || in != ([size]byte{}) || out != ([size]byte{}) {
			t.Errorf("Pads of %d bytes = %x, %x, %d", n, in, out, e)
		}
		if d, e := mac.Outer(key, someDigest(m)); e != api.ErrMany || d != (api.Digest{}) {
			t.Errorf("Outer of a key of %d bytes = %x, %d", n, d, e)
		}
		for _, k := range append(tooMany(), 0, 1, maxHash-size) {
			isMany(t, key, make([]byte, k))
		}
	}
}

func TestP6_1_TooManyBytes(t *testing.T) {
	m := mixed()
	for _, n := range keyLengths() {
		for _, k := range tooMany() {
			isMany(t, someBytes(m, n), make([]byte, k))
		}
	}
}

func isMany(t *testing.T, key, b []byte) {
	t.Helper()
	if d, e := mac.Inner(key, b); e != api.ErrMany || d != (api.Digest{}) {
		t.Errorf("Inner of a key of %d bytes, and %d = %x, %d", len(key), len(b), d, e)
	}
	if d, e := mac.Sum(key, b); e != api.ErrMany || d != (api.Digest{}) {
		t.Errorf("Sum of a key of %d bytes, and %d = %x, %d", len(key), len(b), d, e)
	}
}

func TestP6_2_Same(t *testing.T) {
	m := mixed()
	for _, d := range []api.Digest{{}, api.Digest(bytes.Repeat([]byte{255}, 32)), someDigest(m), someDigest(m)} {
		if !mac.Same(d, d) {
			t.Errorf("%x is not the same as itself", d)
		}
		for bit := range 256 {
			other := d
			other[bit/8] ^= 1 << (bit % 8)
			if mac.Same(d, other) || mac.Same(other, d) || !mac.Same(other, other) {
				t.Errorf("%x and %x", d, other)
			}
		}
	}
}

// Differences at several places do not cancel each other out.
func TestP6_2_SameWithManyDifferences(t *testing.T) {
	m := mixed()
	for range 3000 {
		d := someDigest(m)
		other := d
		for range m.below(4) {
			other[m.below(32)] ^= pick(m, []byte{1, 1, 128, 255})
		}
		if mac.Same(d, other) != (d == other) || mac.Same(other, d) != (d == other) {
			t.Errorf("%x and %x", d, other)
		}
	}
}

func compares(t *testing.T, a, b []byte) {
	t.Helper()
	same, looked := mac.Compare(a, b)
	if same != bytes.Equal(a, b) || looked != max(len(a), len(b)) {
		t.Errorf("Compare(%x, %x) = %v, %d", a, b, same, looked)
	}
}

func TestP6_2_CompareExamples(t *testing.T) {
	for _, c := range []struct {
		a, b   string
		same   bool
		looked int
	}{{"abc", "abd", false, 3}, {"a", "", false, 1}, {"", "a", false, 1}, {"", "", true, 0}, {"abc", "abc", true, 3}, {"\x00", "", false, 1}, {"a", "a\x00", false, 2}, {"b", "abc", false, 3}} {
		same, looked := mac.Compare([]byte(c.a), []byte(c.b))
		if same != c.same || looked != c.looked {
			t.Errorf("Compare(%q, %q) = %v, %d", c.a, c.b, same, looked)
		}
	}
}

// shortLists gives all lists of at most n bytes out of a few.
func shortLists(n int) [][]byte {
	l := [][]byte{{}}
	for from, k := 0, 0; k < n; k++ {
		end := len(l)
		for _, b := range l[from:end] {
			for _, x := range []byte{0, 1, 128, 255} {
				l = append(l, append(slices.Clone(b), x))
			}
		}
		from = end
	}
	return l
}

func TestP6_2_CompareAllShortLists(t *testing.T) {
	l := append(shortLists(4), nil)
	for _, a := range l {
		for _, b := range l {
			compares(t, a, b)
		}
	}
}

func TestP6_2_CompareNilAndNoBytes(t *testing.T) {
	for _, a := range [][]byte{nil, {}} {
		for _, b := range [][]byte{nil, {}} {
			if same, looked := mac.Compare(a, b); !same || looked != 0 {
				t.Errorf("Compare(%v, %v) = %v, %d", a, b, same, looked)
			}
		}
	}
}

func TestP6_2_CompareWithADifferenceAtEachPlace(t *testing.T) {
	m := mixed()
	for _, n := range []int{1, 31, 32, 33, 64, 200, 257} {
		a := someBytes(m, n)
		compares(t, a, slices.Clone(a))
		for i := range n {
			b := slices.Clone(a)
			b[i] ^= pick(m, []byte{1, 2, 16, 128, 255})
			compares(t, a, b)
			compares(t, b, a)
		}
	}
}

// Where one list ends, the other one may go on with any bytes, those of 0 among them.
func TestP6_2_CompareWithABeginning(t *testing.T) {
	m := mixed()
	for n := range 150 {
		a := someBytes(m, n)
		for _, more := range []int{1, 2, 256, 512, 65536} {
			compares(t, a, append(slices.Clone(a), make([]byte, more)...))
			compares(t, append(slices.Clone(a), someBytes(m, more)...), a)
		}
	}
}

// What stands in the room behind a list is not of the list.
func TestP6_2_CompareDoesNotLookBehindTheEnd(t *testing.T) {
	b := []byte("abcabc")
	for _, c := range []struct{ x, y []byte }{{b[:2], b[:3]}, {b[:3], b[3:]}, {b[:3], b[3:5]}, {b[:0], b}, {b[:3:3], b[:4]}} {
		compares(t, c.x, c.y)
		compares(t, c.y, c.x)
	}
}

func TestP6_2_CompareLongLists(t *testing.T) {
	a := bytes.Repeat([]byte{7}, 300000)
	b := slices.Clone(a)
	compares(t, a, b)
	compares(t, a, b[:299999])
	b[0]++
	compares(t, a, b)
	b[0]--
	b[299999]++
	compares(t, a, b)
}

func TestP6_3_TheTagIsMadeOfTheSums(t *testing.T) {
	m := mixed()
	for range 2000 {
		key, b := someBytes(m, m.below(maxSecret+1)), someBytes(m, m.below(300))
		if tag := sum(t, key, b); tag != outer(t, key, inner(t, key, b)) {
			t.Errorf("Sum(%x, %x) = %x", key, b, tag)
		}
	}
}

// sameKey tells that two keys have the same pads, sums and tags.
func sameKey(t *testing.T, k, l []byte, b []byte, d api.Digest) {
	t.Helper()
	kin, kout := pads(t, k)
	lin, lout := pads(t, l)
	if kin != lin || kout != lout || inner(t, k, b) != inner(t, l, b) || outer(t, k, d) != outer(t, l, d) || sum(t, k, b) != sum(t, l, b) {
		t.Errorf("the keys %x and %x are not the same", k, l)
	}
}

func TestP6_3_BytesZeroBehindAKey(t *testing.T) {
	m := mixed()
	for n := range size {
		key := someBytes(m, n)
		for more := 1; n+more <= size; more++ {
			sameKey(t, key, append(slices.Clone(key), make([]byte, more)...), someBytes(m, 50), someDigest(m))
		}
	}
	sameKey(t, nil, make([]byte, size), nil, api.Digest{})
	// From 65 bytes on a byte 0 makes another key.
	for n := size; n < maxSecret; n++ {
		key := someBytes(m, n)
		in, _ := pads(t, key)
		if next, _ := pads(t, append(slices.Clone(key), 0)); in == next {
			t.Errorf("%x is the same key with a byte 0 more", key)
		}
	}
}

func TestP6_3_ALongKeyIsTheSameAsItsDigest(t *testing.T) {
	m := mixed()
	for n := size + 1; n <= maxSecret; n++ {
		for _, key := range someKeys(m, n) {
			d := sha256.Sum256(key)
			sameKey(t, key, d[:], someBytes(m, 50), someDigest(m))
		}
	}
	// A key that fills its block is not.
	key := someBytes(m, size)
	d := sha256.Sum256(key)
	in, _ := pads(t, key)
	if other, _ := pads(t, d[:]); in == other {
		t.Errorf("%x is the same key as its digest", key)
	}
}

func TestP6_3_ComparingLooksAtAsManyPlaces(t *testing.T) {
	m := mixed()
	for n := range 300 {
		a := someBytes(m, n)
		_, want := mac.Compare(a, slices.Clone(a))
		for _, b := range [][]byte{nil, make([]byte, n), someBytes(m, n), a[:n/2], someBytes(m, n/2), a[n/2:]} {
			_, looked := mac.Compare(a, b)
			_, back := mac.Compare(b, a)
			if looked != want || back != want || looked != n {
				t.Errorf("%d and %d places of %x and %x", looked, back, a, b)
			}
		}
	}
}

// room is the size of the room that spare leaves.
const room = 150

// spare gives a copy with marked room behind it.
func spare(b []byte) []byte {
	return append(slices.Clone(b), bytes.Repeat([]byte{77}, room)...)[:len(b)]
}

func sameSpare(t *testing.T, what string, b, before []byte) {
	t.Helper()
	behind := b[len(b) : len(b)+room]
	if !bytes.Equal(b, before) || !bytes.Equal(behind, bytes.Repeat([]byte{77}, room)) {
		t.Errorf("%s has become %x, and %x behind it", what, b, behind)
	}
}

func TestP1_ArgumentsAreOnlyRead(t *testing.T) {
	m := mixed()
	for n := range maxSecret + 3 {
		key, b := someBytes(m, n), someBytes(m, m.below(200))
		k, c := spare(key), spare(b)
		mac.Pads(k)
		mac.Inner(k, c)
		mac.Outer(k, someDigest(m))
		mac.Sum(k, c)
		mac.Compare(k, c)
		sameSpare(t, "a key", k, key)
		sameSpare(t, "bytes", c, b)
	}
}

// One list may be both arguments, or lie behind the other one in the same memory.
func TestP1_ArgumentsMayShareMemory(t *testing.T) {
	m := mixed()
	for n := range maxSecret + 1 {
		all := someBytes(m, n+100)
		before := slices.Clone(all)
		if inner(t, all[:n], all[n:]) != wantInner(before[:n], before[n:]) || sum(t, all[:n], all[:n]) != wantSum(before[:n], before[:n]) {
			t.Errorf("a key and bytes in %x", before)
		}
		if !bytes.Equal(all, before) {
			t.Errorf("%x has become %x", before, all)
		}
	}
}

func TestP1_ResultsShareNoMemory(t *testing.T) {
	m := mixed()
	for _, n := range keyLengths() {
		key, b := someBytes(m, n), someBytes(m, 70)
		wantIn, wantOut := wantPad(key, 0x36), wantPad(key, 0x5c)
		in, out := pads(t, key)
		clear(key)
		clear(b)
		if !bytes.Equal(in[:], wantIn) || !bytes.Equal(out[:], wantOut) {
			t.Errorf("the pads of a key of %d bytes have changed with it", n)
		}
	}
}

func TestP1_NothingIsKept(t *testing.T) {
	m := mixed()
	var keys [][]byte
	var tags []api.Digest
	for n := range maxSecret + 1 {
		keys = append(keys, someBytes(m, n))
		tags = append(tags, sum(t, keys[n], keys[n]))
	}
	for i, key := range slices.Backward(keys) {
		mac.Sum(make([]byte, maxSecret+1), key)
		mac.Sum(nil, key)
		mac.Compare(key, nil)
		if sum(t, key, key) != tags[i] {
			t.Errorf("%x has another tag now", key)
		}
	}
}

// Any values at all are answered, and an answer with an error has nothing else.
func TestP1_AllArgumentsAreAnswered(t *testing.T) {
	m := mixed()
	ends := []int{0, 1, 63, 64, 65, 199, 200, 201, 202, maxHash - 65, maxHash - 64, maxHash - 63, maxHash, maxHash + 1}
	for _, n := range ends {
		for _, k := range ends {
			key, b := someBytes(m, n), someBytes(m, k)
			var wantIn, wantTag api.Digest
			want := api.ErrMany
			if n <= maxSecret && k <= maxHash-size {
				wantIn, wantTag, want = wantInner(key, b), wantSum(key, b), api.OK
			}
			if d, e := mac.Inner(key, b); d != wantIn || e != want {
				t.Errorf("Inner of %d and %d bytes = %x, %d", n, k, d, e)
			}
			if d, e := mac.Sum(key, b); d != wantTag || e != want {
				t.Errorf("Sum of %d and %d bytes = %x, %d", n, k, d, e)
			}
			compares(t, key, b)
		}
	}
}
