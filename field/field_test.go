package field_test

import (
	"bytes"
	"encoding/binary"
	"math"
	"slices"
	"testing"

	"spigot/api"
	"spigot/field"
)

const (
	maxFields = 40

	flag   = api.FieldFlag
	octet  = api.FieldByte
	short  = api.FieldShort
	word   = api.FieldWord
	long   = api.FieldLong
	digest = api.FieldDigest
	zero   = api.FieldZero
)

// numbers gives numbers that are mixed, the same ones in each test.
type numbers struct{ x uint64 }

func mixed() *numbers { return &numbers{x: 88172645463325252} }

func (m *numbers) next() uint64 {
	m.x ^= m.x << 13
	m.x ^= m.x >> 7
	m.x ^= m.x << 17
	return m.x
}

func (m *numbers) below(n int) int { return int(m.next() % uint64(n)) }

func pick[E any](m *numbers, l []E) E { return l[m.below(len(l))] }

func someBytes(m *numbers, n int) []byte {
	b := make([]byte, n)
	for i := range b {
		b[i] = byte(m.next() >> 20)
	}
	return b
}

func someDigest(m *numbers) api.Digest { return api.Digest(someBytes(m, 32)) }

// The chapter's table: the kinds, their widths, and their greatest numbers.

func allKinds() []uint8 { return []uint8{flag, octet, short, word, long, digest, zero} }

var (
	wantWidths    = map[uint8]int{flag: 1, octet: 1, short: 2, word: 4, long: 8, digest: 32, zero: 1}
	wantGreatests = map[uint8]uint64{flag: 1, octet: 255, short: 65535, word: 4294967295, long: 18446744073709551615}
)

// Both are 0 for what is no kind.
func wantWidth(kind uint8) int { return wantWidths[kind] }

func wantGreatest(kind uint8) uint64 { return wantGreatests[kind] }

func wantValid(f api.Field) bool {
	return wantWidth(f.Kind) > 0 && f.N <= wantGreatest(f.Kind) && (f.D == api.Digest{} || f.Kind == digest)
}

func wantSize(kinds []uint8) int {
	n := 0
	for _, kind := range kinds {
		n += wantWidth(kind)
	}
	return n
}

// wantBytes puts down the bytes of a valid field.
func wantBytes(f api.Field) []byte {
	switch f.Kind {
	case flag, octet:
		return []byte{byte(f.N)}
	case short:
		return binary.BigEndian.AppendUint16(nil, uint16(f.N))
	case word:
		return binary.BigEndian.AppendUint32(nil, uint32(f.N))
	case long:
		return binary.BigEndian.AppendUint64(nil, f.N)
	case digest:
		return slices.Clone(f.D[:])
	}
	return []byte{0}
}

func wantRow(l []api.Field) []byte {
	var b []byte
	for _, f := range l {
		b = append(b, wantBytes(f)...)
	}
	return b
}

// wantFirst takes a field after the other from the bytes, as the definition says.
func wantFirst(kinds []uint8, b []byte) ([]api.Field, []byte, api.Errno) {
	if len(kinds) > maxFields {
		return nil, nil, api.ErrMany
	}
	for _, kind := range kinds {
		if !slices.Contains(allKinds(), kind) {
			return nil, nil, api.ErrArg
		}
	}
	if len(b) < wantSize(kinds) {
		return nil, nil, api.ErrForm
	}
	var l []api.Field
	for _, kind := range kinds {
		f := wantField(kind, b)
		if !wantValid(f) {
			return nil, nil, api.ErrForm
		}
		l, b = append(l, f), b[wantWidth(kind):]
	}
	return l, b, api.OK
}

func wantField(kind uint8, b []byte) api.Field {
	switch kind {
	case short:
		return api.Field{Kind: kind, N: uint64(binary.BigEndian.Uint16(b))}
	case word:
		return api.Field{Kind: kind, N: uint64(binary.BigEndian.Uint32(b))}
	case long:
		return api.Field{Kind: kind, N: binary.BigEndian.Uint64(b)}
	case digest:
		return api.Field{Kind: kind, D: api.Digest(b[:32])}
	}
	return api.Field{Kind: kind, N: uint64(b[0])}
}

func kindsOf(l []api.Field) []uint8 {
	var kinds []uint8
	for _, f := range l {
		kinds = append(kinds, f.Kind)
	}
	return kinds
}

func someKinds(m *numbers, n int) []uint8 {
	kinds := make([]uint8, n)
	for i := range kinds {
		kinds[i] = pick(m, allKinds())
	}
	return kinds
}

// someField gives a valid field, often with a number at an end.
func someField(m *numbers, kind uint8) api.Field {
	if kind == digest {
		return api.Field{Kind: kind, D: pick(m, []api.Digest{{}, {0: 1}, {31: 1}, someDigest(m), someDigest(m)})}
	}
	top := wantGreatest(kind)
	n := pick(m, []uint64{0, 1, top, top - 1, top / 2, top/2 + 1, m.next(), m.next(), m.next()})
	return api.Field{Kind: kind, N: n & top}
}

func rowOf(m *numbers, kinds []uint8) []api.Field {
	l := make([]api.Field, 0, len(kinds))
	for _, kind := range kinds {
		l = append(l, someField(m, kind))
	}
	return l
}

func someRow(m *numbers, n int) []api.Field { return rowOf(m, someKinds(m, n)) }

// someNumbers are numbers around the ends of all widths.
func someNumbers() []uint64 {
	l := []uint64{0, math.MaxUint64, math.MaxUint64 - 1, 0x0102030405060708, 0x8000000080008081}
	for i := range 64 {
		x := uint64(1) << i
		l = append(l, x-1, x, x+1)
	}
	return l
}

// someDigests are the digest of zeros, and others, with just one bit among them.
func someDigests() []api.Digest {
	l := []api.Digest{{}, api.Digest(bytes.Repeat([]byte{255}, 32))}
	for bit := range 256 {
		var d api.Digest
		d[bit/8] = 1 << (bit % 8)
		l = append(l, d)
	}
	return l
}

// badFields are fields that are not valid, of each kind and of none.
func badFields() []api.Field {
	l := []api.Field{{}, {Kind: 0, N: 1}, {Kind: 8}, {Kind: 9}, {Kind: 128}, {Kind: 255}, {Kind: digest, N: 1}, {Kind: digest, N: math.MaxUint64, D: api.Digest{1}},
		{Kind: zero, N: 1}, {Kind: zero, N: math.MaxUint64}, {Kind: flag, N: 2}, {Kind: octet, N: 256}, {Kind: short, N: 65536}, {Kind: word, N: 1 << 32}}
	for _, kind := range []uint8{flag, octet, short, word, long, zero} {
		l = append(l, api.Field{Kind: kind, D: api.Digest{0: 1}}, api.Field{Kind: kind, D: api.Digest{31: 1}})
	}
	return l
}

// noKinds are numbers that are no kind.
func noKinds() []uint8 { return []uint8{0, 8, 9, 16, 64, 127, 128, 129, 254, 255} }

func write(t *testing.T, l []api.Field) []byte {
	t.Helper()
	b, e := field.Write(l)
	if e != api.OK {
		t.Fatalf("Write(%v): error %d", l, e)
	}
	return b
}

func read(t *testing.T, kinds []uint8, b []byte) []api.Field {
	t.Helper()
	l, e := field.Read(kinds, b)
	if e != api.OK {
		t.Fatalf("Read(%v, %v): error %d", kinds, b, e)
	}
	return l
}

func first(t *testing.T, kinds []uint8, b []byte) ([]api.Field, []byte) {
	t.Helper()
	l, behind, e := field.First(kinds, b)
	if e != api.OK {
		t.Fatalf("First(%v, %v): error %d", kinds, b, e)
	}
	return l, behind
}

// writes compares Size and Write with what they are to answer.
func writes(t *testing.T, l []api.Field, want []byte, wantE api.Errno) {
	t.Helper()
	if n, e := field.Size(l); n != len(want) || e != wantE {
		t.Errorf("Size(%v) = %d, %d, not %d, %d", l, n, e, len(want), wantE)
	}
	if b, e := field.Write(l); !bytes.Equal(b, want) || e != wantE {
		t.Errorf("Write(%v) = %v, %d, not %v, %d", l, b, e, want, wantE)
	}
}

// reads compares First and Read with what the definition says.
func reads(t *testing.T, kinds []uint8, b []byte) {
	t.Helper()
	want, wantBehind, wantE := wantFirst(kinds, b)
	if l, behind, e := field.First(kinds, b); !slices.Equal(l, want) || !bytes.Equal(behind, wantBehind) || e != wantE {
		t.Errorf("First(%v, %v) = %v, %v, %d, not %v, %v, %d", kinds, b, l, behind, e, want, wantBehind, wantE)
	}
	if wantE == api.OK && len(wantBehind) > 0 {
		want, wantE = nil, api.ErrForm
	}
	if l, e := field.Read(kinds, b); !slices.Equal(l, want) || e != wantE {
		t.Errorf("Read(%v, %v) = %v, %d, not %v, %d", kinds, b, l, e, want, wantE)
	}
}

// refused tells that First and Read return an error, and nothing else.
func refused(t *testing.T, kinds []uint8, b []byte, want api.Errno) {
	t.Helper()
	if l, behind, e := field.First(kinds, b); len(l) > 0 || len(behind) > 0 || e != want {
		t.Errorf("First(%v, %v) = %v, %v, %d, not %d", kinds, b, l, behind, e, want)
	}
	if l, e := field.Read(kinds, b); len(l) > 0 || e != want {
		t.Errorf("Read(%v, %v) = %v, %d, not %d", kinds, b, l, e, want)
	}
}

func TestLimitsAreThoseOfTheChapter(t *testing.T) {
	if api.MaxFields != maxFields || len(api.Digest{}) != 32 || !slices.Equal(allKinds(), []uint8{1, 2, 3, 4, 5, 6, 7}) {
		t.Error(api.MaxFields, len(api.Digest{}), allKinds())
	}
	if api.ErrArg != 2 || api.ErrMany != 4 || api.ErrBad != 8 || api.ErrForm != 12 {
		t.Error(api.ErrArg, api.ErrMany, api.ErrBad, api.ErrForm)
	}
}

func TestP7_1_WidthOfEachKind(t *testing.T) {
	for _, c := range []struct {
		kind  uint8
		width int
	}{{1, 1}, {2, 1}, {3, 2}, {4, 4}, {5, 8}, {6, 32}, {7, 1}} {
		if n, e := field.Width(c.kind); n != c.width || e != api.OK {
			t.Errorf("Width(%d) = %d, %d", c.kind, n, e)
		}
	}
}

func TestP7_1_WidthOfWhatIsNoKind(t *testing.T) {
	for i := range 256 {
		kind := uint8(i)
		if n, e := field.Width(kind); (kind < 1 || kind > 7) && (n != 0 || e != api.ErrArg) {
			t.Errorf("Width(%d) = %d, %d", kind, n, e)
		}
	}
}

func checks(t *testing.T, f api.Field) {
	t.Helper()
	want := api.ErrBad
	if wantValid(f) {
		want = api.OK
	}
	if e := field.Check(f); e != want {
		t.Errorf("Check(%v) = %d, not %d", f, e, want)
	}
}

func TestP7_1_CheckOfAFewFields(t *testing.T) {
	for _, c := range []struct {
		f    api.Field
		want api.Errno
	}{
		{api.Field{}, api.ErrBad},
		{api.Field{Kind: 8}, api.ErrBad},
		{api.Field{Kind: flag}, api.OK},
		{api.Field{Kind: flag, N: 1}, api.OK},
		{api.Field{Kind: flag, N: 2}, api.ErrBad},
		{api.Field{Kind: octet, N: 255}, api.OK},
		{api.Field{Kind: octet, N: 256}, api.ErrBad}, // the chapter's example
		{api.Field{Kind: short, N: 65535}, api.OK},
		{api.Field{Kind: short, N: 65536}, api.ErrBad},
		{api.Field{Kind: word, N: 4294967295}, api.OK},
		{api.Field{Kind: word, N: 4294967296}, api.ErrBad},
		{api.Field{Kind: long, N: math.MaxUint64}, api.OK},
		{api.Field{Kind: long, D: api.Digest{31: 1}}, api.ErrBad},
		{api.Field{Kind: digest}, api.OK},
		{api.Field{Kind: digest, D: api.Digest{1, 31: 255}}, api.OK},
		{api.Field{Kind: digest, N: 1, D: api.Digest{1}}, api.ErrBad},
		{api.Field{Kind: zero}, api.OK},
		{api.Field{Kind: zero, N: 1}, api.ErrBad},
		{api.Field{Kind: zero, D: api.Digest{1}}, api.ErrBad},
	} {
		if e := field.Check(c.f); e != c.want {
			t.Errorf("Check(%v) = %d", c.f, e)
		}
	}
}

func TestP7_1_CheckOfAllKindsAndNumbers(t *testing.T) {
	for kind := range 256 {
		for _, n := range someNumbers() {
			checks(t, api.Field{Kind: uint8(kind), N: n})
			checks(t, api.Field{Kind: uint8(kind), N: n, D: api.Digest{7: 128}})
		}
	}
}

func TestP7_1_CheckOfAllShortNumbers(t *testing.T) {
	for _, kind := range allKinds() {
		for n := range uint64(70000) {
			checks(t, api.Field{Kind: kind, N: n})
		}
	}
}

func TestP7_1_CheckOfDigests(t *testing.T) {
	for _, kind := range append(allKinds(), noKinds()...) {
		for _, d := range someDigests() {
			checks(t, api.Field{Kind: kind, D: d})
			checks(t, api.Field{Kind: kind, N: 1, D: d})
		}
	}
}

func TestP7_2_Example(t *testing.T) {
	writes(t, []api.Field{{Kind: word, N: 258}, {Kind: flag, N: 1}, {Kind: short, N: 3}}, []byte{0, 0, 1, 2, 1, 0, 3}, api.OK)
	writes(t, []api.Field{{Kind: octet, N: 256}}, nil, api.ErrBad)
}

func TestP7_2_KnownBytes(t *testing.T) {
	d := api.Digest{1, 2, 3, 29: 4, 30: 5, 31: 6}
	for _, c := range []struct {
		l    []api.Field
		want []byte
	}{
		{nil, nil},
		{[]api.Field{}, nil},
		{[]api.Field{{Kind: flag}}, []byte{0}},
		{[]api.Field{{Kind: flag, N: 1}}, []byte{1}},
		{[]api.Field{{Kind: octet, N: 254}}, []byte{254}},
		{[]api.Field{{Kind: short, N: 0x0102}}, []byte{1, 2}},
		{[]api.Field{{Kind: word, N: 0x01020304}}, []byte{1, 2, 3, 4}},
		{[]api.Field{{Kind: long, N: 0x0102030405060708}}, []byte{1, 2, 3, 4, 5, 6, 7, 8}},
		{[]api.Field{{Kind: long, N: 1}}, []byte{0, 0, 0, 0, 0, 0, 0, 1}},
		{[]api.Field{{Kind: long, N: math.MaxUint64}}, bytes.Repeat([]byte{255}, 8)},
		{[]api.Field{{Kind: zero}, {Kind: zero}}, []byte{0, 0}},
		{[]api.Field{{Kind: digest, D: d}}, d[:]},
		{[]api.Field{{Kind: digest}}, make([]byte, 32)},
		{[]api.Field{{Kind: octet, N: 9}, {Kind: digest, D: d}, {Kind: zero}, {Kind: octet, N: 8}}, slices.Concat([]byte{9}, d[:], []byte{0, 8})},
	} {
		writes(t, c.l, c.want, api.OK)
	}
}

func TestP7_2_FieldsOfAllKinds(t *testing.T) {
	for _, kind := range allKinds() {
		for _, n := range someNumbers() {
			f := api.Field{Kind: kind, N: n}
			if wantValid(f) {
				writes(t, []api.Field{f}, wantBytes(f), api.OK)
			}
		}
	}
	for _, d := range someDigests() {
		writes(t, []api.Field{{Kind: digest, D: d}}, d[:], api.OK)
	}
}

func TestP7_2_RowsOfAllLengths(t *testing.T) {
	m := mixed()
	for n := range maxFields + 1 {
		for range 60 {
			l := someRow(m, n)
			writes(t, l, wantRow(l), api.OK)
		}
		for _, kind := range allKinds() {
			l := rowOf(m, slices.Repeat([]uint8{kind}, n))
			writes(t, l, wantRow(l), api.OK)
		}
	}
}

func TestP7_2_TooManyFields(t *testing.T) {
	m := mixed()
	for _, n := range []int{maxFields + 1, maxFields + 2, 50, 64, 100, 256, 296, 1000, 65536 + 3} {
		writes(t, someRow(m, n), nil, api.ErrMany)
		writes(t, make([]api.Field, n), nil, api.ErrMany)
		for _, bad := range badFields() {
			for _, i := range []int{0, n / 2, maxFields - 1, maxFields, n - 1} {
				l := rowOf(m, slices.Repeat([]uint8{octet}, n))
				l[i] = bad
				writes(t, l, nil, api.ErrMany)
			}
		}
	}
}

func TestP7_2_ABadFieldAtEachPlace(t *testing.T) {
	m := mixed()
	for n := 1; n <= maxFields; n++ {
		for i := range n {
			for _, bad := range badFields() {
				l := someRow(m, n)
				l[i] = bad
				writes(t, l, nil, api.ErrBad)
			}
		}
	}
}

func TestP7_3_Examples(t *testing.T) {
	l := read(t, []uint8{word, flag, short}, []byte{0, 0, 1, 2, 1, 0, 3})
	if !slices.Equal(l, []api.Field{{Kind: word, N: 258}, {Kind: flag, N: 1}, {Kind: short, N: 3}}) {
		t.Error(l)
	}
	refused(t, []uint8{flag}, []byte{2}, api.ErrForm)
	refused(t, []uint8{zero}, []byte{1}, api.ErrForm)
}

func TestP7_3_FirstOfAFewBytes(t *testing.T) {
	b := []byte{0, 7, 1, 1, 2, 3, 4, 0, 9}
	for _, c := range []struct {
		kinds  []uint8
		want   []api.Field
		behind []byte
	}{
		{nil, nil, b},
		{[]uint8{zero}, []api.Field{{Kind: zero}}, b[1:]},
		{[]uint8{short}, []api.Field{{Kind: short, N: 7}}, b[2:]},
		{[]uint8{flag, octet, flag}, []api.Field{{Kind: flag}, {Kind: octet, N: 7}, {Kind: flag, N: 1}}, b[3:]},
		{[]uint8{short, octet, word, zero}, []api.Field{{Kind: short, N: 7}, {Kind: octet, N: 1}, {Kind: word, N: 0x01020304}, {Kind: zero}}, b[8:]},
		{[]uint8{octet, long}, []api.Field{{Kind: octet}, {Kind: long, N: 0x0701010203040009}}, nil},
	} {
		l, behind := first(t, c.kinds, b)
		if !slices.Equal(l, c.want) || !bytes.Equal(behind, c.behind) {
			t.Errorf("First(%v, %v) = %v, %v", c.kinds, b, l, behind)
		}
	}
}

func TestP7_3_NoKinds(t *testing.T) {
	for _, kinds := range [][]uint8{nil, {}} {
		for _, b := range [][]byte{nil, {}} {
			reads(t, kinds, b)
			if l := read(t, kinds, b); len(l) > 0 {
				t.Error(l)
			}
		}
		refused(t, append(kinds, 0), nil, api.ErrArg)
		for _, b := range [][]byte{{0}, {1, 2, 3}, make([]byte, 1000)} {
			reads(t, kinds, b)
			if _, e := field.Read(kinds, b); e != api.ErrForm {
				t.Errorf("Read of no kinds, and %d bytes: %d", len(b), e)
			}
		}
	}
}

func TestP7_3_EachKindAndEachByte(t *testing.T) {
	for _, kind := range append(allKinds(), noKinds()...) {
		n := wantWidth(kind)
		for x := range 256 {
			for i := range n {
				b := make([]byte, n)
				b[i] = byte(x)
				reads(t, []uint8{kind}, b)
				reads(t, []uint8{kind}, append(b, byte(x)))
			}
			reads(t, []uint8{kind}, []byte{byte(x)})
			reads(t, []uint8{kind, kind}, []byte{byte(x), 0})
			reads(t, []uint8{kind, octet}, []byte{byte(x), 1})
		}
	}
}

func TestP7_3_AFlagAndAZeroHaveFewBytes(t *testing.T) {
	for x := 1; x < 256; x++ {
		refused(t, []uint8{zero}, []byte{byte(x)}, api.ErrForm)
		refused(t, []uint8{octet, zero}, []byte{0, byte(x), 0}, api.ErrForm)
		if x > 1 {
			refused(t, []uint8{flag}, []byte{byte(x)}, api.ErrForm)
			refused(t, []uint8{octet, flag}, []byte{0, byte(x), 0}, api.ErrForm)
		}
	}
}

// listsOf gives all lists of at most n elements out of a few.
func listsOf(n int, out []uint8) [][]uint8 {
	l := [][]uint8{{}}
	for from, k := 0, 0; k < n; k++ {
		end := len(l)
		for _, b := range l[from:end] {
			for _, x := range out {
				l = append(l, append(slices.Clone(b), x))
			}
		}
		from = end
	}
	return l
}

func TestP7_3_AllShortRowsAndBytes(t *testing.T) {
	strings := listsOf(5, []byte{0, 1, 2, 255})
	for _, kinds := range listsOf(3, []uint8{0, flag, octet, short, word, zero, 8}) {
		for _, b := range strings {
			reads(t, kinds, b)
		}
	}
}

func TestP7_3_BytesOfEachLength(t *testing.T) {
	m := mixed()
	for n := range maxFields + 1 {
		l := someRow(m, n)
		kinds, b := kindsOf(l), wantRow(l)
		for k := range b {
			refused(t, kinds, b[:k], api.ErrForm)
		}
		for more := range 70 {
			reads(t, kinds, append(slices.Clone(b), someBytes(m, more)...))
		}
	}
}

func TestP7_3_AWrongByteAtEachPlace(t *testing.T) {
	m := mixed()
	for n := 1; n <= maxFields; n++ {
		l := someRow(m, n)
		kinds, b := kindsOf(l), wantRow(l)
		for i := range b {
			other := slices.Clone(b)
			other[i] ^= pick(m, []byte{1, 2, 128, 255})
			reads(t, kinds, other)
		}
	}
}

func TestP7_3_RowsThatBeginAndEndTheirBytes(t *testing.T) {
	m := mixed()
	for n := range maxFields + 1 {
		for range 40 {
			l := someRow(m, n)
			b, more := wantRow(l), someBytes(m, m.below(40))
			reads(t, kindsOf(l), b)
			reads(t, kindsOf(l), append(b, more...))
			reads(t, kindsOf(l), someBytes(m, m.below(80)))
		}
	}
}

func TestP7_3_TooManyKinds(t *testing.T) {
	m := mixed()
	for _, n := range []int{maxFields + 1, maxFields + 2, 64, 256, 296, 65536 + 3} {
		for _, b := range [][]byte{nil, {1}, make([]byte, n), make([]byte, 32*n), bytes.Repeat([]byte{2}, n)} {
			refused(t, someKinds(m, n), b, api.ErrMany)
			refused(t, slices.Repeat([]uint8{flag}, n), b, api.ErrMany)
			// No kind among too many does not come first.
			refused(t, make([]uint8, n), b, api.ErrMany)
		}
	}
}

func TestP7_3_NoKindAtEachPlace(t *testing.T) {
	m := mixed()
	for n := 1; n <= maxFields; n++ {
		for i := range n {
			for _, none := range noKinds() {
				l := someRow(m, n)
				kinds, b := kindsOf(l), wantRow(l)
				kinds[i] = none
				// Bytes that are of no row do not come first, wherever they are wrong.
				for _, c := range [][]byte{nil, b, b[:len(b)/2], bytes.Repeat([]byte{2}, len(b)), make([]byte, 32*n+1)} {
					refused(t, kinds, c, api.ErrArg)
				}
			}
		}
	}
}

func TestP7_3_ManyBytesBehind(t *testing.T) {
	b := append([]byte{0, 5}, bytes.Repeat([]byte{9}, 1<<20)...)
	l, behind := first(t, []uint8{short}, b)
	if !slices.Equal(l, []api.Field{{Kind: short, N: 5}}) || !bytes.Equal(behind, b[2:]) {
		t.Error(l, len(behind))
	}
}

func TestP7_4_WrittenAndReadAreInverse(t *testing.T) {
	m := mixed()
	for n := range maxFields + 1 {
		for range 60 {
			l := someRow(m, n)
			b := write(t, l)
			if again := read(t, kindsOf(l), b); !slices.Equal(again, l) {
				t.Errorf("%v is read as %v", l, again)
			}
		}
	}
}

func TestP7_4_ReadAndWrittenAreInverse(t *testing.T) {
	m := mixed()
	rows := 0
	for range 20000 {
		kinds := someKinds(m, m.below(9))
		b := someBytes(m, wantSize(kinds))
		// Few bytes are those of a flag or a zero.
		for i := range b {
			b[i] &= pick(m, []byte{0, 1, 255})
		}
		l, e := field.Read(kinds, b)
		if e != api.OK {
			continue
		}
		rows++
		if again := write(t, l); !bytes.Equal(again, b) || !slices.Equal(kindsOf(l), kinds) {
			t.Errorf("%v, read as %v, is written as %v", b, l, again)
		}
	}
	if rows < 1000 {
		t.Errorf("%d rows", rows)
	}
}

func TestP7_4_TwoRowsBehindEachOther(t *testing.T) {
	m := mixed()
	for n := range maxFields + 1 {
		for range 40 {
			l := someRow(m, n)
			cut := m.below(n + 1)
			head, tail := l[:cut], l[cut:]
			b, c := write(t, head), write(t, tail)
			if all := write(t, l); !bytes.Equal(all, slices.Concat(b, c)) {
				t.Errorf("%v and %v have %v", head, tail, all)
			}
			got, behind := first(t, kindsOf(head), slices.Concat(b, c))
			if !slices.Equal(got, head) || !bytes.Equal(behind, c) {
				t.Errorf("First(%v, %v and %v) = %v, %v", kindsOf(head), b, c, got, behind)
			}
			if got := read(t, kindsOf(tail), behind); !slices.Equal(got, tail) {
				t.Errorf("%v behind %v is read as %v", tail, head, got)
			}
		}
	}
}

func TestP7_4_TheLesserNumberHasTheLesserBytes(t *testing.T) {
	for _, kind := range allKinds() {
		var l []uint64
		for _, n := range someNumbers() {
			if n <= wantGreatest(kind) {
				l = append(l, n)
			}
		}
		slices.Sort(l)
		l = slices.Compact(l)
		for i, n := range l {
			for j, k := range l {
				b, c := write(t, []api.Field{{Kind: kind, N: n}}), write(t, []api.Field{{Kind: kind, N: k}})
				if order := bytes.Compare(b, c); (order < 0) != (i < j) || (order > 0) != (i > j) {
					t.Errorf("%d and %d have %v and %v", n, k, b, c)
				}
			}
		}
	}
}

func TestP7_4_TheWidthOfARowDoesNotDependOnItsNumbers(t *testing.T) {
	m := mixed()
	for n := range maxFields + 1 {
		for range 20 {
			kinds := someKinds(m, n)
			want := 0
			for _, kind := range kinds {
				k, _ := field.Width(kind)
				want += k
			}
			for range 5 {
				l := rowOf(m, kinds)
				k, e := field.Size(l)
				if k != want || e != api.OK || len(write(t, l)) != want {
					t.Errorf("%v has %d bytes, not %d", l, k, want)
				}
			}
		}
	}
}

// room is how many elements there are in the room that spare leaves.
const room = 50

// spare gives a copy with marked room behind it.
func spare[E any](l []E, mark E) []E {
	return append(slices.Clone(l), slices.Repeat([]E{mark}, room)...)[:len(l)]
}

func sameSpare[E comparable](t *testing.T, what string, l, before []E, mark E) {
	t.Helper()
	behind := l[len(l) : len(l)+room]
	if !slices.Equal(l, before) || !slices.Equal(behind, slices.Repeat([]E{mark}, room)) {
		t.Errorf("%s have become %v, and %v behind them", what, l, behind)
	}
}

func TestP1_ArgumentsAreOnlyRead(t *testing.T) {
	m := mixed()
	mark := api.Field{Kind: short, N: 7}
	for n := range maxFields + 3 {
		l := someRow(m, n)
		for _, bad := range []bool{false, true} {
			if bad && n > 0 {
				l[m.below(n)] = pick(m, badFields())
			}
			row := spare(l, mark)
			field.Size(row)
			field.Write(row)
			sameSpare(t, "fields", row, l, mark)

			b := append(wantRow(l), someBytes(m, m.below(3))...)
			kinds, c := spare(kindsOf(l), octet), spare(b, 77)
			field.Read(kinds, c)
			field.First(kinds, c)
			sameSpare(t, "kinds", kinds, kindsOf(l), octet)
			sameSpare(t, "bytes", c, b, 77)
		}
	}
}

// What stands in the room behind a list is not of the list.
func TestP1_NothingBehindTheEndIsLookedAt(t *testing.T) {
	l := []api.Field{{Kind: octet, N: 1}, {Kind: octet, N: 256}}
	writes(t, l[:1], []byte{1}, api.OK)
	writes(t, l[:0], nil, api.OK)
	kinds, b := []uint8{octet, short, 0}, []byte{1, 2, 3, 4}
	refused(t, kinds[:2], b[:2], api.ErrForm)
	refused(t, kinds[:2], b[:1], api.ErrForm)
	refused(t, kinds[:1], b[:0], api.ErrForm)
	if got, behind := first(t, kinds[:1], b[:2]); !slices.Equal(got, l[:1]) || !bytes.Equal(behind, b[1:2]) {
		t.Error(got, behind)
	}
}

// One list may be both arguments, as kinds are bytes.
func TestP1_ArgumentsMayShareMemory(t *testing.T) {
	for _, b := range listsOf(3, []byte{0, flag, octet, short, zero}) {
		before := slices.Clone(b)
		reads(t, b, b)
		reads(t, b[:len(b)/2], b)
		if !bytes.Equal(b, before) {
			t.Errorf("%v has become %v", before, b)
		}
	}
}

// scribble writes to a result, and to the room behind it.
func scribble[E any](l []E, mark E) {
	whole := l[:cap(l)]
	for i := range whole {
		whole[i] = mark
	}
}

func TestP1_ResultsShareNoMemory(t *testing.T) {
	m := mixed()
	for n := range maxFields + 1 {
		for _, more := range []int{0, 1, 40} {
			l := someRow(m, n)
			b := append(wantRow(l), someBytes(m, more)...)
			row, kinds, c := spare(l, api.Field{}), spare(kindsOf(l), 0), spare(b, 0)
			written := write(t, row)
			head, behind := first(t, kinds, c)
			var all []api.Field
			if more == 0 {
				all = read(t, kinds, c)
				scribble(all, api.Field{Kind: 99})
			}
			scribble(written, 99)
			scribble(behind, 99)
			if !slices.Equal(head, l) {
				t.Errorf("%v has become %v", l, head)
			}
			scribble(head, api.Field{Kind: 99})
			sameSpare(t, "fields", row, l, api.Field{})
			sameSpare(t, "kinds", kinds, kindsOf(l), 0)
			sameSpare(t, "bytes", c, b, 0)
		}
	}
}

// What is written to an argument after a call does not change what was returned.
func TestP1_NothingIsKept(t *testing.T) {
	m := mixed()
	for n := range maxFields + 1 {
		l := someRow(m, n)
		kinds, b := kindsOf(l), append(wantRow(l), 1, 2, 3)
		want := slices.Clone(l)
		row, whole := slices.Clone(l), slices.Clone(b)
		written := write(t, row)
		head, behind := first(t, kinds, whole)
		all := read(t, kinds, whole[:len(whole)-3])
		clear(row)
		clear(whole)
		clear(kinds)
		if !bytes.Equal(written, b[:len(b)-3]) || !slices.Equal(head, want) || !slices.Equal(all, want) || !bytes.Equal(behind, []byte{1, 2, 3}) {
			t.Errorf("%v: %v, %v, %v, %v", want, written, head, behind, all)
		}
	}
}

// answers holds what all functions of the package answer to the same arguments.
type answers struct {
	check, widthE, sizeE, writeE, readE, firstE api.Errno
	width, size                                 int
	written, behind                             []byte
	all, head                                   []api.Field
}

func ask(l []api.Field, b []byte) (s answers) {
	kinds := kindsOf(l)
	if len(l) > 0 {
		s.check = field.Check(l[0])
		s.width, s.widthE = field.Width(kinds[0])
	}
	s.size, s.sizeE = field.Size(l)
	s.written, s.writeE = field.Write(l)
	s.all, s.readE = field.Read(kinds, b)
	s.head, s.behind, s.firstE = field.First(kinds, b)
	return s
}

func (s answers) equal(o answers) bool {
	return s.check == o.check && s.widthE == o.widthE && s.sizeE == o.sizeE && s.writeE == o.writeE && s.readE == o.readE && s.firstE == o.firstE &&
		s.width == o.width && s.size == o.size && bytes.Equal(s.written, o.written) && bytes.Equal(s.behind, o.behind) &&
		slices.Equal(s.all, o.all) && slices.Equal(s.head, o.head)
}

// anyRow gives any fields at all, most of them valid.
func anyRow(m *numbers) []api.Field {
	l := someRow(m, m.below(44))
	for i := range l {
		switch m.below(90) {
		case 0:
			l[i].Kind = byte(m.next() >> 9)
		case 1:
			l[i].N = m.next()
		case 2:
			l[i].D = someDigest(m)
		case 3:
			l[i] = pick(m, badFields())
		}
	}
	return l
}

func anyBytes(m *numbers, l []api.Field) []byte {
	b := wantRow(l)
	switch m.below(5) {
	case 0:
		b = append(b, someBytes(m, m.below(9))...)
	case 1:
		b = b[:m.below(len(b)+1)]
	case 2:
		b = someBytes(m, m.below(99))
	}
	return b
}

func TestP1_TheSameCallHasTheSameAnswer(t *testing.T) {
	m := mixed()
	var rows [][]api.Field
	var strings [][]byte
	var before []answers
	for range 3000 {
		l := anyRow(m)
		b := anyBytes(m, l)
		rows, strings, before = append(rows, l), append(strings, b), append(before, ask(l, b))
	}
	for i := range slices.Backward(rows) {
		if again := ask(rows[i], strings[i]); !again.equal(before[i]) {
			t.Errorf("%v, %v: %v, then %v", rows[i], strings[i], before[i], again)
		}
	}
}

// Any values at all are answered, and an answer with an error has nothing else.
func TestP1_AllArgumentsAreAnswered(t *testing.T) {
	m := mixed()
	for range 20000 {
		l := anyRow(m)
		var want []byte
		wantE := api.OK
		switch {
		case len(l) > maxFields:
			wantE = api.ErrMany
		case slices.ContainsFunc(l, func(f api.Field) bool { return !wantValid(f) }):
			wantE = api.ErrBad
		default:
			want = wantRow(l)
		}
		writes(t, l, want, wantE)
		reads(t, kindsOf(l), anyBytes(m, l))
		kinds := someBytes(m, m.below(5))
		reads(t, kinds, someBytes(m, m.below(50)))
	}
}
