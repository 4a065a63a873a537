package reply_test

import (
	"bytes"
	"encoding/binary"
	"math"
	"math/rand/v2"
	"slices"
	"testing"

	"spigot/api"
	"spigot/reply"
)

const (
	size = 32
	top  = math.MaxUint32
)

// mixed gives numbers that are mixed, the same ones in each test.
func mixed() *rand.Rand { return rand.New(rand.NewPCG(10, 32)) }

func pick[E any](m *rand.Rand, l []E) E { return l[m.IntN(len(l))] }

func someBytes(m *rand.Rand, n int) []byte {
	b := make([]byte, n)
	for i := range b {
		b[i] = byte(m.Uint32())
	}
	return b
}

// bareCodes are those that stand alone.
func bareCodes() []uint8 { return []uint8{1, 4, 5, 6, 7, 8} }

func someLevel(m *rand.Rand) uint32 {
	return pick(m, []uint32{0, 1, 255, 256, 1 << 16, 1 << 24, 1e9 - 1, 1e9, m.Uint32N(1e9 + 1)})
}

func someWait(m *rand.Rand) uint64 {
	return pick(m, []uint64{1, 2, 255, 256, 1 << 32, 1 << 63, math.MaxUint64 - 1, math.MaxUint64, 1 + m.Uint64N(math.MaxUint64), 1 + m.Uint64N(1<<20)})
}

func admitted(m *rand.Rand) api.Reply {
	return api.Reply{Code: 2, Tenant: m.Uint32N(16), Levels: [3]uint32{someLevel(m), someLevel(m), someLevel(m)}}
}

func limited(m *rand.Rand) api.Reply {
	r := admitted(m)
	r.Code, r.Wait = 3, someWait(m)
	return r
}

// someReply gives a valid reply.
func someReply(m *rand.Rand) api.Reply {
	switch m.IntN(5) {
	case 0:
		return api.Reply{Code: pick(m, bareCodes())}
	case 1, 2:
		return admitted(m)
	}
	return limited(m)
}

// plainReplies has one valid reply for each code, with no byte 0 in what it has.
func plainReplies() []api.Reply {
	levels := [3]uint32{0x01020304, 0x11121314, 0x21222324}
	return []api.Reply{
		{Code: 1},
		{Code: 2, Tenant: 15, Levels: levels},
		{Code: 3, Tenant: 14, Levels: levels, Wait: 0x3132333435363738},
		{Code: 4},
		{Code: 5},
		{Code: 6},
		{Code: 7},
		{Code: 8},
	}
}

// isFine goes through the definition of a valid reply.
func isFine(r api.Reply) bool {
	if r.Code < 1 || r.Code > 8 {
		return false
	}
	if r.Code != 2 && r.Code != 3 {
		return r.Tenant == 0 && r.Levels == [3]uint32{} && r.Wait == 0
	}
	if r.Tenant > 15 || max(r.Levels[0], r.Levels[1], r.Levels[2]) > 1e9 {
		return false
	}
	return (r.Code == 2) == (r.Wait == 0)
}

func wantCheck(r api.Reply) api.Errno {
	if isFine(r) {
		return api.OK
	}
	return api.ErrBad
}

// bytesOf puts down the bytes of a reply as the definition says, whether it is valid or not.
func bytesOf(r api.Reply) []byte {
	b := []byte{r.Code, 0, 0, 0}
	for _, n := range []uint32{r.Tenant, r.Levels[0], r.Levels[1], r.Levels[2]} {
		b = binary.BigEndian.AppendUint32(b, n)
	}
	b = binary.BigEndian.AppendUint64(b, r.Wait)
	return append(b, 0, 0, 0, 0)
}

func wantParse(b []byte) (api.Reply, api.Errno) {
	if len(b) != size {
		return api.Reply{}, api.ErrForm
	}
	word := func(at int) uint32 { return binary.BigEndian.Uint32(b[at:]) }
	r := api.Reply{Code: b[0], Tenant: word(4), Levels: [3]uint32{word(8), word(12), word(16)}, Wait: binary.BigEndian.Uint64(b[20:])}
	if !isFine(r) || !bytes.Equal(b, bytesOf(r)) {
		return api.Reply{}, api.ErrForm
	}
	return r, api.OK
}

func wantCode(code uint8) (api.Reply, api.Errno) {
	if !slices.Contains(bareCodes(), code) {
		return api.Reply{}, api.ErrArg
	}
	return api.Reply{Code: code}, api.OK
}

// isBad tells that a reply is not valid: it has no bytes, and its numbers in bytes have no reply.
func isBad(t *testing.T, r api.Reply) {
	t.Helper()
	if e := reply.Check(r); e != api.ErrBad {
		t.Fatalf("Check(%v) = %d", r, e)
	}
	if b, e := reply.Write(r); len(b) != 0 || e != api.ErrBad {
		t.Fatalf("Write(%v) = %v, %d", r, b, e)
	}
	hasNoReply(t, bytesOf(r))
}

// isValid tells that a reply is valid, has these bytes, and that the bytes have it.
func isValid(t *testing.T, r api.Reply) {
	t.Helper()
	if e := reply.Check(r); e != api.OK {
		t.Fatalf("Check(%v) = %d", r, e)
	}
	want := bytesOf(r)
	if b, e := reply.Write(r); !bytes.Equal(b, want) || e != api.OK {
		t.Fatalf("Write(%v) = %v, %d, not %v", r, b, e, want)
	}
	if got, e := reply.Parse(want); got != r || e != api.OK {
		t.Fatalf("Parse(%v) = %v, %d, not %v", want, got, e, r)
	}
}

// isAsWanted tells whether a reply is valid, or not, as the definition says.
func isAsWanted(t *testing.T, r api.Reply) {
	t.Helper()
	if isFine(r) {
		isValid(t, r)
		return
	}
	isBad(t, r)
}

func hasNoReply(t *testing.T, b []byte) {
	t.Helper()
	if r, e := reply.Parse(b); r != (api.Reply{}) || e != api.ErrForm {
		t.Fatalf("Parse(%v) = %v, %d", b, r, e)
	}
}

// parses tells whether bytes have a reply, or none, as the definition says.
func parses(t *testing.T, b []byte) {
	t.Helper()
	want, wantE := wantParse(b)
	if r, e := reply.Parse(b); r != want || e != wantE {
		t.Fatalf("Parse(%v) = %v, %d, not %v, %d", b, r, e, want, wantE)
	}
}

func written(t *testing.T, r api.Reply) []byte {
	t.Helper()
	b, e := reply.Write(r)
	if e != api.OK {
		t.Fatalf("Write(%v): error %d", r, e)
	}
	return b
}

func TestNumbersAreThoseOfTheChapter(t *testing.T) {
	codes := [8]uint8{api.CodeDenied, api.CodeAdmitted, api.CodeLimited, api.CodeDone, api.CodeFull, api.CodeExists, api.CodeMissing, api.CodeSpent}
	if codes != [8]uint8{1, 2, 3, 4, 5, 6, 7, 8} {
		t.Error(codes)
	}
	if api.OK != 0 || api.ErrArg != 2 || api.ErrBad != 8 || api.ErrForm != 12 {
		t.Error(api.OK, api.ErrArg, api.ErrBad, api.ErrForm)
	}
	if api.ReplySize != 32 || api.MaxTenants != 16 || api.MaxBurst != 1e9 || api.Never != uint64(math.MaxUint64) {
		t.Error(api.ReplySize, api.MaxTenants, api.MaxBurst)
	}
}

// The chapter's second example: with CodeAdmitted it would not be valid.
func TestP10_1_Example(t *testing.T) {
	r := api.Reply{Code: api.CodeLimited, Tenant: 2, Levels: [3]uint32{5, 0, 258}, Wait: 3}
	isValid(t, r)
	r.Code = api.CodeAdmitted
	isBad(t, r)
	r.Wait = 0
	isValid(t, r)
	r.Code = api.CodeLimited
	isBad(t, r)
}

func TestP10_1_AllBareReplies(t *testing.T) {
	for code := range 256 {
		r := api.Reply{Code: uint8(code)}
		// With CodeAdmitted alone it is the tenant 0, with all levels 0; with CodeLimited there is no wait.
		if code >= 1 && code <= 8 && code != 3 {
			isValid(t, r)
		} else {
			isBad(t, r)
		}
	}
}

func TestP10_1_AllCodes(t *testing.T) {
	m := mixed()
	for code := range 256 {
		l := append(plainReplies(), admitted(m), limited(m), api.Reply{Wait: 1}, api.Reply{Wait: api.Never})
		for _, r := range l {
			r.Code = uint8(code)
			isAsWanted(t, r)
			if code < 1 || code > 8 {
				isBad(t, r)
			}
		}
	}
}

// parts are replies with one part that is not 0.
func parts() []api.Reply {
	l := []api.Reply{{Wait: 1}, {Wait: 256}, {Wait: 1 << 32}, {Wait: 1 << 63}, {Wait: math.MaxUint64}}
	for _, n := range []uint32{1, 15, 16, 256, 1 << 16, 1 << 24, 1e9, top} {
		l = append(l, api.Reply{Tenant: n}, api.Reply{Levels: [3]uint32{n}}, api.Reply{Levels: [3]uint32{1: n}}, api.Reply{Levels: [3]uint32{2: n}})
	}
	return l
}

// With the six other codes there is nothing else.
func TestP10_1_BareCodesHaveNothingElse(t *testing.T) {
	m := mixed()
	for _, code := range bareCodes() {
		for _, r := range append(parts(), admitted(m), limited(m)) {
			if r.Code = code; r != (api.Reply{Code: code}) {
				isBad(t, r)
			}
		}
	}
}

func TestP10_1_AllTenants(t *testing.T) {
	m := mixed()
	for n := range uint32(16) {
		for _, r := range []api.Reply{{Code: 2}, {Code: 3, Wait: 1}, admitted(m), limited(m)} {
			r.Tenant = n
			isValid(t, r)
		}
	}
	for _, n := range []uint32{16, 17, 31, 32, 255, 256, 257, 1 << 16, 1<<24 + 1, 1<<31 - 1, 1 << 31, top - 15, top} {
		for _, r := range []api.Reply{{Code: 2}, {Code: 3, Wait: 1}, admitted(m), limited(m)} {
			r.Tenant = n
			isBad(t, r)
		}
	}
}

// Each one of the three levels is at most 10^9, whatever the other ones are.
func TestP10_1_AllLevels(t *testing.T) {
	m := mixed()
	for i := range 3 {
		for _, r := range []api.Reply{{Code: 2}, {Code: 3, Wait: 1}, admitted(m), limited(m)} {
			for _, n := range []uint32{0, 1, 2, 255, 256, 1 << 16, 1 << 24, 1e9 - 1, 1e9} {
				r.Levels[i] = n
				isValid(t, r)
			}
			for _, n := range []uint32{1e9 + 1, 1e9 + 2, 1 << 30, 1<<31 - 1, 1 << 31, top - 1, top} {
				r.Levels[i] = n
				isBad(t, r)
			}
		}
	}
	most := [3]uint32{1e9, 1e9, 1e9}
	isValid(t, api.Reply{Code: 2, Tenant: 15, Levels: most})
	isValid(t, api.Reply{Code: 3, Tenant: 15, Levels: most, Wait: api.Never})
}

// Wait is 0 with CodeAdmitted, and at least 1 with CodeLimited.
func TestP10_1_AllWaits(t *testing.T) {
	m := mixed()
	for range 20 {
		yes, no := admitted(m), limited(m)
		no.Wait = 0
		isValid(t, yes)
		isBad(t, no)
		for i := range 64 {
			for _, n := range []uint64{1 << i, 1<<i + 1, ^(uint64(1) << i)} {
				yes.Wait, no.Wait = n, n
				isBad(t, yes)
				isValid(t, no)
			}
		}
		no.Wait = api.Never
		isValid(t, no)
	}
}

// anyReply gives a reply of which some parts are often not as they should be.
func anyReply(m *rand.Rand) api.Reply {
	r := someReply(m)
	for range m.IntN(3) {
		switch m.IntN(4) {
		case 0:
			r.Code = pick(m, []uint8{0, 1, 2, 3, 4, 5, 6, 7, 8, 9, 255, uint8(m.Uint32())})
		case 1:
			r.Tenant = pick(m, []uint32{0, 1, 15, 16, 256, 1 << 31, top, m.Uint32()})
		case 2:
			r.Levels[m.IntN(3)] = pick(m, []uint32{0, 1, 1e9, 1e9 + 1, 1 << 31, top, m.Uint32()})
		case 3:
			r.Wait = pick(m, []uint64{0, 1, 1 << 32, math.MaxUint64, m.Uint64()})
		}
	}
	return r
}

func TestP10_1_ManyReplies(t *testing.T) {
	m := mixed()
	for range 10000 {
		isValid(t, someReply(m))
		isAsWanted(t, anyReply(m))
	}
}

func TestP10_1_CodesThatStandAlone(t *testing.T) {
	for code := range 256 {
		c := uint8(code)
		r, e := reply.Code(c)
		if want, wantE := wantCode(c); r != want || e != wantE {
			t.Errorf("Code(%d) = %v, %d, not %v, %d", c, r, e, want, wantE)
		}
	}
	for _, code := range []uint8{api.CodeDenied, api.CodeDone, api.CodeFull, api.CodeExists, api.CodeMissing, api.CodeSpent} {
		if r, e := reply.Code(code); r != (api.Reply{Code: code}) || e != api.OK {
			t.Errorf("Code(%d) = %v, %d", code, r, e)
		}
	}
	// CodeAdmitted alone is valid, but these two tell more than a code.
	for _, code := range []uint8{0, api.CodeAdmitted, api.CodeLimited, 9, 255} {
		if r, e := reply.Code(code); r != (api.Reply{}) || e != api.ErrArg {
			t.Errorf("Code(%d) = %v, %d", code, r, e)
		}
	}
}

// The chapter's examples.
func TestP10_2_Examples(t *testing.T) {
	limited := []byte{3, 0, 0, 0, 0, 0, 0, 2, 0, 0, 0, 5, 0, 0, 0, 0, 0, 0, 1, 2, 0, 0, 0, 0, 0, 0, 0, 3, 0, 0, 0, 0}
	for _, c := range []struct {
		r    api.Reply
		want []byte
	}{
		{api.Reply{Code: api.CodeDenied}, append([]byte{1}, make([]byte, 31)...)},
		{api.Reply{Code: api.CodeLimited, Tenant: 2, Levels: [3]uint32{5, 0, 258}, Wait: 3}, limited},
	} {
		if b, e := reply.Write(c.r); !bytes.Equal(b, c.want) || e != api.OK {
			t.Errorf("Write(%v) = %v, %d", c.r, b, e)
		}
		if r, e := reply.Parse(c.want); r != c.r || e != api.OK {
			t.Errorf("Parse(%v) = %v, %d", c.want, r, e)
		}
	}
	limited[0] = api.CodeAdmitted
	hasNoReply(t, limited)
}

func TestP10_2_KnownBytes(t *testing.T) {
	want := [][]byte{
		{0: 1, 31: 0},
		{2, 0, 0, 0, 0, 0, 0, 15, 1, 2, 3, 4, 0x11, 0x12, 0x13, 0x14, 0x21, 0x22, 0x23, 0x24, 0, 0, 0, 0, 0, 0, 0, 0, 0, 0, 0, 0},
		{3, 0, 0, 0, 0, 0, 0, 14, 1, 2, 3, 4, 0x11, 0x12, 0x13, 0x14, 0x21, 0x22, 0x23, 0x24, 0x31, 0x32, 0x33, 0x34, 0x35, 0x36, 0x37, 0x38, 0, 0, 0, 0},
		{0: 4, 31: 0},
		{0: 5, 31: 0},
		{0: 6, 31: 0},
		{0: 7, 31: 0},
		{0: 8, 31: 0},
	}
	for i, r := range plainReplies() {
		if b := written(t, r); !bytes.Equal(b, want[i]) {
			t.Errorf("Write(%v) = %v, not %v", r, b, want[i])
		}
		isValid(t, r)
	}
}

func TestP10_2_BytesZero(t *testing.T) {
	for n := range 300 {
		hasNoReply(t, make([]byte, n))
	}
	hasNoReply(t, nil)
	// CodeAdmitted with zeros behind it is the tenant 0, with all levels 0.
	if r, e := reply.Parse(append([]byte{2}, make([]byte, 31)...)); r != (api.Reply{Code: 2}) || e != api.OK {
		t.Errorf("Parse = %v, %d", r, e)
	}
}

// Each byte of a reply is changed to each other one.
func TestP10_2_EachByteIsRead(t *testing.T) {
	m := mixed()
	l := append(plainReplies(), api.Reply{Code: 2}, api.Reply{Code: 3, Wait: 1}, api.Reply{Code: 3, Wait: api.Never})
	for range 20 {
		l = append(l, admitted(m), limited(m))
	}
	for _, r := range l {
		for at := range size {
			for x := range 256 {
				b := bytesOf(r)
				b[at] = byte(x)
				parses(t, b)
			}
		}
	}
}

// The bytes that are always 0 are so with each code.
func TestP10_2_BytesThatAreAlwaysZero(t *testing.T) {
	for _, r := range plainReplies() {
		for _, at := range []int{1, 2, 3, 28, 29, 30, 31} {
			for x := range 255 {
				b := bytesOf(r)
				b[at] = byte(x + 1)
				hasNoReply(t, b)
			}
		}
	}
}

func TestP10_2_AllFirstBytes(t *testing.T) {
	m := mixed()
	for first := range 256 {
		l := [][]byte{make([]byte, size), someBytes(m, size), bytesOf(admitted(m)), bytesOf(limited(m))}
		for _, b := range l {
			b[0] = byte(first)
			parses(t, b)
			if first < 1 || first > 8 {
				hasNoReply(t, b)
			}
		}
	}
}

// The words are those of a valid reply, or there is none.
func TestP10_2_Words(t *testing.T) {
	m := mixed()
	for _, r := range []api.Reply{{Code: 2}, {Code: 3, Wait: 1}, plainReplies()[1], plainReplies()[2]} {
		for i := range 4 {
			most := uint32(1e9)
			if i == 0 {
				most = 15
			}
			for _, n := range []uint32{0, 1, 2, most - 1, most, most + 1, 255, 256, 1 << 16, 1 << 24, 1<<31 - 1, 1 << 31, top - 1, top, m.Uint32(), m.Uint32()} {
				b := bytesOf(r)
				binary.BigEndian.PutUint32(b[4+4*i:], n)
				parses(t, b)
				if got, e := reply.Parse(b); (e == api.OK) != (n <= most) {
					t.Fatalf("Parse(%v) = %v, %d", b, got, e)
				}
			}
		}
	}
}

// With another number of bytes there is no reply, whatever they are.
func TestP10_2_BytesOfOtherLengths(t *testing.T) {
	m := mixed()
	for _, r := range append(plainReplies(), admitted(m), limited(m)) {
		b := bytesOf(r)
		long := slices.Concat(b, make([]byte, 400), b)
		for n := range long {
			if n == size {
				continue
			}
			hasNoReply(t, long[:n])
			hasNoReply(t, slices.Concat(b[:min(n, size)], someBytes(m, max(0, n-size))))
		}
		for _, n := range []int{256 + size, 1000, 65536, 65536 + size, 1 << 20} {
			hasNoReply(t, append(slices.Clone(b), make([]byte, n-size)...))
		}
		hasNoReply(t, b[1:])
		hasNoReply(t, append([]byte{b[0]}, b...))
		hasNoReply(t, append([]byte{0}, b...))
		hasNoReply(t, slices.Concat(b, b))
	}
}

// anyBytes gives bytes that are often those of a reply, or nearly so.
func anyBytes(m *rand.Rand) []byte {
	switch m.IntN(6) {
	case 0:
		return someBytes(m, pick(m, []int{0, 1, 31, 32, 33, 64, m.IntN(100)}))
	case 1:
		return bytesOf(anyReply(m))
	}
	b := bytesOf(someReply(m))
	for range m.IntN(3) {
		b[m.IntN(size)] = pick(m, []byte{0, 1, 2, 3, 8, 15, 255, byte(m.Uint32())})
	}
	return b
}

func TestP10_2_AnyBytes(t *testing.T) {
	m := mixed()
	for range 20000 {
		parses(t, anyBytes(m))
	}
}

func TestP10_3_WriteAndParseAreInverse(t *testing.T) {
	m := mixed()
	found := 0
	for range 10000 {
		r := someReply(m)
		if got, e := reply.Parse(written(t, r)); got != r || e != api.OK {
			t.Fatalf("%v has become %v, %d", r, got, e)
		}
		b := anyBytes(m)
		r, e := reply.Parse(b)
		if e != api.OK {
			continue
		}
		found++
		if got := written(t, r); !bytes.Equal(got, b) {
			t.Fatalf("%v has become %v", b, got)
		}
	}
	if found < 1000 {
		t.Errorf("%d replies", found)
	}
}

// What is parsed is valid, and what is not valid has no bytes that could be parsed.
func TestP10_3_WhatIsParsedIsValid(t *testing.T) {
	m := mixed()
	for range 10000 {
		b := anyBytes(m)
		if r, e := reply.Parse(b); e == api.OK && (reply.Check(r) != api.OK || !isFine(r)) {
			t.Fatalf("Parse(%v) = %v", b, r)
		}
		if r := anyReply(m); !isFine(r) {
			hasNoReply(t, bytesOf(r))
		}
	}
}

func TestP10_3_OneStringForEachReply(t *testing.T) {
	m := mixed()
	strings := map[string]api.Reply{}
	for range 10000 {
		r := someReply(m)
		b := string(written(t, r))
		if other, there := strings[b]; there && other != r {
			t.Fatalf("%v and %v have the same bytes", r, other)
		}
		strings[b] = r
	}
}

// Its length never tells.
func TestP10_3_TheLengthIsAlwaysTheSame(t *testing.T) {
	m := mixed()
	for _, r := range plainReplies() {
		if b := written(t, r); len(b) != size {
			t.Errorf("Write(%v) has %d bytes", r, len(b))
		}
	}
	for range 5000 {
		if r := someReply(m); len(written(t, r)) != size {
			t.Fatalf("Write(%v) = %v", r, written(t, r))
		}
		b := anyBytes(m)
		if r, e := reply.Parse(b); e == api.OK && len(b) != size {
			t.Fatalf("Parse(%v) = %v", b, r)
		}
	}
}

func TestP10_3_BareRepliesHaveOnlyZerosBehindTheCode(t *testing.T) {
	for _, code := range bareCodes() {
		r, e := reply.Code(code)
		if e != api.OK {
			t.Fatalf("Code(%d): error %d", code, e)
		}
		if b := written(t, r); !bytes.Equal(b, append([]byte{code}, make([]byte, 31)...)) {
			t.Errorf("Write(%v) = %v", r, b)
		}
		// Any other byte behind the code, and there is no reply.
		for at := 1; at < size; at++ {
			for x := range 255 {
				b := written(t, r)
				b[at] = byte(x + 1)
				hasNoReply(t, b)
			}
		}
	}
}

// Changing one byte of a reply gives another reply, or none.
func TestP10_3_AChangedByteIsAnotherReply(t *testing.T) {
	m := mixed()
	replies := 0
	for range 200 {
		r := someReply(m)
		b := written(t, r)
		for at := range b {
			for _, by := range []byte{1, 2, 3, 4, 128, 255, 1 + byte(m.UintN(255))} {
				c := slices.Clone(b)
				c[at] ^= by
				got, e := reply.Parse(c)
				if e == api.OK && got == r || e != api.OK && (e != api.ErrForm || got != (api.Reply{})) {
					t.Fatalf("%v with the byte %d changed by %d: %v, %d", b, at, by, got, e)
				}
				if e == api.OK {
					replies++
				}
			}
		}
	}
	if replies < 1000 {
		t.Errorf("%d replies", replies)
	}
}

// room is the size of the room that spare leaves.
const room = 100

// spare gives a copy with marked room behind it.
func spare(b []byte) []byte {
	return append(slices.Clone(b), bytes.Repeat([]byte{77}, room)...)[:len(b)]
}

func TestP1_ArgumentsAreOnlyRead(t *testing.T) {
	m := mixed()
	for range 3000 {
		was := anyBytes(m)
		b := spare(was)
		reply.Parse(b)
		behind := b[len(b) : len(b)+room]
		if !bytes.Equal(b, was) || !bytes.Equal(behind, bytes.Repeat([]byte{77}, room)) {
			t.Fatalf("%v has become %v, and %v behind it", was, b, behind)
		}
	}
}

// What stands in the room behind some bytes is not of them.
func TestP1_NothingBehindTheEndIsLookedAt(t *testing.T) {
	m := mixed()
	for range 500 {
		r := someReply(m)
		b := bytesOf(r)
		for _, n := range []int{0, 1, size - 1} {
			hasNoReply(t, b[:n])
		}
		whole := slices.Concat(b, someBytes(m, room))
		for _, b := range [][]byte{whole[:size], whole[:size:size]} {
			if got, e := reply.Parse(b); got != r || e != api.OK {
				t.Fatalf("Parse(%v) = %v, %d", b, got, e)
			}
		}
	}
}

func TestP1_ResultsShareNoMemory(t *testing.T) {
	m := mixed()
	for range 1000 {
		r := someReply(m)
		was := r
		one, two := written(t, r), written(t, r)
		argument := bytesOf(r)
		got, e := reply.Parse(argument)
		for _, b := range [][]byte{argument, one[:cap(one)]} {
			for i := range b {
				b[i] = 99
			}
		}
		if r != was || got != was || e != api.OK || !bytes.Equal(two, bytesOf(r)) || !bytes.Equal(written(t, r), two) {
			t.Fatalf("%v has become %v, with %v", was, got, two)
		}
	}
}

// answers holds what all functions of the package answer to the same arguments.
type answers struct {
	check, codeE, writeE, parseE api.Errno
	bare, parsed                 api.Reply
	written                      string
}

type question struct {
	r    api.Reply
	code uint8
	b    []byte
}

func (q question) ask() (s answers) {
	s.check = reply.Check(q.r)
	s.bare, s.codeE = reply.Code(q.code)
	b, e := reply.Write(q.r)
	s.written, s.writeE = string(b), e
	s.parsed, s.parseE = reply.Parse(q.b)
	return s
}

// want puts down what the definitions say.
func (q question) want() (s answers) {
	s.check = wantCheck(q.r)
	s.bare, s.codeE = wantCode(q.code)
	s.writeE = s.check
	if s.check == api.OK {
		s.written = string(bytesOf(q.r))
	}
	s.parsed, s.parseE = wantParse(q.b)
	return s
}

func anyQuestion(m *rand.Rand) question {
	return question{anyReply(m), pick(m, []uint8{uint8(m.UintN(10)), uint8(m.Uint32())}), anyBytes(m)}
}

func TestP1_TheSameCallHasTheSameAnswer(t *testing.T) {
	m := mixed()
	var questions []question
	var first []answers
	for range 1000 {
		q := anyQuestion(m)
		questions, first = append(questions, q), append(first, q.ask())
	}
	for i, q := range slices.Backward(questions) {
		if again := q.ask(); again != first[i] {
			t.Fatalf("%v: %v, then %v", q, first[i], again)
		}
	}
}

// Any values at all are answered, and an answer with an error has nothing else.
func TestP1_AllArgumentsAreAnswered(t *testing.T) {
	m := mixed()
	for range 20000 {
		q := anyQuestion(m)
		if got, want := q.ask(), q.want(); got != want {
			t.Fatalf("%v: %v, not %v", q, got, want)
		}
	}
}
