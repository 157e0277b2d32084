package keystone_test

import (
	"bytes"
	"encoding/binary"
	"encoding/hex"
	"hash/adler32"
	"math"
	"reflect"
	"slices"
	"strings"
	"testing"

	"keystone/api"
	"keystone/keystone"
)

// part is a field of messages as the document's section 'Words' tells it, apart from the program's own tables.
type part struct {
	name        string
	least, most int
	set         func(m *api.Msg, n int)
}

// free: a field whose numbers have no bounds.
func (p part) free() bool { return p.name == "Value" }

var parts = []part{
	{"Epoch", 0, 1000000000000, func(m *api.Msg, n int) { m.Epoch = n }},
	{"Ballot", 0, 1000000000000, func(m *api.Msg, n int) { m.Ballot = n }},
	{"Was", 0, 1000000000000, func(m *api.Msg, n int) { m.Was = n }},
	{"Primary", 0, 5, func(m *api.Msg, n int) { m.Primary = n }},
	{"Set", 0, 31, func(m *api.Msg, n int) { m.Set = n }},
	{"Seq", 0, 1000000000000, func(m *api.Msg, n int) { m.Seq = n }},
	{"Block", 0, 3, func(m *api.Msg, n int) { m.Block = n }},
	{"Value", math.MinInt, math.MaxInt, func(m *api.Msg, n int) { m.Value = n }},
}

// kindRows is the document's table of kinds.
var kindRows = []struct {
	kind   int
	fields string
}{
	{1, "Epoch Ballot"},
	{2, "Epoch Ballot Was Primary Set"},
	{3, "Epoch Ballot Primary Set"},
	{4, "Epoch Ballot"},
	{5, "Epoch Ballot Was"},
	{6, "Epoch Primary Set"},
	{7, "Epoch Seq Block Value"},
	{8, "Epoch Seq"},
	{9, "Epoch Seq Values"},
	{10, "Epoch Seq"},
}

func partNamed(name string) part {
	return parts[slices.IndexFunc(parts, func(p part) bool { return p.name == name })]
}

// summed lays the sum behind bytes; the document's sum is the one that is known as Adler-32.
func summed(b []byte) []byte {
	return binary.BigEndian.AppendUint32(slices.Clone(b), adler32.Checksum(b))
}

// built makes a message and, by the document's words, its bytes; pick chooses each field's number.
func built(row int, from int, list []int, pick func(p part) int) (api.Msg, []byte) {
	k := kindRows[row]
	m := api.Msg{Kind: k.kind, From: from}
	b := []byte{byte(k.kind), byte(from)}
	for _, name := range strings.Fields(k.fields) {
		if name == "Values" {
			m.Values = list
			b = append(b, byte(len(list)))
			for _, v := range list {
				b = binary.BigEndian.AppendUint64(b, uint64(v))
			}
			continue
		}
		p := partNamed(name)
		n := pick(p)
		p.set(&m, n)
		b = binary.BigEndian.AppendUint64(b, uint64(n))
	}
	return m, summed(b)
}

// sample is a message with its bytes.
type sample struct {
	m api.Msg
	b []byte
}

// samples: messages of all kinds, senders and lengths, at their fields' bounds and between.
func samples() []sample {
	picks := []func(p part) int{
		func(p part) int { return p.least },
		func(p part) int { return p.most },
		func(p part) int { return p.most/2 + 1 },
		func(p part) int { return min(p.most, 0x0102030405) },
		func(p part) int { return max(p.least, -2) },
		// each field's another: so none can stand in another one's place
		func(p part) int {
			return min(p.most, 1+slices.IndexFunc(parts, func(q part) bool { return q.name == p.name }))
		},
	}
	// with the last one the sum's upper half goes past its modulus
	lists := [][]int{nil, {7}, {math.MinInt, math.MaxInt}, {0, -1, 1}, {1, 2, 3, 0x0102030405060708}, {-1, -1, -1, -1}}
	var out []sample
	for row := range kindRows {
		for from := range 5 {
			for i, pick := range picks {
				m, b := built(row, from, lists[i], pick)
				out = append(out, sample{m, b})
			}
		}
	}
	return out
}

// sameMsg holds messages against each other; no Values and empty Values are the same.
func sameMsg(a, b api.Msg) bool {
	if len(a.Values) == 0 && len(b.Values) == 0 {
		a.Values, b.Values = nil, nil
	}
	return reflect.DeepEqual(a, b)
}

func wantNoMessage(t *testing.T, b []byte, why string) {
	t.Helper()
	if m, e := keystone.Decode(b); e != api.ErrForm || !sameMsg(m, api.Msg{}) {
		t.Errorf("P4: Decode(%x) = %+v, %d, want a message of nothing, ErrForm: %s", b, m, e, why)
	}
}

func wantNoBytes(t *testing.T, m api.Msg, why string) {
	t.Helper()
	if b, e := keystone.Encode(m); e != api.ErrArg || b != nil {
		t.Errorf("P3: Encode(%+v) = %x, %d, want nil, ErrArg: %s", m, b, e, why)
	}
}

// TestDocumentExamples holds to bytes that are written out, sum and all (P3, P4).
func TestDocumentExamples(t *testing.T) {
	for _, c := range []struct {
		m    api.Msg
		text string
	}{
		{api.Msg{Kind: api.Accepted, From: 1, Epoch: 2, Ballot: 7},
			"0401" + "0000000000000002" + "0000000000000007" + "0084000f"},
		{api.Msg{Kind: api.Copy, From: 0, Epoch: 1, Seq: 3, Values: []int{5, -1}},
			"0900" + "0000000000000001" + "0000000000000003" + "02" + "0000000000000005" + "ffffffffffffffff" + "25d9080d"},
	} {
		b, e := keystone.Encode(c.m)
		if hex.EncodeToString(b) != c.text || e != api.OK {
			t.Errorf("P3: Encode(%+v) = %x, %d, want %s", c.m, b, e, c.text)
		}
		want, _ := hex.DecodeString(c.text)
		if m, e := keystone.Decode(want); !sameMsg(m, c.m) || e != api.OK {
			t.Errorf("P4: Decode(%s) = %+v, %d, want %+v", c.text, m, e, c.m)
		}
	}
}

func TestEncodeAllKinds(t *testing.T) {
	for _, s := range samples() {
		if b, e := keystone.Encode(s.m); !bytes.Equal(b, s.b) || e != api.OK {
			t.Errorf("P3: Encode(%+v) = %x, %d, want %x", s.m, b, e, s.b)
		}
	}
}

func TestDecodeAllKinds(t *testing.T) {
	for _, s := range samples() {
		if m, e := keystone.Decode(s.b); !sameMsg(m, s.m) || e != api.OK {
			t.Errorf("P4: Decode(%x) = %+v, %d, want %+v", s.b, m, e, s.m)
		}
	}
}

func TestEmptyValuesAreNone(t *testing.T) {
	for row, k := range kindRows {
		m, want := built(row, 2, nil, func(p part) int { return p.most })
		m.Values = []int{}
		if b, e := keystone.Encode(m); !bytes.Equal(b, want) || e != api.OK {
			t.Errorf("P3: kind %d with empty Values: %x, %d, want %x", k.kind, b, e, want)
		}
	}
}

// TestEncodeWrongFields takes each field of each kind past its bounds, or has it where it must not be.
func TestEncodeWrongFields(t *testing.T) {
	for row, k := range kindRows {
		least := func(p part) int { return p.least }
		has := strings.Fields(k.fields)
		for _, p := range parts {
			wrong := []int{p.least - 1, p.most + 1, math.MinInt, math.MaxInt}
			if !slices.Contains(has, p.name) {
				wrong = []int{1, -1, math.MinInt, math.MaxInt}
			} else if p.free() {
				wrong = nil
			}
			for _, n := range wrong {
				m, _ := built(row, 0, nil, least)
				p.set(&m, n)
				wantNoBytes(t, m, p.name)
			}
		}
		lengths := []int{1, 4, 5, 1000000}
		if slices.Contains(has, "Values") {
			lengths = []int{5, 255, 256, 257, 260, 1000000}
		}
		for _, n := range lengths {
			m, _ := built(row, 0, nil, least)
			m.Values = make([]int, n)
			wantNoBytes(t, m, "Values")
		}
	}
}

func TestEncodeWrongKindOrSender(t *testing.T) {
	for _, kind := range []int{0, -1, 11, 255, 256, 257, 266, math.MinInt, math.MaxInt} {
		wantNoBytes(t, api.Msg{Kind: kind}, "kind")
	}
	for kind := 1; kind <= 10; kind++ {
		for _, from := range []int{-1, 5, 255, 256, 257, math.MinInt, math.MaxInt} {
			wantNoBytes(t, api.Msg{Kind: kind, From: from}, "From")
		}
	}
}

func TestDecodeWrongLength(t *testing.T) {
	wantNoMessage(t, nil, "nil")
	wantNoMessage(t, []byte{}, "empty")
	wantNoMessage(t, summed(nil), "a sum alone")
	for _, s := range samples() {
		body := s.b[:len(s.b)-4]
		for n := range s.b {
			wantNoMessage(t, s.b[:n], "too short")
		}
		for n := range body {
			wantNoMessage(t, summed(body[:n]), "too short, with a sum")
		}
		wantNoMessage(t, append(slices.Clone(s.b), 0), "a byte behind the sum")
		wantNoMessage(t, append(slices.Clone(s.b), s.b...), "the message twice")
		wantNoMessage(t, summed(append(slices.Clone(body), 0)), "a byte more")
		wantNoMessage(t, summed(append(slices.Clone(body), make([]byte, 8)...)), "a number more")
		wantNoMessage(t, summed(s.b), "a sum more")
		wantNoMessage(t, append(slices.Clone(s.b), make([]byte, 1<<16)...), "far too long")
	}
}

// TestDecodeChangedByte: the sum finds every single byte that is another one.
func TestDecodeChangedByte(t *testing.T) {
	for row := range kindRows {
		_, b := built(row, 1, []int{1, -1}, func(p part) int { return p.most })
		for i := range b {
			for x := 1; x < 256; x++ {
				changed := slices.Clone(b)
				changed[i] ^= byte(x)
				wantNoMessage(t, changed, "a byte is another")
			}
		}
	}
}

// TestDecodeWrongNumbers takes what is out of bounds in bytes whose sum is right.
func TestDecodeWrongNumbers(t *testing.T) {
	for row, k := range kindRows {
		for _, wrong := range parts {
			if !strings.Contains(k.fields, wrong.name) || wrong.free() {
				continue
			}
			for _, n := range []int{wrong.least - 1, wrong.most + 1, math.MinInt, math.MaxInt, 1 << 56} {
				_, b := built(row, 0, []int{1}, func(p part) int {
					if p.name == wrong.name {
						return n
					}
					return p.most
				})
				wantNoMessage(t, b, wrong.name)
			}
		}
		for from := 5; from < 256; from++ {
			_, b := built(row, from, nil, func(p part) int { return p.least })
			wantNoMessage(t, b, "From")
		}
	}
	for n := 5; n < 300; n++ {
		_, b := built(8, 0, make([]int, n), func(p part) int { return p.least })
		wantNoMessage(t, b, "Values")
	}
}

func TestDecodeWrongKind(t *testing.T) {
	for kind := range 256 {
		if kind >= 1 && kind <= 10 {
			continue
		}
		for n := range 6 {
			wantNoMessage(t, summed(append([]byte{byte(kind), 0}, make([]byte, 8*n)...)), "kind")
		}
	}
}

// TestDecodeWrongCount: Values are as many as the byte ahead of them says.
func TestDecodeWrongCount(t *testing.T) {
	for has := range 6 {
		for said := range 256 {
			if said == has && has <= 4 {
				continue
			}
			_, b := built(8, 0, make([]int, has), func(p part) int { return p.most })
			body := b[:len(b)-4]
			body[18] = byte(said)
			wantNoMessage(t, summed(body), "count")
		}
	}
}

// FuzzDecode: whatever is decoded is encoded to the same bytes, and nothing panics (P1, P4).
func FuzzDecode(f *testing.F) {
	for _, s := range samples() {
		f.Add(s.b)
		f.Add(s.b[:len(s.b)-4])
	}
	f.Fuzz(func(t *testing.T, b []byte) {
		for _, x := range [][]byte{b, summed(b)} {
			m, e := keystone.Decode(x)
			if e != api.OK {
				wantNoMessage(t, x, "twice")
				continue
			}
			if again, e := keystone.Encode(m); e != api.OK || !bytes.Equal(again, x) {
				t.Errorf("P4: Decode(%x) = %+v, but Encode of it = %x, %d", x, m, again, e)
			}
		}
	})
}

// spaced copies a list into the midst of a longer one; whole shows what is written around it.
func spaced[T any](list []T, filler T) (part []T, whole []T) {
	whole = slices.Repeat([]T{filler}, len(list)+16)
	copy(whole[8:], list)
	return whole[8 : 8+len(list)], whole
}

// scribble writes over a list and its spare room.
func scribble[T any](list []T, filler T) {
	list = list[:cap(list)]
	for i := range list {
		list[i] = filler
	}
}

// TestEncodeKeepsToItself: what comes in is not written into; what goes out is shared with nothing (P2).
func TestEncodeKeepsToItself(t *testing.T) {
	for _, s := range samples() {
		m := s.m
		list, whole := spaced(m.Values, -77)
		m.Values = list
		before := slices.Clone(whole)
		one, _ := keystone.Encode(m)
		two, _ := keystone.Encode(m)
		scribble(one, 0xee)
		if !slices.Equal(whole, before) {
			t.Errorf("P2: Encode(%+v) wrote into what it was given", s.m)
		}
		if !bytes.Equal(two, s.b) {
			t.Errorf("P2: two lists of Encode(%+v) share memory", s.m)
		}
		scribble(list, -1)
		if !bytes.Equal(two, s.b) {
			t.Errorf("P2: Encode(%+v) gave out what it was given", s.m)
		}
	}
}

func TestDecodeKeepsToItself(t *testing.T) {
	for _, s := range samples() {
		list, whole := spaced(s.b, 0x77)
		before := slices.Clone(whole)
		one, _ := keystone.Decode(list)
		two, _ := keystone.Decode(list)
		scribble(one.Values, -99)
		if !bytes.Equal(whole, before) {
			t.Errorf("P2: Decode(%x) wrote into what it was given", s.b)
		}
		scribble(list, 0xee)
		if !sameMsg(two, s.m) {
			t.Errorf("P2: what Decode(%x) gave out is shared", s.b)
		}
	}
}

// TestWrongListsAreLeftAlone: nothing is written into a list either, when it is refused (P1, P2).
func TestWrongListsAreLeftAlone(t *testing.T) {
	list, whole := spaced([]int{1, 2, 3, 4, 5}, -77)
	before := slices.Clone(whole)
	wantNoBytes(t, api.Msg{Kind: api.Copy, Values: list}, "too many Values")
	wantNoBytes(t, api.Msg{Kind: api.Copied, Values: list[:1]}, "Values of a kind without")
	if !slices.Equal(whole, before) {
		t.Errorf("P2: a refused list became %v, was %v", whole, before)
	}
	b, all := spaced([]byte("no message at all, whoever reads it"), 0x77)
	was := slices.Clone(all)
	wantNoMessage(t, b, "text")
	if !bytes.Equal(all, was) {
		t.Errorf("P2: refused bytes became %x, were %x", all, was)
	}
}
