package keystone_test

import (
	"bytes"
	"math"
	"slices"
	"sync"
	"testing"

	"keystone/api"
	"keystone/keystone"
)

// nodeOn makes a node on a disk.
func nodeOn(t *testing.T, id, nodes, blocks int, d *api.Disk) *keystone.Node {
	t.Helper()
	n, e := keystone.New(id, nodes, blocks, d)
	if n == nil || e != api.OK {
		t.Fatalf("P6: New(%d, %d, %d) = %v, %d, want a node", id, nodes, blocks, n, e)
	}
	return n
}

// newNode makes a node on a disk of its own.
func newNode(t *testing.T, id, nodes, blocks int) *keystone.Node {
	t.Helper()
	d, _ := api.NewDisk()
	return nodeOn(t, id, nodes, blocks, d)
}

// bytesOf encodes a message.
func bytesOf(t *testing.T, m api.Msg) []byte {
	t.Helper()
	b, e := keystone.Encode(m)
	if e != api.OK {
		t.Fatalf("P3: Encode(%+v): %d", m, e)
	}
	return b
}

// isAnswer tells whether packets are just a message, to a node; none, if the message's kind is 0.
func isAnswer(t *testing.T, got []api.Packet, to int, want api.Msg) bool {
	t.Helper()
	if want.Kind == 0 {
		return len(got) == 0
	}
	return len(got) == 1 && got[0].To == to && bytes.Equal(got[0].Data, bytesOf(t, want))
}

// told makes packets readable.
func told(l []api.Packet) (out []any) {
	for _, p := range l {
		m, e := keystone.Decode(p.Data)
		out = append(out, p.To, m, e)
	}
	return out
}

// wantAnswer hands a message in.
func wantAnswer(t *testing.T, n *keystone.Node, m, want api.Msg) {
	t.Helper()
	if got := n.Receive(bytesOf(t, m)); !isAnswer(t, got, m.From, want) {
		t.Fatalf("P8: %+v is answered %+v, want %+v to %d", m, told(got), want, m.From)
	}
}

func wantNode(t *testing.T, n *keystone.Node, acts bool, records ...api.Record) {
	t.Helper()
	if got := n.Records(); !slices.Equal(got, records) {
		t.Fatalf("P7: Records() = %v, want %v", got, records)
	}
	if got := n.Acting(); got != acts {
		t.Fatalf("P7: Acting() = %t, want %t", got, acts)
	}
}

// Messages of each kind, by their fields in the document's order.

func prepare(from, epoch, ballot int) api.Msg {
	return api.Msg{Kind: 1, From: from, Epoch: epoch, Ballot: ballot}
}

func promise(from, epoch, ballot, was, primary, set int) api.Msg {
	return api.Msg{Kind: 2, From: from, Epoch: epoch, Ballot: ballot, Was: was, Primary: primary, Set: set}
}

func accept(from, epoch, ballot, primary, set int) api.Msg {
	return api.Msg{Kind: 3, From: from, Epoch: epoch, Ballot: ballot, Primary: primary, Set: set}
}

func accepted(from, epoch, ballot int) api.Msg {
	return api.Msg{Kind: 4, From: from, Epoch: epoch, Ballot: ballot}
}

func refused(from, epoch, ballot, was int) api.Msg {
	return api.Msg{Kind: 5, From: from, Epoch: epoch, Ballot: ballot, Was: was}
}

func decided(from, epoch, primary, set int) api.Msg {
	return api.Msg{Kind: 6, From: from, Epoch: epoch, Primary: primary, Set: set}
}

func write(from, epoch, seq, block, value int) api.Msg {
	return api.Msg{Kind: 7, From: from, Epoch: epoch, Seq: seq, Block: block, Value: value}
}

func wrote(from, epoch, seq int) api.Msg {
	return api.Msg{Kind: 8, From: from, Epoch: epoch, Seq: seq}
}

func copyOf(from, epoch, seq int, values ...int) api.Msg {
	return api.Msg{Kind: 9, From: from, Epoch: epoch, Seq: seq, Values: values}
}

func copied(from, epoch, seq int) api.Msg {
	return api.Msg{Kind: 10, From: from, Epoch: epoch, Seq: seq}
}

var nothing = api.Msg{}

const most = 1000000000000

// TestNewNodes: what is there at first (P6, P7).
func TestNewNodes(t *testing.T) {
	for nodes, all := range map[int]int{2: 3, 3: 7, 4: 15, 5: 31} {
		for id := range nodes {
			for blocks := 1; blocks <= 4; blocks++ {
				n := newNode(t, id, nodes, blocks)
				wantNode(t, n, false, rec(0, 0, all))
				other := (id + 1) % nodes
				wantAnswer(t, n, prepare(other, 0, 0), promise(id, 0, 0, 0, 0, 0))
				wantAnswer(t, n, write(other, 0, 0, blocks-1, 9), wrote(id, 0, 0))
				wantNode(t, n, false, rec(0, 0, all))
			}
		}
	}
}

// TestNewWrong: wrong numbers come ahead of a disk that is stopped (P1, P6).
func TestNewWrong(t *testing.T) {
	d, _ := api.NewDisk()
	stopped, h := api.NewDisk()
	h.Stop(0)
	for _, c := range [][3]int{
		{0, 1, 1}, {0, 0, 1}, {0, -2, 1}, {0, 6, 1}, {0, math.MaxInt, 1}, {0, math.MinInt, 1},
		{-1, 3, 1}, {3, 3, 1}, {4, 3, 1}, {5, 5, 1}, {2, 2, 1}, {math.MinInt, 3, 1}, {math.MaxInt, 3, 1},
		{0, 3, 0}, {0, 3, -1}, {0, 3, 5}, {0, 3, math.MaxInt}, {0, 3, math.MinInt},
	} {
		for _, on := range []*api.Disk{d, stopped, nil} {
			if n, e := keystone.New(c[0], c[1], c[2], on); n != nil || e != api.ErrArg {
				t.Errorf("P6: New(%v) = %v, %d, want nil, ErrArg", c, n, e)
			}
		}
	}
	if n, e := keystone.New(0, 2, 1, nil); n != nil || e != api.ErrArg {
		t.Errorf("P6: New without a disk = %v, %d, want nil, ErrArg", n, e)
	}
	if n, e := keystone.New(0, 2, 1, &api.Disk{}); n != nil || e != api.ErrArg {
		t.Errorf("P1: New on what is no disk = %v, %d, want nil, ErrArg", n, e)
	}
	if n, e := keystone.New(0, 2, 1, stopped); n != nil || e != api.ErrDown {
		t.Errorf("P6: New on a disk that is stopped = %v, %d, want nil, ErrDown", n, e)
	}
}

// TestVotes: what is promised and accepted is so for its epoch alone (P8).
func TestVotes(t *testing.T) {
	n := newNode(t, 2, 4, 1)
	for _, c := range []struct{ m, want api.Msg }{
		{prepare(0, 0, 6), promise(2, 0, 6, 0, 0, 0)},
		{prepare(0, 0, 6), promise(2, 0, 6, 0, 0, 0)},
		{prepare(1, 0, 5), refused(2, 0, 5, 6)},
		{prepare(1, 0, 0), refused(2, 0, 0, 6)},
		{accept(1, 0, 5, 2, 2), refused(2, 0, 5, 6)},
		{prepare(1, 1, 3), promise(2, 1, 3, 0, 0, 0)},
		{accept(0, 0, 6, 1, 3), accepted(2, 0, 6)},
		{accept(0, 0, 6, 1, 3), accepted(2, 0, 6)},
		{prepare(3, 0, 9), promise(2, 0, 9, 6, 1, 3)},
		{prepare(3, 0, 11), promise(2, 0, 11, 6, 1, 3)},
		{accept(0, 0, 6, 1, 3), refused(2, 0, 6, 11)},
		{accept(1, 0, 12, 2, 2), accepted(2, 0, 12)},
		{prepare(3, 0, 11), refused(2, 0, 11, 12)},
		{prepare(3, 0, 12), promise(2, 0, 12, 12, 2, 2)},
		{accept(1, 0, 12, 3, 5), accepted(2, 0, 12)},
		{prepare(3, 0, 12), promise(2, 0, 12, 12, 3, 5)},
		{prepare(3, 1, 2), refused(2, 1, 2, 3)},
		{prepare(3, 1, 3), promise(2, 1, 3, 0, 0, 0)},
		{accept(3, most, most, 5, 31), accepted(2, most, most)},
		{prepare(3, most, most-1), refused(2, most, most-1, most)},
		{prepare(3, most, most), promise(2, most, most, most, 5, 31)},
	} {
		wantAnswer(t, n, c.m, c.want)
		wantNode(t, n, false, rec(0, 0, 15))
	}
}

// TestBallotNought: 0 is a ballot as others are, below all of them (P8).
func TestBallotNought(t *testing.T) {
	n := newNode(t, 0, 2, 1)
	wantAnswer(t, n, accept(1, 0, 0, 2, 2), accepted(0, 0, 0))
	wantAnswer(t, n, prepare(1, 0, 0), promise(0, 0, 0, 0, 2, 2))
	wantAnswer(t, n, prepare(1, 0, 1), promise(0, 0, 1, 0, 2, 2))
	wantAnswer(t, n, accept(1, 0, 0, 2, 3), refused(0, 0, 0, 1))
}

// TestLearn: a record is learned if its epoch is the next one and it follows (P7, P8).
func TestLearn(t *testing.T) {
	n := newNode(t, 1, 3, 1)
	all, one, two := rec(0, 0, 7), rec(1, 3, 6), rec(2, 3, 7)
	for _, m := range []api.Msg{
		decided(0, 1, 3, 6), decided(0, most, 3, 6), decided(0, 0, 0, 7), decided(0, 0, 3, 3), decided(0, 0, 1, 0),
		decided(0, 0, 4, 15), decided(0, 0, 4, 8), decided(1, 0, 3, 6), decided(3, 0, 3, 6), decided(4, 0, 3, 6),
	} {
		wantAnswer(t, n, m, nothing)
		wantNode(t, n, false, all)
	}
	wantAnswer(t, n, decided(0, 0, 3, 6), nothing)
	wantNode(t, n, false, all, one)
	for _, m := range []api.Msg{decided(0, 0, 3, 6), decided(0, 0, 2, 6), decided(0, 2, 3, 6), decided(0, 1, 2, 7), decided(0, 1, 1, 1)} {
		wantAnswer(t, n, m, nothing)
		wantNode(t, n, false, all, one)
	}
	wantAnswer(t, n, decided(2, 1, 3, 7), nothing)
	wantNode(t, n, false, all, one, two)
	// who asks for an epoch below is told what was decided for it, whatever the ballot
	for _, ballot := range []int{0, 7, most} {
		wantAnswer(t, n, prepare(0, 0, ballot), decided(1, 0, 3, 6))
		wantAnswer(t, n, accept(0, 0, ballot, 1, 1), decided(1, 0, 3, 6))
		wantAnswer(t, n, prepare(2, 1, ballot), decided(1, 1, 3, 7))
		wantAnswer(t, n, accept(2, 1, ballot, 1, 1), decided(1, 1, 3, 7))
	}
	wantAnswer(t, n, prepare(2, 2, 4), promise(1, 2, 4, 0, 0, 0))
	wantNode(t, n, false, all, one, two)
}

// TestVotesAheadAreKept: votes for an epoch that is not reached yet are there when it is (P8).
func TestVotesAheadAreKept(t *testing.T) {
	n := newNode(t, 1, 3, 1)
	wantAnswer(t, n, accept(0, 1, 5, 1, 1), accepted(1, 1, 5))
	wantAnswer(t, n, prepare(0, 1, 6), promise(1, 1, 6, 5, 1, 1))
	wantAnswer(t, n, accept(0, 0, 5, 1, 1), accepted(1, 0, 5))
	wantAnswer(t, n, decided(0, 0, 1, 7), nothing)
	wantAnswer(t, n, prepare(2, 1, 5), refused(1, 1, 5, 6))
	wantAnswer(t, n, prepare(2, 1, 7), promise(1, 1, 7, 5, 1, 1))
	wantNode(t, n, false, rec(0, 0, 7), rec(1, 1, 7))
}

// TestActs: a node acts from a record with it as primary on, up to the next one, or a Write of a later epoch (P7, P8).
func TestActs(t *testing.T) {
	n := newNode(t, 1, 3, 2)
	r0, r1, r2, r3 := rec(0, 0, 7), rec(1, 2, 6), rec(2, 2, 7), rec(3, 3, 7)
	wantAnswer(t, n, decided(0, 0, 2, 6), nothing)
	wantNode(t, n, true, r0, r1)
	// nobody else writes in its epoch; votes are no matter
	for seq := range 3 {
		wantAnswer(t, n, write(2, 1, seq, 0, 5), nothing)
		wantAnswer(t, n, copyOf(2, 1, seq, 5, 6), nothing)
	}
	wantAnswer(t, n, write(2, 0, 9, 0, 5), decided(1, 0, 2, 6))
	wantAnswer(t, n, copyOf(0, 0, 9, 5, 6), decided(1, 0, 2, 6))
	wantAnswer(t, n, accept(0, 1, 5, 3, 6), accepted(1, 1, 5))
	wantNode(t, n, true, r0, r1)
	wantAnswer(t, n, decided(0, 1, 2, 7), nothing)
	wantNode(t, n, true, r0, r1, r2)
	wantAnswer(t, n, decided(0, 2, 3, 7), nothing)
	wantNode(t, n, false, r0, r1, r2, r3)
	wantAnswer(t, n, write(2, 1, 1, 0, 5), decided(1, 1, 2, 7))
	wantAnswer(t, n, write(2, 2, 0, 0, 5), wrote(1, 2, 0)) // SEEN is 2, LAST 0
	wantAnswer(t, n, write(2, 3, 1, 0, 5), wrote(1, 3, 1))
}

// TestActsNoMore: a Write or a Copy of a later epoch than SEEN ends it; what is refused does not (P8).
func TestActsNoMore(t *testing.T) {
	r0, r1 := rec(0, 0, 7), rec(1, 2, 7)
	for _, c := range []struct{ m, want api.Msg }{
		{write(2, 2, 0, 1, 5), wrote(1, 2, 0)},
		{copyOf(2, 2, 7, 5, 6), copied(1, 2, 7)},
		{write(2, most, most, 0, 5), wrote(1, most, most)},
	} {
		n := newNode(t, 1, 3, 2)
		wantAnswer(t, n, decided(0, 0, 2, 7), nothing)
		wantAnswer(t, n, write(2, 2, 0, 2, 5), nothing)
		wantAnswer(t, n, copyOf(2, 2, 0, 5), nothing)
		wantAnswer(t, n, copyOf(2, 2, 0, 5, 6, 7), nothing)
		wantNode(t, n, true, r0, r1)
		wantAnswer(t, n, c.m, c.want)
		wantNode(t, n, false, r0, r1)
		wantAnswer(t, n, c.m, c.want)
	}
}

// TestActsNotWhatWasSeen: whoever saw a later epoch, or this one, does not act in it (P8).
func TestActsNotWhatWasSeen(t *testing.T) {
	for epoch, acts := range []bool{true, false, false} {
		n := newNode(t, 1, 3, 2)
		wantAnswer(t, n, write(0, epoch, 3, 0, 5), wrote(1, epoch, 3))
		wantAnswer(t, n, decided(0, 0, 2, 7), nothing)
		wantNode(t, n, acts, rec(0, 0, 7), rec(1, 2, 7))
		if !acts {
			wantAnswer(t, n, write(0, epoch, 2, 0, 5), nothing) // LAST is as it was
			wantAnswer(t, n, write(0, epoch, 3, 0, 5), wrote(1, epoch, 3))
		}
	}
}

// TestChanges: Writes and Copies by epochs and sequence numbers (P8).
func TestChanges(t *testing.T) {
	n := newNode(t, 0, 5, 3)
	for _, c := range []struct{ m, want api.Msg }{
		{write(1, 0, 0, 0, 1), wrote(0, 0, 0)},
		{copyOf(1, 0, 0, 1, 2, 3), copied(0, 0, 0)},
		{write(1, 0, 4, 2, -1), wrote(0, 0, 4)},
		{write(2, 0, 4, 1, 7), wrote(0, 0, 4)},
		{copyOf(1, 0, 4, 1, 2, 3), copied(0, 0, 4)},
		{write(1, 0, 3, 2, 8), nothing},
		{copyOf(1, 0, 3, 1, 2, 3), nothing},
		{write(1, 0, 9, 3, 8), nothing},
		{write(1, 1, 9, 3, 8), nothing},
		{copyOf(1, 0, 9, 1, 2), nothing},
		{copyOf(1, 1, 9), nothing},
		{copyOf(1, 1, 9, 1, 2, 3, 4), nothing},
		{write(0, 1, 9, 0, 8), nothing},
		{write(1, 0, 5, 0, math.MinInt), wrote(0, 0, 5)},
		{copyOf(4, 2, 3, math.MinInt, math.MaxInt, 0), copied(0, 2, 3)},
		{write(4, 2, 2, 0, 8), nothing},
		{write(4, 1, 9, 0, 8), nothing}, // below SEEN, but not below the node's
		{write(4, 2, most, 0, 8), wrote(0, 2, most)},
		{copyOf(3, 3, 0, 0, 0, 0), copied(0, 3, 0)},
		{copyOf(3, 2, most, 0, 0, 0), nothing},
	} {
		wantAnswer(t, n, c.m, c.want)
	}
	wantNode(t, n, false, rec(0, 0, 31))
	wantAnswer(t, n, decided(1, 0, 2, 31), nothing)
	wantAnswer(t, n, write(4, 0, 9, 0, 8), decided(0, 0, 2, 31))
	wantAnswer(t, n, copyOf(4, 0, 0, 0, 0, 0), decided(0, 0, 2, 31))
	wantAnswer(t, n, write(4, 0, 9, 3, 8), nothing)
	wantAnswer(t, n, copyOf(4, 0, 9, 1, 2), nothing)
	wantAnswer(t, n, write(4, 1, 9, 0, 8), nothing)
	wantAnswer(t, n, write(4, 3, 0, 0, 8), wrote(0, 3, 0))
}

// TestNotWaitedFor: answers that nobody waits for are nothing (P8).
func TestNotWaitedFor(t *testing.T) {
	n := newNode(t, 1, 3, 1)
	for range 2 {
		for from := range 5 {
			for number := range 3 {
				wantAnswer(t, n, promise(from, number, number, 0, 0, 0), nothing)
				wantAnswer(t, n, promise(from, number, number, 5, 3, 7), nothing)
				wantAnswer(t, n, accepted(from, number, number), nothing)
				wantAnswer(t, n, refused(from, number, number, 9), nothing)
				wantAnswer(t, n, wrote(from, number, number), nothing)
				wantAnswer(t, n, copied(from, number, number), nothing)
			}
		}
	}
	wantNode(t, n, false, rec(0, 0, 7))
	wantAnswer(t, n, prepare(0, 0, 0), promise(1, 0, 0, 0, 0, 0))
}

// TestFromNobody: a message from the node itself, or from a node that is none, is nothing (P8).
func TestFromNobody(t *testing.T) {
	for nodes := 2; nodes <= 5; nodes++ {
		for id := range nodes {
			n := newNode(t, id, nodes, 1)
			for from := range 5 {
				if from != id && from < nodes {
					continue
				}
				for _, m := range []api.Msg{
					prepare(from, 0, 7), accept(from, 0, 7, 1, 1), decided(from, 0, 1, 1), write(from, 1, 1, 0, 1), copyOf(from, 1, 1, 1),
				} {
					wantAnswer(t, n, m, nothing)
				}
			}
			other := (id + 1) % nodes
			wantNode(t, n, false, rec(0, 0, 1<<nodes-1))
			wantAnswer(t, n, prepare(other, 0, 0), promise(id, 0, 0, 0, 0, 0))
			wantAnswer(t, n, write(other, 0, 1, 0, 1), wrote(id, 0, 1))
		}
	}
}

// TestReceiveWrongBytes: bytes that are no message's are nothing, and change nothing (P1, P8).
func TestReceiveWrongBytes(t *testing.T) {
	n := newNode(t, 1, 3, 2)
	wrong := [][]byte{nil, {}, {1}, make([]byte, 1<<20), []byte("prepare")}
	for _, m := range []api.Msg{prepare(0, 0, 7), accept(0, 0, 7, 1, 1), decided(0, 0, 1, 1), write(0, 1, 1, 0, 1), copyOf(0, 1, 1, 1, 2)} {
		b := bytesOf(t, m)
		for i := range b {
			changed := slices.Clone(b)
			changed[i] ^= 0x10
			wrong = append(wrong, changed, b[:i])
		}
		wrong = append(wrong, append(slices.Clone(b), 0))
	}
	for _, b := range wrong {
		if got := n.Receive(b); len(got) > 0 {
			t.Errorf("P8: Receive(%x) = %v, want nothing", b, told(got))
		}
	}
	wantNode(t, n, false, rec(0, 0, 7))
	wantAnswer(t, n, prepare(0, 0, 0), promise(1, 0, 0, 0, 0, 0))
	wantAnswer(t, n, write(0, 0, 1, 0, 1), wrote(1, 0, 1))
}

// TestNodeKeepsToItself: lists that come in are left as they are and not kept; lists that go out are nobody else's (P2).
func TestNodeKeepsToItself(t *testing.T) {
	n := newNode(t, 1, 3, 2)
	for _, m := range []api.Msg{
		accept(0, 0, 5, 1, 3), prepare(0, 0, 6), prepare(0, 0, 2), copyOf(0, 0, 1, 8, 9), write(0, 0, 2, 0, 9), decided(0, 0, 2, 7), prepare(0, 0, 1),
	} {
		b, whole := spaced(bytesOf(t, m), 0x77)
		before := slices.Clone(whole)
		one := n.Receive(b)
		if !bytes.Equal(whole, before) {
			t.Errorf("P2: Receive of %+v wrote into what it was given", m)
		}
		scribble(b, 0xee)
		for i := range one {
			scribble(one[i].Data, 0xee)
		}
		scribble(one, api.Packet{To: 99})
	}
	wantAnswer(t, n, prepare(0, 0, 1), decided(1, 0, 2, 7))
	r := n.Records()
	scribble(r, rec(9, 9, 9))
	wantNode(t, n, true, rec(0, 0, 7), rec(1, 2, 7))
	again := append(n.Records(), rec(2, 1, 1))
	wantAnswer(t, n, decided(0, 1, 3, 7), nothing)
	wantNode(t, n, false, rec(0, 0, 7), rec(1, 2, 7), rec(2, 3, 7))
	if again[2] != rec(2, 1, 1) {
		t.Errorf("P2: the spare room of Records is shared")
	}
}

// TestNodesAreApart: what one node is told, another one does not know (P2).
func TestNodesAreApart(t *testing.T) {
	a, b := newNode(t, 1, 3, 2), newNode(t, 1, 3, 2)
	wantAnswer(t, a, accept(0, 1, 5, 1, 3), accepted(1, 1, 5))
	wantAnswer(t, a, decided(0, 0, 2, 7), nothing)
	wantNode(t, a, true, rec(0, 0, 7), rec(1, 2, 7))
	wantNode(t, b, false, rec(0, 0, 7))
	wantAnswer(t, b, prepare(0, 1, 0), promise(1, 1, 0, 0, 0, 0))
	wantAnswer(t, b, write(0, 0, 0, 0, 4), wrote(1, 0, 0))
}

// TestManyAtOnce: calls that come at once are each done whole: no vote and no record is lost (P8, and the section 'Ways').
func TestManyAtOnce(t *testing.T) {
	n := newNode(t, 4, 5, 1)
	const epochs, workers = 300, 8
	var all sync.WaitGroup
	for w := range workers {
		all.Go(func() {
			for epoch := range epochs {
				b, _ := keystone.Encode(accept(w%4, epoch+1, w+1, 1, 1))
				n.Receive(b)
				n.Records()
				n.Acting()
			}
			b, _ := keystone.Encode(decided(w%4, 0, 5, 31))
			n.Receive(b)
		})
	}
	all.Wait()
	wantNode(t, n, true, rec(0, 0, 31), rec(1, 5, 31))
	for epoch := range epochs {
		wantAnswer(t, n, prepare(0, epoch+1, 0), refused(4, epoch+1, 0, workers))
		wantAnswer(t, n, prepare(0, epoch+1, workers), promise(4, epoch+1, workers, workers, 1, 1))
	}
}
