package store_test

import (
	"slices"
	"strings"
	"testing"

	"keystone/api"
	"keystone/node"
	"keystone/store"
	"keystone/wire"
)

// receive hands a message to a node.
func receive(t *testing.T, n *node.Node, m api.Msg) {
	t.Helper()
	b, e := wire.Encode(m)
	if e != api.OK {
		t.Fatalf("no message: %+v", m)
	}
	n.Receive(b)
}

func write(epoch, seq, block, value int) api.Msg {
	return api.Msg{Kind: api.Write, Epoch: epoch, Seq: seq, Block: block, Value: value}
}

func copyOf(epoch, seq int, values ...int) api.Msg {
	return api.Msg{Kind: api.Copy, Epoch: epoch, Seq: seq, Values: values}
}

// wantBlocks looks at what is on a node's disk.
func wantBlocks(t *testing.T, d *api.Disk, values ...int) {
	t.Helper()
	got := store.Open(1, 3, d).Blocks()
	if !slices.Equal(got[:len(values)], values) {
		t.Fatalf("P8: the blocks are %v, want %v", got, values)
	}
}

// TestBlocks: which messages change the blocks, and to what (P6, P8).
func TestBlocks(t *testing.T) {
	d, _ := api.NewDisk()
	n, _ := node.New(1, 3, 3, d)
	for _, c := range []struct {
		m    api.Msg
		want []int
	}{
		{write(0, 0, 0, 5), []int{0, 0, 0}},
		{write(0, 1, 0, 5), []int{5, 0, 0}},
		{write(0, 1, 0, 6), []int{5, 0, 0}},
		{write(0, 0, 0, 6), []int{5, 0, 0}},
		{write(0, 2, 3, 6), []int{5, 0, 0}},
		{write(0, 7, 2, -6), []int{5, 0, -6}},
		{copyOf(0, 7, 1, 2, 3), []int{5, 0, -6}},
		{copyOf(0, 8, 1, 2), []int{5, 0, -6}},
		{copyOf(0, 8, 1, 2, 3, 4), []int{5, 0, -6}},
		{copyOf(0, 8, 1, 2, 3), []int{1, 2, 3}},
		{write(1, 0, 1, 9), []int{1, 9, 3}},
		{write(0, 99, 1, 8), []int{1, 9, 3}},
		{api.Msg{Kind: api.Decided, Primary: 1, Set: 7}, []int{1, 9, 3}},
		{api.Msg{Kind: api.Decided, Epoch: 1, Primary: 2, Set: 7}, []int{1, 9, 3}}, // it acts: SEEN is 2
		{write(2, 5, 1, 8), []int{1, 9, 3}},
		{copyOf(2, 5, 4, 5, 6), []int{1, 9, 3}},
		{copyOf(3, 0, 4, 5, 6), []int{4, 5, 6}},
	} {
		receive(t, n, c.m)
		wantBlocks(t, d, c.want...)
	}
}

// TestJournalStaysShort: however many messages come, the disk has no more than a few times what is kept.
func TestJournalStaysShort(t *testing.T) {
	d, h := api.NewDisk()
	n, _ := node.New(1, 3, 3, d)
	receive(t, n, write(0, 1, 2, 77)) // once alone
	longest := 0
	for i := range 3000 {
		receive(t, n, write(0, i+2, i%2, i))
		receive(t, n, api.Msg{Kind: api.Prepare, Epoch: i % 5, Ballot: i})
		longest = max(longest, store.Open(1, 3, d).Lines())
	}
	if longest > 200 {
		t.Errorf("the journal had %d lines", longest)
	}
	wantBlocks(t, d, 2998, 2999, 77)
	d, _ = h.Crash(0)
	wantBlocks(t, d, 2998, 2999, 77)
	s := store.Open(1, 3, d)
	if s.Point() != (store.Point{Seen: 0, Last: 3001}) {
		t.Errorf("P6: SEEN and LAST are %+v", s.Point())
	}
	for epoch := range 5 {
		if got, want := s.Vote(epoch), (store.Vote{Promised: 2995 + epoch}); got != want {
			t.Errorf("P6: for epoch %d it voted %+v, want %+v", epoch, got, want)
		}
	}
}

// TestVotesThatAreOver: of epochs that were decided no votes are kept: nobody asks for them any more.
func TestVotesThatAreOver(t *testing.T) {
	d, _ := api.NewDisk()
	n, _ := node.New(1, 3, 1, d)
	const epochs = 400
	for epoch := range epochs {
		receive(t, n, api.Msg{Kind: api.Accept, Epoch: epoch, Ballot: 5, Primary: 1, Set: 7})
		receive(t, n, api.Msg{Kind: api.Decided, Epoch: epoch, Primary: 1, Set: 7})
	}
	if got := len(store.Open(1, 3, d).Records()); got != epochs+1 {
		t.Errorf("P7: it knows %d records, want %d", got, epochs+1)
	}
	// as many lines again as are needed, and a few
	if lines := store.Open(1, 3, d).Lines(); lines > 2*epochs+100 {
		t.Errorf("the journal has %d lines for %d records", lines, epochs)
	}
	for epoch := range epochs {
		if got := store.Open(1, 3, d).Vote(epoch); got != (store.Vote{}) {
			t.Fatalf("for epoch %d, which is over, %+v is kept", epoch, got)
		}
	}
}

// TestSeldomRewritten: by far the most changes are one more line of the journal.
func TestSeldomRewritten(t *testing.T) {
	d, _ := api.NewDisk()
	n, _ := node.New(1, 3, 1, d)
	rewritten, before := 0, ""
	for i := range 2000 {
		receive(t, n, write(0, i+1, 0, i))
		now := d.Read("journal")
		if !strings.HasPrefix(now, before) {
			rewritten++
		}
		before = now
	}
	if rewritten < 1 || rewritten > 2000/50 {
		t.Errorf("with 2000 changes the journal was written anew %d times", rewritten)
	}
}

// TestRewritten: a journal that is written anew, cut off at each step, has all that was kept (P6, P10).
func TestRewritten(t *testing.T) {
	d, h := api.NewDisk()
	n, _ := node.New(1, 3, 2, d)
	lines := 0
	for i := 1; store.Open(1, 3, d).Lines() >= lines; i++ {
		lines = store.Open(1, 3, d).Lines()
		_, h = h.Crash(0)
		for steps := range 6 {
			for _, keep := range []int{0, 1, 30, 60, 1 << 20} {
				wantOneOfTwo(t, h, i, steps, keep)
			}
		}
		d, h = h.Crash(0)
		n, _ = node.New(1, 3, 2, d)
		receive(t, n, write(0, i, 0, i))
	}
	if lines < 10 {
		t.Errorf("the journal is written anew with every %d messages", lines)
	}
}

// wantOneOfTwo cuts a Write off that is the one with this sequence number, twice: the draft of the first time is there at the second.
func wantOneOfTwo(t *testing.T, h *api.Hand, seq, steps, keep int) {
	t.Helper()
	d, h := h.Crash(0)
	for range 2 {
		n, _ := node.New(1, 3, 2, d)
		h.Stop(steps)
		receive(t, n, write(0, seq, 0, seq))
		d, h = h.Crash(keep)
		s := store.Open(1, 3, d)
		if last := s.Point().Last; s.Blocks()[0] != last || last != seq && last != seq-1 {
			t.Fatalf("P10: %d steps, %d bytes: LAST is %d, the block %d, of Write %d", steps, keep, last, s.Blocks()[0], seq)
		}
	}
}

// TestTornJournal: a line of which a part is left is taken away with the next change, and once alone.
func TestTornJournal(t *testing.T) {
	d, h := api.NewDisk()
	n, _ := node.New(1, 3, 2, d)
	receive(t, n, write(0, 1, 0, 5))
	h.Stop(1)
	receive(t, n, write(0, 2, 0, 6))
	d, h = h.Crash(10)
	n, _ = node.New(1, 3, 2, d)
	receive(t, n, write(0, 3, 1, 7))
	wantBlocks(t, d, 5, 7)
	h.Stop(2)
	receive(t, n, write(0, 4, 1, 8))
	wantBlocks(t, d, 5, 8)
	d, _ = h.Crash(0)
	wantBlocks(t, d, 5, 8)
}

// TestRewrittenWhole: a journal that was written anew many times has what changed long ago (P6).
func TestRewrittenWhole(t *testing.T) {
	d, _ := api.NewDisk()
	n, _ := node.New(1, 3, 2, d)
	receive(t, n, api.Msg{Kind: api.Accept, Epoch: 7, Ballot: 4, Primary: 3, Set: 5})
	receive(t, n, api.Msg{Kind: api.Prepare, Epoch: 7, Ballot: 6})
	receive(t, n, api.Msg{Kind: api.Accept, Epoch: 8, Ballot: 0, Primary: 1, Set: 3})
	receive(t, n, api.Msg{Kind: api.Decided, Primary: 2, Set: 3})
	receive(t, n, copyOf(3, 5, 8, -9))
	for ballot := range 1000 {
		receive(t, n, api.Msg{Kind: api.Prepare, Epoch: 1, Ballot: ballot})
	}
	wantBlocks(t, d, 8, -9)
	s := store.Open(1, 3, d)
	if got, want := s.Point(), (store.Point{Seen: 3, Last: 5}); got != want {
		t.Errorf("P6: SEEN and LAST are %+v, want %+v", got, want)
	}
	for epoch, want := range map[int]store.Vote{1: {Promised: 999}, 7: {6, 4, 3, 5}, 8: {0, 0, 1, 3}} {
		if got := s.Vote(epoch); got != want {
			t.Errorf("P6: for epoch %d it voted %+v, want %+v", epoch, got, want)
		}
	}
	if got, want := s.Records(), []api.Record{{Set: 7}, {Epoch: 1, Primary: 2, Set: 3}}; !slices.Equal(got, want) {
		t.Errorf("P6: the records are %v, want %v", got, want)
	}
}
