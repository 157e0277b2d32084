package keystone_test

import (
	"bytes"
	"math/rand"
	"slices"
	"sync"
	"testing"

	"keystone/api"
	"keystone/keystone"
)

// life is what node 1 of three with two blocks may go through: nearly each call must keep something.
func life() []call {
	return []call{
		receive(prepare(0, 0, 4)), receive(accept(0, 0, 4, 3, 6)), receive(prepare(2, 0, 6)), receive(write(2, 0, 2, 1, 7)), receive(decided(0, 0, 2, 6)),
		put(0, 3), receive(wrote(2, 1, 1)), read(1), promote(2), retry(), receive(wrote(2, 1, 2)), receive(promise(0, 1, 6, 0, 0, 0)), receive(accepted(0, 1, 6)),
		admit(0), receive(copied(0, 2, 1)), receive(promise(2, 2, 1, 0, 0, 0)),
		receive(prepare(2, 2, 3)), receive(copyOf(2, 3, 1, 5, -6)), receive(decided(2, 2, 3, 2)), receive(decided(2, 2, 2, 2)), receive(accept(2, 3, 9, 2, 7)),
	}
}

// lived is a node behind some calls of a life, on a disk that stops behind so many steps; the models behind those calls that were done, and behind the one that was cut off, if one was.
func lived(t *testing.T, calls []call, steps int) (n *keystone.Node, h *api.Hand, done, cut model) {
	t.Helper()
	d, h := api.NewDisk()
	n = nodeOn(t, 1, 3, 2, d)
	h.Stop(steps)
	done = newModel(1, 3, 2)
	for _, c := range calls {
		next, ok := run(t, n, d, done, c)
		if !ok {
			return n, h, done, next
		}
		done = next
	}
	return n, h, done, done
}

// TestAnsweredIsSafe: a crash behind any call, on a disk that runs, takes nothing of what is kept (P9, P10).
func TestAnsweredIsSafe(t *testing.T) {
	calls := life()
	for number := range len(calls) + 1 {
		_, h, done, _ := lived(t, calls[:number], -1)
		for _, keep := range []int{-1, 0, 1000} {
			_, left := h.Crash(keep)
			if !keeps(t, left, done) {
				t.Errorf("P9: a crash behind %d calls took something away", number)
			}
		}
	}
}

// TestEveryStepEveryByte: a life is cut off at each step, and of what was not safe each number of bytes is left (P6, P9, P10).
func TestEveryStepEveryByte(t *testing.T) {
	for steps := range 45 {
		for keep := -1; keep < 60; keep++ {
			_, h, done, cut := lived(t, life(), steps)
			_, h = h.Crash(keep)
			left(t, h, done, cut)
		}
	}
}

// TestToldStays: what New told of a life that was cut off is so behind more crashes, and behind calls that are cut off as well (P10).
func TestToldStays(t *testing.T) {
	whole := 0
	for steps := range 45 {
		for _, keep := range []int{0, 1, 20, 40, 1000} {
			_, h, done, cut := lived(t, life(), steps)
			_, h = h.Crash(keep)
			if !keeps(t, h, done) {
				whole++
			}
			x := left(t, h, done, cut)
			for again := range 6 {
				x, h = cutOff(t, x, h, again, 7*again)
			}
		}
	}
	if whole < 10 {
		t.Errorf("but %d of the calls that were cut off are whole", whole)
	}
}

// cutOff makes a node anew that was as a model, and a call of it on a disk that stops; told is what a crash left.
func cutOff(t *testing.T, x model, h *api.Hand, steps, keep int) (model, *api.Hand) {
	t.Helper()
	d, h := h.Crash(keep)
	n := nodeOn(t, x.id, x.nodes, x.blocks, d)
	wantNode(t, n, false, x.records...)
	h.Stop(steps)
	next, ok := run(t, n, d, x, receive(accept(2, 9, 5+steps, 3, 7)))
	_, h = h.Crash(keep)
	if ok {
		x = next
	}
	return left(t, h, x, next), h
}

// downs makes nodes that went down, at any call, with the model behind those that were done.
func downs(t *testing.T, each func(n *keystone.Node, x model)) {
	t.Helper()
	count := 0
	for steps := range 40 {
		n, _, x, _ := lived(t, life(), steps)
		if _, e := n.Promote(0); e == api.ErrDown {
			count++
			each(n, x)
		}
	}
	if count < 30 {
		t.Errorf("but %d nodes are down", count)
	}
}

// TestDownAtAllNumbers: a node that is down stays so, at all numbers and lists (P1, P9).
func TestDownAtAllNumbers(t *testing.T) {
	r := rand.New(rand.NewSource(1))
	downs(t, func(n *keystone.Node, x model) {
		for _, number := range append([]int{0, 1, 2, 3, 4, 6, 7}, odd...) {
			wantError(t, n, api.ErrDown, promote(number), admit(number), put(number, number), read(number))
		}
		for _, b := range [][]byte{nil, {}, {1}, []byte("prepare"), make([]byte, 1<<20)} {
			if l := n.Receive(b); l != nil {
				t.Errorf("P9: a node that is down tells %v", told(l))
			}
		}
		wantDone(t, n, x.results...)
		x.results = nil
		wantDown(t, n, x, r)
	})
}

// TestDownKeepsToItself: of a node that is down too, lists that come in are left as they are, and lists that go out are nobody else's (P2, P9).
func TestDownKeepsToItself(t *testing.T) {
	downs(t, func(n *keystone.Node, x model) {
		b, whole := spaced(bytesOf(t, copyOf(0, 7, 1, 8, 9)), 0x77)
		before := slices.Clone(whole)
		n.Receive(b)
		if !bytes.Equal(whole, before) {
			t.Errorf("P2: Receive wrote into what it was given")
		}
		scribble(n.Records(), rec(9, 9, 9))
		wantNode(t, n, false, x.records...)
		l := n.Done()
		if !slices.Equal(l, x.results) {
			t.Errorf("P9: Done() = %v, want %v", l, x.results)
		}
		scribble(l, api.Result{Op: 99})
		wantDone(t, n)
	})
}

// TestDownBesideOthers: when a disk stops, the others' nodes go on (P2, P9).
func TestDownBesideOthers(t *testing.T) {
	c := newCell(t, 3, 1)
	c.lead(0, 7, 1)
	c.tell(0, 1, 2)
	c.hands[2].Stop(1)
	c.operate(0, put(0, 1), 1, 2)
	if len(c.done) > 0 || !c.nodes[0].Acting() {
		t.Errorf("P9: a Write is done, though a node of the set could not keep it: %v", c.done)
	}
	c.ask(0, promote(3))
	c.vote(api.Prepare, 0, 1)
	c.vote(api.Accept, 0, 1)
	c.operate(0, read(0), 1)
	wantValues(c, 1)
}

// TestStopsAtOnce: calls that come at once, on a disk that stops: as many as were answered are kept, and the one that was cut off at most (P9, P10, and the section 'Ways').
func TestStopsAtOnce(t *testing.T) {
	for steps := 20; steps < 40; steps++ {
		d, h := api.NewDisk()
		n := nodeOn(t, 1, 3, 1, d)
		wantAnswer(t, n, decided(0, 0, 2, 2), nothing)
		h.Stop(steps)
		var all sync.WaitGroup
		answered := make([]int, 4)
		for w := range answered {
			all.Go(func() {
				for {
					if _, _, e := n.Write(0, w); e != api.OK {
						return
					}
					answered[w]++
				}
			})
		}
		all.Wait()
		count := answered[0] + answered[1] + answered[2] + answered[3]
		if got := len(n.Done()); got != count {
			t.Errorf("P9: %d operations were answered, %d were done", count, got)
		}
		d, _ = h.Crash(1000)
		n = nodeOn(t, 1, 3, 1, d)
		last := 0
		for n.Receive(bytesOf(t, write(0, 1, last, 0, 5))) == nil {
			last++
		}
		if last != count && last != count+1 {
			t.Errorf("P10: %d operations were answered, LAST is %d", count, last)
		}
	}
}

// TestRestartExample: the document's examples, with three nodes, up to the last one: behind a restart a node does not act, and with another record it does again (P10, P15 to P17).
func TestRestartExample(t *testing.T) {
	for _, keep := range []int{-1, 0, 7, 1000} {
		c := newCell(t, 3, 1)
		c.lead(1, 6, 0)
		c.tell(1, 0, 2)
		wantNode(t, c.nodes[1], true, rec(0, 0, 7), rec(1, 2, 6))
		c.operate(1, put(0, 5), 2)
		wantValues(c, 5)
		c.ask(1, admit(0))
		c.pass(api.Copy, 1, 0)
		c.pass(api.Copied, 0, 1)
		c.restart(1, keep)
		wantNode(t, c.nodes[1], false, rec(0, 0, 7), rec(1, 2, 6))
		wantError(t, c.nodes[1], api.ErrPrimary, read(0), put(0, 6), admit(0))
		wantAnswer(t, c.nodes[1], write(2, 1, 1, 0, 9), nothing) // LAST is 2, by Write and Copy
		wantDone(t, c.nodes[1])
		c.lead(1, 2, 2)
		wantNode(t, c.nodes[1], true, rec(0, 0, 7), rec(1, 2, 6), rec(2, 2, 2))
		c.operate(1, read(0))
		wantValues(c, 5, 5)
		c.inTheEnd()
	}
}
