package keystone_test

import (
	"fmt"
	"testing"

	"keystone/api"
)

// What a node goes through where a history lets it rest. (A history is what TestCells seldom comes to: messages that come just so, and what would go wrong with them.)
const (
	runsOn   = iota
	restarts // it crashes, and is made anew
	wears    // it crashes again and again, while what it keeps is made safe
	rests
)

// ask makes a call of a node, and lays what is sent on its way.
func (c *cell) ask(id int, x call) {
	c.t.Helper()
	had := len(c.done)
	o := x.of(c.t, c.nodes[id])
	if o.number > 0 {
		c.begun[id][o.number] = begin{had, x.name == "Write", x.b}
	}
	c.send(o.packets)
	c.look(id)
}

// find tells where packets of a kind are on their way from a node to another one.
func (c *cell) find(kind, from, to int) (out []int) {
	for i, p := range c.way {
		if int(p.Data[0]) == kind && int(p.Data[1]) == from && p.To == to {
			out = append(out, i)
		}
	}
	return out
}

// pass lets the newest packet of a kind come from a node to another one. It may come again.
func (c *cell) pass(kind, from, to int) {
	c.t.Helper()
	l := c.find(kind, from, to)
	if len(l) == 0 {
		c.t.Fatalf("no message of kind %d is on its way from %d to %d", kind, from, to)
	}
	c.come(l[len(l)-1])
}

// oldest lets the first packet of a kind that ever went from a node to another one come.
func (c *cell) oldest(kind, from, to int) {
	c.t.Helper()
	c.come(c.find(kind, from, to)[0])
}

// late lets all packets of a kind that ever went from a node to another one come, the newest first.
func (c *cell) late(kind, from, to int) {
	c.t.Helper()
	l := c.find(kind, from, to)
	for i := range l {
		c.come(l[len(l)-1-i])
	}
}

func (c *cell) come(i int) {
	c.t.Helper()
	p := c.way[i]
	c.send(c.nodes[p.To].Receive(p.Data))
	c.look(p.To)
}

// vote lets a node ask others, and hear their answers: kind is Prepare or Accept, whose answers are Promise and Accepted.
func (c *cell) vote(kind, id int, others ...int) {
	c.t.Helper()
	for _, other := range others {
		c.pass(kind, id, other)
		c.pass(kind+1, other, id)
	}
}

// lead promotes a node, by the votes of others, who are not told what was decided.
func (c *cell) lead(id, set int, others ...int) {
	c.t.Helper()
	c.ask(id, promote(set))
	c.vote(api.Prepare, id, others...)
	c.vote(api.Accept, id, others...)
	if !c.nodes[id].Acting() {
		c.t.Fatalf("P11: node %d does not act", id)
	}
}

// tell lets others hear all that a node decided.
func (c *cell) tell(id int, others ...int) {
	c.t.Helper()
	for _, other := range others {
		for _, i := range c.find(api.Decided, id, other) {
			c.come(i)
		}
	}
}

// operate lets a node write or read, with the answers of others.
func (c *cell) operate(id int, x call, others ...int) {
	c.t.Helper()
	c.ask(id, x)
	for _, other := range others {
		if len(c.find(api.Write, id, other)) == 0 {
			continue // it did not begin
		}
		c.pass(api.Write, id, other)
		c.late(api.Wrote, other, id)
	}
}

// rest lets nodes that have nothing going on go through what they may.
func (c *cell) rest(how int, nodes ...int) {
	c.t.Helper()
	for _, id := range nodes {
		if how == restarts {
			c.restart(id, 0)
		}
		if how == wears {
			c.wear(id)
		}
	}
}

// wear lets a node promise something of an epoch far away, on a disk that stops at each step, up to when it is done.
func (c *cell) wear(id int) {
	c.t.Helper()
	other := (id + 1) % len(c.nodes)
	far := prepare(other, 1000000, len(c.way))
	for steps := range 8 {
		c.hands[id].Stop(steps)
		c.nodes[id].Receive(bytesOf(c.t, far))
		c.restart(id, 5)
	}
}

// histories lets one run, with nodes that rest in each way, and looks whether all is well, and goes on in the end.
func histories(t *testing.T, nodes int, run func(c *cell, how int)) {
	t.Helper()
	for how := range rests {
		t.Run(fmt.Sprint("rest", how), func(t *testing.T) {
			c := newCell(t, nodes, 1)
			c.written = 100 // the values below are the history's own
			run(c, how)
			c.oneVolume()
			c.way = nil
			c.inTheEnd()
			c.oneVolume()
		})
	}
}

// TestGreatestIsTakenOver: of two records that were accepted the one with the greater ballot may be decided (P15).
func TestGreatestIsTakenOver(t *testing.T) {
	for _, order := range [][]int{{2, 0}, {0, 2}} {
		histories(t, 5, func(c *cell, how int) {
			c.ask(0, promote(31))
			c.vote(api.Prepare, 0, 1, 2)
			c.pass(api.Accept, 0, 1)
			c.rest(how, 1, 2)
			// node 4 knows of no ballot but its own
			c.ask(4, promote(31))
			c.pass(api.Prepare, 4, 2)
			c.pass(api.Refused, 2, 4)
			c.ask(4, retry())
			c.vote(api.Prepare, 4, 2, 3)
			c.vote(api.Accept, 4, 2, 3)
			c.rest(how, 2, 3)
			c.ask(1, promote(31))
			c.pass(api.Prepare, 1, 2)
			c.pass(api.Refused, 2, 1)
			c.ask(1, retry())
			c.vote(api.Prepare, 1, order...)
			c.vote(api.Accept, 1, 0, 2)
			if len(c.history) != 2 || len(c.nodes[1].Records()) != 2 {
				c.t.Errorf("P15: the records are %v", c.history)
			}
		})
	}
}

// TestOldPromise: a promise of an older ballot is none of the newer one: meanwhile something else may be decided (P15).
func TestOldPromise(t *testing.T) {
	histories(t, 3, func(c *cell, how int) {
		c.ask(1, promote(7))
		c.pass(api.Prepare, 1, 0)
		c.rest(how, 0)
		c.lead(2, 7, 0)
		c.rest(how, 0)
		c.ask(1, retry())
		c.pass(api.Promise, 0, 1)
		c.late(api.Accept, 1, 0)
		c.late(api.Accepted, 0, 1)
		c.vote(api.Prepare, 1, 0)
		c.vote(api.Accept, 1, 0)
	})
}

// TestPromiseStays: whoever promised a ballot accepts none below it (P15).
func TestPromiseStays(t *testing.T) {
	histories(t, 3, func(c *cell, how int) {
		c.ask(1, promote(7))
		c.vote(api.Prepare, 1, 0)
		c.ask(2, promote(7))
		c.vote(api.Prepare, 2, 0)
		c.rest(how, 0)
		c.pass(api.Accept, 1, 0)
		c.late(api.Accepted, 0, 1)
		c.rest(how, 0)
		c.vote(api.Accept, 2, 0)
	})
}

// TestAcceptedStays: whoever accepted by a ballot, though it was not asked to promise it, accepts by none below it (P15).
func TestAcceptedStays(t *testing.T) {
	histories(t, 3, func(c *cell, how int) {
		c.ask(1, promote(7))
		c.pass(api.Prepare, 1, 2)
		c.ask(2, promote(7))
		c.vote(api.Prepare, 2, 1)
		c.pass(api.Promise, 2, 1)
		c.vote(api.Accept, 2, 0)
		c.rest(how, 0)
		c.pass(api.Accept, 1, 0)
		c.rest(how, 0)
		c.ask(1, retry())
		c.vote(api.Prepare, 1, 0)
		c.vote(api.Accept, 1, 0)
	})
}

// TestOldPrimary: what a primary writes is not done, once another one is (P16).
func TestOldPrimary(t *testing.T) {
	histories(t, 3, func(c *cell, how int) {
		c.lead(0, 7, 1)
		c.tell(0, 1, 2)
		c.operate(0, put(0, 1), 1, 2)
		c.operate(0, put(0, 2), 1)
		c.rest(how, 1, 2)
		c.lead(2, 7, 1)
		c.pass(api.Write, 0, 2)
		c.late(api.Wrote, 2, 0)
		c.operate(2, read(0), 0, 1)
		// none of these is heard any more
		c.late(api.Write, 0, 1)
		c.late(api.Write, 0, 2)
		c.late(api.Wrote, 1, 0)
		c.late(api.Wrote, 2, 0)
		c.rest(how, 0, 1)
		c.late(api.Write, 0, 1)
		c.tell(2, 0, 1)
		c.lead(1, 6, 0)
		c.operate(1, read(0), 2)
		wantValues(c, 1, 1, 1)
	})
}

// wantValues: these are what was written and read, by epochs and sequence numbers.
func wantValues(c *cell, values ...int) {
	c.t.Helper()
	var got []int
	for _, x := range c.inOrder() {
		got = append(got, x.Value)
	}
	if fmt.Sprint(got) != fmt.Sprint(values) {
		c.t.Fatalf("P16: the values are %v, want %v", got, values)
	}
}

// TestOldWrites: a Write that comes late changes nothing, whoever has rested meanwhile (P16).
func TestOldWrites(t *testing.T) {
	histories(t, 3, func(c *cell, how int) {
		c.lead(0, 7, 1)
		c.operate(0, put(0, 1), 1, 2)
		c.operate(0, put(0, 2), 1, 2)
		c.rest(how, 1)
		c.oldest(api.Write, 0, 1)
		c.tell(0, 1)
		c.lead(1, 7, 2)
		c.operate(1, read(0), 0, 2)
		wantValues(c, 1, 2, 2)
	})
}

// TestSawMore: whoever saw an epoch does not act in one before it, when it comes to know that it was its primary (P16).
func TestSawMore(t *testing.T) {
	histories(t, 3, func(c *cell, how int) {
		c.ask(1, promote(7))
		c.vote(api.Prepare, 1, 0)
		c.pass(api.Accept, 1, 0)
		// node 2 takes that over: node 1 is the primary of record 1, and does not know
		c.ask(2, promote(7))
		c.vote(api.Prepare, 2, 0)
		c.vote(api.Accept, 2, 0)
		c.rest(how, 0)
		c.tell(2, 0)
		c.lead(2, 7, 0)
		c.operate(2, put(0, 1), 0, 1)
		c.operate(2, put(0, 2), 0, 1)
		c.rest(how, 1)
		c.tell(2, 0)
		c.ask(1, retry())
		c.pass(api.Prepare, 1, 0)
		c.pass(api.Decided, 0, 1)
		c.operate(1, read(0), 0, 2)
		c.oldest(api.Write, 2, 1)
		c.ask(1, retry())
		c.pass(api.Prepare, 1, 0)
		c.pass(api.Decided, 0, 1)
		c.lead(1, 7, 0)
		c.operate(1, read(0), 0, 2)
		wantValues(c, 1, 2, 2)
	})
}

// TestStands: a primary that hears a later one does not act any more, though it does not know the record (P16).
func TestStands(t *testing.T) {
	histories(t, 3, func(c *cell, how int) {
		c.lead(1, 7, 0)
		c.tell(1, 2)
		c.lead(2, 7, 0)
		c.operate(2, put(0, 1), 0, 1)
		c.operate(2, put(0, 2), 0, 1)
		c.operate(1, read(0), 0, 2)
		c.oldest(api.Write, 2, 1)
		c.tell(2, 1)
		c.lead(1, 7, 0)
		c.operate(1, read(0), 0, 2)
		wantValues(c, 1, 2, 2)
	})
}

// TestOnePrimary: a primary that knows the next record leaves its epoch to the next one (P16).
func TestOnePrimary(t *testing.T) {
	histories(t, 3, func(c *cell, how int) {
		c.lead(0, 7, 2)
		c.operate(0, put(0, 1), 1, 2)
		c.tell(0, 1)
		c.lead(1, 7, 2)
		c.tell(1, 0)
		c.operate(0, read(0), 2)
		c.rest(restarts, 0)
		c.operate(1, put(0, 2), 0, 2)
		c.rest(how, 0, 2)
		c.tell(0, 2)
		c.tell(1, 2)
		c.lead(2, 7, 0)
		c.operate(2, read(0), 0, 1)
		wantValues(c, 1, 2, 2)
	})
}

// TestCopyComesFirst: a node that is admitted has all that was written before (P16).
func TestCopyComesFirst(t *testing.T) {
	histories(t, 3, func(c *cell, how int) {
		c.lead(0, 3, 1)
		c.tell(0, 1)
		c.operate(0, put(0, 1), 1)
		c.operate(0, put(0, 2), 1)
		c.ask(0, admit(2))
		c.operate(0, put(0, 3), 1) // not while it is admitted
		c.pass(api.Copy, 0, 2)
		c.rest(how, 2)
		c.late(api.Write, 0, 2)
		c.pass(api.Copied, 2, 0)
		c.vote(api.Prepare, 0, 1)
		c.vote(api.Accept, 0, 1)
		c.rest(how, 1, 2)
		c.pass(api.Copy, 0, 2) // once more
		c.tell(0, 1)
		c.ask(2, retry())
		c.pass(api.Prepare, 2, 1)
		c.pass(api.Decided, 1, 2)
		c.ask(2, retry())
		c.pass(api.Prepare, 2, 1)
		c.pass(api.Decided, 1, 2)
		c.lead(2, 4, 1)
		c.operate(2, read(0))
		wantValues(c, 1, 2, 2)
	})
}
