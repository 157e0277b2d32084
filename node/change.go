package node

import (
	"keystone/api"
	"keystone/record"
)

// The phases of a change.
const (
	idle      = iota // there is none
	copying          // it waits for Copied
	preparing        // it waits for Promise
	accepting        // it waits for Accepted
)

// change is a record that the node asks all to agree on: one of the epoch behind its own.
type change struct {
	phase    int
	goal     api.Record
	joins    int     // the node that is copied to
	ballot   int     // 0: it has taken none yet
	refused  int     // the greatest ballot that Refused told
	found    api.Msg // the Promise of this ballot with the greatest Was
	answered answers // to this ballot, in this phase
}

// Promote begins to ask for a record with this node as primary.
func (n *Node) Promote(set int) ([]api.Packet, api.Errno) {
	last := n.last()
	c := change{phase: preparing, goal: api.Record{Epoch: last.Epoch + 1, Primary: n.id + 1, Set: set}}
	switch {
	case n.down:
		return nil, api.ErrDown
	case set&^last.Set != 0 || !record.Follows(last, c.goal) || n.nextBallot(c) > api.MaxNumber:
		return nil, api.ErrArg
	case n.change.phase != idle:
		return nil, api.ErrBusy
	}
	n.change = c
	out := n.prepare()
	if n.down {
		return nil, api.ErrDown
	}
	return out, api.OK
}

// Admit begins to take a node into the set: first it gets all blocks.
func (n *Node) Admit(node int) ([]api.Packet, api.Errno) {
	last := n.last()
	right := node >= 0 && node < n.nodes && last.Set>>node&1 == 0
	if e := n.hindrance(right); e != api.OK {
		return nil, e
	}
	m := n.copyOfAll()
	m.Seq++
	if !n.save(m) {
		return nil, api.ErrDown
	}
	n.change = change{phase: copying, joins: node, goal: api.Record{Epoch: last.Epoch + 1, Primary: last.Primary, Set: last.Set | 1<<node}}
	return n.send(1<<node, m), api.OK
}

// copyOfAll is a Copy of all blocks as they are, with LAST.
func (n *Node) copyOfAll() api.Msg {
	blocks := n.kept.Blocks()
	return api.Msg{Kind: api.Copy, Epoch: n.kept.Epoch(), Seq: n.kept.Point().Last, Values: blocks[:n.blocks]}
}

// copied takes a Copied.
func (n *Node) copied(m api.Msg) []api.Packet {
	c := &n.change
	if c.phase != copying || m.From != c.joins || m.Epoch != n.kept.Epoch() || m.Seq != n.kept.Point().Last {
		return nil
	}
	c.phase = preparing
	return n.prepare()
}

// nextBallot tells the least ballot that a change may take; past MaxNumber: there is none. No two nodes have one in common, as their numbers are the remainders.
func (n *Node) nextBallot(c change) int {
	low := max(n.kept.Vote(n.kept.Epoch()).Promised, c.refused)
	ballot := low - low%api.MaxNodes + n.id
	if ballot <= low {
		ballot += api.MaxNodes
	}
	return ballot
}

// prepare takes a ballot, if there is one, and asks all others to promise it.
func (n *Node) prepare() []api.Packet {
	c := &n.change
	m := api.Msg{Kind: api.Prepare, Epoch: n.kept.Epoch(), Ballot: n.nextBallot(*c)}
	if m.Ballot > api.MaxNumber {
		return nil
	}
	own := n.voteItself(m)
	if n.down {
		return nil
	}
	c.phase, c.ballot, c.found, c.answered = preparing, m.Ballot, own, answers{}
	c.answered.add(own)
	return n.send(n.others(), m)
}

// voteItself answers a Prepare or an Accept of its own.
func (n *Node) voteItself(m api.Msg) api.Msg {
	own := n.vote(m)
	own.From = n.id
	return own
}

// isForBallot tells whether a message answers the ballot that the change took. (0 is none of a change's: with that Retry asks for news.)
func (n *Node) isForBallot(m api.Msg) bool {
	return m.Epoch == n.kept.Epoch() && m.Ballot == n.change.ballot && m.Ballot > 0
}

// counts counts an answer in a phase; false: it is not waited for, or was there already.
func (n *Node) counts(m api.Msg, phase int) bool {
	return n.change.phase == phase && n.isForBallot(m) && n.change.answered.add(m)
}

// most tells whether more than half of all nodes answered.
func (n *Node) most() bool { return 2*len(n.change.answered) > n.nodes }

// promised takes a Promise.
func (n *Node) promised(m api.Msg) []api.Packet {
	if !n.counts(m, preparing) {
		return nil
	}
	if m.Was > n.change.found.Was {
		n.change.found = m
	}
	if !n.most() {
		return nil
	}
	return n.propose()
}

// propose asks all others to accept a record: the one that was accepted last by any of those who promised, as it may be decided already; else the change's own.
func (n *Node) propose() []api.Packet {
	c := &n.change
	if c.found.Was > 0 {
		c.goal.Primary, c.goal.Set = c.found.Primary, c.found.Set
	}
	m := api.Msg{Kind: api.Accept, Epoch: n.kept.Epoch(), Ballot: c.ballot, Primary: c.goal.Primary, Set: c.goal.Set}
	own := n.voteItself(m)
	if n.down {
		return nil
	}
	c.phase, c.answered = accepting, answers{}
	if own.Kind == api.Accepted {
		c.answered.add(own)
	}
	return n.send(n.others(), m)
}

// accepted takes an Accepted.
func (n *Node) accepted(m api.Msg) []api.Packet {
	if !n.counts(m, accepting) || !n.most() {
		return nil
	}
	return n.conclude()
}

// conclude ends the change: its record is learned, if it follows, and told to all others.
func (n *Node) conclude() []api.Packet {
	goal := n.change.goal
	n.change = change{}
	m := api.Msg{Kind: api.Decided, Epoch: n.kept.Epoch(), Primary: goal.Primary, Set: goal.Set}
	if !n.decided(m) {
		return nil
	}
	return n.send(n.others(), m)
}

// refused takes a Refused.
func (n *Node) refused(m api.Msg) {
	if n.isForBallot(m) {
		n.change.refused = max(n.change.refused, m.Was)
	}
}

// pursue sends again what the change waits for; without a change it asks for news.
func (n *Node) pursue() []api.Packet {
	switch n.change.phase {
	case idle:
		return n.send(n.others(), api.Msg{Kind: api.Prepare, Epoch: n.kept.Epoch()})
	case copying:
		return n.send(1<<n.change.joins, n.copyOfAll())
	}
	return n.prepare()
}
