package node

import (
	"keystone/api"
	"keystone/record"
	"keystone/store"
	"keystone/wire"
)

// Receive takes a message in, and tells what is sent.
func (n *Node) Receive(b []byte) []api.Packet {
	m, e := wire.Decode(b)
	if n.down || e != api.OK || m.From == n.id || m.From >= n.nodes {
		return nil
	}
	switch m.Kind {
	case api.Prepare, api.Accept:
		return n.vote(m)
	case api.Decided:
		n.decided(m)
	case api.Write, api.Copy:
		return n.change(m)
	}
	return nil
}

// vote takes a Prepare or an Accept.
func (n *Node) vote(m api.Msg) []api.Packet {
	if m.Epoch < n.kept.Epoch() {
		return n.answer(m, n.decision(m.Epoch))
	}
	was := n.kept.Vote(m.Epoch)
	if m.Ballot < was.Promised {
		return n.answer(m, api.Msg{Kind: api.Refused, Epoch: m.Epoch, Ballot: m.Ballot, Was: was.Promised})
	}
	if was.After(m) != was && !n.save(m) {
		return nil
	}
	if m.Kind == api.Accept {
		return n.answer(m, api.Msg{Kind: api.Accepted, Epoch: m.Epoch, Ballot: m.Ballot})
	}
	return n.answer(m, api.Msg{Kind: api.Promise, Epoch: m.Epoch, Ballot: m.Ballot, Was: was.Accepted, Primary: was.Primary, Set: was.Set})
}

// decision tells what was decided for an epoch below the node's.
func (n *Node) decision(epoch int) api.Msg {
	r := n.kept.Record(epoch + 1)
	return api.Msg{Kind: api.Decided, Epoch: epoch, Primary: r.Primary, Set: r.Set}
}

// decided takes a Decided.
func (n *Node) decided(m api.Msg) {
	if record.Follows(n.kept.Record(n.kept.Epoch()), store.Learned(m)) {
		n.learn(m)
	}
}

// learn makes the record that a Decided is about known.
func (n *Node) learn(m api.Msg) {
	acts := n.kept.TakesOver(store.Learned(m))
	if n.save(m) {
		n.stand()
		n.acts = acts
	}
}

// change takes a Write or a Copy.
func (n *Node) change(m api.Msg) []api.Packet {
	point := store.Point{Seen: m.Epoch, Last: m.Seq}
	was := n.kept.Point()
	if !n.fits(m) || point.Seen == was.Seen && (n.acts || point.Last < was.Last) {
		return nil
	}
	if point.Seen < was.Seen {
		return n.outdated(m)
	}
	if point != was && !n.save(m) {
		return nil
	}
	if point.Seen != was.Seen {
		n.stand()
	}
	return n.answer(m, api.Msg{Kind: answerOf(m), Epoch: m.Epoch, Seq: m.Seq})
}

// fits tells whether a Write or a Copy is one for this volume.
func (n *Node) fits(m api.Msg) bool {
	if m.Kind == api.Copy {
		return len(m.Values) == n.blocks
	}
	return m.Block < n.blocks
}

// outdated answers a Write or a Copy of a primary that is none any more.
func (n *Node) outdated(m api.Msg) []api.Packet {
	if m.Epoch < n.kept.Epoch() {
		return n.answer(m, n.decision(m.Epoch))
	}
	return nil
}

// answerOf tells the kind that answers a Write or a Copy.
func answerOf(m api.Msg) int {
	if m.Kind == api.Copy {
		return api.Copied
	}
	return api.Wrote
}
