package node

import (
	"keystone/api"
	"keystone/record"
	"keystone/store"
	"keystone/wire"
)

// Receive takes a message in, and tells what is sent.
func (n *Node) Receive(b []byte) []api.Packet {
	m, e := wire.Decode(b)
	if n.down || e != api.OK || m.From == n.id || m.From >= n.nodes {
		return nil
	}
	switch m.Kind {
	case api.Prepare, api.Accept:
		return n.reply(m, n.vote(m))
	case api.Promise:
		return n.promised(m)
	case api.Accepted:
		return n.accepted(m)
	case api.Refused:
		n.refused(m)
	case api.Decided:
		n.decided(m)
	case api.Write, api.Copy:
		return n.reply(m, n.update(m))
	case api.Wrote:
		n.wrote(m)
	case api.Copied:
		return n.copied(m)
	}
	return nil
}

// reply sends an answer to whoever sent a message; a message of nothing: there is none.
func (n *Node) reply(to api.Msg, m api.Msg) []api.Packet {
	if m.Kind == 0 {
		return nil
	}
	return n.send(1<<to.From, m)
}

// vote answers a Prepare or an Accept.
func (n *Node) vote(m api.Msg) api.Msg {
	if m.Epoch < n.kept.Epoch() {
		return n.decision(m.Epoch)
	}
	was := n.kept.Vote(m.Epoch)
	if m.Ballot < was.Promised {
		return api.Msg{Kind: api.Refused, Epoch: m.Epoch, Ballot: m.Ballot, Was: was.Promised}
	}
	if was.After(m) != was && !n.save(m) {
		return api.Msg{}
	}
	if m.Kind == api.Accept {
		return api.Msg{Kind: api.Accepted, Epoch: m.Epoch, Ballot: m.Ballot}
	}
	return api.Msg{Kind: api.Promise, Epoch: m.Epoch, Ballot: m.Ballot, Was: was.Accepted, Primary: was.Primary, Set: was.Set}
}

// decision tells what was decided for an epoch below the node's.
func (n *Node) decision(epoch int) api.Msg {
	r := n.kept.Record(epoch + 1)
	return api.Msg{Kind: api.Decided, Epoch: epoch, Primary: r.Primary, Set: r.Set}
}

// decided takes a Decided, one of its own too; false: its record is not learned.
func (n *Node) decided(m api.Msg) bool {
	next := store.Learned(m)
	if !record.Follows(n.last(), next) {
		return false
	}
	acts := n.kept.TakesOver(next)
	if !n.save(m) {
		return false
	}
	n.stand()
	n.acts = acts
	return true
}

// update takes a Write or a Copy.
func (n *Node) update(m api.Msg) api.Msg {
	point := store.Point{Seen: m.Epoch, Last: m.Seq}
	was := n.kept.Point()
	if !n.fits(m) || point.Seen == was.Seen && (n.acts || point.Last < was.Last) {
		return api.Msg{}
	}
	if point.Seen < was.Seen {
		return n.outdated(m)
	}
	if point != was && !n.save(m) {
		return api.Msg{}
	}
	if point.Seen != was.Seen {
		n.stand()
	}
	return api.Msg{Kind: confirmation(m), Epoch: m.Epoch, Seq: m.Seq}
}

// fits tells whether a Write or a Copy is one for this volume.
func (n *Node) fits(m api.Msg) bool {
	if m.Kind == api.Copy {
		return len(m.Values) == n.blocks
	}
	return m.Block < n.blocks
}

// outdated answers a Write or a Copy of a primary that is none any more.
func (n *Node) outdated(m api.Msg) api.Msg {
	if m.Epoch < n.kept.Epoch() {
		return n.decision(m.Epoch)
	}
	return api.Msg{}
}

// confirmation tells the kind that answers a Write or a Copy.
func confirmation(m api.Msg) int {
	if m.Kind == api.Copy {
		return api.Copied
	}
	return api.Wrote
}
