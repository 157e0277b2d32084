// Package node: what a node does. Its calls are not to be made at the same time.
package node

import (
	"keystone/api"
	"keystone/store"
	"keystone/wire"
)

// Node is a node: what it keeps, and what it does not.
type Node struct {
	id, nodes, blocks int
	kept              *store.Store
	down              bool // its disk stopped
	acts              bool // as primary
	change            change
	operation         operation
	operations        int // how many began
	results           []api.Result
}

// New makes a node of what is on a disk.
func New(id int, nodes int, blocks int, d *api.Disk) (*Node, api.Errno) {
	if nodes < 2 || nodes > api.MaxNodes || id < 0 || id >= nodes || blocks < 1 || blocks > api.MaxBlocks {
		return nil, api.ErrArg
	}
	// A disk that api.NewDisk did not make has nothing behind it: asking it would panic.
	if d == nil || *d == (api.Disk{}) {
		return nil, api.ErrArg
	}
	if d.Stopped() {
		return nil, api.ErrDown
	}
	return &Node{id: id, nodes: nodes, blocks: blocks, kept: store.Open(id, nodes, d)}, api.OK
}

// Records tells all records that are known.
func (n *Node) Records() []api.Record { return n.kept.Records() }

// Acting tells whether the node acts as primary.
func (n *Node) Acting() bool { return n.acts }

// last tells the last record that is known.
func (n *Node) last() api.Record { return n.kept.Record(n.kept.Epoch()) }

// others tells the set of all nodes but this one.
func (n *Node) others() int { return (1<<n.nodes - 1) &^ (1 << n.id) }

// save makes a change of what is kept; false: the node is down.
func (n *Node) save(m api.Msg) bool {
	if !n.kept.Save(m) {
		n.down = true
		n.stand()
	}
	return !n.down
}

// stand ends what is going on, without a result.
func (n *Node) stand() { n.acts, n.change, n.operation = false, change{}, operation{} }

// send makes the packets of a message for each node of a set.
func (n *Node) send(set int, m api.Msg) []api.Packet {
	m.From = n.id
	var out []api.Packet
	for node := range n.nodes {
		if set>>node&1 == 1 {
			b, _ := wire.Encode(m)
			out = append(out, api.Packet{To: node, Data: b})
		}
	}
	return out
}
