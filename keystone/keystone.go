// Package keystone: a few nodes that keep a volume of blocks, and agree who of them may change it: see DOC.md.
package keystone

import (
	"sync"

	"keystone/api"
	"keystone/node"
	"keystone/record"
	"keystone/wire"
)

// Encode makes the bytes of a message (P3).
func Encode(m api.Msg) ([]byte, api.Errno) { return wire.Encode(m) }

// Decode reads a message (P4).
func Decode(b []byte) (api.Msg, api.Errno) { return wire.Decode(b) }

// Follows tells whether a record may follow another one (P5).
func Follows(old api.Record, next api.Record) bool { return record.Follows(old, next) }

// Node is a node. Its calls may come from several goroutines at once: each takes the lock, so that it is done whole.
type Node struct {
	lock sync.Mutex
	node *node.Node
}

// New makes a node of what is on a disk (P6).
func New(id int, nodes int, blocks int, d *api.Disk) (*Node, api.Errno) {
	n, e := node.New(id, nodes, blocks, d)
	if e != api.OK {
		return nil, e
	}
	return &Node{node: n}, api.OK
}

// Receive takes a message in (P8 to P10).
func (n *Node) Receive(b []byte) []api.Packet {
	n.lock.Lock()
	defer n.lock.Unlock()
	return n.node.Receive(b)
}

// Promote asks for a record with this node as primary (P11).
func (n *Node) Promote(set int) ([]api.Packet, api.Errno) {
	n.lock.Lock()
	defer n.lock.Unlock()
	return n.node.Promote(set)
}

// Admit asks for a node more in the set (P12).
func (n *Node) Admit(node int) ([]api.Packet, api.Errno) {
	n.lock.Lock()
	defer n.lock.Unlock()
	return n.node.Admit(node)
}

// Write begins to write a block (P13).
func (n *Node) Write(block int, value int) (int, []api.Packet, api.Errno) {
	n.lock.Lock()
	defer n.lock.Unlock()
	return n.node.Write(block, value)
}

// Read begins to read a block (P13).
func (n *Node) Read(block int) (int, []api.Packet, api.Errno) {
	n.lock.Lock()
	defer n.lock.Unlock()
	return n.node.Read(block)
}

// Retry sends again what was not answered (P14).
func (n *Node) Retry() []api.Packet {
	n.lock.Lock()
	defer n.lock.Unlock()
	return n.node.Retry()
}

// Done tells what came to an end (P13).
func (n *Node) Done() []api.Result {
	n.lock.Lock()
	defer n.lock.Unlock()
	return n.node.Done()
}

// Records tells all records that are known (P7).
func (n *Node) Records() []api.Record {
	n.lock.Lock()
	defer n.lock.Unlock()
	return n.node.Records()
}

// Acting tells whether the node acts as primary (P7).
func (n *Node) Acting() bool {
	n.lock.Lock()
	defer n.lock.Unlock()
	return n.node.Acting()
}
