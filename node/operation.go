package node

import "keystone/api"

// operation is a Write or a Read that is going on.
type operation struct {
	number   int     // 0: there is none
	write    api.Msg // what the others of the set are sent
	answered answers
}

// Write begins to write a block.
func (n *Node) Write(block int, value int) (int, []api.Packet, api.Errno) {
	if e := n.hindrance(n.hasBlock(block)); e != api.OK {
		return 0, nil, e
	}
	return n.operate(block, value)
}

// Read begins to read a block: it is written as it is, so that its value is the newest on all others too.
func (n *Node) Read(block int) (int, []api.Packet, api.Errno) {
	if e := n.hindrance(n.hasBlock(block)); e != api.OK {
		return 0, nil, e
	}
	return n.operate(block, n.kept.Blocks()[block])
}

func (n *Node) hasBlock(block int) bool { return block >= 0 && block < n.blocks }

// hindrance tells why the node may not raise LAST; right: whether what was asked for may be.
func (n *Node) hindrance(right bool) api.Errno {
	switch {
	case n.down:
		return api.ErrDown
	case !n.acts:
		return api.ErrPrimary
	case !right || n.kept.Point().Last == api.MaxNumber:
		return api.ErrArg
	case n.change.phase != idle || n.operation.number > 0:
		return api.ErrBusy
	}
	return api.OK
}

// operate begins an operation; if nobody else is in the set, it is done at once.
func (n *Node) operate(block int, value int) (int, []api.Packet, api.Errno) {
	m := api.Msg{Kind: api.Write, Epoch: n.kept.Epoch(), Seq: n.kept.Point().Last + 1, Block: block, Value: value}
	if !n.save(m) {
		return 0, nil, api.ErrDown
	}
	n.operations++
	n.operation = operation{number: n.operations, write: m, answered: answers{}}
	out := n.rewrite()
	n.finish()
	return n.operations, out, api.OK
}

// rewrite sends the operation's Write to all from which Wrote has not come.
func (n *Node) rewrite() []api.Packet { return n.send(n.missing(), n.operation.write) }

// missing tells the others of the record's set from which Wrote has not come. One past the number of nodes is among them as long as the operation goes on: nothing can be sent to it, and it never answers.
func (n *Node) missing() int {
	set := n.last().Set &^ (1 << n.id)
	m := n.operation.write
	for node := range n.nodes {
		if n.operation.answered.has(api.Msg{Kind: api.Wrote, From: node, Epoch: m.Epoch, Seq: m.Seq}) {
			set &^= 1 << node
		}
	}
	return set
}

// finish ends the operation with its result, if it is done.
func (n *Node) finish() {
	if n.missing() != 0 {
		return
	}
	m := n.operation.write
	n.results = append(n.results, api.Result{Op: n.operation.number, Block: m.Block, Value: m.Value, Epoch: m.Epoch, Seq: m.Seq})
	n.operation = operation{}
}

// wrote takes a Wrote.
func (n *Node) wrote(m api.Msg) {
	o := n.operation
	if o.number > 0 && m.Epoch == o.write.Epoch && m.Seq == o.write.Seq {
		o.answered.add(m)
		n.finish()
	}
}

// Retry sends again what was not answered.
func (n *Node) Retry() []api.Packet {
	if n.down {
		return nil
	}
	out := n.pursue()
	if n.operation.number > 0 {
		out = append(out, n.rewrite()...)
	}
	return out
}

// Done tells the results that were not told yet.
func (n *Node) Done() []api.Result {
	out := n.results
	n.results = nil
	return out
}
