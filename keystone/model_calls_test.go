package keystone_test

import (
	"slices"

	"keystone/api"
)

// modelChange is a change that is going on.
type modelChange struct {
	primary, set int
	waits        int // for this kind; 0: for nothing, as there was no ballot
	copies       sent
	ballot       int
	told         []int     // by Refused
	promises     []api.Msg // of this ballot
	accepts      []int     // the nodes of which there is an Accepted
}

// modelOperation is an operation that is going on.
type modelOperation struct {
	result api.Result
	came   []int // the nodes from which Wrote has come
}

func (c *modelChange) clone() *modelChange {
	if c == nil {
		return nil
	}
	x := *c
	x.told, x.promises, x.accepts = slices.Clone(c.told), slices.Clone(c.promises), slices.Clone(c.accepts)
	return &x
}

func (o *modelOperation) clone() *modelOperation {
	if o == nil {
		return nil
	}
	x := *o
	x.came = slices.Clone(o.came)
	return &x
}

// others are the nodes but this one that a set has.
func (m *model) others(set int) (out []int) {
	for node := range m.nodes {
		if node != m.id && has(set, node) {
			out = append(out, node)
		}
	}
	return out
}

// toAll sends a message to nodes.
func (m *model) toAll(nodes []int, x api.Msg) (out []sent) {
	x.From = m.id
	for _, node := range nodes {
		out = append(out, sent{node, x})
	}
	return out
}

// ballot tells the one that a change takes that was told these; 0: there is none.
func (m *model) ballot(told []int) int {
	ballot := 1 + max(m.vote(m.epoch()).promised, slices.Max(append(told, 0)))
	for ballot%5 != m.id {
		ballot++
	}
	if ballot > 1000000000000 {
		return 0
	}
	return ballot
}

func (m *model) takeBallot() []sent {
	c := m.change
	ballot := m.ballot(slices.Clone(c.told))
	if ballot == 0 {
		return nil
	}
	own := m.prepare(api.Msg{Kind: 1, From: m.id, Epoch: m.epoch(), Ballot: ballot})
	c.ballot, c.waits, c.promises, c.accepts = ballot, 2, []api.Msg{own}, nil
	return m.toAll(m.others(-1), api.Msg{Kind: 1, Epoch: m.epoch(), Ballot: ballot})
}

// waitsFor tells whether a message is one that the change waits for, with its epoch and ballot.
func (m *model) waitsFor(x api.Msg) bool {
	return m.change != nil && m.change.waits == x.Kind && x.Epoch == m.epoch() && x.Ballot == m.change.ballot
}

func (m *model) promise(x api.Msg) []sent {
	c := m.change
	if !m.waitsFor(x) || slices.ContainsFunc(c.promises, func(p api.Msg) bool { return p.From == x.From }) {
		return nil
	}
	c.promises = append(c.promises, x)
	if len(c.promises) <= m.nodes/2 {
		return nil
	}
	best := slices.MaxFunc(c.promises, func(a, b api.Msg) int { return a.Was - b.Was })
	if best.Was > 0 {
		c.primary, c.set = best.Primary, best.Set
	}
	c.waits = 4
	ask := api.Msg{Kind: 3, From: m.id, Epoch: m.epoch(), Ballot: c.ballot, Primary: c.primary, Set: c.set}
	if m.vote(m.epoch()).promised <= c.ballot {
		m.accept(ask)
		c.accepts = append(c.accepts, m.id)
	}
	return m.toAll(m.others(-1), ask)
}

func (m *model) accepted(x api.Msg) []sent {
	c := m.change
	if !m.waitsFor(x) || slices.Contains(c.accepts, x.From) {
		return nil
	}
	c.accepts = append(c.accepts, x.From)
	if len(c.accepts) <= m.nodes/2 {
		return nil
	}
	if !m.follows(c.primary, c.set) {
		m.change = nil
		return nil
	}
	epoch := m.epoch()
	m.learn(api.Record{Epoch: epoch + 1, Primary: c.primary, Set: c.set})
	return m.toAll(m.others(-1), api.Msg{Kind: 6, Epoch: epoch, Primary: c.primary, Set: c.set})
}

func (m *model) refused(x api.Msg) {
	c := m.change
	if c != nil && (c.waits == 2 || c.waits == 4) && x.Epoch == m.epoch() && x.Ballot == c.ballot {
		c.told = append(c.told, x.Was)
	}
}

func (m *model) copied(x api.Msg) []sent {
	c := m.change
	if c == nil || c.waits != 10 || x.From != c.copies.to || x.Epoch != c.copies.m.Epoch || x.Seq != c.copies.m.Seq {
		return nil
	}
	c.waits = 0
	return m.takeBallot()
}

func (m *model) promote(set int) ([]sent, api.Errno) {
	if set != set&m.lastRecord().Set || !m.follows(m.id+1, set) || m.ballot(nil) == 0 {
		return nil, 1
	}
	if m.change != nil {
		return nil, 4
	}
	m.change = &modelChange{primary: m.id + 1, set: set}
	return m.takeBallot(), 0
}

// mayRaise tells the error of a call for which LAST is to be raised.
func (m *model) mayRaise(right bool) api.Errno {
	if !m.acts {
		return 5
	}
	if !right || m.last == 1000000000000 {
		return 1
	}
	if m.change != nil || m.operation != nil {
		return 4
	}
	return 0
}

func (m *model) admit(node int) ([]sent, api.Errno) {
	r := m.lastRecord()
	if e := m.mayRaise(node >= 0 && node < m.nodes && !has(r.Set, max(0, node))); e != 0 {
		return nil, e
	}
	m.last++
	copies := sent{node, api.Msg{Kind: 9, From: m.id, Epoch: m.epoch(), Seq: m.last, Values: slices.Clone(m.values)}}
	m.change = &modelChange{primary: r.Primary, set: r.Set + 1<<node, waits: 10, copies: copies}
	return []sent{copies}, 0
}

// operate is Write, or, without a value, Read.
func (m *model) operate(block int, value *int) (int, []sent, api.Errno) {
	if e := m.mayRaise(block >= 0 && block < m.blocks); e != 0 {
		return 0, nil, e
	}
	m.last++
	m.begun++
	if value != nil {
		m.values[block] = *value
	}
	m.operation = &modelOperation{result: api.Result{Op: m.begun, Block: block, Value: m.values[block], Epoch: m.epoch(), Seq: m.last}}
	out := m.writes()
	m.finish()
	return m.begun, out, 0
}

// missing are the others of the record's set from which Wrote has not come, whether there are such nodes or not.
func (m *model) missing() (out []int) {
	for node := range 5 {
		if node != m.id && has(m.lastRecord().Set, node) && !slices.Contains(m.operation.came, node) {
			out = append(out, node)
		}
	}
	return out
}

// writes goes to those of the missing ones that are there.
func (m *model) writes() []sent {
	r := m.operation.result
	there := slices.DeleteFunc(m.missing(), func(node int) bool { return node >= m.nodes })
	return m.toAll(there, api.Msg{Kind: 7, Epoch: r.Epoch, Seq: r.Seq, Block: r.Block, Value: r.Value})
}

func (m *model) finish() {
	if len(m.missing()) == 0 {
		m.results = append(m.results, m.operation.result)
		m.operation = nil
	}
}

func (m *model) wrote(x api.Msg) {
	o := m.operation
	if o != nil && x.Epoch == o.result.Epoch && x.Seq == o.result.Seq {
		o.came = append(o.came, x.From)
		m.finish()
	}
}

func (m *model) retry() (out []sent) {
	switch {
	case m.change == nil:
		out = m.toAll(m.others(-1), api.Msg{Kind: 1, Epoch: m.epoch()})
	case m.change.waits == 10:
		out = []sent{m.change.copies}
	default:
		out = m.takeBallot()
	}
	if m.operation != nil {
		out = append(out, m.writes()...)
	}
	return out
}
