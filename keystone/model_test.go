package keystone_test

import (
	"slices"

	"keystone/api"
)

// sent is a message that goes to a node.
type sent struct {
	to int
	m  api.Msg
}

// modelVote is what was voted for an epoch.
type modelVote struct{ epoch, promised, accepted, primary, set int }

// model is a node, told by the document's sections 'A node' and 'Promises' step by step, apart from the program: plain lists, nothing left out that nobody asks for.
type model struct {
	id, nodes, blocks int
	records           []api.Record
	votes             []modelVote
	values            []int
	seen, last        int
	acts              bool
	change            *modelChange
	operation         *modelOperation
	begun             int
	results           []api.Result
}

func newModel(id, nodes, blocks int) model {
	all := 0
	for range nodes {
		all = 2*all + 1
	}
	return model{id: id, nodes: nodes, blocks: blocks, records: []api.Record{{Set: all}}, values: make([]int, blocks)}
}

// clone is the same model apart from this one.
func (m model) clone() model {
	m.records, m.votes, m.values, m.results = slices.Clone(m.records), slices.Clone(m.votes), slices.Clone(m.values), slices.Clone(m.results)
	m.change, m.operation = m.change.clone(), m.operation.clone()
	return m
}

// restarted is the model behind New: what is not kept is gone.
func (m model) restarted() model {
	m = m.clone()
	m.end()
	m.begun, m.results = 0, nil
	return m
}

// end: the node does not act any more, and what is going on ends.
func (m *model) end() { m.acts, m.change, m.operation = false, nil, nil }

func (m *model) lastRecord() api.Record { return m.records[len(m.records)-1] }

func (m *model) epoch() int { return m.lastRecord().Epoch }

// vote finds what was voted for an epoch; it is there from now on.
func (m *model) vote(epoch int) *modelVote {
	for i := range m.votes {
		if m.votes[i].epoch == epoch {
			return &m.votes[i]
		}
	}
	m.votes = append(m.votes, modelVote{epoch: epoch})
	return &m.votes[len(m.votes)-1]
}

// decision is Decided, of an epoch below the model's.
func (m *model) decision(epoch int) api.Msg {
	for _, r := range m.records {
		if r.Epoch == epoch+1 {
			return api.Msg{Kind: 6, From: m.id, Epoch: epoch, Primary: r.Primary, Set: r.Set}
		}
	}
	panic("no such record")
}

// one is an answer to whoever sent a message; kind 0: there is none.
func one(to int, answer api.Msg) []sent {
	if answer.Kind == 0 {
		return nil
	}
	return []sent{{to, answer}}
}

// receive takes a message in and tells what is sent.
func (m *model) receive(x api.Msg) []sent {
	if x.From == m.id || x.From >= m.nodes {
		return nil
	}
	switch x.Kind {
	case 1:
		return one(x.From, m.prepare(x))
	case 2:
		return m.promise(x)
	case 3:
		return one(x.From, m.accept(x))
	case 4:
		return m.accepted(x)
	case 5:
		m.refused(x)
	case 6:
		m.decided(x)
	case 7:
		if x.Block < m.blocks {
			return one(x.From, m.update(x, 8, func() { m.values[x.Block] = x.Value }))
		}
	case 8:
		m.wrote(x)
	case 9:
		if len(x.Values) == m.blocks {
			return one(x.From, m.update(x, 10, func() { m.values = slices.Clone(x.Values) }))
		}
	case 10:
		return m.copied(x)
	}
	return nil
}

// refuse answers a Prepare or an Accept that may not be; kind 0: it may.
func (m *model) refuse(x api.Msg) api.Msg {
	if x.Epoch < m.epoch() {
		return m.decision(x.Epoch)
	}
	if promised := m.vote(x.Epoch).promised; x.Ballot < promised {
		return api.Msg{Kind: 5, From: m.id, Epoch: x.Epoch, Ballot: x.Ballot, Was: promised}
	}
	return api.Msg{}
}

func (m *model) prepare(x api.Msg) api.Msg {
	if no := m.refuse(x); no.Kind != 0 {
		return no
	}
	v := m.vote(x.Epoch)
	v.promised = x.Ballot
	return api.Msg{Kind: 2, From: m.id, Epoch: x.Epoch, Ballot: x.Ballot, Was: v.accepted, Primary: v.primary, Set: v.set}
}

func (m *model) accept(x api.Msg) api.Msg {
	if no := m.refuse(x); no.Kind != 0 {
		return no
	}
	*m.vote(x.Epoch) = modelVote{x.Epoch, x.Ballot, x.Ballot, x.Primary, x.Set}
	return api.Msg{Kind: 4, From: m.id, Epoch: x.Epoch, Ballot: x.Ballot}
}

// follows tells whether the record of the epoch behind the model's, with this primary and set, follows its last one.
func (m *model) follows(primary, set int) bool {
	last := m.lastRecord()
	return shouldFollow(last, api.Record{Epoch: last.Epoch + 1, Primary: primary, Set: set})
}

func (m *model) decided(x api.Msg) {
	if x.Epoch == m.epoch() && m.follows(x.Primary, x.Set) {
		m.learn(api.Record{Epoch: x.Epoch + 1, Primary: x.Primary, Set: x.Set})
	}
}

func (m *model) learn(r api.Record) {
	m.records = append(m.records, r)
	m.end()
	if r.Primary-1 == m.id && m.seen < r.Epoch {
		m.seen, m.last, m.acts = r.Epoch, 0, true
	}
}

// update is a Write or a Copy; how lays its values into the blocks.
func (m *model) update(x api.Msg, answer int, how func()) api.Msg {
	done := api.Msg{Kind: answer, From: m.id, Epoch: x.Epoch, Seq: x.Seq}
	if x.Epoch == m.seen && m.acts {
		return api.Msg{}
	}
	if x.Epoch < m.seen {
		if x.Epoch < m.epoch() {
			return m.decision(x.Epoch)
		}
		return api.Msg{}
	}
	if x.Epoch == m.seen && x.Seq < m.last {
		return api.Msg{}
	}
	if x.Epoch == m.seen && x.Seq == m.last {
		return done
	}
	if x.Epoch != m.seen {
		m.end()
	}
	m.seen, m.last = x.Epoch, x.Seq
	how()
	return done
}
