package store

import (
	"cmp"
	"maps"
	"slices"

	"keystone/api"
)

// term finds a vote: there is one for each epoch.
type term struct{ epoch int }

// Vote is what a node promised for an epoch, and what it accepted last.
type Vote struct {
	Promised     int
	Accepted     int // a ballot, as Promised is
	Primary, Set int // what came with Accepted
}

// After tells the vote as a Prepare or an Accept that is not refused leaves it.
func (v Vote) After(m api.Msg) Vote {
	if m.Kind == api.Accept {
		return Vote{Promised: m.Ballot, Accepted: m.Ballot, Primary: m.Primary, Set: m.Set}
	}
	v.Promised = m.Ballot
	return v
}

// Point is how far a node saw the volume change.
type Point struct{ Seen, Last int }

// state is all that a node keeps.
type state struct {
	id      int
	records []api.Record
	votes   map[term]Vote // of the last record's epoch and later ones: nobody asks for others any more
	blocks  [api.MaxBlocks]int
	point   Point
}

// firstState is what a node keeps at first.
func firstState(id int, nodes int) state {
	return state{id: id, records: []api.Record{{Set: 1<<nodes - 1}}, votes: map[term]Vote{}}
}

// apply makes the change that a message tells. All changes of a state are told so: the messages that made it make it again.
func (s *state) apply(m api.Msg) {
	switch m.Kind {
	case api.Prepare, api.Accept:
		s.votes[term{m.Epoch}] = s.votes[term{m.Epoch}].After(m)
	case api.Decided:
		s.learn(Learned(m))
	case api.Write:
		s.point = Point{Seen: m.Epoch, Last: m.Seq}
		s.blocks[m.Block] = m.Value
	case api.Copy:
		s.point = Point{Seen: m.Epoch, Last: m.Seq}
		copy(s.blocks[:], m.Values)
	}
}

// Learned tells the record that a Decided is about.
func Learned(m api.Msg) api.Record {
	return api.Record{Epoch: m.Epoch + 1, Primary: m.Primary, Set: m.Set}
}

// learn lays a record behind the others.
func (s *state) learn(r api.Record) {
	if s.TakesOver(r) {
		s.point = Point{Seen: r.Epoch}
	}
	s.records = append(s.records, r)
	delete(s.votes, term{r.Epoch - 1})
}

// TakesOver tells whether the node begins to act when it learns a record.
func (s *state) TakesOver(r api.Record) bool {
	return r.Primary == s.id+1 && s.point.Seen < r.Epoch
}

// messages tells the fewest changes that make this state of the first one.
func (s *state) messages() []api.Msg {
	var out []api.Msg
	for _, r := range s.records[1:] {
		out = append(out, api.Msg{Kind: api.Decided, Epoch: r.Epoch - 1, Primary: r.Primary, Set: r.Set})
	}
	for _, t := range slices.SortedFunc(maps.Keys(s.votes), byEpoch) {
		v := s.votes[t]
		// The ballot that was promised comes second: an Accept promises its own.
		out = append(out,
			api.Msg{Kind: api.Accept, Epoch: t.epoch, Ballot: v.Accepted, Primary: v.Primary, Set: v.Set},
			api.Msg{Kind: api.Prepare, Epoch: t.epoch, Ballot: v.Promised})
	}
	// The blocks come last: the records alone might lead to another point.
	return append(out, api.Msg{Kind: api.Copy, Epoch: s.point.Seen, Seq: s.point.Last, Values: slices.Clone(s.blocks[:])})
}

func byEpoch(a, b term) int { return cmp.Compare(a.epoch, b.epoch) }

// size tells how many messages there are, ahead of making them.
func (s *state) size() int { return len(s.records) + 2*len(s.votes) }

// Records tells all records, by epochs.
func (s *state) Records() []api.Record { return slices.Clone(s.records) }

// Epoch tells the epoch of the last record.
func (s *state) Epoch() int { return len(s.records) - 1 }

// Record tells the record of an epoch that is 0 to Epoch.
func (s *state) Record(epoch int) api.Record { return s.records[epoch] }

// Vote tells what was voted for an epoch that is not below Epoch.
func (s *state) Vote(epoch int) Vote { return s.votes[term{epoch}] }

// Point tells how far the volume's changes were seen.
func (s *state) Point() Point { return s.point }

// Blocks tells the blocks, as many as a volume may have.
func (s *state) Blocks() [api.MaxBlocks]int { return s.blocks }
