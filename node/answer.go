package node

import "keystone/api"

// answer finds an answer that came: of a kind, to a ballot or a sequence number of an epoch, from a node.
type answer struct{ kind, epoch, number, node int }

// answers are those that came.
type answers map[answer]struct{}

// add lays an answer to those that came; false: it was there already.
func (a answers) add(m api.Msg) bool {
	if a.has(m) {
		return false
	}
	a[answerOf(m)] = struct{}{}
	return true
}

func (a answers) has(m api.Msg) bool {
	_, ok := a[answerOf(m)]
	return ok
}

// answerOf tells how an answer is found. Its kind has a ballot or a sequence number: the other one is 0.
func answerOf(m api.Msg) answer {
	return answer{kind: m.Kind, epoch: m.Epoch, number: max(m.Ballot, m.Seq), node: m.From}
}
