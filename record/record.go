// Package record: which record may stand behind which.
package record

import (
	"math/bits"

	"keystone/api"
)

// allNodes is the set of as many nodes as there may be.
const allNodes = 1<<api.MaxNodes - 1

// Follows tells whether record next follows record old.
func Follows(old api.Record, next api.Record) bool {
	return epochFollows(old.Epoch, next.Epoch) && hasItsPrimary(next) && (addsNone(old, next) || addsOne(old, next))
}

// epochFollows asks for old's bounds first, since its successor might wrap round.
func epochFollows(old int, next int) bool {
	return old >= 0 && old < api.MaxNumber && next == old+1
}

// hasItsPrimary tells whether a record's primary and set may be, and the one is in the other.
func hasItsPrimary(r api.Record) bool {
	if r.Primary < 1 || r.Primary > api.MaxNodes || r.Set < 1 || r.Set > allNodes {
		return false
	}
	return r.Set>>(r.Primary-1)&1 == 1
}

// added tells the nodes of next's set that old's has not.
func added(old api.Record, next api.Record) int { return next.Set &^ old.Set }

// addsNone tells whether every node of next had all blocks already.
func addsNone(old api.Record, next api.Record) bool { return added(old, next) == 0 }

// addsOne tells whether next is as old, but for its epoch and for one node more: only the primary that is so already could have copied to it.
func addsOne(old api.Record, next api.Record) bool {
	node := added(old, next)
	grown := api.Record{Epoch: next.Epoch, Primary: old.Primary, Set: old.Set | node}
	return bits.OnesCount(uint(node)) == 1 && next == grown
}
