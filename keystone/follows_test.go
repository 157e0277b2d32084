package keystone_test

import (
	"math"
	"testing"

	"keystone/api"
	"keystone/keystone"
)

func rec(epoch, primary, set int) api.Record {
	return api.Record{Epoch: epoch, Primary: primary, Set: set}
}

// has tells whether a node is in a set.
func has(set, node int) bool { return uint64(set)>>node&1 == 1 }

// setsFollow says by the document's words, node by node, what it asks of two sets and their primaries.
func setsFollow(old, next api.Record) bool {
	more, fewer := 0, 0
	for node := range 64 {
		if has(next.Set, node) && !has(old.Set, node) {
			more++
		}
		if has(old.Set, node) && !has(next.Set, node) {
			fewer++
		}
	}
	return more == 0 || more == 1 && fewer == 0 && next.Primary == old.Primary
}

// shouldFollow says by the document's words, when records with the epochs 3 and 4 follow.
func shouldFollow(old, next api.Record) bool {
	if next.Primary < 1 || next.Primary > 5 || next.Set < 1 || next.Set > 31 {
		return false
	}
	return has(next.Set, next.Primary-1) && setsFollow(old, next)
}

// TestFollowsAllSets goes through all sets and primaries, and some that may not be (P5).
func TestFollowsAllSets(t *testing.T) {
	var sets []int
	for set := -2; set <= 66; set++ {
		sets = append(sets, set)
	}
	sets = append(sets, math.MinInt, math.MaxInt, math.MinInt+3, 1<<40|6)
	for _, oldSet := range sets {
		for _, nextSet := range sets {
			for oldPrimary := -1; oldPrimary <= 7; oldPrimary++ {
				for nextPrimary := -1; nextPrimary <= 7; nextPrimary++ {
					old, next := rec(3, oldPrimary, oldSet), rec(4, nextPrimary, nextSet)
					if got, want := keystone.Follows(old, next), shouldFollow(old, next); got != want {
						t.Fatalf("P5: Follows(%v, %v) = %t, want %t", old, next, got, want)
					}
				}
			}
		}
	}
}

// TestFollowsEpochs: the epoch is greater by one, from 0 to MaxNumber (P5).
func TestFollowsEpochs(t *testing.T) {
	const most = 1000000000000
	epochs := []int{math.MinInt, math.MinInt + 1, -most, -2, -1, 0, 1, 2, 3, 255, 256, most - 2, most - 1, most, most + 1, most + 2, math.MaxInt - 1, math.MaxInt}
	for _, a := range epochs {
		for _, b := range epochs {
			// a+1 does not wrap round where it counts: a is below most there
			want := a >= 0 && a < most && b == a+1
			for _, next := range []api.Record{rec(b, 2, 6), rec(b, 2, 7)} {
				if got := keystone.Follows(rec(a, 2, 6), next); got != want {
					t.Errorf("P5: Follows(%v, %v) = %t, want %t", rec(a, 2, 6), next, got, want)
				}
			}
		}
	}
}

// TestFollowsByHand: what the document tells, and its edges, written out (P5).
func TestFollowsByHand(t *testing.T) {
	for _, c := range []struct {
		old, next api.Record
		want      bool
		why       string
	}{
		{rec(0, 0, 7), rec(1, 2, 6), true, "the document's example"},
		{rec(1, 2, 6), rec(2, 3, 4), true, "another primary, of the set"},
		{rec(1, 2, 6), rec(2, 2, 4), false, "the primary is not in its set"},
		{rec(1, 2, 6), rec(2, 2, 7), true, "one node more, the same primary"},
		{rec(1, 2, 6), rec(2, 3, 7), false, "one node more, another primary"},
		{rec(1, 2, 6), rec(2, 1, 7), false, "one node more, and that is primary"},
		{rec(1, 2, 6), rec(2, 2, 3), false, "one node more, one less"},
		{rec(1, 2, 2), rec(2, 2, 7), false, "two nodes more"},
		{rec(1, 2, 2), rec(2, 2, 2), true, "the same but for the epoch"},
		{rec(1, 5, 15), rec(2, 5, 31), true, "one node more, which is the primary already"},
		{rec(0, 0, 31), rec(1, 5, 31), true, "all five nodes"},
		{rec(0, 0, 31), rec(1, 0, 31), false, "no primary"},
		{rec(0, 0, 31), rec(1, 1, 0), false, "no set"},
		{rec(0, 0, 63), rec(1, 6, 63), false, "a node too many"},
		{rec(3, 2, 6), rec(3, 2, 6), false, "the same epoch"},
		{rec(3, 2, 6), rec(2, 2, 6), false, "the epoch before"},
		{rec(3, 2, 6), rec(5, 2, 6), false, "an epoch is left out"},
		{api.Record{}, api.Record{}, false, "nothing"},
	} {
		if got := keystone.Follows(c.old, c.next); got != c.want {
			t.Errorf("P5: Follows(%v, %v) = %t: %s", c.old, c.next, got, c.why)
		}
	}
}
