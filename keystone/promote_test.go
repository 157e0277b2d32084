package keystone_test

import (
	"slices"
	"testing"

	"keystone/api"
	"keystone/keystone"
)

// TestPromoteExample: the document's example (P11).
func TestPromoteExample(t *testing.T) {
	n := newNode(t, 1, 3, 2)
	wantSent(t, n, promote(6), to(prepare(1, 0, 1), 0, 2)...)
	wantNode(t, n, false, rec(0, 0, 7))
	wantSent(t, n, receive(promise(0, 0, 1, 0, 0, 0)), to(accept(1, 0, 1, 2, 6), 0, 2)...)
	wantNode(t, n, false, rec(0, 0, 7))
	wantSent(t, n, receive(accepted(2, 0, 1)), to(decided(1, 0, 2, 6), 0, 2)...)
	wantNode(t, n, true, rec(0, 0, 7), rec(1, 2, 6))
	wantError(t, n, api.ErrArg, promote(4), promote(7))
	// behind the change nothing is waited for
	wantSent(t, n, receive(accepted(0, 0, 1)))
	wantSent(t, n, receive(promise(2, 0, 1, 0, 0, 0)))
	wantSent(t, n, receive(accepted(0, 1, 1)))
	wantNode(t, n, true, rec(0, 0, 7), rec(1, 2, 6))
}

// promoted makes a node the primary of a set, by its own change.
func promoted(t *testing.T, id, nodes, blocks, set int) *keystone.Node {
	t.Helper()
	n := newNode(t, id, nodes, blocks)
	if _, e := n.Promote(set); e != api.OK {
		t.Fatalf("P11: Promote(%d): %d", set, e)
	}
	ballot := max(id, 5*(1-id)) // the least above 0
	for _, answer := range []func(from int) api.Msg{
		func(from int) api.Msg { return promise(from, 0, ballot, 0, 0, 0) },
		func(from int) api.Msg { return accepted(from, 0, ballot) },
	} {
		for from := range nodes {
			n.Receive(bytesOf(t, answer(from)))
		}
	}
	wantNode(t, n, true, rec(0, 0, 1<<nodes-1), rec(1, id+1, set))
	return n
}

// TestPromoteMost: more than half of all nodes promise, then accept, each counted once, with the change's epoch and ballot (P8, P11).
func TestPromoteMost(t *testing.T) {
	for nodes, need := range map[int]int{2: 1, 3: 1, 4: 2, 5: 2} {
		id := nodes - 1
		all := 1<<nodes - 1
		var others []int
		for node := range id {
			others = append(others, node)
		}
		n := newNode(t, id, nodes, 1)
		wantSent(t, n, promote(all), to(prepare(id, 0, id), others...)...)
		wrong := func() {
			t.Helper()
			for from := range 5 {
				if from == id || from >= nodes {
					wantSent(t, n, receive(promise(from, 0, id, 0, 0, 0)))
					wantSent(t, n, receive(accepted(from, 0, id)))
				}
			}
			for _, from := range others {
				wantSent(t, n, receive(promise(from, 0, id+1, 0, 0, 0)))
				wantSent(t, n, receive(promise(from, 0, 0, 0, 0, 0)))
				wantSent(t, n, receive(promise(from, 1, id, 0, 0, 0)))
				wantSent(t, n, receive(accepted(from, 0, id+1)))
				wantSent(t, n, receive(accepted(from, 0, 0)))
				wantSent(t, n, receive(accepted(from, 1, id)))
			}
		}
		for from := range need - 1 {
			for range 3 {
				wrong()
				wantSent(t, n, receive(promise(from, 0, id, 0, 0, 0)))
				wantSent(t, n, receive(accepted(from, 0, id))) // too early
			}
		}
		wrong()
		wantSent(t, n, receive(accepted(need-1, 0, id)))
		wantSent(t, n, receive(promise(need-1, 0, id, 0, 0, 0)), to(accept(id, 0, id, nodes, all), others...)...)
		for from := range others {
			wantSent(t, n, receive(promise(from, 0, id, 9, 1, 1))) // too late
		}
		for from := range need - 1 {
			for range 3 {
				wrong()
				wantSent(t, n, receive(accepted(from, 0, id)))
			}
		}
		wrong()
		wantNode(t, n, false, rec(0, 0, all))
		wantSent(t, n, receive(accepted(need-1, 0, id)), to(decided(id, 0, nodes, all), others...)...)
		wantNode(t, n, true, rec(0, 0, all), rec(1, nodes, all))
	}
}

// TestPromoteBallots: the least ballot above 0 and above the one promised for this epoch, that has the node's number as its remainder (P11).
func TestPromoteBallots(t *testing.T) {
	for _, c := range []struct{ id, promised, want int }{
		{0, 0, 5}, {1, 0, 1}, {2, 0, 2}, {3, 0, 3}, {4, 0, 4},
		{0, 4, 5}, {0, 5, 10}, {0, 6, 10}, {1, 1, 6}, {1, 5, 6}, {1, 6, 11}, {2, 1, 2}, {2, 2, 7}, {2, 6, 7}, {4, 3, 4}, {4, 4, 9}, {4, 13, 14}, {4, 14, 19},
		{0, most - 1, most}, {0, most - 5, most}, {1, most - 5, most - 4}, {4, most - 2, most - 1}, {3, most - 3, most - 2},
	} {
		n := newNode(t, c.id, 5, 1)
		other := (c.id + 1) % 5
		wantAnswer(t, n, prepare(other, 1, 99), promise(c.id, 1, 99, 0, 0, 0)) // of another epoch
		wantAnswer(t, n, prepare(other, 0, c.promised), promise(c.id, 0, c.promised, 0, 0, 0))
		others := slices.DeleteFunc([]int{0, 1, 2, 3, 4}, func(node int) bool { return node == c.id })
		wantSent(t, n, promote(31), to(prepare(c.id, 0, c.want), others...)...)
		// it is promised from now on
		wantAnswer(t, n, prepare(other, 0, c.want-1), refused(c.id, 0, c.want-1, c.want))
	}
}

// TestPromoteNoBallot: then it is ErrArg, ahead of ErrBusy, and nothing is changed (P1, P11).
func TestPromoteNoBallot(t *testing.T) {
	for _, c := range []struct{ id, promised int }{{0, most}, {1, most - 4}, {1, most - 3}, {1, most}, {2, most - 3}, {4, most - 1}, {4, most}} {
		n := newNode(t, c.id, 5, 1)
		other := (c.id + 1) % 5
		wantAnswer(t, n, prepare(other, 0, c.promised), promise(c.id, 0, c.promised, 0, 0, 0))
		wantError(t, n, api.ErrArg, promote(31), promote(31))
		wantAnswer(t, n, prepare(other, 0, c.promised), promise(c.id, 0, c.promised, 0, 0, 0))
		wantAnswer(t, n, decided(other, 0, other+1, 31), nothing)
		if _, e := n.Promote(31); e != api.OK {
			t.Errorf("P11: Promote in an epoch with ballots: %d", e)
		}
	}
	n := newNode(t, 4, 5, 1)
	wantAnswer(t, n, prepare(0, 0, most-5), promise(4, 0, most-5, 0, 0, 0))
	wantSent(t, n, promote(16), to(prepare(4, 0, most-1), 0, 1, 2, 3)...)
	wantError(t, n, api.ErrArg, promote(16))
	// the change goes on
	wantSent(t, n, receive(promise(0, 0, most-1, 0, 0, 0)))
	wantSent(t, n, receive(promise(1, 0, most-1, 0, 0, 0)), to(accept(4, 0, most-1, 5, 16), 0, 1, 2, 3)...)
}

// TestPromoteWrong: sets that may not be, and a change that is going on (P1, P11).
func TestPromoteWrong(t *testing.T) {
	n := newNode(t, 1, 3, 1)
	wrong := []call{promote(0), promote(1), promote(4), promote(5), promote(8), promote(10), promote(15), promote(31), promote(7 | 1<<40)}
	for _, set := range odd {
		wrong = append(wrong, promote(set))
	}
	wantError(t, n, api.ErrArg, wrong...)
	wantSent(t, n, promote(3), to(prepare(1, 0, 1), 0, 2)...)
	wantError(t, n, api.ErrArg, wrong...)
	wantError(t, n, api.ErrBusy, promote(2), promote(3), promote(6), promote(7))
	// none of them changed anything
	wantSent(t, n, receive(promise(0, 0, 1, 0, 0, 0)), to(accept(1, 0, 1, 2, 3), 0, 2)...)
	wantError(t, n, api.ErrBusy, promote(2))
	wantSent(t, n, receive(accepted(0, 0, 1)), to(decided(1, 0, 2, 3), 0, 2)...)
	wantError(t, n, api.ErrArg, promote(7), promote(6), promote(4))
	// a node that is not in the set any more
	n = newNode(t, 2, 3, 1)
	wantAnswer(t, n, decided(0, 0, 2, 3), nothing)
	wantError(t, n, api.ErrArg, promote(4), promote(3), promote(7), promote(2))
	// one that is in it, though another one is primary
	n = newNode(t, 0, 3, 1)
	wantAnswer(t, n, decided(1, 0, 2, 3), nothing)
	wantError(t, n, api.ErrArg, promote(7), promote(5), promote(2))
	wantSent(t, n, promote(3), to(prepare(0, 1, 5), 1, 2)...)
}

// TestPromoteTakesOver: what was accepted with the greatest ballot, of those that counted, takes the place of the change's own (P11).
func TestPromoteTakesOver(t *testing.T) {
	others := []int{0, 1, 3, 4}
	for _, c := range []struct {
		own      []api.Msg // what comes ahead of Promote
		ballot   int
		promises []api.Msg // but for epoch and ballot
		primary  int
		set      int
	}{
		{nil, 2, []api.Msg{promise(0, 0, 2, 0, 0, 0), promise(1, 0, 2, 0, 0, 0)}, 3, 12},
		{nil, 2, []api.Msg{promise(0, 0, 2, 0, 0, 0), promise(1, 0, 2, 1, 1, 3)}, 1, 3},
		{nil, 2, []api.Msg{promise(0, 0, 2, 7, 2, 2), promise(1, 0, 2, 8, 1, 3)}, 1, 3},
		{nil, 2, []api.Msg{promise(0, 0, 2, 8, 2, 2), promise(1, 0, 2, 7, 1, 3)}, 2, 2},
		{nil, 2, []api.Msg{promise(0, 0, 2, 0, 2, 2), promise(1, 0, 2, 0, 1, 3)}, 3, 12}, // accepted with no ballot above 0
		{nil, 2, []api.Msg{promise(0, 0, 2, 3, 2, 2), promise(0, 0, 2, 8, 1, 3), promise(4, 0, 2, 2, 5, 16)}, 2, 2},
		{nil, 2, []api.Msg{promise(0, 0, 7, 9, 2, 2), promise(1, 1, 2, 9, 1, 3), promise(2, 0, 2, 9, 1, 3), promise(4, 0, 2, 0, 0, 0), promise(3, 0, 2, 1, 4, 8)}, 4, 8},
		{[]api.Msg{accept(0, 0, 6, 1, 31)}, 7, []api.Msg{promise(0, 0, 7, 0, 0, 0), promise(1, 0, 7, 0, 0, 0)}, 1, 31},
		{[]api.Msg{accept(0, 0, 6, 1, 31)}, 7, []api.Msg{promise(0, 0, 7, 5, 2, 2), promise(1, 0, 7, 0, 0, 0)}, 1, 31},
		{[]api.Msg{accept(0, 0, 5, 1, 31)}, 7, []api.Msg{promise(0, 0, 7, 6, 2, 2), promise(1, 0, 7, 0, 0, 0)}, 2, 2},
		{[]api.Msg{accept(0, 0, 0, 1, 31)}, 2, []api.Msg{promise(0, 0, 2, 0, 2, 2), promise(1, 0, 2, 0, 0, 0)}, 3, 12},
		{[]api.Msg{accept(0, 1, 5, 1, 31)}, 2, []api.Msg{promise(0, 0, 2, 0, 0, 0), promise(1, 0, 2, 0, 0, 0)}, 3, 12}, // of another epoch
		{nil, 2, []api.Msg{promise(0, 0, 2, most, 2, 2), promise(1, 0, 2, most-1, 1, 3)}, 2, 2},
	} {
		n := newNode(t, 2, 5, 1)
		for _, m := range c.own {
			n.Receive(bytesOf(t, m))
		}
		wantSent(t, n, promote(12), to(prepare(2, 0, c.ballot), others...)...)
		final := len(c.promises) - 1
		for _, m := range c.promises[:final] {
			wantSent(t, n, receive(m))
		}
		wantSent(t, n, receive(c.promises[final]), to(accept(2, 0, c.ballot, c.primary, c.set), others...)...)
		// it accepted that itself
		wantAnswer(t, n, prepare(4, 0, 99), promise(2, 0, 99, c.ballot, c.primary, c.set))
		wantSent(t, n, receive(accepted(0, 0, c.ballot)))
		wantSent(t, n, receive(accepted(1, 0, c.ballot)), to(decided(2, 0, c.primary, c.set), others...)...)
		wantNode(t, n, c.primary == 3, rec(0, 0, 31), rec(1, c.primary, c.set))
	}
}

// TestPromoteOutdone: a node that promised a greater ballot meanwhile does not accept its own, and is not counted (P11).
func TestPromoteOutdone(t *testing.T) {
	for _, greater := range []int{2, 5, most} {
		n := newNode(t, 1, 3, 1)
		wantSent(t, n, promote(2), to(prepare(1, 0, 1), 0, 2)...)
		wantAnswer(t, n, prepare(2, 0, greater), promise(1, 0, greater, 0, 0, 0))
		wantSent(t, n, receive(promise(0, 0, 1, 0, 0, 0)), to(accept(1, 0, 1, 2, 2), 0, 2)...)
		wantAnswer(t, n, prepare(2, 0, greater), promise(1, 0, greater, 0, 0, 0)) // nothing was accepted
		wantSent(t, n, receive(accepted(0, 0, 1)))
		wantSent(t, n, receive(accepted(0, 0, 1)))
		wantNode(t, n, false, rec(0, 0, 7))
		wantSent(t, n, receive(accepted(2, 0, 1)), to(decided(1, 0, 2, 2), 0, 2)...)
		wantNode(t, n, true, rec(0, 0, 7), rec(1, 2, 2))
	}
	// the same ballot once more is no greater one
	n := newNode(t, 1, 3, 1)
	wantSent(t, n, promote(2), to(prepare(1, 0, 1), 0, 2)...)
	wantAnswer(t, n, prepare(2, 0, 1), promise(1, 0, 1, 0, 0, 0))
	wantSent(t, n, receive(promise(0, 0, 1, 0, 0, 0)), to(accept(1, 0, 1, 2, 2), 0, 2)...)
	wantSent(t, n, receive(accepted(0, 0, 1)), to(decided(1, 0, 2, 2), 0, 2)...)
}

// TestPromoteDoesNotFollow: a record that was taken over and does not follow ends the change, and nothing else (P11).
func TestPromoteDoesNotFollow(t *testing.T) {
	for _, c := range [][2]int{{0, 0}, {0, 7}, {1, 2}, {3, 1}, {4, 15}, {2, 31}} {
		n := promoted(t, 1, 3, 1, 6)
		want(t, n, put(0, 5), 1, to(write(1, 1, 1, 0, 5), 2)...)
		wantSent(t, n, promote(6), to(prepare(1, 1, 1), 0, 2)...)
		wantSent(t, n, receive(promise(0, 1, 1, 9, c[0], c[1])), to(accept(1, 1, 1, c[0], c[1]), 0, 2)...)
		wantError(t, n, api.ErrBusy, promote(6))
		wantSent(t, n, receive(accepted(0, 1, 1)))
		wantNode(t, n, true, rec(0, 0, 7), rec(1, 2, 6))
		wantSent(t, n, receive(accepted(2, 1, 1)))
		wantNode(t, n, true, rec(0, 0, 7), rec(1, 2, 6))
		// the operation goes on
		wantSent(t, n, receive(wrote(2, 1, 1)))
		wantDone(t, n, api.Result{Op: 1, Value: 5, Epoch: 1, Seq: 1})
		// and another change may begin: with what the node accepted
		wantSent(t, n, promote(2), to(prepare(1, 1, 6), 0, 2)...)
		wantSent(t, n, receive(promise(2, 1, 6, 0, 0, 0)), to(accept(1, 1, 6, c[0], c[1]), 0, 2)...)
	}
}

// TestChangeEnds: by a record that is learned, and by a Write or a Copy of a later epoch than SEEN; not by others (P8, P11).
func TestChangeEnds(t *testing.T) {
	for _, m := range []api.Msg{decided(0, 0, 3, 6), decided(2, 0, 2, 7), write(0, 1, 0, 0, 5), copyOf(0, most, 9, 5)} {
		for phase := range 2 {
			n := newNode(t, 1, 3, 1)
			wantSent(t, n, promote(6), to(prepare(1, 0, 1), 0, 2)...)
			if phase == 1 {
				wantSent(t, n, receive(promise(0, 0, 1, 0, 0, 0)), to(accept(1, 0, 1, 2, 6), 0, 2)...)
			}
			for _, other := range []api.Msg{decided(0, 0, 3, 3), decided(0, 1, 2, 6), write(0, 1, 0, 1, 5), copyOf(0, 1, 9)} {
				wantAnswer(t, n, other, nothing)
			}
			wantAnswer(t, n, write(0, 0, 7, 0, 5), wrote(1, 0, 7)) // of this epoch
			wantError(t, n, api.ErrBusy, promote(6))
			n.Receive(bytesOf(t, m))
			wantSent(t, n, receive(promise(2, 0, 1, 0, 0, 0)))
			wantSent(t, n, receive(accepted(2, 0, 1)))
			wantSent(t, n, receive(accepted(0, 0, 1)))
			if _, e := n.Promote(6); e != api.OK {
				t.Errorf("P11: behind %+v, Promote: %d", m, e)
			}
		}
	}
}

// TestPromoteKeeps: the ballot that a node took, and what it accepted itself, are there behind a restart; the change is not (P6, P11).
func TestPromoteKeeps(t *testing.T) {
	d, _ := api.NewDisk()
	n := nodeOn(t, 1, 3, 1, d)
	wantSent(t, n, promote(6), to(prepare(1, 0, 1), 0, 2)...)
	n = nodeOn(t, 1, 3, 1, d)
	wantSent(t, n, receive(promise(0, 0, 1, 0, 0, 0)))
	wantSent(t, n, promote(6), to(prepare(1, 0, 6), 0, 2)...)
	wantSent(t, n, receive(promise(0, 0, 6, 0, 0, 0)), to(accept(1, 0, 6, 2, 6), 0, 2)...)
	n = nodeOn(t, 1, 3, 1, d)
	wantSent(t, n, receive(accepted(0, 0, 6)))
	wantNode(t, n, false, rec(0, 0, 7))
	wantSent(t, n, promote(2), to(prepare(1, 0, 11), 0, 2)...)
	wantSent(t, n, receive(promise(0, 0, 11, 0, 0, 0)), to(accept(1, 0, 11, 2, 6), 0, 2)...)
	wantSent(t, n, receive(accepted(0, 0, 11)), to(decided(1, 0, 2, 6), 0, 2)...)
	wantNode(t, n, true, rec(0, 0, 7), rec(1, 2, 6))
	// SEEN is 1 already: it does not act behind a restart, but with the next record
	n = nodeOn(t, 1, 3, 1, d)
	wantNode(t, n, false, rec(0, 0, 7), rec(1, 2, 6))
	wantSent(t, n, promote(2), to(prepare(1, 1, 1), 0, 2)...)
	wantSent(t, n, receive(promise(0, 1, 1, 0, 0, 0)), to(accept(1, 1, 1, 2, 2), 0, 2)...)
	wantSent(t, n, receive(accepted(0, 1, 1)), to(decided(1, 1, 2, 2), 0, 2)...)
	wantNode(t, n, true, rec(0, 0, 7), rec(1, 2, 6), rec(2, 2, 2))
}
