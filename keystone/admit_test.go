package keystone_test

import (
	"testing"

	"keystone/api"
	"keystone/keystone"
)

// written makes one of three nodes, number 1, the primary of 1 and 2, with its blocks written: 3 and -4.
func written(t *testing.T) *keystone.Node {
	t.Helper()
	n := promoted(t, 1, 3, 2, 6)
	want(t, n, put(0, 3), 1, to(write(1, 1, 1, 0, 3), 2)...)
	wantSent(t, n, receive(wrote(2, 1, 1)))
	want(t, n, put(1, -4), 2, to(write(1, 1, 2, 1, -4), 2)...)
	wantSent(t, n, receive(wrote(2, 1, 2)))
	wantDone(t, n, api.Result{Op: 1, Value: 3, Epoch: 1, Seq: 1}, api.Result{Op: 2, Block: 1, Value: -4, Epoch: 1, Seq: 2})
	return n
}

// TestAdmit: Copy, and with Copied the votes for the set with this node (P12).
func TestAdmit(t *testing.T) {
	n := written(t)
	wantSent(t, n, admit(0), to(copyOf(1, 1, 3, 3, -4), 0)...)
	wantNode(t, n, true, rec(0, 0, 7), rec(1, 2, 6))
	// of all these none is waited for
	for _, m := range []api.Msg{
		copied(2, 1, 3), copied(0, 1, 2), copied(0, 1, 4), copied(0, 0, 3), copied(0, 2, 3), copied(1, 1, 3), copied(3, 1, 3),
		wrote(0, 1, 3), promise(0, 1, 0, 0, 0, 0), promise(0, 1, 1, 0, 0, 0), accepted(0, 1, 0), accepted(0, 1, 1), refused(0, 1, 0, 77), refused(0, 1, 1, 77),
	} {
		wantSent(t, n, receive(m))
	}
	wantSent(t, n, receive(copied(0, 1, 3)), to(prepare(1, 1, 1), 0, 2)...)
	wantSent(t, n, receive(copied(0, 1, 3)))
	wantSent(t, n, receive(promise(2, 1, 1, 0, 0, 0)), to(accept(1, 1, 1, 2, 7), 0, 2)...)
	wantSent(t, n, receive(copied(0, 1, 3)))
	wantSent(t, n, receive(accepted(2, 1, 1)), to(decided(1, 1, 2, 7), 0, 2)...)
	wantNode(t, n, true, rec(0, 0, 7), rec(1, 2, 6), rec(2, 2, 7))
	wantDone(t, n)
	// in the new epoch sequence numbers begin anew, and operations are counted on
	want(t, n, read(1), 3, to(write(1, 2, 1, 1, -4), 0, 2)...)
}

// TestAdmitOfFive: each node but those of the set, and the one alone goes a Copy (P12).
func TestAdmitOfFive(t *testing.T) {
	for node := range 5 {
		n := promoted(t, 2, 5, 4, 20)
		if node == 2 || node == 4 {
			wantError(t, n, api.ErrArg, admit(node))
			continue
		}
		wantSent(t, n, admit(node), to(copyOf(2, 1, 1, 0, 0, 0, 0), node)...)
		wantSent(t, n, receive(copied(node, 1, 1)), to(prepare(2, 1, 2), 0, 1, 3, 4)...)
		wantSent(t, n, receive(promise(1, 1, 2, 0, 0, 0)))
		wantSent(t, n, receive(promise(4, 1, 2, 0, 0, 0)), to(accept(2, 1, 2, 3, 20|1<<node), 0, 1, 3, 4)...)
	}
}

// TestAdmitWrong: the errors, the first one named first; with none of them anything is changed (P1, P12).
func TestAdmitWrong(t *testing.T) {
	n := newNode(t, 1, 3, 2)
	wrong := []call{admit(3), admit(4), admit(1), admit(2)}
	for _, node := range odd {
		wrong = append(wrong, admit(node))
	}
	wantError(t, n, api.ErrPrimary, append(wrong, admit(0))...)
	wantSent(t, n, promote(6), to(prepare(1, 0, 1), 0, 2)...)
	wantError(t, n, api.ErrPrimary, append(wrong, admit(0))...)
	n = written(t)
	wantError(t, n, api.ErrArg, wrong...)
	want(t, n, read(0), 3, to(write(1, 1, 3, 0, 3), 2)...)
	wantError(t, n, api.ErrArg, wrong...)
	wantError(t, n, api.ErrBusy, admit(0))
	wantSent(t, n, receive(wrote(2, 1, 3)))
	wantSent(t, n, promote(6), to(prepare(1, 1, 1), 0, 2)...)
	wantError(t, n, api.ErrArg, wrong...)
	wantError(t, n, api.ErrBusy, admit(0))
	// the change is as it was; LAST too
	wantSent(t, n, receive(promise(0, 1, 1, 0, 0, 0)), to(accept(1, 1, 1, 2, 6), 0, 2)...)
	wantSent(t, n, receive(accepted(0, 1, 1)), to(decided(1, 1, 2, 6), 0, 2)...)
	wantSent(t, n, admit(0), to(copyOf(1, 2, 1, 3, -4), 0)...)
	wantError(t, n, api.ErrArg, wrong...)
	wantError(t, n, api.ErrBusy, admit(0), put(0, 1), read(0), promote(6))
	wantSent(t, n, receive(copied(0, 2, 1)), to(prepare(1, 2, 1), 0, 2)...)
	wantError(t, n, api.ErrBusy, admit(0), put(0, 1), read(0), promote(6))
}

// TestAdmitEnds: with the node's acting the copying ends too (P8, P12).
func TestAdmitEnds(t *testing.T) {
	for _, m := range []api.Msg{decided(0, 1, 2, 6), decided(0, 1, 3, 6), write(2, 2, 0, 0, 1), copyOf(2, 5, 3, 1, 1)} {
		n := written(t)
		wantSent(t, n, admit(0), to(copyOf(1, 1, 3, 3, -4), 0)...)
		n.Receive(bytesOf(t, m))
		wantSent(t, n, receive(copied(0, 1, 3)))
		wantSent(t, n, receive(copied(0, 2, 3)))
		if _, e := n.Promote(6); e != api.OK {
			t.Errorf("P11: behind %+v, Promote: %d", m, e)
		}
	}
}

// TestAdmitKeeps: LAST is kept ahead of the Copy (P6, P12).
func TestAdmitKeeps(t *testing.T) {
	d, _ := api.NewDisk()
	n := nodeOn(t, 1, 3, 2, d)
	wantAnswer(t, n, decided(0, 0, 2, 6), nothing)
	wantSent(t, n, admit(0), to(copyOf(1, 1, 1, 0, 0), 0)...)
	n = nodeOn(t, 1, 3, 2, d)
	wantSent(t, n, receive(copied(0, 1, 1)))
	wantAnswer(t, n, copyOf(2, 1, 0, 7, 7), nothing)
	wantAnswer(t, n, copyOf(2, 1, 1, 7, 7), copied(1, 1, 1))
	wantAnswer(t, n, decided(0, 1, 2, 2), nothing)
	want(t, n, read(0), 1)
	wantDone(t, n, api.Result{Op: 1, Epoch: 2, Seq: 1})
}

// TestAdmitNoBallot: the change takes none, and nothing is sent (P12, P14).
func TestAdmitNoBallot(t *testing.T) {
	n := written(t)
	wantSent(t, n, admit(0), to(copyOf(1, 1, 3, 3, -4), 0)...)
	wantAnswer(t, n, prepare(2, 1, most), promise(1, 1, most, 0, 0, 0))
	wantSent(t, n, receive(copied(0, 1, 3)))
	wantSent(t, n, receive(copied(0, 1, 3)))
	// no ballot is not the ballot 0
	wantSent(t, n, receive(promise(0, 1, 0, 0, 0, 0)))
	wantSent(t, n, receive(promise(2, 1, 0, 0, 0, 0)))
	wantSent(t, n, receive(accepted(0, 1, 0)))
	wantSent(t, n, receive(accepted(2, 1, 0)))
	wantSent(t, n, retry())
	wantError(t, n, api.ErrBusy, admit(0), put(0, 1))
	wantAnswer(t, n, decided(0, 1, 2, 6), nothing)
	wantSent(t, n, admit(0), to(copyOf(1, 2, 1, 3, -4), 0)...)
	wantSent(t, n, receive(copied(0, 2, 1)), to(prepare(1, 2, 1), 0, 2)...)
}
