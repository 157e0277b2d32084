package keystone_test

import (
	"testing"

	"keystone/api"
)

// TestRetryAsksForNews: without a change it is a Prepare with ballot 0; with its answers the node comes to know the others' records (P14).
func TestRetryAsksForNews(t *testing.T) {
	n := newNode(t, 1, 4, 1)
	for range 2 {
		wantSent(t, n, retry(), to(prepare(1, 0, 0), 0, 2, 3)...)
	}
	// nothing was promised, and no promise is waited for
	wantSent(t, n, receive(promise(0, 0, 0, 3, 1, 1)))
	wantSent(t, n, receive(promise(2, 0, 0, 3, 1, 1)))
	wantSent(t, n, receive(promise(3, 0, 0, 3, 1, 1)))
	wantSent(t, n, receive(refused(2, 0, 0, 77)))
	wantAnswer(t, n, prepare(0, 0, 0), promise(1, 0, 0, 0, 0, 0))
	other := newNode(t, 2, 4, 1)
	wantAnswer(t, other, decided(0, 0, 1, 15), nothing)
	wantAnswer(t, other, decided(0, 1, 1, 7), nothing)
	for epoch := range 2 {
		for _, p := range n.Retry() {
			if p.To == 2 {
				for _, q := range other.Receive(p.Data) {
					n.Receive(q.Data)
				}
			}
		}
		wantNode(t, n, false, []api.Record{rec(0, 0, 15), rec(1, 1, 15), rec(2, 1, 7)}[:epoch+2]...)
	}
	wantSent(t, n, retry(), to(prepare(1, 2, 0), 0, 2, 3)...)
}

// TestRetryChange: a greater ballot than the one promised and all that Refused told, whichever phase it was in (P11, P14).
func TestRetryChange(t *testing.T) {
	others := []int{0, 2, 3, 4}
	n := newNode(t, 1, 5, 1)
	wantSent(t, n, promote(31), to(prepare(1, 0, 1), others...)...)
	wantSent(t, n, receive(promise(0, 0, 1, 0, 0, 0)))
	wantSent(t, n, retry(), to(prepare(1, 0, 6), others...)...)
	// the promise of ballot 1 is none of ballot 6
	wantSent(t, n, receive(promise(2, 0, 6, 0, 0, 0)))
	wantSent(t, n, receive(promise(3, 0, 1, 0, 0, 0)))
	wantSent(t, n, receive(promise(0, 0, 6, 0, 0, 0)), to(accept(1, 0, 6, 2, 31), others...)...)
	wantSent(t, n, receive(accepted(0, 0, 6)))
	wantAnswer(t, n, prepare(4, 0, 9), promise(1, 0, 9, 6, 2, 31))
	wantSent(t, n, retry(), to(prepare(1, 0, 11), others...)...)
	wantSent(t, n, receive(accepted(2, 0, 6)))
	wantSent(t, n, receive(accepted(3, 0, 6)))
	wantSent(t, n, receive(promise(2, 0, 11, 0, 0, 0)))
	wantSent(t, n, receive(promise(3, 0, 11, 0, 0, 0)), to(accept(1, 0, 11, 2, 31), others...)...)
	// of the Accepted of ballot 6 none counts
	wantSent(t, n, receive(accepted(2, 0, 11)))
	wantSent(t, n, receive(accepted(3, 0, 11)), to(decided(1, 0, 2, 31), others...)...)
	wantSent(t, n, retry(), to(prepare(1, 1, 0), others...)...)
}

// TestRetryRefused: what Refused told is remembered in this change, if it has the change's epoch and ballot (P8, P14).
func TestRetryRefused(t *testing.T) {
	others := []int{0, 2, 3, 4}
	n := newNode(t, 1, 5, 1)
	wantSent(t, n, promote(2), to(prepare(1, 0, 1), others...)...)
	for _, m := range []api.Msg{
		refused(0, 0, 1, 8), refused(2, 0, 1, 13), refused(0, 0, 1, 12), refused(3, 0, 1, 0), refused(1, 0, 1, 55),
		refused(0, 0, 0, 66), refused(0, 0, 2, 77), refused(0, 1, 1, 88),
	} {
		wantSent(t, n, receive(m))
	}
	wantSent(t, n, receive(promise(0, 0, 1, 0, 0, 0))) // who refused may promise
	wantSent(t, n, retry(), to(prepare(1, 0, 16), others...)...)
	wantSent(t, n, receive(refused(0, 0, 1, 99)))
	wantSent(t, n, receive(refused(0, 0, 16, 3)))
	wantSent(t, n, retry(), to(prepare(1, 0, 21), others...)...)
	wantSent(t, n, receive(promise(0, 0, 21, 0, 0, 0)))
	wantSent(t, n, receive(promise(2, 0, 21, 0, 0, 0)), to(accept(1, 0, 21, 2, 2), others...)...)
	wantSent(t, n, receive(refused(3, 0, 21, 31)))
	wantSent(t, n, retry(), to(prepare(1, 0, 36), others...)...)
	// with the change all this is forgotten
	wantSent(t, n, receive(refused(3, 0, 36, 500)))
	wantAnswer(t, n, write(0, 1, 1, 0, 5), wrote(1, 1, 1))
	wantSent(t, n, receive(refused(3, 0, 36, 600)))
	wantSent(t, n, promote(2), to(prepare(1, 0, 41), others...)...)
	wantSent(t, n, retry(), to(prepare(1, 0, 46), others...)...)
}

// TestRetryTakenOver: a change begins again with the primary and set that it has by then (P14).
func TestRetryTakenOver(t *testing.T) {
	n := newNode(t, 1, 3, 1)
	wantSent(t, n, promote(2), to(prepare(1, 0, 1), 0, 2)...)
	wantAnswer(t, n, prepare(2, 0, 7), promise(1, 0, 7, 0, 0, 0)) // so it does not accept itself
	wantSent(t, n, receive(promise(0, 0, 1, 4, 3, 6)), to(accept(1, 0, 1, 3, 6), 0, 2)...)
	wantSent(t, n, retry(), to(prepare(1, 0, 11), 0, 2)...)
	wantSent(t, n, receive(promise(2, 0, 11, 0, 0, 0)), to(accept(1, 0, 11, 3, 6), 0, 2)...)
	// of five nodes a promise alone is too few: what came with it is not taken over yet
	n = newNode(t, 1, 5, 1)
	others := []int{0, 2, 3, 4}
	wantSent(t, n, promote(2), to(prepare(1, 0, 1), others...)...)
	wantSent(t, n, receive(promise(0, 0, 1, 4, 3, 6)))
	wantSent(t, n, retry(), to(prepare(1, 0, 6), others...)...)
	wantSent(t, n, receive(promise(2, 0, 6, 0, 0, 0)))
	wantSent(t, n, receive(promise(3, 0, 6, 0, 0, 0)), to(accept(1, 0, 6, 2, 2), others...)...)
}

// TestRetryNoBallot: it takes none, and nothing is sent; the ballot that it has goes on (P14).
func TestRetryNoBallot(t *testing.T) {
	for phase := range 2 {
		n := newNode(t, 2, 3, 1)
		wantSent(t, n, promote(4), to(prepare(2, 0, 2), 0, 1)...)
		if phase == 0 {
			wantSent(t, n, receive(refused(1, 0, 2, most)))
			wantSent(t, n, retry())
		}
		wantSent(t, n, receive(promise(0, 0, 2, 0, 0, 0)), to(accept(2, 0, 2, 3, 4), 0, 1)...)
		wantAnswer(t, n, prepare(1, 0, most-3), promise(2, 0, most-3, 2, 3, 4))
		wantSent(t, n, receive(refused(1, 0, 2, most-2)))
		wantSent(t, n, retry())
		wantError(t, n, api.ErrArg, promote(4))
		wantSent(t, n, receive(accepted(1, 0, 2)), to(decided(2, 0, 3, 4), 0, 1)...)
	}
	// the last ballot that there is
	n := newNode(t, 2, 3, 1)
	wantSent(t, n, promote(4), to(prepare(2, 0, 2), 0, 1)...)
	wantSent(t, n, receive(refused(1, 0, 2, most-4)))
	wantSent(t, n, retry(), to(prepare(2, 0, most-3), 0, 1)...)
	wantSent(t, n, retry())
}

// TestRetryAdmit: Copy again while Copied is waited for, then a ballot as of any change (P14).
func TestRetryAdmit(t *testing.T) {
	n := written(t)
	wantSent(t, n, admit(0), to(copyOf(1, 1, 3, 3, -4), 0)...)
	for range 2 {
		wantSent(t, n, retry(), to(copyOf(1, 1, 3, 3, -4), 0)...)
	}
	wantSent(t, n, receive(refused(0, 1, 0, 77))) // the ballot 0 is none of the change's
	wantSent(t, n, receive(copied(0, 1, 3)), to(prepare(1, 1, 1), 0, 2)...)
	wantSent(t, n, retry(), to(prepare(1, 1, 6), 0, 2)...)
	wantSent(t, n, receive(promise(0, 1, 6, 0, 0, 0)), to(accept(1, 1, 6, 2, 7), 0, 2)...)
	wantSent(t, n, retry(), to(prepare(1, 1, 11), 0, 2)...)
}

// TestRetryOperation: Write again, to all from which Wrote has not come, behind what is sent of a change (P14).
func TestRetryOperation(t *testing.T) {
	n := promoted(t, 1, 5, 2, 15)
	others := []int{0, 2, 3, 4}
	w := write(1, 1, 1, 1, 8)
	want(t, n, put(1, 8), 1, to(w, 0, 2, 3)...)
	wantSent(t, n, retry(), append(to(prepare(1, 1, 0), others...), to(w, 0, 2, 3)...)...)
	wantSent(t, n, receive(wrote(2, 1, 1)))
	wantSent(t, n, receive(wrote(4, 1, 1)))
	wantSent(t, n, retry(), append(to(prepare(1, 1, 0), others...), to(w, 0, 3)...)...)
	wantSent(t, n, promote(15), to(prepare(1, 1, 1), others...)...)
	wantSent(t, n, retry(), append(to(prepare(1, 1, 6), others...), to(w, 0, 3)...)...)
	wantAnswer(t, n, prepare(0, 1, most), promise(1, 1, most, 0, 0, 0))
	wantSent(t, n, retry(), to(w, 0, 3)...) // without a ballot too
	wantSent(t, n, receive(wrote(0, 1, 1)))
	wantSent(t, n, retry(), to(w, 3)...)
	wantSent(t, n, receive(wrote(3, 1, 1)))
	wantSent(t, n, retry())
	wantDone(t, n, api.Result{Op: 1, Block: 1, Value: 8, Epoch: 1, Seq: 1})
	// of a Read what was read
	n = written(t)
	want(t, n, read(1), 3, to(write(1, 1, 3, 1, -4), 2)...)
	wantSent(t, n, retry(), append(to(prepare(1, 1, 0), 0, 2), to(write(1, 1, 3, 1, -4), 2)...)...)
}
