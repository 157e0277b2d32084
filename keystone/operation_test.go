package keystone_test

import (
	"math"
	"testing"

	"keystone/api"
)

// TestWriteAndRead: of all others of the set Wrote must come, with this epoch and Seq (P8, P13).
func TestWriteAndRead(t *testing.T) {
	n := promoted(t, 2, 5, 3, 22) // nodes 1, 2 and 4
	first, second := to(write(2, 1, 1, 2, 77), 1, 4), to(write(2, 1, 2, 2, 77), 1, 4)
	want(t, n, put(2, 77), 1, first...)
	for _, m := range []api.Msg{
		wrote(0, 1, 1), wrote(3, 1, 1), wrote(2, 1, 1), wrote(1, 1, 0), wrote(1, 1, 2), wrote(1, 0, 1), wrote(1, 2, 1), copied(1, 1, 1), copied(4, 1, 1),
		wrote(4, 1, 1), wrote(4, 1, 1), wrote(4, 1, 1),
	} {
		wantSent(t, n, receive(m))
		wantDone(t, n)
		wantError(t, n, api.ErrBusy, put(0, 1), read(0))
	}
	wantSent(t, n, receive(wrote(1, 1, 1)))
	want(t, n, read(2), 2, second...)
	wantSent(t, n, receive(wrote(1, 1, 1)))
	wantSent(t, n, receive(wrote(4, 1, 1)))
	wantSent(t, n, receive(wrote(1, 1, 2)))
	wantError(t, n, api.ErrBusy, put(0, 1), read(0))
	wantSent(t, n, receive(wrote(4, 1, 2)))
	wantDone(t, n, api.Result{Op: 1, Block: 2, Value: 77, Epoch: 1, Seq: 1}, api.Result{Op: 2, Block: 2, Value: 77, Epoch: 1, Seq: 2})
	wantSent(t, n, receive(wrote(4, 1, 2)))
	wantSent(t, n, receive(wrote(1, 1, 2)))
	wantDone(t, n)
}

// TestOperationOfASetPastTheNodes: a node of the record's set that the cell has not never answers, so the operation is not done; packets go to nodes that are there (P13, P14).
func TestOperationOfASetPastTheNodes(t *testing.T) {
	for _, c := range []struct {
		sets []int
		to   []int
	}{
		{[]int{2, 18}, nil},
		{[]int{2, 10}, nil},
		{[]int{2, 18, 26}, nil},
		{[]int{3, 19}, []int{0}},
		{[]int{7, 15, 31}, []int{0, 2}},
		{[]int{6, 22, 18}, nil}, // its others of the cell are out again
	} {
		for _, begin := range []call{put(0, 9), read(0)} {
			n := newNode(t, 1, 3, 1)
			for epoch, set := range c.sets {
				wantAnswer(t, n, decided(0, epoch, 2, set), nothing)
			}
			epoch, value := len(c.sets), begin.b
			want(t, n, begin, 1, to(write(1, epoch, 1, 0, value), c.to...)...)
			for from := range 5 {
				wantDone(t, n)
				wantError(t, n, api.ErrBusy, put(0, 10), read(0))
				wantSent(t, n, receive(wrote(from, epoch, 1)))
			}
			wantDone(t, n)
			wantError(t, n, api.ErrBusy, put(0, 10), read(0))
			wantSent(t, n, retry(), to(prepare(1, epoch, 0), 0, 2)...)
			// with a set of nodes that are there it goes on
			wantAnswer(t, n, decided(0, epoch, 2, 2), nothing)
			wantDone(t, n)
			want(t, n, read(0), 2)
			wantDone(t, n, api.Result{Op: 2, Value: value, Epoch: epoch + 1, Seq: 1})
		}
	}
}

// TestOperateAlone: without others in the set it is done at once (P13).
func TestOperateAlone(t *testing.T) {
	n := promoted(t, 1, 3, 4, 2)
	values := []int{math.MinInt, math.MaxInt, -1, 5}
	var results []api.Result
	for block, value := range values {
		want(t, n, put(block, value), 2*block+1)
		want(t, n, read(block), 2*block+2)
		results = append(results,
			api.Result{Op: 2*block + 1, Block: block, Value: value, Epoch: 1, Seq: 2*block + 1},
			api.Result{Op: 2*block + 2, Block: block, Value: value, Epoch: 1, Seq: 2*block + 2})
	}
	wantDone(t, n, results...)
	want(t, n, put(1, 6), 9)
	for block, value := range []int{math.MinInt, 6, -1, 5} {
		want(t, n, read(block), 10+block)
		wantRead(t, n.Done(), value)
	}
}

// wantRead: the last of these results has this value.
func wantRead(t *testing.T, l []api.Result, value int) {
	t.Helper()
	if len(l) == 0 || l[len(l)-1].Value != value {
		t.Fatalf("P13: the results %v, want %d read", l, value)
	}
}

// TestOperateWrong: the errors, the first one named first; with none of them anything is changed (P1, P13).
func TestOperateWrong(t *testing.T) {
	n := newNode(t, 1, 3, 2)
	wrong := []call{put(2, 1), read(2), put(3, 1), read(3)}
	for _, block := range odd {
		wrong = append(wrong, put(block, 1), read(block))
	}
	right := []call{put(0, 1), read(0), put(1, 1), read(1)}
	wantError(t, n, api.ErrPrimary, append(wrong, right...)...)
	wantAnswer(t, n, decided(0, 0, 3, 6), nothing)
	wantError(t, n, api.ErrPrimary, append(wrong, right...)...)
	n = written(t)
	wantError(t, n, api.ErrArg, wrong...)
	wantSent(t, n, promote(6), to(prepare(1, 1, 1), 0, 2)...)
	wantError(t, n, api.ErrArg, wrong...)
	wantError(t, n, api.ErrBusy, right...)
	wantSent(t, n, receive(promise(0, 1, 1, 0, 0, 0)), to(accept(1, 1, 1, 2, 6), 0, 2)...)
	wantSent(t, n, receive(accepted(0, 1, 1)), to(decided(1, 1, 2, 6), 0, 2)...)
	// numbers go on from the last operation that began
	want(t, n, read(0), 3, to(write(1, 2, 1, 0, 3), 2)...)
	wantError(t, n, api.ErrArg, wrong...)
	wantError(t, n, api.ErrBusy, right...)
	wantSent(t, n, receive(wrote(2, 2, 1)))
	wantDone(t, n, api.Result{Op: 3, Value: 3, Epoch: 2, Seq: 1})
	want(t, n, read(1), 4, to(write(1, 2, 2, 1, -4), 2)...)
}

// TestOperationEnds: with the node's acting it ends without a result; its number is not given again (P8, P13).
func TestOperationEnds(t *testing.T) {
	for _, m := range []api.Msg{decided(0, 1, 2, 6), decided(0, 1, 3, 6), write(2, 2, 0, 0, 1), copyOf(2, 2, 3, 1, 1)} {
		n := written(t)
		want(t, n, put(0, 9), 3, to(write(1, 1, 3, 0, 9), 2)...)
		n.Receive(bytesOf(t, m))
		wantSent(t, n, receive(wrote(2, 1, 3)))
		wantDone(t, n)
		for range 3 {
			n.Receive(bytesOf(t, decided(0, len(n.Records())-1, 2, 2)))
		}
		want(t, n, read(0), 4)
	}
	// its own change ends it too, though it acts again; what it wrote stays written
	n := written(t)
	want(t, n, put(0, 9), 3, to(write(1, 1, 3, 0, 9), 2)...)
	wantSent(t, n, promote(2), to(prepare(1, 1, 1), 0, 2)...)
	wantSent(t, n, receive(promise(0, 1, 1, 0, 0, 0)), to(accept(1, 1, 1, 2, 2), 0, 2)...)
	wantSent(t, n, receive(accepted(0, 1, 1)), to(decided(1, 1, 2, 2), 0, 2)...)
	wantSent(t, n, receive(wrote(2, 1, 3)))
	wantDone(t, n)
	want(t, n, read(0), 4)
	wantDone(t, n, api.Result{Op: 4, Value: 9, Epoch: 2, Seq: 1})
}

// TestOperationWithChange: a change may begin meanwhile; the operation goes on beside it, and ends with a result (P11, P13).
func TestOperationWithChange(t *testing.T) {
	n := written(t)
	want(t, n, put(0, 9), 3, to(write(1, 1, 3, 0, 9), 2)...)
	wantSent(t, n, promote(6), to(prepare(1, 1, 1), 0, 2)...)
	wantSent(t, n, receive(promise(2, 1, 1, 0, 0, 0)), to(accept(1, 1, 1, 2, 6), 0, 2)...)
	wantSent(t, n, receive(wrote(2, 1, 3)))
	wantSent(t, n, receive(accepted(2, 1, 1)), to(decided(1, 1, 2, 6), 0, 2)...)
	wantDone(t, n, api.Result{Op: 3, Value: 9, Epoch: 1, Seq: 3})
}

// TestWrittenStays: what a primary writes is in its blocks ahead of any answer, behind a restart too; numbers begin at 1 again (P6, P13).
func TestWrittenStays(t *testing.T) {
	d, _ := api.NewDisk()
	n := nodeOn(t, 1, 3, 2, d)
	wantAnswer(t, n, decided(0, 0, 2, 6), nothing)
	want(t, n, put(1, 9), 1, to(write(1, 1, 1, 1, 9), 2)...)
	n = nodeOn(t, 1, 3, 2, d)
	wantSent(t, n, receive(wrote(2, 1, 1)))
	wantDone(t, n)
	wantAnswer(t, n, write(2, 1, 0, 0, 4), nothing) // LAST is 1
	wantAnswer(t, n, decided(0, 1, 2, 2), nothing)
	want(t, n, read(1), 1)
	want(t, n, read(0), 2)
	wantDone(t, n, api.Result{Op: 1, Block: 1, Value: 9, Epoch: 2, Seq: 1}, api.Result{Op: 2, Epoch: 2, Seq: 2})
}

// TestReadsWhatCame: a primary reads what others wrote to it before (P8, P13).
func TestReadsWhatCame(t *testing.T) {
	n := newNode(t, 1, 3, 3)
	wantAnswer(t, n, copyOf(0, 0, 1, 5, 6, 7), copied(1, 0, 1))
	wantAnswer(t, n, write(0, 0, 2, 1, -6), wrote(1, 0, 2))
	wantAnswer(t, n, write(0, 0, 2, 1, 8), wrote(1, 0, 2))
	wantAnswer(t, n, decided(0, 0, 2, 2), nothing)
	for block, value := range []int{5, -6, 7} {
		want(t, n, read(block), block+1)
		wantRead(t, n.Done(), value)
	}
}
