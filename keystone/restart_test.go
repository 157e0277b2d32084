package keystone_test

import (
	"math/rand"
	"slices"
	"testing"

	"keystone/api"
	"keystone/keystone"
)

// anyModel makes a model of any node of so many, with so many blocks.
func anyModel(r *rand.Rand) model {
	nodes := 2 + r.Intn(4)
	return newModel(r.Intn(nodes), nodes, 1+r.Intn(4))
}

// anyMessage makes a message near to what a model has, so that each case is met often.
func anyMessage(r *rand.Rand, m *model) api.Msg {
	near := func(n int) int { return max(0, n+r.Intn(4)-1) }
	// most blocks change in the node's epoch or just ahead of it: a node that saw far ahead would never act
	seen := max(0, m.epoch()+r.Intn(4)-2)
	x := api.Msg{Kind: 1 + r.Intn(10), From: r.Intn(5)}
	switch x.Kind {
	case 1, 4:
		x.Epoch, x.Ballot = near(m.epoch()), r.Intn(12)
	case 2, 3:
		x.Epoch, x.Ballot, x.Primary, x.Set = near(m.epoch()), r.Intn(12), r.Intn(6), r.Intn(32)
	case 5:
		x.Epoch, x.Ballot, x.Was = near(m.epoch()), r.Intn(12), r.Intn(12)
	case 6:
		last := m.records[len(m.records)-1]
		x.Epoch, x.Primary, x.Set = near(m.epoch()), r.Intn(6), last.Set|1<<r.Intn(5)
		if r.Intn(2) == 0 {
			x.Epoch, x.Primary, x.Set = last.Epoch, m.id+1, last.Set|1<<m.id
		}
	case 7:
		x.Epoch, x.Seq, x.Block, x.Value = seen, near(m.last), r.Intn(4), r.Intn(1000)-500
	case 8, 10:
		x.Epoch, x.Seq = seen, near(m.last)
	case 9:
		x.Epoch, x.Seq, x.Values = seen, near(m.last), make([]int, r.Intn(5))
	}
	return x
}

// probes are messages whose answers tell apart what a model has from whatever is near to it.
func probes(m *model) []api.Msg {
	other := (m.id + 1) % m.nodes
	var out []api.Msg
	for epoch := max(0, m.epoch()-1); epoch <= m.epoch()+3; epoch++ {
		// the first tells what was promised, if anything was, the second what was accepted
		out = append(out, prepare(other, epoch, 0), prepare(other, epoch, m.vote(epoch).promised))
	}
	for _, epoch := range []int{max(0, m.seen-1), m.seen, m.seen + 1} {
		for _, seq := range []int{max(0, m.last-1), m.last, m.last + 1} {
			out = append(out, write(other, epoch, seq, 0, 1))
		}
	}
	return append(out, decided(other, m.epoch(), m.id+1, m.records[m.epoch()].Set|1<<m.id))
}

// keeps tells whether a node that begins anew on a disk is as a model. It looks at copies: each probe may change what is kept.
func keeps(t *testing.T, h *api.Hand, m model) bool {
	t.Helper()
	for _, p := range probes(&m) {
		d, _ := h.Crash(0)
		n, x := nodeOn(t, m.id, m.nodes, m.blocks, d), m.restarted()
		if !slices.Equal(n.Records(), x.records) || n.Acting() {
			return false
		}
		want := x.receive(p)
		if !isAnswer(t, n.Receive(bytesOf(t, p)), p.From, want) || n.Acting() != x.acts {
			return false
		}
	}
	return true
}

// TestRandomMessages: a node does as the model does, behind restarts too (P6, P7, P8).
func TestRandomMessages(t *testing.T) {
	for seed := range int64(60) {
		r := rand.New(rand.NewSource(seed))
		x := anyModel(r)
		d, h := api.NewDisk()
		n := nodeOn(t, x.id, x.nodes, x.blocks, d)
		for step := range 600 {
			if r.Intn(40) == 0 {
				n, x = nodeOn(t, x.id, x.nodes, x.blocks, d), x.restarted()
			}
			m := anyMessage(r, &x)
			want := x.receive(m)
			if got := n.Receive(bytesOf(t, m)); !isAnswer(t, got, m.From, want) {
				t.Fatalf("P8: seed %d, step %d, node %d of %d: %+v is answered %+v, want %+v", seed, step, x.id, x.nodes, m, told(got), want)
			}
			wantNode(t, n, x.acts, x.records...)
		}
		if !keeps(t, h, x) {
			t.Errorf("P6: seed %d: what is on the disk is not what node %d of %d kept", seed, x.id, x.nodes)
		}
	}
}

// wantDown: a node whose disk is stopped tells nothing any more but its records (P9).
func wantDown(t *testing.T, n *keystone.Node, x model, r *rand.Rand) {
	t.Helper()
	for range 20 {
		if got := n.Receive(bytesOf(t, anyMessage(r, &x))); len(got) > 0 {
			t.Fatalf("P9: a node that is down tells %+v", told(got))
		}
		wantNode(t, n, false, x.records...)
	}
}

// run hands a message in, on a disk that may stop: the model behind it, if the call was done; else the node is down.
func run(t *testing.T, n *keystone.Node, d *api.Disk, x model, m api.Msg) (next model, done bool) {
	t.Helper()
	next = x.clone()
	want := next.receive(m)
	got := n.Receive(bytesOf(t, m))
	if isAnswer(t, got, m.From, want) && slices.Equal(n.Records(), next.records) {
		wantNode(t, n, next.acts, next.records...)
		return next, true
	}
	if !d.Stopped() || len(got) > 0 {
		t.Fatalf("P8: %+v is answered %+v, want %+v", m, told(got), want)
	}
	return next, false
}

// left finds which of two models a crash left: the one behind all calls that were done, or the one behind the call that was cut off.
func left(t *testing.T, h *api.Hand, done, cut model) model {
	t.Helper()
	if keeps(t, h, done) {
		return done.restarted()
	}
	if !keeps(t, h, cut) {
		t.Fatalf("P10: what a crash left is neither from before the last call nor from behind it")
	}
	return cut.restarted()
}

// TestStopsAndCrashes: disks stop at any step; what is left keeps all that was told, and the call that was cut off whole or not at all (P6, P8, and of P9 and P10 what is said of Receive).
func TestStopsAndCrashes(t *testing.T) {
	for seed := range int64(30) {
		r := rand.New(rand.NewSource(seed))
		x := anyModel(r)
		d, h := api.NewDisk()
		for range 20 {
			n := nodeOn(t, x.id, x.nodes, x.blocks, d)
			h.Stop(1 + r.Intn(60))
			next, done := x, true
			for done {
				x = next
				next, done = run(t, n, d, x, anyMessage(r, &x))
			}
			wantDown(t, n, x, r)
			d, h = h.Crash(r.Intn(70))
			x = left(t, h, x, next)
		}
	}
}

// TestActingNodeGoesDown: it acts no more, and its records stay (P7, P9).
func TestActingNodeGoesDown(t *testing.T) {
	for steps := range 2 {
		d, h := api.NewDisk()
		n := nodeOn(t, 1, 3, 2, d)
		wantAnswer(t, n, decided(0, 0, 2, 7), nothing)
		wantNode(t, n, true, rec(0, 0, 7), rec(1, 2, 7))
		h.Stop(steps)
		wantAnswer(t, n, decided(0, 1, 2, 7), nothing)
		for range 2 {
			wantNode(t, n, false, rec(0, 0, 7), rec(1, 2, 7))
			wantAnswer(t, n, prepare(0, 0, 0), nothing)
			wantAnswer(t, n, prepare(0, 1, 3), nothing)
			wantAnswer(t, n, write(0, 2, 1, 0, 5), nothing)
		}
	}
}

// TestRestartedNodeStands: behind New a node does not act, and its epoch is SEEN already (P6, P7).
func TestRestartedNodeStands(t *testing.T) {
	d, _ := api.NewDisk()
	n := nodeOn(t, 1, 3, 2, d)
	wantAnswer(t, n, decided(0, 0, 2, 7), nothing)
	wantNode(t, n, true, rec(0, 0, 7), rec(1, 2, 7))
	n = nodeOn(t, 1, 3, 2, d)
	wantNode(t, n, false, rec(0, 0, 7), rec(1, 2, 7))
	wantAnswer(t, n, write(0, 1, 0, 0, 5), wrote(1, 1, 0))
	wantAnswer(t, n, write(0, 1, 1, 0, 5), wrote(1, 1, 1))
	wantAnswer(t, n, decided(0, 1, 2, 2), nothing)
	wantNode(t, n, true, rec(0, 0, 7), rec(1, 2, 7), rec(2, 2, 2))
}

// TestEveryStepEveryByte: a short life is cut off at each step, and of what was not safe each number of bytes is left (P6, P10).
func TestEveryStepEveryByte(t *testing.T) {
	life := []api.Msg{
		prepare(0, 0, 4), accept(0, 0, 4, 3, 6), prepare(2, 0, 6), write(2, 0, 2, 1, 7), decided(0, 0, 2, 6), prepare(2, 1, 3), copyOf(2, 2, 1, 5, -6), decided(2, 1, 3, 6), accept(2, 2, 9, 2, 7),
	}
	for steps := 1; steps < 25; steps++ {
		for keep := -1; keep < 60; keep++ {
			d, h := api.NewDisk()
			n := nodeOn(t, 1, 3, 2, d)
			h.Stop(steps)
			x, next, done := newModel(1, 3, 2), newModel(1, 3, 2), true
			for i := 0; done && i < len(life); i++ {
				x = next
				next, done = run(t, n, d, x, life[i])
			}
			if done {
				x = next
			}
			_, h = h.Crash(keep)
			left(t, h, x, next)
		}
	}
}

// TestNewWhileStopping: New makes a node or tells that the disk is stopped, however many steps are left (P6).
func TestNewWhileStopping(t *testing.T) {
	x := newModel(1, 3, 2)
	d, first := api.NewDisk()
	n := nodeOn(t, 1, 3, 2, d)
	for _, m := range []api.Msg{accept(0, 0, 4, 3, 6), decided(0, 0, 2, 6), prepare(0, 1, 4)} {
		x.receive(m)
		n.Receive(bytesOf(t, m))
	}
	for steps := range 12 {
		d, h := first.Crash(0)
		h.Stop(steps)
		n, e := keystone.New(1, 3, 2, d)
		if (n == nil) != (e == api.ErrDown) || e != api.OK && e != api.ErrDown || steps == 0 && e == api.OK {
			t.Errorf("P6: New with %d steps left = %v, %d", steps, n, e)
		}
		if n != nil {
			wantNode(t, n, false, x.records...)
		}
		if _, h = h.Crash(0); !keeps(t, h, x) {
			t.Errorf("P10: New with %d steps left took away what was kept", steps)
		}
	}
}

// TestForeignDisk: of a disk with bytes that the node did not write nothing is promised, but that no call panics (P1).
func TestForeignDisk(t *testing.T) {
	r := rand.New(rand.NewSource(1))
	for range 200 {
		// a life of another node, with more nodes and blocks, on the disk of this one
		x := newModel(4, 5, 4)
		d, _ := api.NewDisk()
		other := nodeOn(t, 4, 5, 4, d)
		for range 30 {
			m := anyMessage(r, &x)
			x.receive(m)
			other.Receive(bytesOf(t, m))
		}
		n := nodeOn(t, 0, 2, 1, d)
		for range 30 {
			n.Receive(bytesOf(t, anyMessage(r, &x)))
			n.Records()
			n.Acting()
		}
	}
}
