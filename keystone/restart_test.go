package keystone_test

import (
	"fmt"
	"math/rand"
	"slices"
	"testing"

	"keystone/api"
	"keystone/keystone"
)

// anyModel makes a model of any node of so many, with so many blocks.
func anyModel(r *rand.Rand) model {
	nodes := 2 + r.Intn(4)
	return newModel(r.Intn(nodes), nodes, 1+r.Intn(4))
}

// probes are calls whose outcomes tell apart what a model keeps from whatever is near to it.
func probes(m *model) [][]call {
	other := (m.id + 1) % m.nodes
	var out [][]call
	for epoch := max(0, m.epoch()-1); epoch <= m.epoch()+3; epoch++ {
		// the first tells what was promised, if anything was, the second what was accepted
		out = append(out, []call{receive(prepare(other, epoch, 0))}, []call{receive(prepare(other, epoch, m.vote(epoch).promised))})
	}
	for _, epoch := range []int{max(0, m.seen-1), m.seen, m.seen + 1} {
		for _, seq := range []int{max(0, m.last-1), m.last, m.last + 1} {
			out = append(out, []call{receive(write(other, epoch, seq, 0, 1))})
		}
	}
	for block := range m.blocks {
		// as primary it reads what it has; alone, so that nobody else is asked
		first := receive(decided(other, m.epoch(), m.id+1, 1<<m.id))
		out = append(out, []call{first, read(block), done()})
	}
	return append(out, []call{promote(m.lastRecord().Set), retry()}, []call{done(), retry()})
}

// keeps tells whether a node that begins anew on a disk is as a model. It looks at copies: each probe may change what is kept.
func keeps(t *testing.T, h *api.Hand, m model) bool {
	t.Helper()
	for _, calls := range probes(&m) {
		d, _ := h.Crash(0)
		n, x := nodeOn(t, m.id, m.nodes, m.blocks, d), m.restarted()
		if !slices.Equal(n.Records(), x.records) || n.Acting() {
			return false
		}
		for _, c := range calls {
			want := c.ofModel(t, &x)
			if !c.of(t, n).same(want) || n.Acting() != x.acts {
				return false
			}
		}
	}
	return true
}

// TestRandomCalls: a node does as the model does, behind restarts too (P6, P7, P8, P11 to P14).
func TestRandomCalls(t *testing.T) {
	met := map[string]int{}
	for seed := range int64(400) {
		r := rand.New(rand.NewSource(seed))
		x := anyModel(r)
		d, h := api.NewDisk()
		n := nodeOn(t, x.id, x.nodes, x.blocks, d)
		for step := range 600 {
			if r.Intn(200) == 0 {
				n, x = nodeOn(t, x.id, x.nodes, x.blocks, d), x.restarted()
			}
			c := anyCall(r, &x)
			if seed%10 == 0 && step == 300 {
				// from now on ballots come to their end
				c = receive(prepare((x.id+1)%x.nodes, x.epoch(), most-12))
			}
			want := c.ofModel(t, &x)
			if got := c.of(t, n); !got.same(want) {
				t.Fatalf("P8, P11 to P14: seed %d, step %d, node %d of %d: %+v:\n%v, want\n%v", seed, step, x.id, x.nodes, c, got, want)
			}
			wantNode(t, n, x.acts, x.records...)
			tally(met, c, want)
		}
		if !keeps(t, h, x) {
			t.Errorf("P6: seed %d: what is on the disk is not what node %d of %d kept", seed, x.id, x.nodes)
		}
	}
	wantMet(t, met)
}

// tally counts what is met: which call told which error, which message was answered by which kind.
func tally(met map[string]int, c call, o outcome) {
	met[fmt.Sprint(c.name, " error ", o.e)]++
	if len(o.packets) > 0 {
		met[fmt.Sprint(c.name, " ", c.m.Kind, " sends ", o.packets[0].Data[0])]++
	}
	if len(o.results) > 0 {
		met["results"]++
	}
}

// wantMet: a random test that does not come to what it is about is none.
func wantMet(t *testing.T, met map[string]int) {
	t.Helper()
	for _, s := range []string{
		"Promote error 0", "Promote error 1", "Promote error 4",
		"Admit error 0", "Admit error 1", "Admit error 4", "Admit error 5",
		"Write error 0", "Write error 1", "Write error 4", "Write error 5",
		"Read error 0", "Read error 1", "Read error 4", "Read error 5",
		"Receive 2 sends 3", "Receive 4 sends 6", "Receive 10 sends 1",
		"Retry 0 sends 1", "Retry 0 sends 9", "results",
	} {
		if met[s] < 20 {
			t.Errorf("%s: met %d times", s, met[s])
		}
	}
}

// wantDown: a node whose disk is stopped tells nothing any more but its records, and what came to an end before (P9).
func wantDown(t *testing.T, n *keystone.Node, x model, r *rand.Rand) {
	t.Helper()
	for range 20 {
		c := anyCall(r, &x)
		want := outcome{}
		switch c.name {
		case "Promote", "Admit", "Write", "Read":
			want.e = api.ErrDown
		case "Done":
			want = c.ofModel(t, &x)
		}
		if got := c.of(t, n); !got.same(want) {
			t.Fatalf("P9: of a node that is down, %+v: %v, want %v", c, got, want)
		}
		wantNode(t, n, false, x.records...)
	}
}

// run makes a call, on a disk that may stop: the model behind it, if it was done; else the node is down.
func run(t *testing.T, n *keystone.Node, d *api.Disk, x model, c call) (next model, done bool) {
	t.Helper()
	next = x.clone()
	want := c.ofModel(t, &next)
	got := c.of(t, n)
	if got.same(want) && slices.Equal(n.Records(), next.records) {
		wantNode(t, n, next.acts, next.records...)
		return next, true
	}
	if !d.Stopped() || !got.same(outcome{}) && !got.same(outcome{e: api.ErrDown}) {
		t.Fatalf("P8, P11 to P14: %+v:\n%v, want\n%v", c, got, want)
	}
	return next, false
}

// left finds which of two models a crash left: the one behind all calls that were done, or the one behind the call that was cut off.
func left(t *testing.T, h *api.Hand, done, cut model) model {
	t.Helper()
	if keeps(t, h, done) {
		return done.restarted()
	}
	if !keeps(t, h, cut) {
		t.Fatalf("P10: what a crash left is neither from before the last call nor from behind it")
	}
	return cut.restarted()
}

// TestStopsAndCrashes: disks stop at any step; what is left keeps all that was told, and the call that was cut off whole or not at all (P6, P8, P9, P10).
func TestStopsAndCrashes(t *testing.T) {
	for seed := range int64(60) {
		r := rand.New(rand.NewSource(seed))
		x := anyModel(r)
		d, h := api.NewDisk()
		for range 20 {
			n := nodeOn(t, x.id, x.nodes, x.blocks, d)
			h.Stop(1 + r.Intn(60))
			next, done := x, true
			for done {
				x = next
				next, done = run(t, n, d, x, anyCall(r, &x))
			}
			wantDown(t, n, x, r)
			d, h = h.Crash(r.Intn(70))
			x = left(t, h, x, next)
		}
	}
}

// TestActingNodeGoesDown: it acts no more, and its records stay (P7, P9).
func TestActingNodeGoesDown(t *testing.T) {
	for steps := range 2 {
		d, h := api.NewDisk()
		n := nodeOn(t, 1, 3, 2, d)
		wantAnswer(t, n, decided(0, 0, 2, 7), nothing)
		wantNode(t, n, true, rec(0, 0, 7), rec(1, 2, 7))
		h.Stop(steps)
		wantAnswer(t, n, decided(0, 1, 2, 7), nothing)
		for range 2 {
			wantNode(t, n, false, rec(0, 0, 7), rec(1, 2, 7))
			wantAnswer(t, n, prepare(0, 0, 0), nothing)
			wantAnswer(t, n, prepare(0, 1, 3), nothing)
			wantAnswer(t, n, write(0, 2, 1, 0, 5), nothing)
		}
	}
}

// TestCallsGoDown: a call that can't be made safe is ErrDown, and so are all others from then on; what came to an end before is told still (P1, P9).
func TestCallsGoDown(t *testing.T) {
	for steps := range 2 {
		for _, c := range []call{promote(6), admit(0), put(0, 9), read(0)} {
			d, h := api.NewDisk()
			n := nodeOn(t, 1, 3, 2, d)
			wantAnswer(t, n, decided(0, 0, 2, 6), nothing)
			want(t, n, put(1, 5), 1, to(write(1, 1, 1, 1, 5), 2)...)
			wantSent(t, n, receive(wrote(2, 1, 1)))
			h.Stop(steps)
			wantError(t, n, api.ErrDown, c, promote(6), promote(99), admit(0), admit(99), put(0, 9), put(99, 9), read(0), read(-1))
			wantSent(t, n, retry())
			wantNode(t, n, false, rec(0, 0, 7), rec(1, 2, 6))
			wantDone(t, n, api.Result{Op: 1, Block: 1, Value: 5, Epoch: 1, Seq: 1})
		}
	}
}

// TestAnswersGoDown: an answer by which something would have to be kept that can't is nothing (P9).
func TestAnswersGoDown(t *testing.T) {
	ahead := []call{
		receive(decided(0, 0, 2, 6)), admit(0), receive(copied(0, 1, 1)), receive(promise(0, 1, 1, 0, 0, 0)), receive(accepted(2, 1, 1)),
	}
	for steps := range 2 {
		for number, c := range ahead {
			d, h := api.NewDisk()
			n := nodeOn(t, 1, 3, 2, d)
			for _, a := range ahead[:number] {
				a.of(t, n)
			}
			before := n.Records()
			h.Stop(steps)
			if got := c.of(t, n); len(got.packets) > 0 {
				t.Errorf("P9: %+v on a disk that stopped: %v", c, got)
			}
			wantSent(t, n, retry())
			wantNode(t, n, false, before...)
			wantError(t, n, api.ErrDown, promote(6), put(0, 1))
		}
	}
	// Retry, of a change: the ballot that it would take
	d, h := api.NewDisk()
	n := nodeOn(t, 1, 3, 2, d)
	wantAnswer(t, n, decided(0, 0, 2, 6), nothing)
	want(t, n, put(0, 9), 1, to(write(1, 1, 1, 0, 9), 2)...)
	wantSent(t, n, promote(2), to(prepare(1, 1, 1), 0, 2)...)
	h.Stop(1)
	wantSent(t, n, retry())
	wantError(t, n, api.ErrDown, promote(6), put(0, 1))
	wantSent(t, n, receive(wrote(2, 1, 1)))
	wantDone(t, n)
}

// TestRestartedNodeStands: behind New a node does not act, and its epoch is SEEN already (P6, P7).
func TestRestartedNodeStands(t *testing.T) {
	d, _ := api.NewDisk()
	n := nodeOn(t, 1, 3, 2, d)
	wantAnswer(t, n, decided(0, 0, 2, 7), nothing)
	wantNode(t, n, true, rec(0, 0, 7), rec(1, 2, 7))
	n = nodeOn(t, 1, 3, 2, d)
	wantNode(t, n, false, rec(0, 0, 7), rec(1, 2, 7))
	wantAnswer(t, n, write(0, 1, 0, 0, 5), wrote(1, 1, 0))
	wantAnswer(t, n, write(0, 1, 1, 0, 5), wrote(1, 1, 1))
	wantAnswer(t, n, decided(0, 1, 2, 2), nothing)
	wantNode(t, n, true, rec(0, 0, 7), rec(1, 2, 7), rec(2, 2, 2))
}

// TestNewWhileStopping: New makes a node or tells that the disk is stopped, however many steps are left, and whatever a crash left (P6).
func TestNewWhileStopping(t *testing.T) {
	x := newModel(1, 3, 2)
	d, first := api.NewDisk()
	n := nodeOn(t, 1, 3, 2, d)
	for _, m := range []api.Msg{accept(0, 0, 4, 3, 6), decided(0, 0, 2, 6), prepare(0, 1, 4)} {
		x.receive(m)
		n.Receive(bytesOf(t, m))
	}
	first.Stop(1)
	n.Receive(bytesOf(t, prepare(0, 1, 9)))
	for steps := range 12 {
		for keep := range 20 {
			d, h := first.Crash(keep)
			h.Stop(steps)
			n, e := keystone.New(1, 3, 2, d)
			if (n == nil) != (e == api.ErrDown) || e != api.OK && e != api.ErrDown || steps == 0 && e == api.OK {
				t.Errorf("P6: New with %d steps left = %v, %d", steps, n, e)
			}
			if n != nil {
				wantNode(t, n, false, x.records...)
			}
			if _, h = h.Crash(0); !keeps(t, h, x) {
				t.Errorf("P10: New with %d steps left took away what was kept", steps)
			}
		}
	}
}

// TestForeignDisk: of a disk with bytes that the node did not write nothing is promised, but that no call panics (P1).
func TestForeignDisk(t *testing.T) {
	r := rand.New(rand.NewSource(1))
	for range 200 {
		// a life of another node, with more nodes and blocks, on the disk of this one
		x := newModel(4, 5, 4)
		d, _ := api.NewDisk()
		other := nodeOn(t, 4, 5, 4, d)
		for range 30 {
			c := anyCall(r, &x)
			c.ofModel(t, &x)
			c.of(t, other)
		}
		n := nodeOn(t, 0, 2, 1, d)
		for range 30 {
			anyCall(r, &x).of(t, n)
			n.Records()
			n.Acting()
		}
	}
}
