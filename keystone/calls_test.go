package keystone_test

import (
	"bytes"
	"fmt"
	"math"
	"math/rand"
	"slices"
	"testing"

	"keystone/api"
	"keystone/keystone"
)

// call is a call of a node, with what it is given.
type call struct {
	name string
	m    api.Msg // of Receive
	a, b int     // of the others
}

// outcome is what a call tells.
type outcome struct {
	number  int
	packets []api.Packet
	results []api.Result
	e       api.Errno
}

func (o outcome) String() string {
	return fmt.Sprintf("number %d, packets %+v, results %v, error %d", o.number, told(o.packets), o.results, o.e)
}

// same tells whether two calls told the same.
func (o outcome) same(p outcome) bool {
	samePacket := func(a, b api.Packet) bool { return a.To == b.To && bytes.Equal(a.Data, b.Data) }
	return o.number == p.number && o.e == p.e && slices.Equal(o.results, p.results) && slices.EqualFunc(o.packets, p.packets, samePacket)
}

func receive(m api.Msg) call { return call{name: "Receive", m: m} }
func promote(set int) call   { return call{name: "Promote", a: set} }
func admit(node int) call    { return call{name: "Admit", a: node} }
func read(block int) call    { return call{name: "Read", a: block} }
func retry() call            { return call{name: "Retry"} }
func done() call             { return call{name: "Done"} }
func put(block, value int) call {
	return call{name: "Write", a: block, b: value}
}

// of makes the call of a node.
func (c call) of(t *testing.T, n *keystone.Node) (o outcome) {
	t.Helper()
	switch c.name {
	case "Receive":
		o.packets = n.Receive(bytesOf(t, c.m))
	case "Promote":
		o.packets, o.e = n.Promote(c.a)
	case "Admit":
		o.packets, o.e = n.Admit(c.a)
	case "Write":
		o.number, o.packets, o.e = n.Write(c.a, c.b)
	case "Read":
		o.number, o.packets, o.e = n.Read(c.a)
	case "Retry":
		o.packets = n.Retry()
	case "Done":
		o.results = n.Done()
	}
	return o
}

// ofModel makes the call of a model.
func (c call) ofModel(t *testing.T, m *model) (o outcome) {
	t.Helper()
	var out []sent
	switch c.name {
	case "Receive":
		out = m.receive(c.m)
	case "Promote":
		out, o.e = m.promote(c.a)
	case "Admit":
		out, o.e = m.admit(c.a)
	case "Write":
		o.number, out, o.e = m.operate(c.a, &c.b)
	case "Read":
		o.number, out, o.e = m.operate(c.a, nil)
	case "Retry":
		out = m.retry()
	case "Done":
		o.results, m.results = m.results, nil
	}
	o.packets = packets(t, out)
	return o
}

// packets are what is sent, as a node tells it.
func packets(t *testing.T, l []sent) (out []api.Packet) {
	t.Helper()
	for _, s := range l {
		out = append(out, api.Packet{To: s.to, Data: bytesOf(t, s.m)})
	}
	return out
}

// want makes a call that tells no error.
func want(t *testing.T, n *keystone.Node, c call, number int, l ...sent) {
	t.Helper()
	o := outcome{number: number, packets: packets(t, l)}
	if got := c.of(t, n); !got.same(o) {
		t.Fatalf("%+v:\n%v, want\n%v", c, got, o)
	}
}

// wantSent makes a call that sends just this and tells nothing else.
func wantSent(t *testing.T, n *keystone.Node, c call, l ...sent) {
	t.Helper()
	want(t, n, c, 0, l...)
}

// wantError makes calls that tell nothing but an error.
func wantError(t *testing.T, n *keystone.Node, e api.Errno, calls ...call) {
	t.Helper()
	for _, c := range calls {
		if got := c.of(t, n); !got.same(outcome{e: e}) || got.packets != nil {
			t.Fatalf("P1: %+v: %v, want nothing but the error %d", c, got, e)
		}
	}
}

// wantDone: these results are there, and are told once.
func wantDone(t *testing.T, n *keystone.Node, l ...api.Result) {
	t.Helper()
	for _, want := range [][]api.Result{l, nil} {
		if got := n.Done(); !slices.Equal(got, want) {
			t.Fatalf("P13: Done() = %v, want %v", got, want)
		}
	}
}

// to sends a message to nodes.
func to(m api.Msg, nodes ...int) (out []sent) {
	for _, node := range nodes {
		out = append(out, sent{node, m})
	}
	return out
}

// odd are numbers that nothing has.
var odd = []int{-1, -2, 5, 32, 33, 64, 1 << 31, 1 << 32, 1 << 40, math.MinInt, math.MinInt + 1, math.MaxInt, math.MaxInt - 1}

// anyCall makes a call near to what a model has, so that each case is met often.
func anyCall(r *rand.Rand, m *model) call {
	number := r.Intn(6) - 1
	if r.Intn(20) == 0 {
		number = odd[r.Intn(len(odd))]
	}
	switch r.Intn(24) {
	case 0:
		return promote(m.lastRecord().Set & (1<<m.id | r.Intn(32)))
	case 1:
		return promote(number)
	case 2:
		return admit(number)
	case 3, 4:
		return put(number, r.Intn(1000)-500)
	case 5, 6:
		return read(number)
	case 7:
		return retry()
	case 8:
		return done()
	case 9, 10, 11:
		return receive(anyMessage(r, m))
	}
	return receive(anyAnswer(r, m))
}

// anyMessage makes a message near to what a model has.
func anyMessage(r *rand.Rand, m *model) api.Msg {
	near := func(n int) int { return max(0, n+r.Intn(4)-1) }
	// most blocks change in the node's epoch or just ahead of it: a node that saw far ahead would never act
	seen := max(0, m.epoch()+r.Intn(4)-2)
	x := api.Msg{Kind: 1 + r.Intn(10), From: r.Intn(5)}
	if x.Kind <= 6 {
		x.Epoch = near(m.epoch())
	}
	ballot := min(1000000000000, max(0, m.vote(x.Epoch).promised+r.Intn(9)-4))
	switch x.Kind {
	case 1, 4:
		x.Ballot = ballot
	case 2:
		x.Ballot, x.Was, x.Primary, x.Set = ballot, r.Intn(12), r.Intn(6), r.Intn(32)
	case 3:
		x.Ballot, x.Primary, x.Set = ballot, r.Intn(6), r.Intn(32)
	case 5:
		x.Ballot, x.Was = ballot, r.Intn(12)
	case 6:
		last := m.lastRecord()
		x.Primary, x.Set = r.Intn(6), last.Set|1<<r.Intn(5)
		if r.Intn(2) == 0 {
			x.Epoch, x.Primary, x.Set = last.Epoch, m.id+1, last.Set|1<<m.id
		}
	case 7:
		x.Epoch, x.Seq, x.Block, x.Value = seen, near(m.last), r.Intn(4), r.Intn(1000)-500
	case 8, 10:
		x.Epoch, x.Seq = seen, near(m.last)
	case 9:
		x.Epoch, x.Seq, x.Values = seen, near(m.last), make([]int, r.Intn(5))
	}
	return x
}

// anyAnswer makes a message of those that are waited for, if any is; now and then one of its numbers is another.
func anyAnswer(r *rand.Rand, m *model) api.Msg {
	x := api.Msg{From: r.Intn(m.nodes), Epoch: m.epoch()}
	off := func() int { return r.Intn(12) / 11 }
	switch {
	case m.operation != nil && r.Intn(2) == 0:
		x.Kind, x.Seq = 8, m.operation.result.Seq+off()
	case m.change == nil:
		return anyMessage(r, m)
	case m.change.waits == 10:
		x.Kind, x.Seq = 10, m.change.copies.m.Seq-off()
		if r.Intn(2) == 0 {
			x.From = m.change.copies.to
		}
	case r.Intn(6) == 0:
		x.Kind, x.Ballot, x.Was = 5, m.change.ballot, min(1000000000000, m.change.ballot+r.Intn(20))
	case m.change.waits == 2 && r.Intn(8) > 0:
		x.Kind, x.Ballot = 2, m.change.ballot-off()
		if r.Intn(3) == 0 {
			// some of them could be decided, others not
			x.Was, x.Primary, x.Set = r.Intn(12), r.Intn(6), m.lastRecord().Set&(1<<m.id|r.Intn(32))
		}
	default:
		x.Kind, x.Ballot = 4, max(0, m.change.ballot-off())
	}
	x.Epoch = max(0, x.Epoch-off())
	return x
}
