package keystone_test

import (
	"cmp"
	"math/rand"
	"slices"
	"testing"

	"keystone/api"
	"keystone/keystone"
)

// cell is some nodes, with their disks, what is on its way between them, and what they told so far.
type cell struct {
	t       *testing.T
	r       *rand.Rand
	blocks  int
	nodes   []*keystone.Node
	disks   []*api.Disk
	hands   []*api.Hand
	way     []api.Packet
	written int // how many values were written: each is another one
	begun   []map[int]begin
	done    []end
	history []api.Record
}

// begin is a call that began: how many results were there, and what was written, if anything was.
type begin struct {
	results int
	wrote   bool
	value   int
}

// end is a result, with what began it.
type end struct {
	api.Result
	begin
}

func newCell(t *testing.T, seed int64) *cell {
	t.Helper()
	r := rand.New(rand.NewSource(seed))
	c := &cell{t: t, r: r, blocks: 1 + r.Intn(2)}
	nodes := 2 + r.Intn(4)
	for id := range nodes {
		d, h := api.NewDisk()
		c.disks, c.hands = append(c.disks, d), append(c.hands, h)
		c.nodes, c.begun = append(c.nodes, nodeOn(t, id, nodes, c.blocks, d)), append(c.begun, map[int]begin{})
	}
	return c
}

// send lays packets on their way.
func (c *cell) send(l []api.Packet) { c.way = append(c.way, l...) }

// step is anything that may happen.
func (c *cell) step() {
	id := c.r.Intn(len(c.nodes))
	n := c.nodes[id]
	switch k := c.r.Intn(1000); {
	case k < 750:
		c.carry()
	case k < 760:
		l, _ := n.Promote(c.r.Intn(32)&(1<<len(c.nodes)-1) | 1<<id)
		c.send(l)
	case k < 800:
		l, _ := n.Admit(c.r.Intn(len(c.nodes)))
		c.send(l)
	case k < 880:
		c.written++
		number, l, e := n.Write(c.r.Intn(c.blocks), c.written)
		c.begin(id, number, begin{len(c.done), true, c.written}, l, e)
	case k < 960:
		number, l, e := n.Read(c.r.Intn(c.blocks))
		c.begin(id, number, begin{results: len(c.done)}, l, e)
	case k < 990:
		c.send(n.Retry())
	case k < 993:
		c.hands[id].Stop(c.r.Intn(20))
	default:
		c.restart(id)
	}
	c.look(id)
}

// carry takes a packet that is on its way: it comes, and may come again; or it is lost.
func (c *cell) carry() {
	if len(c.way) == 0 {
		return
	}
	// what is newest comes most often: so something goes on, though old packets come all the time
	i := max(c.r.Intn(len(c.way)), c.r.Intn(len(c.way)))
	p := c.way[i]
	if c.r.Intn(8) > 0 || len(c.way) > 60 {
		c.way = slices.Delete(c.way, i, i+1)
	}
	if c.r.Intn(10) > 0 {
		c.send(c.nodes[p.To].Receive(p.Data))
		c.look(p.To)
	}
}

// restart crashes a node and makes it anew.
func (c *cell) restart(id int) {
	c.disks[id], c.hands[id] = c.hands[id].Crash(c.r.Intn(80))
	c.nodes[id], c.begun[id] = nodeOn(c.t, id, len(c.nodes), c.blocks, c.disks[id]), map[int]begin{}
}

func (c *cell) begin(id, number int, b begin, l []api.Packet, e api.Errno) {
	if e == api.OK {
		c.begun[id][number] = b
		c.send(l)
	}
}

// look fetches a node's results, and holds its records against the one history (P15).
func (c *cell) look(id int) {
	c.t.Helper()
	for _, r := range c.nodes[id].Done() {
		c.done = append(c.done, end{r, c.begun[id][r.Op]})
	}
	l := c.nodes[id].Records()
	if len(l) > len(c.history) {
		c.history = l
	}
	if !slices.Equal(l, c.history[:len(l)]) {
		c.t.Fatalf("P15: node %d knows %v, another one %v", id, l, c.history)
	}
	for i := range l[1:] {
		if !keystone.Follows(l[i], l[i+1]) {
			c.t.Fatalf("P15: node %d knows %v", id, l)
		}
	}
}

// inOrder sorts the results by epoch and sequence number, and looks at when their calls began (P16).
func (c *cell) inOrder() []end {
	c.t.Helper()
	l := slices.Clone(c.done)
	order := func(a, b end) int { return cmp.Or(cmp.Compare(a.Epoch, b.Epoch), cmp.Compare(a.Seq, b.Seq)) }
	slices.SortStableFunc(l, order)
	for i := 1; i < len(l); i++ {
		if order(l[i-1], l[i]) == 0 {
			c.t.Fatalf("P16: two results, %+v and %+v", l[i-1], l[i])
		}
	}
	for i, x := range c.done {
		for _, before := range c.done[:x.results] {
			if order(before, x) >= 0 {
				c.t.Fatalf("P16: result %d, %+v, began behind %+v", i, x, before)
			}
		}
	}
	return l
}

// oneVolume holds the results against what a volume may tell (P16).
func (c *cell) oneVolume() {
	c.t.Helper()
	l := c.inOrder()
	for block := range c.blocks {
		rows := map[int]int{}
		last := 0
		for i, x := range l {
			if x.Block != block {
				continue
			}
			if x.Value != last {
				rows[x.Value]++
			}
			// 0 is there at first
			if x.Value != last && (rows[x.Value] > 1 || x.Value == 0) || x.wrote && (x.Value != x.value || x.Value == last) {
				c.t.Fatalf("P16: block %d has %d at %+v again, or as a Write's result not first: %+v", block, x.Value, x, l[:i+1])
			}
			last = x.Value
		}
	}
}

// calm lets all nodes run, and all messages come, one behind another.
func (c *cell) calm() {
	for id := range c.nodes {
		c.restart(id)
	}
	for range 40 {
		for _, n := range c.nodes {
			c.send(n.Retry())
		}
		c.flush()
	}
}

// flush lets all messages come.
func (c *cell) flush() {
	for len(c.way) > 0 {
		p := c.way[0]
		c.way = c.way[1:]
		c.send(c.nodes[p.To].Receive(p.Data))
		c.look(p.To)
	}
}

// inTheEnd: all know the newest record, and a node of its set can be promoted, writes and reads (P17).
func (c *cell) inTheEnd() {
	c.t.Helper()
	c.calm()
	for id := range c.nodes {
		if !slices.Equal(c.nodes[id].Records(), c.history) {
			c.t.Fatalf("P17: node %d knows %v of %v", id, c.nodes[id].Records(), c.history)
		}
	}
	promoted := 0
	for id := range c.nodes {
		if c.promote(id) {
			promoted++
			c.writeAndRead(id)
		}
	}
	if promoted == 0 {
		c.t.Fatalf("P17: no node can be promoted: %v", c.history)
	}
}

// promote promotes a node, as long as it is in the newest record's set: what others asked for before may be decided first.
func (c *cell) promote(id int) bool {
	c.t.Helper()
	n := c.nodes[id]
	for range 20 {
		set := c.history[len(c.history)-1].Set
		if n.Acting() || !has(set, id) {
			return n.Acting()
		}
		l, _ := n.Promote(set)
		c.send(append(l, n.Retry()...))
		c.flush()
	}
	c.t.Fatalf("P17: node %d can't be promoted: %v", id, c.history)
	return false
}

// writeAndRead lets a primary write and read.
func (c *cell) writeAndRead(id int) {
	c.t.Helper()
	n := c.nodes[id]
	c.written++
	had := len(c.done)
	number, l, e := n.Write(0, c.written)
	c.begin(id, number, begin{had, true, c.written}, l, e)
	c.flush()
	c.look(id)
	number, l, e = n.Read(0)
	c.begin(id, number, begin{results: len(c.done)}, l, e)
	c.flush()
	c.look(id)
	if len(c.done) != had+2 || c.done[had+1].Value != c.written {
		c.t.Fatalf("P17: node %d wrote %d, the results are %+v", id, c.written, c.done[had:])
	}
}

// TestCells: whatever comes, there is one history and one volume, and in the end it goes on (P11 to P14, and P15 to P17, which follow of them).
func TestCells(t *testing.T) {
	records, results := 0, 0
	for seed := range int64(300) {
		c := newCell(t, seed)
		for range 1500 {
			c.step()
		}
		records, results = records+len(c.history), results+len(c.done)
		c.inTheEnd()
		c.oneVolume()
	}
	if records < 1000 || results < 2000 {
		t.Errorf("in all cells there were but %d records and %d results", records, results)
	}
}
