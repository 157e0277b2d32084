package keystone_test

import (
	"cmp"
	"math/rand"
	"slices"
	"testing"

	"keystone/api"
	"keystone/keystone"
)

// cell is some nodes, with their disks, what is on its way between them, and what they told so far.
type cell struct {
	t       *testing.T
	r       *rand.Rand
	weather weather
	blocks  int
	nodes   []*keystone.Node
	disks   []*api.Disk
	hands   []*api.Hand
	way     []api.Packet
	apart   int // a set of nodes: what goes from these to the others, or back, waits
	written int // how many values were written: each is another one
	begun   []map[int]begin
	done    []end
	history []api.Record
}

// weather is how often what happens in a cell: in some there are many votes and few writes, in some all nodes crash and crash.
type weather struct {
	steps       int
	odds        [happenings]int
	lost, again int // of a hundred packets
	newest      int // the newest of so many packets comes first
	unheard     int // a kind that is lost most often
}

// What happens.
const (
	carries = iota
	promotes
	admits
	writes
	reads
	retries
	divides
	stops
	crashes
	happenings
)

// anyWeather: in one cell of three nodes are promoted again and again, in one there is much to write, in one all happens alike.
func anyWeather(r *rand.Rand) weather {
	w := weather{steps: 1000, lost: r.Intn(20), again: r.Intn(60), newest: 1 + r.Intn(6)}
	w.odds = [happenings]int{promotes: 10, admits: 5, writes: 10, reads: 10, retries: 4, divides: r.Intn(2), stops: r.Intn(4), crashes: 1 + r.Intn(3)}
	switch r.Intn(3) {
	case 0:
		w.steps = 300
		w.odds[admits], w.odds[writes], w.odds[reads], w.odds[retries] = 0, 0, 0, 10
		w.unheard = r.Intn(2) * 6
	case 1:
		w.steps = 1500
		w.odds[promotes], w.odds[writes], w.odds[reads] = 3, 20, 20
	default:
		w.unheard = r.Intn(2) * (1 + r.Intn(10))
	}
	all := 0
	for _, n := range w.odds {
		all += n
	}
	w.odds[carries] = all * (2 + r.Intn(8))
	return w
}

// any tells what happens next.
func (w weather) any(r *rand.Rand) int {
	all := 0
	for _, n := range w.odds {
		all += n
	}
	k := r.Intn(all)
	for i, n := range w.odds {
		if k < n {
			return i
		}
		k -= n
	}
	return carries
}

// begin is a call that began: how many results were there, and what was written, if anything was.
type begin struct {
	results int
	wrote   bool
	value   int
}

// end is a result, with what began it.
type end struct {
	api.Result
	begin
}

func newCell(t *testing.T, nodes, blocks int) *cell {
	t.Helper()
	c := &cell{t: t, blocks: blocks}
	for id := range nodes {
		d, h := api.NewDisk()
		c.disks, c.hands = append(c.disks, d), append(c.hands, h)
		c.nodes, c.begun = append(c.nodes, nodeOn(t, id, nodes, blocks, d)), append(c.begun, map[int]begin{})
	}
	return c
}

// anyCell is one in which anything may happen.
func anyCell(t *testing.T, seed int64) *cell {
	t.Helper()
	r := rand.New(rand.NewSource(seed))
	c := newCell(t, 2+r.Intn(4), 1+r.Intn(2))
	c.r, c.weather = r, anyWeather(r)
	return c
}

// send lays packets on their way.
func (c *cell) send(l []api.Packet) { c.way = append(c.way, l...) }

// step is anything that may happen.
func (c *cell) step() {
	id := c.r.Intn(len(c.nodes))
	n := c.nodes[id]
	switch c.weather.any(c.r) {
	case carries:
		c.carry()
	case promotes:
		l, _ := n.Promote(c.anySet(id))
		c.send(l)
	case admits:
		l, _ := n.Admit(c.r.Intn(len(c.nodes)))
		c.send(l)
	case writes:
		c.written++
		number, l, e := n.Write(c.r.Intn(c.blocks), c.written)
		c.begin(id, number, begin{len(c.done), true, c.written}, l, e)
	case reads:
		number, l, e := n.Read(c.r.Intn(c.blocks))
		c.begin(id, number, begin{results: len(c.done)}, l, e)
	case retries:
		c.send(n.Retry())
	case divides:
		c.apart = c.r.Intn(1 << len(c.nodes))
	case stops:
		c.hands[id].Stop(c.r.Intn(6))
	case crashes:
		c.restart(c.anyStopped(id), c.r.Intn(80))
	}
	c.look(id)
}

// anyStopped is a node whose disk is stopped; if there is none, this one.
func (c *cell) anyStopped(id int) int {
	for i := range c.disks {
		if other := (id + i) % len(c.disks); c.disks[other].Stopped() {
			return other
		}
	}
	return id
}

// anySet is the set of a node's last record, now and then without some others.
func (c *cell) anySet(id int) int {
	l := c.nodes[id].Records()
	set := l[len(l)-1].Set
	if c.r.Intn(4) == 0 {
		set &= c.r.Intn(32) | 1<<id
	}
	return set
}

// carry takes a packet that is on its way: it comes, and may come again; or it is lost, or waits.
func (c *cell) carry() {
	if len(c.way) == 0 {
		return
	}
	i := 0
	for range c.weather.newest {
		i = max(i, c.r.Intn(len(c.way)))
	}
	p := c.way[i]
	kind, from := int(p.Data[0]), int(p.Data[1])
	waits := has(c.apart, from) != has(c.apart, p.To)
	if len(c.way) > 80 || !waits && c.r.Intn(100) >= c.weather.again {
		c.way = slices.Delete(c.way, i, i+1)
	}
	lost := c.r.Intn(100) < c.weather.lost || kind == c.weather.unheard && c.r.Intn(8) > 0
	if !waits && !lost {
		c.send(c.nodes[p.To].Receive(p.Data))
		c.look(p.To)
	}
}

// restart crashes a node and makes it anew, of what is left.
func (c *cell) restart(id, keep int) {
	c.disks[id], c.hands[id] = c.hands[id].Crash(keep)
	c.nodes[id], c.begun[id] = nodeOn(c.t, id, len(c.nodes), c.blocks, c.disks[id]), map[int]begin{}
}

func (c *cell) begin(id, number int, b begin, l []api.Packet, e api.Errno) {
	if e == api.OK {
		c.begun[id][number] = b
		c.send(l)
	}
}

// look fetches a node's results, and holds its records against the one history (P15).
func (c *cell) look(id int) {
	c.t.Helper()
	for _, r := range c.nodes[id].Done() {
		c.done = append(c.done, end{r, c.begun[id][r.Op]})
	}
	l := c.nodes[id].Records()
	if len(l) > len(c.history) {
		c.history = l
	}
	if !slices.Equal(l, c.history[:len(l)]) {
		c.t.Fatalf("P15: node %d knows %v, another one %v", id, l, c.history)
	}
	for i := range l[1:] {
		if !keystone.Follows(l[i], l[i+1]) {
			c.t.Fatalf("P15: node %d knows %v", id, l)
		}
	}
}

// inOrder sorts the results by epoch and sequence number, and looks at when their calls began (P16).
func (c *cell) inOrder() []end {
	c.t.Helper()
	l := slices.Clone(c.done)
	order := func(a, b end) int { return cmp.Or(cmp.Compare(a.Epoch, b.Epoch), cmp.Compare(a.Seq, b.Seq)) }
	slices.SortStableFunc(l, order)
	for i := 1; i < len(l); i++ {
		if order(l[i-1], l[i]) == 0 {
			c.t.Fatalf("P16: two results, %+v and %+v", l[i-1], l[i])
		}
	}
	for i, x := range c.done {
		for _, before := range c.done[:x.results] {
			if order(before, x) >= 0 {
				c.t.Fatalf("P16: result %d, %+v, began behind %+v", i, x, before)
			}
		}
	}
	return l
}

// oneVolume holds the results against what a volume may tell (P16).
func (c *cell) oneVolume() {
	c.t.Helper()
	l := c.inOrder()
	for block := range c.blocks {
		rows := map[int]int{}
		last := 0
		for i, x := range l {
			if x.Block != block {
				continue
			}
			if x.Value != last {
				rows[x.Value]++
			}
			// 0 is there at first
			if x.Value != last && (rows[x.Value] > 1 || x.Value == 0) || x.wrote && (x.Value != x.value || x.Value == last) {
				c.t.Fatalf("P16: block %d has %d at %+v again, or as a Write's result not first: %+v", block, x.Value, x, l[:i+1])
			}
			last = x.Value
		}
	}
}

// calm lets all nodes run, and all messages come, one behind another.
func (c *cell) calm() {
	for id, d := range c.disks {
		c.hands[id].Stop(-1)
		if d.Stopped() {
			c.restart(id, 0)
		}
	}
	// with each Retry a node comes to know a record more at least; with two more what goes on comes to its end
	for range len(c.history) + 2 {
		for _, n := range c.nodes {
			c.send(n.Retry())
		}
		c.flush()
	}
}

// flush lets all messages come.
func (c *cell) flush() {
	for len(c.way) > 0 {
		p := c.way[0]
		c.way = c.way[1:]
		c.send(c.nodes[p.To].Receive(p.Data))
		c.look(p.To)
	}
}

// inTheEnd: all know the newest record, and a node of its set can be promoted, writes and reads (P17).
func (c *cell) inTheEnd() {
	c.t.Helper()
	c.calm()
	for id := range c.nodes {
		if !slices.Equal(c.nodes[id].Records(), c.history) {
			c.t.Fatalf("P17: node %d knows %v of %v", id, c.nodes[id].Records(), c.history)
		}
	}
	promoted := 0
	for id := range c.nodes {
		if c.promote(id) {
			promoted++
			c.writeAndRead(id)
		}
	}
	if promoted == 0 {
		c.t.Fatalf("P17: no node can be promoted: %v", c.history)
	}
}

// promote promotes a node, as long as it is in the newest record's set: what others asked for before may be decided first.
func (c *cell) promote(id int) bool {
	c.t.Helper()
	n := c.nodes[id]
	for range 20 {
		set := c.history[len(c.history)-1].Set
		if n.Acting() || !has(set, id) {
			return n.Acting()
		}
		l, _ := n.Promote(set)
		c.send(append(l, n.Retry()...))
		c.flush()
	}
	c.t.Fatalf("P17: node %d can't be promoted: %v", id, c.history)
	return false
}

// writeAndRead lets a primary write and read.
func (c *cell) writeAndRead(id int) {
	c.t.Helper()
	n := c.nodes[id]
	c.written++
	had := len(c.done)
	number, l, e := n.Write(0, c.written)
	c.begin(id, number, begin{had, true, c.written}, l, e)
	c.flush()
	c.look(id)
	number, l, e = n.Read(0)
	c.begin(id, number, begin{results: len(c.done)}, l, e)
	c.flush()
	c.look(id)
	if len(c.done) != had+2 || c.done[had+1].Value != c.written {
		c.t.Fatalf("P17: node %d wrote %d, the results are %+v", id, c.written, c.done[had:])
	}
}

// TestCells: whatever comes, there is one history and one volume, and in the end it goes on (P15 to P17).
func TestCells(t *testing.T) {
	records, results := 0, 0
	for seed := range int64(4000) {
		c := runCell(t, seed)
		records, results = records+len(c.history), results+len(c.done)
	}
	if records < 20000 || results < 20000 {
		t.Errorf("in all cells there were but %d records and %d results", records, results)
	}
}

func runCell(t *testing.T, seed int64) *cell {
	t.Helper()
	defer func() {
		if t.Failed() {
			t.Logf("that is the cell of seed %d", seed)
		}
	}()
	c := anyCell(t, seed)
	for range c.weather.steps {
		c.step()
	}
	c.inTheEnd()
	c.oneVolume()
	return c
}
