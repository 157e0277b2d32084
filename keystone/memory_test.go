package keystone_test

import (
	"testing"

	"keystone/api"
)

// spoil writes over all that a call told, spare room too; before, it looks whether its lists share any.
func spoil(t *testing.T, c call, o outcome) {
	t.Helper()
	for i, p := range o.packets {
		for _, q := range o.packets[:i] {
			a, b := p.Data[:cap(p.Data)], q.Data[:cap(q.Data)]
			if &a[0] == &b[0] || &a[len(a)-1] == &b[len(b)-1] {
				t.Errorf("P2: two packets of %+v share memory", c)
			}
		}
	}
	for _, p := range o.packets {
		scribble(p.Data, 0xee)
	}
	scribble(o.packets, api.Packet{To: 99})
	scribble(o.results, api.Result{Op: 99})
}

// TestToldIsNew: of two nodes that are called alike, what one told is written over: they go on alike (P2).
func TestToldIsNew(t *testing.T) {
	a, b := newNode(t, 1, 3, 2), newNode(t, 1, 3, 2)
	for _, c := range []call{
		retry(), promote(6), retry(), receive(promise(0, 0, 6, 0, 0, 0)), receive(accepted(0, 0, 6)),
		put(0, 5), retry(), receive(wrote(2, 1, 1)), read(1), receive(wrote(2, 1, 2)), done(), done(),
		put(1, 6), receive(wrote(2, 1, 3)), done(), put(0, 7), promote(6), retry(), receive(wrote(2, 1, 4)), done(),
		receive(promise(0, 1, 6, 0, 0, 0)), receive(accepted(0, 1, 6)),
		admit(0), retry(), retry(), receive(copied(0, 2, 1)), retry(), receive(promise(2, 2, 6, 0, 0, 0)), receive(accepted(2, 2, 6)),
		read(0), retry(), receive(wrote(2, 3, 1)), retry(), receive(wrote(0, 3, 1)), read(1), receive(wrote(2, 3, 2)), receive(wrote(0, 3, 2)), done(),
	} {
		got, want := c.of(t, a), c.of(t, b)
		if !got.same(want) {
			t.Fatalf("P2: %+v, behind lists that were written over: %v, want %v", c, got, want)
		}
		spoil(t, c, got)
	}
	wantNode(t, a, true, rec(0, 0, 7), rec(1, 2, 6), rec(2, 2, 6), rec(3, 2, 7))
}

// TestResultsAreApart: the spare room of what Done told is not written into later (P2).
func TestResultsAreApart(t *testing.T) {
	n := promoted(t, 1, 3, 1, 2)
	mark := api.Result{Op: 99}
	for number := 1; number < 40; number++ {
		want(t, n, put(0, number), number)
		if number%3 != 0 {
			continue
		}
		l := n.Done()
		scribble(l, mark)
		want(t, n, put(0, number+1), number+1)
		number++
		for i := range l[:cap(l)] {
			if l[:cap(l)][i] != mark {
				t.Fatalf("P2: what Done told is written into later")
			}
		}
	}
}
