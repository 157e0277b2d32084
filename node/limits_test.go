package node

import (
	"testing"

	"keystone/api"
	"keystone/wire"
)

// TestLastNumber: where LAST is MaxNumber nothing can be written, read or copied: ErrArg, ahead of ErrBusy (P12, P13). No calls come there in a lifetime, so LAST is set from within.
func TestLastNumber(t *testing.T) {
	d, _ := api.NewDisk()
	n, _ := New(1, 3, 2, d)
	b, _ := wire.Encode(api.Msg{Kind: api.Decided, Primary: 2, Set: 2})
	n.Receive(b)
	n.kept.Save(api.Msg{Kind: api.Write, Epoch: 1, Seq: api.MaxNumber - 1, Value: 5})
	if number, _, e := n.Read(0); number != 1 || e != api.OK {
		t.Fatalf("P13: the last Read: %d, %d", number, e)
	}
	if got, want := n.Done(), (api.Result{Op: 1, Value: 5, Epoch: 1, Seq: api.MaxNumber}); len(got) != 1 || got[0] != want {
		t.Errorf("P13: Done() = %v, want %v", got, want)
	}
	for range 2 {
		if number, l, e := n.Read(0); number != 0 || l != nil || e != api.ErrArg {
			t.Errorf("P13: Read behind the last one: %d, %v, %d", number, l, e)
		}
		if number, l, e := n.Write(0, 1); number != 0 || l != nil || e != api.ErrArg {
			t.Errorf("P13: Write behind the last Read: %d, %v, %d", number, l, e)
		}
		if l, e := n.Admit(0); l != nil || e != api.ErrArg {
			t.Errorf("P12: Admit behind the last Read: %v, %d", l, e)
		}
		n.Promote(2)
	}
}
