package keystone_test

import (
	"go/ast"
	"go/parser"
	"go/token"
	"go/types"
	"sync"
	"testing"

	"keystone/api"
	"keystone/keystone"
)

// TestEachCallTakesTheLock looks at the text: two calls seldom come so close that a lock is missed (the section 'Ways').
func TestEachCallTakesTheLock(t *testing.T) {
	file, err := parser.ParseFile(token.NewFileSet(), "keystone.go", nil, 0)
	if err != nil {
		t.Fatal(err)
	}
	calls := 0
	for _, d := range file.Decls {
		f, ok := d.(*ast.FuncDecl)
		if !ok || f.Recv == nil {
			continue
		}
		calls++
		if !takesTheLock(f.Body.List) {
			t.Errorf("%s does not take the lock first, or does not leave it", f.Name)
		}
	}
	if calls != 9 {
		t.Errorf("a node has %d calls, want 9", calls)
	}
}

func takesTheLock(body []ast.Stmt) bool {
	if len(body) < 2 {
		return false
	}
	lock, ok := body[0].(*ast.ExprStmt)
	unlock, also := body[1].(*ast.DeferStmt)
	return ok && also && types.ExprString(lock.X) == "n.lock.Lock()" && types.ExprString(unlock.Call) == "n.lock.Unlock()"
}

// TestCallsAtOnce: calls that come at once are each done whole: no two operations have a number or a sequence number in common, none is lost (P13, and the section 'Ways').
func TestCallsAtOnce(t *testing.T) {
	n := promoted(t, 0, 2, 2, 1)
	const workers, each = 8, 500
	var all sync.WaitGroup
	var lock sync.Mutex
	var results []api.Result
	numbers := map[int]int{}
	for w := range workers {
		all.Go(func() {
			for i := range each {
				number, l, e := operateOnce(n, w, i)
				n.Retry()
				n.Admit(0)
				done := n.Done()
				n.Records()
				lock.Lock()
				numbers[number]++
				results = append(results, done...)
				lock.Unlock()
				if len(l) > 0 || e != api.OK {
					t.Errorf("P13: an operation alone: %v, %d", told(l), e)
				}
			}
		})
	}
	all.Wait()
	results = append(results, n.Done()...)
	seqs := map[int]int{}
	for _, r := range results {
		seqs[r.Seq]++
		if r.Op != r.Seq || r.Epoch != 1 {
			t.Errorf("P13: the result %+v", r)
		}
	}
	for number := 1; number <= workers*each; number++ {
		if numbers[number] != 1 || seqs[number] != 1 {
			t.Fatalf("P13: operation %d was begun %d times and done %d times", number, numbers[number], seqs[number])
		}
	}
}

// operateOnce writes or reads.
func operateOnce(n *keystone.Node, w, i int) (int, []api.Packet, api.Errno) {
	if (w+i)%2 == 0 {
		return n.Read(w % 2)
	}
	return n.Write(w%2, i)
}

// TestPromotesAtOnce: of Promotes that come at once one begins, the others find it going on (P11, and the section 'Ways').
func TestPromotesAtOnce(t *testing.T) {
	for range 50 {
		n := newNode(t, 1, 3, 1)
		var all sync.WaitGroup
		errors := make([]api.Errno, 8)
		for i := range errors {
			all.Go(func() { _, errors[i] = n.Promote(2) })
		}
		all.Wait()
		count := map[api.Errno]int{}
		for _, e := range errors {
			count[e]++
		}
		if count[api.OK] != 1 || count[api.ErrBusy] != 7 {
			t.Fatalf("P11: Promotes at once: %v", errors)
		}
	}
}
