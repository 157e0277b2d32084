/-
  NARROWER THAN 'FOR EVERY INPUT', by the rows' own cells (each row's printed sentence says how): Messages: laid · Followers: laid · Disks: laid · Voters: laid · Nodes: laid · Agree: laid · Linear: laid · Calm: laid.
  DERIVED. THE GIVEN ROWS OF THIS SEAT. 8 by the template 'for every input the law returns true; each argument reads behind the call as it read before'; 0 by the template 'total and deterministic' (their statements: YtdcainmlcpafbaaGreatDoorTotals.lean).
  GIVEN WITH THE SEED: the statements are not yours to turn. If you find one false, say at which input.
  Laid BY PROGRAM, IN A SANDBOX (cutbox-rows.mjs): the forced cells as the released guide's own fill.sh prints them over the translation 650077b3d86973af… (all of the seat's roots in one cut). By AI agents, Wed Nov 11 2026. No macro, syntax, notation, axiom, sorry.
-/
import Derived.Test.YtdcainmlcpafbaaGreatDoorChecked
import GoSem.Claim
import GoSem.ClaimJoined
import GoSem.ClaimMapViews
import Derived.JoinedTies
import Derived.KernelRfl
namespace Go.Proofs.YtdcainmlcpafbaaGreatDoor
/- THE CELL 'sum', in the pinned program and in every row, IS THE sha256 OF THE DUMP (.gsa) THAT YtdcainmlcpafbaaGreatDoorProg.lean LOADS. Nothing in Lean hashes anything: it is a label: what it is worth is what the hold of that sum in a sandbox is worth. -/
noncomputable def Tryz.pinned : Pinned := { name := "ytdcainmlcpafbaagreatdoor", sum := "650077b3d86973af80ddad2c1b1c11878cbbac10695574030a856b7ff7736514", checked := Tryz.checked }
namespace Rows
def none {H : Type} : Left H := { results := [], args := [] }

/- WHAT THE LISTED PACKAGE-LEVEL VARIABLES READ AS WHEN THE CALL BEGINS. Each datum BY PROGRAM (the guide's laid-datum.mjs) off the statement by which the dump's own 'gosem.cut.vars' lays the variable. In a bare row this is a premise. The card (YtdcainmlcpafbaaGreatDoorCards.lean) ties it to the program's text. -/
def laid_keystone_wire_fieldsOf {H : Type} : DataW H := .agg [.agg [.lit (.int .i64 0), .lit (.int .i64 0), .lit (.int .i64 0), .lit (.int .i64 0), .lit (.int .i64 0)], .agg [.lit (.int .i64 1), .lit (.int .i64 2), .lit (.int .i64 0), .lit (.int .i64 0), .lit (.int .i64 0)], .agg [.lit (.int .i64 1), .lit (.int .i64 2), .lit (.int .i64 3), .lit (.int .i64 4), .lit (.int .i64 5)], .agg [.lit (.int .i64 1), .lit (.int .i64 2), .lit (.int .i64 4), .lit (.int .i64 5), .lit (.int .i64 0)], .agg [.lit (.int .i64 1), .lit (.int .i64 2), .lit (.int .i64 0), .lit (.int .i64 0), .lit (.int .i64 0)], .agg [.lit (.int .i64 1), .lit (.int .i64 2), .lit (.int .i64 3), .lit (.int .i64 0), .lit (.int .i64 0)], .agg [.lit (.int .i64 1), .lit (.int .i64 4), .lit (.int .i64 5), .lit (.int .i64 0), .lit (.int .i64 0)], .agg [.lit (.int .i64 1), .lit (.int .i64 6), .lit (.int .i64 7), .lit (.int .i64 8), .lit (.int .i64 0)], .agg [.lit (.int .i64 1), .lit (.int .i64 6), .lit (.int .i64 0), .lit (.int .i64 0), .lit (.int .i64 0)], .agg [.lit (.int .i64 1), .lit (.int .i64 6), .lit (.int .i64 9), .lit (.int .i64 0), .lit (.int .i64 0)], .agg [.lit (.int .i64 1), .lit (.int .i64 6), .lit (.int .i64 0), .lit (.int .i64 0), .lit (.int .i64 0)]]
def laid_keystone_wire_limitsOf {H : Type} : DataW H := .agg [.agg [.lit (.int .i64 0), .lit (.int .i64 0)], .agg [.lit (.int .i64 0), .lit (.int .i64 1000000000000)], .agg [.lit (.int .i64 0), .lit (.int .i64 1000000000000)], .agg [.lit (.int .i64 0), .lit (.int .i64 1000000000000)], .agg [.lit (.int .i64 0), .lit (.int .i64 5)], .agg [.lit (.int .i64 0), .lit (.int .i64 31)], .agg [.lit (.int .i64 0), .lit (.int .i64 1000000000000)], .agg [.lit (.int .i64 0), .lit (.int .i64 3)], .agg [.lit (.int .i64 (-9223372036854775808)), .lit (.int .i64 9223372036854775807)], .agg [.lit (.int .i64 0), .lit (.int .i64 4)]]

/-- 'keystonelaw.Messages': WHATEVER THE INPUT: true; the input reads as it did. -/
def messagesSpec : ChangeSpec := { name := "messages", fn := fun _ => fun
  | [d1, d2] => { results := [.lit (.bool true)], args := [d1, d2] }
  | _ => none }
def messagesRow : OpenClaim := { program := "ytdcainmlcpafbaagreatdoor", sum := "650077b3d86973af80ddad2c1b1c11878cbbac10695574030a856b7ff7736514", func := "keystone/keystonelaw.Messages", spec := "messages", inPlace := ["(*internal/sync.Mutex).Lock", "internal/race.Disable", "sync/atomic.CompareAndSwapInt32", "internal/race.Enable", "internal/race.Acquire", "(*internal/sync.Mutex).lockSlow", "internal/sync.runtime_canSpin", "internal/sync.runtime_doSpin", "internal/sync.throw", "internal/sync.runtime_nanotime", "internal/sync.runtime_SemacquireMutex", "sync/atomic.AddInt32", "(*internal/sync.Mutex).Unlock", "internal/race.ReleaseMerge", "(*internal/sync.Mutex).unlockSlow", "internal/sync.fatal", "internal/sync.runtime_Semrelease", "internal/abi.NoEscape"], unfollowed := true, recurses := true, named := ["keystone/wire.fieldsOf", "keystone/wire.limitsOf"], plainKeys := false, apart := false, laid := [("keystone/wire.fieldsOf", laid_keystone_wire_fieldsOf), ("keystone/wire.limitsOf", laid_keystone_wire_limitsOf)] }
def MessagesSaid : Prop := messagesRow.holds Tryz.pinned (OpenSpec.ofChange messagesSpec)

/-- ITS FALSE NEIGHBOUR: 'it returns false'. Refute it at one input. -/
def messagesWrong : ChangeSpec := { name := "messages", fn := fun _ => fun
  | [d1, d2] => { results := [.lit (.bool false)], args := [d1, d2] }
  | _ => none }
def MessagesWrongFalsely : Prop := messagesRow.holds Tryz.pinned (OpenSpec.ofChange messagesWrong)

/-- 'keystonelaw.Followers': WHATEVER THE INPUT: true; the input reads as it did. -/
def followersSpec : ChangeSpec := { name := "followers", fn := fun _ => fun
  | [d1, d2] => { results := [.lit (.bool true)], args := [d1, d2] }
  | _ => none }
def followersRow : OpenClaim := { program := "ytdcainmlcpafbaagreatdoor", sum := "650077b3d86973af80ddad2c1b1c11878cbbac10695574030a856b7ff7736514", func := "keystone/keystonelaw.Followers", spec := "followers", inPlace := ["(*internal/sync.Mutex).Lock", "internal/race.Disable", "sync/atomic.CompareAndSwapInt32", "internal/race.Enable", "internal/race.Acquire", "(*internal/sync.Mutex).lockSlow", "internal/sync.runtime_canSpin", "internal/sync.runtime_doSpin", "internal/sync.throw", "internal/sync.runtime_nanotime", "internal/sync.runtime_SemacquireMutex", "sync/atomic.AddInt32", "(*internal/sync.Mutex).Unlock", "internal/race.ReleaseMerge", "(*internal/sync.Mutex).unlockSlow", "internal/sync.fatal", "internal/sync.runtime_Semrelease", "internal/abi.NoEscape"], unfollowed := true, recurses := true, named := ["keystone/wire.fieldsOf", "keystone/wire.limitsOf"], plainKeys := false, apart := false, laid := [("keystone/wire.fieldsOf", laid_keystone_wire_fieldsOf), ("keystone/wire.limitsOf", laid_keystone_wire_limitsOf)] }
def FollowersSaid : Prop := followersRow.holds Tryz.pinned (OpenSpec.ofChange followersSpec)

/-- ITS FALSE NEIGHBOUR: 'it returns false'. Refute it at one input. -/
def followersWrong : ChangeSpec := { name := "followers", fn := fun _ => fun
  | [d1, d2] => { results := [.lit (.bool false)], args := [d1, d2] }
  | _ => none }
def FollowersWrongFalsely : Prop := followersRow.holds Tryz.pinned (OpenSpec.ofChange followersWrong)

/-- 'keystonelaw.Disks': WHATEVER THE INPUT: true; the input reads as it did. -/
def disksSpec : ChangeSpec := { name := "disks", fn := fun _ => fun
  | [d] => { results := [.lit (.bool true)], args := [d] }
  | _ => none }
def disksRow : OpenClaim := { program := "ytdcainmlcpafbaagreatdoor", sum := "650077b3d86973af80ddad2c1b1c11878cbbac10695574030a856b7ff7736514", func := "keystone/keystonelaw.Disks", spec := "disks", inPlace := ["(*internal/sync.Mutex).Lock", "internal/race.Disable", "sync/atomic.CompareAndSwapInt32", "internal/race.Enable", "internal/race.Acquire", "(*internal/sync.Mutex).lockSlow", "internal/sync.runtime_canSpin", "internal/sync.runtime_doSpin", "internal/sync.throw", "internal/sync.runtime_nanotime", "internal/sync.runtime_SemacquireMutex", "sync/atomic.AddInt32", "(*internal/sync.Mutex).Unlock", "internal/race.ReleaseMerge", "(*internal/sync.Mutex).unlockSlow", "internal/sync.fatal", "internal/sync.runtime_Semrelease", "internal/abi.NoEscape"], unfollowed := true, recurses := true, named := ["keystone/wire.fieldsOf", "keystone/wire.limitsOf"], plainKeys := false, apart := false, laid := [("keystone/wire.fieldsOf", laid_keystone_wire_fieldsOf), ("keystone/wire.limitsOf", laid_keystone_wire_limitsOf)] }
def DisksSaid : Prop := disksRow.holds Tryz.pinned (OpenSpec.ofChange disksSpec)

/-- ITS FALSE NEIGHBOUR: 'it returns false'. Refute it at one input. -/
def disksWrong : ChangeSpec := { name := "disks", fn := fun _ => fun
  | [d] => { results := [.lit (.bool false)], args := [d] }
  | _ => none }
def DisksWrongFalsely : Prop := disksRow.holds Tryz.pinned (OpenSpec.ofChange disksWrong)

/-- 'keystonelaw.Voters': WHATEVER THE INPUT: true; the input reads as it did. -/
def votersSpec : ChangeSpec := { name := "voters", fn := fun _ => fun
  | [d1, d2] => { results := [.lit (.bool true)], args := [d1, d2] }
  | _ => none }
def votersRow : OpenClaim := { program := "ytdcainmlcpafbaagreatdoor", sum := "650077b3d86973af80ddad2c1b1c11878cbbac10695574030a856b7ff7736514", func := "keystone/keystonelaw.Voters", spec := "voters", inPlace := ["(*internal/sync.Mutex).Lock", "internal/race.Disable", "sync/atomic.CompareAndSwapInt32", "internal/race.Enable", "internal/race.Acquire", "(*internal/sync.Mutex).lockSlow", "internal/sync.runtime_canSpin", "internal/sync.runtime_doSpin", "internal/sync.throw", "internal/sync.runtime_nanotime", "internal/sync.runtime_SemacquireMutex", "sync/atomic.AddInt32", "(*internal/sync.Mutex).Unlock", "internal/race.ReleaseMerge", "(*internal/sync.Mutex).unlockSlow", "internal/sync.fatal", "internal/sync.runtime_Semrelease", "internal/abi.NoEscape"], unfollowed := true, recurses := true, named := ["keystone/wire.fieldsOf", "keystone/wire.limitsOf"], plainKeys := false, apart := false, laid := [("keystone/wire.fieldsOf", laid_keystone_wire_fieldsOf), ("keystone/wire.limitsOf", laid_keystone_wire_limitsOf)] }
def VotersSaid : Prop := votersRow.holds Tryz.pinned (OpenSpec.ofChange votersSpec)

/-- ITS FALSE NEIGHBOUR: 'it returns false'. Refute it at one input. -/
def votersWrong : ChangeSpec := { name := "voters", fn := fun _ => fun
  | [d1, d2] => { results := [.lit (.bool false)], args := [d1, d2] }
  | _ => none }
def VotersWrongFalsely : Prop := votersRow.holds Tryz.pinned (OpenSpec.ofChange votersWrong)

/-- 'keystonelaw.Nodes': WHATEVER THE INPUT: true; the input reads as it did. -/
def nodesSpec : ChangeSpec := { name := "nodes", fn := fun _ => fun
  | [d1, d2] => { results := [.lit (.bool true)], args := [d1, d2] }
  | _ => none }
def nodesRow : OpenClaim := { program := "ytdcainmlcpafbaagreatdoor", sum := "650077b3d86973af80ddad2c1b1c11878cbbac10695574030a856b7ff7736514", func := "keystone/keystonelaw.Nodes", spec := "nodes", inPlace := ["(*internal/sync.Mutex).Lock", "internal/race.Disable", "sync/atomic.CompareAndSwapInt32", "internal/race.Enable", "internal/race.Acquire", "(*internal/sync.Mutex).lockSlow", "internal/sync.runtime_canSpin", "internal/sync.runtime_doSpin", "internal/sync.throw", "internal/sync.runtime_nanotime", "internal/sync.runtime_SemacquireMutex", "sync/atomic.AddInt32", "(*internal/sync.Mutex).Unlock", "internal/race.ReleaseMerge", "(*internal/sync.Mutex).unlockSlow", "internal/sync.fatal", "internal/sync.runtime_Semrelease", "internal/abi.NoEscape"], unfollowed := true, recurses := true, named := ["keystone/wire.fieldsOf", "keystone/wire.limitsOf"], plainKeys := false, apart := false, laid := [("keystone/wire.fieldsOf", laid_keystone_wire_fieldsOf), ("keystone/wire.limitsOf", laid_keystone_wire_limitsOf)] }
def NodesSaid : Prop := nodesRow.holds Tryz.pinned (OpenSpec.ofChange nodesSpec)

/-- ITS FALSE NEIGHBOUR: 'it returns false'. Refute it at one input. -/
def nodesWrong : ChangeSpec := { name := "nodes", fn := fun _ => fun
  | [d1, d2] => { results := [.lit (.bool false)], args := [d1, d2] }
  | _ => none }
def NodesWrongFalsely : Prop := nodesRow.holds Tryz.pinned (OpenSpec.ofChange nodesWrong)

/-- 'keystonekeep.Agree': WHATEVER THE INPUT: true; the input reads as it did. -/
def agreeSpec : ChangeSpec := { name := "agree", fn := fun _ => fun
  | [d1, d2] => { results := [.lit (.bool true)], args := [d1, d2] }
  | _ => none }
def agreeRow : OpenClaim := { program := "ytdcainmlcpafbaagreatdoor", sum := "650077b3d86973af80ddad2c1b1c11878cbbac10695574030a856b7ff7736514", func := "keystone/keystonekeep.Agree", spec := "agree", inPlace := ["(*internal/sync.Mutex).Lock", "internal/race.Disable", "sync/atomic.CompareAndSwapInt32", "internal/race.Enable", "internal/race.Acquire", "(*internal/sync.Mutex).lockSlow", "internal/sync.runtime_canSpin", "internal/sync.runtime_doSpin", "internal/sync.throw", "internal/sync.runtime_nanotime", "internal/sync.runtime_SemacquireMutex", "sync/atomic.AddInt32", "(*internal/sync.Mutex).Unlock", "internal/race.ReleaseMerge", "(*internal/sync.Mutex).unlockSlow", "internal/sync.fatal", "internal/sync.runtime_Semrelease", "internal/abi.NoEscape"], unfollowed := true, recurses := true, named := ["keystone/wire.fieldsOf", "keystone/wire.limitsOf"], plainKeys := false, apart := false, laid := [("keystone/wire.fieldsOf", laid_keystone_wire_fieldsOf), ("keystone/wire.limitsOf", laid_keystone_wire_limitsOf)] }
def AgreeSaid : Prop := agreeRow.holds Tryz.pinned (OpenSpec.ofChange agreeSpec)

/-- ITS FALSE NEIGHBOUR: 'it returns false'. Refute it at one input. -/
def agreeWrong : ChangeSpec := { name := "agree", fn := fun _ => fun
  | [d1, d2] => { results := [.lit (.bool false)], args := [d1, d2] }
  | _ => none }
def AgreeWrongFalsely : Prop := agreeRow.holds Tryz.pinned (OpenSpec.ofChange agreeWrong)

/-- 'keystonekeep.Linear': WHATEVER THE INPUT: true; the input reads as it did. -/
def linearSpec : ChangeSpec := { name := "linear", fn := fun _ => fun
  | [d1, d2] => { results := [.lit (.bool true)], args := [d1, d2] }
  | _ => none }
def linearRow : OpenClaim := { program := "ytdcainmlcpafbaagreatdoor", sum := "650077b3d86973af80ddad2c1b1c11878cbbac10695574030a856b7ff7736514", func := "keystone/keystonekeep.Linear", spec := "linear", inPlace := ["(*internal/sync.Mutex).Lock", "internal/race.Disable", "sync/atomic.CompareAndSwapInt32", "internal/race.Enable", "internal/race.Acquire", "(*internal/sync.Mutex).lockSlow", "internal/sync.runtime_canSpin", "internal/sync.runtime_doSpin", "internal/sync.throw", "internal/sync.runtime_nanotime", "internal/sync.runtime_SemacquireMutex", "sync/atomic.AddInt32", "(*internal/sync.Mutex).Unlock", "internal/race.ReleaseMerge", "(*internal/sync.Mutex).unlockSlow", "internal/sync.fatal", "internal/sync.runtime_Semrelease", "internal/abi.NoEscape"], unfollowed := true, recurses := true, named := ["keystone/wire.fieldsOf", "keystone/wire.limitsOf"], plainKeys := false, apart := false, laid := [("keystone/wire.fieldsOf", laid_keystone_wire_fieldsOf), ("keystone/wire.limitsOf", laid_keystone_wire_limitsOf)] }
def LinearSaid : Prop := linearRow.holds Tryz.pinned (OpenSpec.ofChange linearSpec)

/-- ITS FALSE NEIGHBOUR: 'it returns false'. Refute it at one input. -/
def linearWrong : ChangeSpec := { name := "linear", fn := fun _ => fun
  | [d1, d2] => { results := [.lit (.bool false)], args := [d1, d2] }
  | _ => none }
def LinearWrongFalsely : Prop := linearRow.holds Tryz.pinned (OpenSpec.ofChange linearWrong)

/-- 'keystonekeep.Calm': WHATEVER THE INPUT: true; the input reads as it did. -/
def calmSpec : ChangeSpec := { name := "calm", fn := fun _ => fun
  | [d1, d2, d3] => { results := [.lit (.bool true)], args := [d1, d2, d3] }
  | _ => none }
def calmRow : OpenClaim := { program := "ytdcainmlcpafbaagreatdoor", sum := "650077b3d86973af80ddad2c1b1c11878cbbac10695574030a856b7ff7736514", func := "keystone/keystonekeep.Calm", spec := "calm", inPlace := ["(*internal/sync.Mutex).Lock", "internal/race.Disable", "sync/atomic.CompareAndSwapInt32", "internal/race.Enable", "internal/race.Acquire", "(*internal/sync.Mutex).lockSlow", "internal/sync.runtime_canSpin", "internal/sync.runtime_doSpin", "internal/sync.throw", "internal/sync.runtime_nanotime", "internal/sync.runtime_SemacquireMutex", "sync/atomic.AddInt32", "(*internal/sync.Mutex).Unlock", "internal/race.ReleaseMerge", "(*internal/sync.Mutex).unlockSlow", "internal/sync.fatal", "internal/sync.runtime_Semrelease", "internal/abi.NoEscape"], unfollowed := true, recurses := true, named := ["keystone/wire.fieldsOf", "keystone/wire.limitsOf"], plainKeys := false, apart := false, laid := [("keystone/wire.fieldsOf", laid_keystone_wire_fieldsOf), ("keystone/wire.limitsOf", laid_keystone_wire_limitsOf)] }
def CalmSaid : Prop := calmRow.holds Tryz.pinned (OpenSpec.ofChange calmSpec)

/-- ITS FALSE NEIGHBOUR: 'it returns false'. Refute it at one input. -/
def calmWrong : ChangeSpec := { name := "calm", fn := fun _ => fun
  | [d1, d2, d3] => { results := [.lit (.bool false)], args := [d1, d2, d3] }
  | _ => none }
def CalmWrongFalsely : Prop := calmRow.holds Tryz.pinned (OpenSpec.ofChange calmWrong)

/- THE SECOND FORM. 'bulk': how many values and letters a reading holds, each counted each time it is reached (what is shared counts as often as it is met; a slice's spare places count too). A statement '..UptoSaid' is the law's where the arguments, and the package variables that the reading takes, are together of bulk at most 1048576: NARROWER than '..Said'. Prove '..Said' where nothing that the law and all that it calls make is longer than what came in: it says more and counts as full. Else prove '..UptoSaid'. A law counts once. -/
mutual
def uptoBulk {H : Type} : DataW H → Nat
  | .lit (.string bytes) => bytes.length + 1
  | .lit _ => 1
  | .nil => 1
  | .ptr d => uptoBulk d + 1
  | .slice elems spare => uptoBulkAll elems + uptoBulkAll spare + 1
  | .agg parts => uptoBulkAll parts + 1
  | .iface _ d => uptoBulk d + 1
  | .map entries => uptoBulkEntries entries + 1
  | .held _ => 1
def uptoBulkAll {H : Type} : List (DataW H) → Nat
  | [] => 0
  | d :: r => uptoBulk d + uptoBulkAll r
def uptoBulkEntries {H : Type} : List (Lit × DataW H) → Nat
  | [] => 0
  | x :: r => uptoBulkEntry x + uptoBulkEntries r
def uptoBulkEntry {H : Type} : Lit × DataW H → Nat
  | (.string bytes, d) => bytes.length + uptoBulk d + 1
  | (_, d) => uptoBulk d + 1
 end
def uptoSmall : (H : Type) → List (DataW H) → Bool := fun _ ds => decide (uptoBulkAll ds ≤ 1048576)
def OpenSpec.upto (s : _root_.Go.ChangeSpec) : _root_.Go.OpenSpec := { _root_.Go.OpenSpec.ofChange s with cond := some uptoSmall }

/-- 'keystonelaw.Messages', WHERE WHAT IT READS IS OF BULK AT MOST 1048576: true; the input reads as it did. -/
def messagesUptoRow : OpenClaim := { program := "ytdcainmlcpafbaagreatdoor", sum := "650077b3d86973af80ddad2c1b1c11878cbbac10695574030a856b7ff7736514", func := "keystone/keystonelaw.Messages", spec := "messages", inPlace := ["(*internal/sync.Mutex).Lock", "internal/race.Disable", "sync/atomic.CompareAndSwapInt32", "internal/race.Enable", "internal/race.Acquire", "(*internal/sync.Mutex).lockSlow", "internal/sync.runtime_canSpin", "internal/sync.runtime_doSpin", "internal/sync.throw", "internal/sync.runtime_nanotime", "internal/sync.runtime_SemacquireMutex", "sync/atomic.AddInt32", "(*internal/sync.Mutex).Unlock", "internal/race.ReleaseMerge", "(*internal/sync.Mutex).unlockSlow", "internal/sync.fatal", "internal/sync.runtime_Semrelease", "internal/abi.NoEscape"], unfollowed := true, recurses := true, named := ["keystone/wire.fieldsOf", "keystone/wire.limitsOf"], plainKeys := false, apart := false, laid := [("keystone/wire.fieldsOf", laid_keystone_wire_fieldsOf), ("keystone/wire.limitsOf", laid_keystone_wire_limitsOf)], narrowed := true }
def MessagesUptoSaid : Prop := messagesUptoRow.holds Tryz.pinned (OpenSpec.upto messagesSpec)

/-- 'keystonelaw.Followers', WHERE WHAT IT READS IS OF BULK AT MOST 1048576: true; the input reads as it did. -/
def followersUptoRow : OpenClaim := { program := "ytdcainmlcpafbaagreatdoor", sum := "650077b3d86973af80ddad2c1b1c11878cbbac10695574030a856b7ff7736514", func := "keystone/keystonelaw.Followers", spec := "followers", inPlace := ["(*internal/sync.Mutex).Lock", "internal/race.Disable", "sync/atomic.CompareAndSwapInt32", "internal/race.Enable", "internal/race.Acquire", "(*internal/sync.Mutex).lockSlow", "internal/sync.runtime_canSpin", "internal/sync.runtime_doSpin", "internal/sync.throw", "internal/sync.runtime_nanotime", "internal/sync.runtime_SemacquireMutex", "sync/atomic.AddInt32", "(*internal/sync.Mutex).Unlock", "internal/race.ReleaseMerge", "(*internal/sync.Mutex).unlockSlow", "internal/sync.fatal", "internal/sync.runtime_Semrelease", "internal/abi.NoEscape"], unfollowed := true, recurses := true, named := ["keystone/wire.fieldsOf", "keystone/wire.limitsOf"], plainKeys := false, apart := false, laid := [("keystone/wire.fieldsOf", laid_keystone_wire_fieldsOf), ("keystone/wire.limitsOf", laid_keystone_wire_limitsOf)], narrowed := true }
def FollowersUptoSaid : Prop := followersUptoRow.holds Tryz.pinned (OpenSpec.upto followersSpec)

/-- 'keystonelaw.Disks', WHERE WHAT IT READS IS OF BULK AT MOST 1048576: true; the input reads as it did. -/
def disksUptoRow : OpenClaim := { program := "ytdcainmlcpafbaagreatdoor", sum := "650077b3d86973af80ddad2c1b1c11878cbbac10695574030a856b7ff7736514", func := "keystone/keystonelaw.Disks", spec := "disks", inPlace := ["(*internal/sync.Mutex).Lock", "internal/race.Disable", "sync/atomic.CompareAndSwapInt32", "internal/race.Enable", "internal/race.Acquire", "(*internal/sync.Mutex).lockSlow", "internal/sync.runtime_canSpin", "internal/sync.runtime_doSpin", "internal/sync.throw", "internal/sync.runtime_nanotime", "internal/sync.runtime_SemacquireMutex", "sync/atomic.AddInt32", "(*internal/sync.Mutex).Unlock", "internal/race.ReleaseMerge", "(*internal/sync.Mutex).unlockSlow", "internal/sync.fatal", "internal/sync.runtime_Semrelease", "internal/abi.NoEscape"], unfollowed := true, recurses := true, named := ["keystone/wire.fieldsOf", "keystone/wire.limitsOf"], plainKeys := false, apart := false, laid := [("keystone/wire.fieldsOf", laid_keystone_wire_fieldsOf), ("keystone/wire.limitsOf", laid_keystone_wire_limitsOf)], narrowed := true }
def DisksUptoSaid : Prop := disksUptoRow.holds Tryz.pinned (OpenSpec.upto disksSpec)

/-- 'keystonelaw.Voters', WHERE WHAT IT READS IS OF BULK AT MOST 1048576: true; the input reads as it did. -/
def votersUptoRow : OpenClaim := { program := "ytdcainmlcpafbaagreatdoor", sum := "650077b3d86973af80ddad2c1b1c11878cbbac10695574030a856b7ff7736514", func := "keystone/keystonelaw.Voters", spec := "voters", inPlace := ["(*internal/sync.Mutex).Lock", "internal/race.Disable", "sync/atomic.CompareAndSwapInt32", "internal/race.Enable", "internal/race.Acquire", "(*internal/sync.Mutex).lockSlow", "internal/sync.runtime_canSpin", "internal/sync.runtime_doSpin", "internal/sync.throw", "internal/sync.runtime_nanotime", "internal/sync.runtime_SemacquireMutex", "sync/atomic.AddInt32", "(*internal/sync.Mutex).Unlock", "internal/race.ReleaseMerge", "(*internal/sync.Mutex).unlockSlow", "internal/sync.fatal", "internal/sync.runtime_Semrelease", "internal/abi.NoEscape"], unfollowed := true, recurses := true, named := ["keystone/wire.fieldsOf", "keystone/wire.limitsOf"], plainKeys := false, apart := false, laid := [("keystone/wire.fieldsOf", laid_keystone_wire_fieldsOf), ("keystone/wire.limitsOf", laid_keystone_wire_limitsOf)], narrowed := true }
def VotersUptoSaid : Prop := votersUptoRow.holds Tryz.pinned (OpenSpec.upto votersSpec)

/-- 'keystonelaw.Nodes', WHERE WHAT IT READS IS OF BULK AT MOST 1048576: true; the input reads as it did. -/
def nodesUptoRow : OpenClaim := { program := "ytdcainmlcpafbaagreatdoor", sum := "650077b3d86973af80ddad2c1b1c11878cbbac10695574030a856b7ff7736514", func := "keystone/keystonelaw.Nodes", spec := "nodes", inPlace := ["(*internal/sync.Mutex).Lock", "internal/race.Disable", "sync/atomic.CompareAndSwapInt32", "internal/race.Enable", "internal/race.Acquire", "(*internal/sync.Mutex).lockSlow", "internal/sync.runtime_canSpin", "internal/sync.runtime_doSpin", "internal/sync.throw", "internal/sync.runtime_nanotime", "internal/sync.runtime_SemacquireMutex", "sync/atomic.AddInt32", "(*internal/sync.Mutex).Unlock", "internal/race.ReleaseMerge", "(*internal/sync.Mutex).unlockSlow", "internal/sync.fatal", "internal/sync.runtime_Semrelease", "internal/abi.NoEscape"], unfollowed := true, recurses := true, named := ["keystone/wire.fieldsOf", "keystone/wire.limitsOf"], plainKeys := false, apart := false, laid := [("keystone/wire.fieldsOf", laid_keystone_wire_fieldsOf), ("keystone/wire.limitsOf", laid_keystone_wire_limitsOf)], narrowed := true }
def NodesUptoSaid : Prop := nodesUptoRow.holds Tryz.pinned (OpenSpec.upto nodesSpec)

/-- 'keystonekeep.Agree', WHERE WHAT IT READS IS OF BULK AT MOST 1048576: true; the input reads as it did. -/
def agreeUptoRow : OpenClaim := { program := "ytdcainmlcpafbaagreatdoor", sum := "650077b3d86973af80ddad2c1b1c11878cbbac10695574030a856b7ff7736514", func := "keystone/keystonekeep.Agree", spec := "agree", inPlace := ["(*internal/sync.Mutex).Lock", "internal/race.Disable", "sync/atomic.CompareAndSwapInt32", "internal/race.Enable", "internal/race.Acquire", "(*internal/sync.Mutex).lockSlow", "internal/sync.runtime_canSpin", "internal/sync.runtime_doSpin", "internal/sync.throw", "internal/sync.runtime_nanotime", "internal/sync.runtime_SemacquireMutex", "sync/atomic.AddInt32", "(*internal/sync.Mutex).Unlock", "internal/race.ReleaseMerge", "(*internal/sync.Mutex).unlockSlow", "internal/sync.fatal", "internal/sync.runtime_Semrelease", "internal/abi.NoEscape"], unfollowed := true, recurses := true, named := ["keystone/wire.fieldsOf", "keystone/wire.limitsOf"], plainKeys := false, apart := false, laid := [("keystone/wire.fieldsOf", laid_keystone_wire_fieldsOf), ("keystone/wire.limitsOf", laid_keystone_wire_limitsOf)], narrowed := true }
def AgreeUptoSaid : Prop := agreeUptoRow.holds Tryz.pinned (OpenSpec.upto agreeSpec)

/-- 'keystonekeep.Linear', WHERE WHAT IT READS IS OF BULK AT MOST 1048576: true; the input reads as it did. -/
def linearUptoRow : OpenClaim := { program := "ytdcainmlcpafbaagreatdoor", sum := "650077b3d86973af80ddad2c1b1c11878cbbac10695574030a856b7ff7736514", func := "keystone/keystonekeep.Linear", spec := "linear", inPlace := ["(*internal/sync.Mutex).Lock", "internal/race.Disable", "sync/atomic.CompareAndSwapInt32", "internal/race.Enable", "internal/race.Acquire", "(*internal/sync.Mutex).lockSlow", "internal/sync.runtime_canSpin", "internal/sync.runtime_doSpin", "internal/sync.throw", "internal/sync.runtime_nanotime", "internal/sync.runtime_SemacquireMutex", "sync/atomic.AddInt32", "(*internal/sync.Mutex).Unlock", "internal/race.ReleaseMerge", "(*internal/sync.Mutex).unlockSlow", "internal/sync.fatal", "internal/sync.runtime_Semrelease", "internal/abi.NoEscape"], unfollowed := true, recurses := true, named := ["keystone/wire.fieldsOf", "keystone/wire.limitsOf"], plainKeys := false, apart := false, laid := [("keystone/wire.fieldsOf", laid_keystone_wire_fieldsOf), ("keystone/wire.limitsOf", laid_keystone_wire_limitsOf)], narrowed := true }
def LinearUptoSaid : Prop := linearUptoRow.holds Tryz.pinned (OpenSpec.upto linearSpec)

/-- 'keystonekeep.Calm', WHERE WHAT IT READS IS OF BULK AT MOST 1048576: true; the input reads as it did. -/
def calmUptoRow : OpenClaim := { program := "ytdcainmlcpafbaagreatdoor", sum := "650077b3d86973af80ddad2c1b1c11878cbbac10695574030a856b7ff7736514", func := "keystone/keystonekeep.Calm", spec := "calm", inPlace := ["(*internal/sync.Mutex).Lock", "internal/race.Disable", "sync/atomic.CompareAndSwapInt32", "internal/race.Enable", "internal/race.Acquire", "(*internal/sync.Mutex).lockSlow", "internal/sync.runtime_canSpin", "internal/sync.runtime_doSpin", "internal/sync.throw", "internal/sync.runtime_nanotime", "internal/sync.runtime_SemacquireMutex", "sync/atomic.AddInt32", "(*internal/sync.Mutex).Unlock", "internal/race.ReleaseMerge", "(*internal/sync.Mutex).unlockSlow", "internal/sync.fatal", "internal/sync.runtime_Semrelease", "internal/abi.NoEscape"], unfollowed := true, recurses := true, named := ["keystone/wire.fieldsOf", "keystone/wire.limitsOf"], plainKeys := false, apart := false, laid := [("keystone/wire.fieldsOf", laid_keystone_wire_fieldsOf), ("keystone/wire.limitsOf", laid_keystone_wire_limitsOf)], narrowed := true }
def CalmUptoSaid : Prop := calmUptoRow.holds Tryz.pinned (OpenSpec.upto calmSpec)

end Rows
end Go.Proofs.YtdcainmlcpafbaaGreatDoor
