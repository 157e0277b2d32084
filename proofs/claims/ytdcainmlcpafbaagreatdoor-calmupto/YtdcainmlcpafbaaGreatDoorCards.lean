/-
  DERIVED. GIVEN WITH THE SEED: THE CARDS: each row of YtdcainmlcpafbaaGreatDoorRows.lean that lists a variable, with what it lists TIED to the program's text (the seventh form; the later family's looks); each row that meets fmt, with fmt's text TOLD by the authors' own Lean function (tested against real Go, not proved from fmt's source: count such statements apart). THE CARD IS WHAT COUNTS. Prove the row's statement (the work); the ties are given (YtdcainmlcpafbaaGreatDoorTie.lean); close each card by the builder's one call (the guide's Derived/Test/ToyasCard.lean, 'card_holds'). Laid BY PROGRAM, IN A SANDBOX (cutbox-door.mjs). By AI agents, Wed Nov 11 2026. No macro, syntax, notation, axiom, sorry.
-/
import Derived.Test.YtdcainmlcpafbaaGreatDoorRows
import GoSem.ClaimSeven
namespace Go.Proofs.YtdcainmlcpafbaaGreatDoor
namespace Rows

/-- THE TIED CARD OF 'keystonelaw.Messages'. -/
def messagesCard : Claim7 := { stood := { row := messagesRow, standIns := [], harness := (true, "caacda64dae41264d542e4fb3f0aa844f7c0587dd36b70fed170dd06bcd763f9"), looks := false }, kinds := [], alts := [], laidByText := true, laidKinds := [.data, .data], laidTests := true, laidLooks := .later }
def MessagesCardSaid : Prop := Claim7.holds Tryz.pinned (.plain (OpenSpec.ofChange messagesSpec)) messagesCard

/-- THE TIED CARD OF 'keystonelaw.Followers'. -/
def followersCard : Claim7 := { stood := { row := followersRow, standIns := [], harness := (true, "caacda64dae41264d542e4fb3f0aa844f7c0587dd36b70fed170dd06bcd763f9"), looks := false }, kinds := [], alts := [], laidByText := true, laidKinds := [.data, .data], laidTests := true, laidLooks := .later }
def FollowersCardSaid : Prop := Claim7.holds Tryz.pinned (.plain (OpenSpec.ofChange followersSpec)) followersCard

/-- THE TIED CARD OF 'keystonelaw.Disks'. -/
def disksCard : Claim7 := { stood := { row := disksRow, standIns := [], harness := (true, "caacda64dae41264d542e4fb3f0aa844f7c0587dd36b70fed170dd06bcd763f9"), looks := false }, kinds := [], alts := [], laidByText := true, laidKinds := [.data, .data], laidTests := true, laidLooks := .later }
def DisksCardSaid : Prop := Claim7.holds Tryz.pinned (.plain (OpenSpec.ofChange disksSpec)) disksCard

/-- THE TIED CARD OF 'keystonelaw.Voters'. -/
def votersCard : Claim7 := { stood := { row := votersRow, standIns := [], harness := (true, "caacda64dae41264d542e4fb3f0aa844f7c0587dd36b70fed170dd06bcd763f9"), looks := false }, kinds := [], alts := [], laidByText := true, laidKinds := [.data, .data], laidTests := true, laidLooks := .later }
def VotersCardSaid : Prop := Claim7.holds Tryz.pinned (.plain (OpenSpec.ofChange votersSpec)) votersCard

/-- THE TIED CARD OF 'keystonelaw.Nodes'. -/
def nodesCard : Claim7 := { stood := { row := nodesRow, standIns := [], harness := (true, "caacda64dae41264d542e4fb3f0aa844f7c0587dd36b70fed170dd06bcd763f9"), looks := false }, kinds := [], alts := [], laidByText := true, laidKinds := [.data, .data], laidTests := true, laidLooks := .later }
def NodesCardSaid : Prop := Claim7.holds Tryz.pinned (.plain (OpenSpec.ofChange nodesSpec)) nodesCard

/-- THE TIED CARD OF 'keystonekeep.Agree'. -/
def agreeCard : Claim7 := { stood := { row := agreeRow, standIns := [], harness := (true, "caacda64dae41264d542e4fb3f0aa844f7c0587dd36b70fed170dd06bcd763f9"), looks := false }, kinds := [], alts := [], laidByText := true, laidKinds := [.data, .data], laidTests := true, laidLooks := .later }
def AgreeCardSaid : Prop := Claim7.holds Tryz.pinned (.plain (OpenSpec.ofChange agreeSpec)) agreeCard

/-- THE TIED CARD OF 'keystonekeep.Linear'. -/
def linearCard : Claim7 := { stood := { row := linearRow, standIns := [], harness := (true, "caacda64dae41264d542e4fb3f0aa844f7c0587dd36b70fed170dd06bcd763f9"), looks := false }, kinds := [], alts := [], laidByText := true, laidKinds := [.data, .data], laidTests := true, laidLooks := .later }
def LinearCardSaid : Prop := Claim7.holds Tryz.pinned (.plain (OpenSpec.ofChange linearSpec)) linearCard

/-- THE TIED CARD OF 'keystonekeep.Calm'. -/
def calmCard : Claim7 := { stood := { row := calmRow, standIns := [], harness := (true, "caacda64dae41264d542e4fb3f0aa844f7c0587dd36b70fed170dd06bcd763f9"), looks := false }, kinds := [], alts := [], laidByText := true, laidKinds := [.data, .data], laidTests := true, laidLooks := .later }
def CalmCardSaid : Prop := Claim7.holds Tryz.pinned (.plain (OpenSpec.ofChange calmSpec)) calmCard

/-- THE SECOND FORM's CARD OF 'keystonelaw.Messages'. -/
def messagesUptoCard : Claim7 := { stood := { row := messagesUptoRow, standIns := [], harness := (true, "caacda64dae41264d542e4fb3f0aa844f7c0587dd36b70fed170dd06bcd763f9"), looks := false }, kinds := [], alts := [], laidByText := true, laidKinds := [.data, .data], laidTests := true, laidLooks := .later }
def MessagesUptoCardSaid : Prop := Claim7.holds Tryz.pinned (.plain (OpenSpec.upto messagesSpec)) messagesUptoCard

/-- THE SECOND FORM's CARD OF 'keystonelaw.Followers'. -/
def followersUptoCard : Claim7 := { stood := { row := followersUptoRow, standIns := [], harness := (true, "caacda64dae41264d542e4fb3f0aa844f7c0587dd36b70fed170dd06bcd763f9"), looks := false }, kinds := [], alts := [], laidByText := true, laidKinds := [.data, .data], laidTests := true, laidLooks := .later }
def FollowersUptoCardSaid : Prop := Claim7.holds Tryz.pinned (.plain (OpenSpec.upto followersSpec)) followersUptoCard

/-- THE SECOND FORM's CARD OF 'keystonelaw.Disks'. -/
def disksUptoCard : Claim7 := { stood := { row := disksUptoRow, standIns := [], harness := (true, "caacda64dae41264d542e4fb3f0aa844f7c0587dd36b70fed170dd06bcd763f9"), looks := false }, kinds := [], alts := [], laidByText := true, laidKinds := [.data, .data], laidTests := true, laidLooks := .later }
def DisksUptoCardSaid : Prop := Claim7.holds Tryz.pinned (.plain (OpenSpec.upto disksSpec)) disksUptoCard

/-- THE SECOND FORM's CARD OF 'keystonelaw.Voters'. -/
def votersUptoCard : Claim7 := { stood := { row := votersUptoRow, standIns := [], harness := (true, "caacda64dae41264d542e4fb3f0aa844f7c0587dd36b70fed170dd06bcd763f9"), looks := false }, kinds := [], alts := [], laidByText := true, laidKinds := [.data, .data], laidTests := true, laidLooks := .later }
def VotersUptoCardSaid : Prop := Claim7.holds Tryz.pinned (.plain (OpenSpec.upto votersSpec)) votersUptoCard

/-- THE SECOND FORM's CARD OF 'keystonelaw.Nodes'. -/
def nodesUptoCard : Claim7 := { stood := { row := nodesUptoRow, standIns := [], harness := (true, "caacda64dae41264d542e4fb3f0aa844f7c0587dd36b70fed170dd06bcd763f9"), looks := false }, kinds := [], alts := [], laidByText := true, laidKinds := [.data, .data], laidTests := true, laidLooks := .later }
def NodesUptoCardSaid : Prop := Claim7.holds Tryz.pinned (.plain (OpenSpec.upto nodesSpec)) nodesUptoCard

/-- THE SECOND FORM's CARD OF 'keystonekeep.Agree'. -/
def agreeUptoCard : Claim7 := { stood := { row := agreeUptoRow, standIns := [], harness := (true, "caacda64dae41264d542e4fb3f0aa844f7c0587dd36b70fed170dd06bcd763f9"), looks := false }, kinds := [], alts := [], laidByText := true, laidKinds := [.data, .data], laidTests := true, laidLooks := .later }
def AgreeUptoCardSaid : Prop := Claim7.holds Tryz.pinned (.plain (OpenSpec.upto agreeSpec)) agreeUptoCard

/-- THE SECOND FORM's CARD OF 'keystonekeep.Linear'. -/
def linearUptoCard : Claim7 := { stood := { row := linearUptoRow, standIns := [], harness := (true, "caacda64dae41264d542e4fb3f0aa844f7c0587dd36b70fed170dd06bcd763f9"), looks := false }, kinds := [], alts := [], laidByText := true, laidKinds := [.data, .data], laidTests := true, laidLooks := .later }
def LinearUptoCardSaid : Prop := Claim7.holds Tryz.pinned (.plain (OpenSpec.upto linearSpec)) linearUptoCard

/-- THE SECOND FORM's CARD OF 'keystonekeep.Calm'. -/
def calmUptoCard : Claim7 := { stood := { row := calmUptoRow, standIns := [], harness := (true, "caacda64dae41264d542e4fb3f0aa844f7c0587dd36b70fed170dd06bcd763f9"), looks := false }, kinds := [], alts := [], laidByText := true, laidKinds := [.data, .data], laidTests := true, laidLooks := .later }
def CalmUptoCardSaid : Prop := Claim7.holds Tryz.pinned (.plain (OpenSpec.upto calmSpec)) calmUptoCard
end Rows
end Go.Proofs.YtdcainmlcpafbaaGreatDoor
