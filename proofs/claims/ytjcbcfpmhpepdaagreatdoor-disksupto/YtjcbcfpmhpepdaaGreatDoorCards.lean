/-
  DERIVED. GIVEN WITH THE SEED: THE CARDS: each row of YtjcbcfpmhpepdaaGreatDoorRows.lean that lists a variable, with what it lists TIED to the program's text (the seventh form; the later family's looks); each row that meets fmt, with fmt's text TOLD by the authors' own Lean function (tested against real Go, not proved from fmt's source: count such statements apart). THE CARD IS WHAT COUNTS. Prove the row's statement (the work); the ties are given (YtjcbcfpmhpepdaaGreatDoorTie.lean); close each card by the builder's one call (the guide's Derived/Test/ToyasCard.lean, 'card_holds'). Laid BY PROGRAM, IN A SANDBOX (cutbox-door.mjs). By AI agents, Wed Nov 11 2026. No macro, syntax, notation, axiom, sorry.
-/
import Derived.Test.YtjcbcfpmhpepdaaGreatDoorRows
import GoSem.ClaimSeven
namespace Go.Proofs.YtjcbcfpmhpepdaaGreatDoor
namespace Rows

/-- THE TIED CARD OF 'keystonelaw.Messages'. -/
def messagesCard : Claim7 := { stood := { row := messagesRow, standIns := [], harness := (true, "4a8e742756a7d334e97883fd543cbd8026200d34164281dc9077c45e685e9384"), looks := false }, kinds := [], alts := [], laidByText := true, laidKinds := [.data, .data], laidTests := true, laidLooks := .later }
def MessagesCardSaid : Prop := Claim7.holds Tryz.pinned (.plain (OpenSpec.ofChange messagesSpec)) messagesCard

/-- THE TIED CARD OF 'keystonelaw.Followers'. -/
def followersCard : Claim7 := { stood := { row := followersRow, standIns := [], harness := (true, "4a8e742756a7d334e97883fd543cbd8026200d34164281dc9077c45e685e9384"), looks := false }, kinds := [], alts := [], laidByText := true, laidKinds := [.data, .data], laidTests := true, laidLooks := .later }
def FollowersCardSaid : Prop := Claim7.holds Tryz.pinned (.plain (OpenSpec.ofChange followersSpec)) followersCard

/-- THE TIED CARD OF 'keystonelaw.Disks'. -/
def disksCard : Claim7 := { stood := { row := disksRow, standIns := [], harness := (true, "4a8e742756a7d334e97883fd543cbd8026200d34164281dc9077c45e685e9384"), looks := false }, kinds := [], alts := [], laidByText := true, laidKinds := [.data, .data], laidTests := true, laidLooks := .later }
def DisksCardSaid : Prop := Claim7.holds Tryz.pinned (.plain (OpenSpec.ofChange disksSpec)) disksCard

/-- THE TIED CARD OF 'keystonelaw.Voters'. -/
def votersCard : Claim7 := { stood := { row := votersRow, standIns := [], harness := (true, "4a8e742756a7d334e97883fd543cbd8026200d34164281dc9077c45e685e9384"), looks := false }, kinds := [], alts := [], laidByText := true, laidKinds := [.data, .data], laidTests := true, laidLooks := .later }
def VotersCardSaid : Prop := Claim7.holds Tryz.pinned (.plain (OpenSpec.ofChange votersSpec)) votersCard

/-- THE SECOND FORM's CARD OF 'keystonelaw.Messages'. -/
def messagesUptoCard : Claim7 := { stood := { row := messagesUptoRow, standIns := [], harness := (true, "4a8e742756a7d334e97883fd543cbd8026200d34164281dc9077c45e685e9384"), looks := false }, kinds := [], alts := [], laidByText := true, laidKinds := [.data, .data], laidTests := true, laidLooks := .later }
def MessagesUptoCardSaid : Prop := Claim7.holds Tryz.pinned (.plain (OpenSpec.upto messagesSpec)) messagesUptoCard

/-- THE SECOND FORM's CARD OF 'keystonelaw.Followers'. -/
def followersUptoCard : Claim7 := { stood := { row := followersUptoRow, standIns := [], harness := (true, "4a8e742756a7d334e97883fd543cbd8026200d34164281dc9077c45e685e9384"), looks := false }, kinds := [], alts := [], laidByText := true, laidKinds := [.data, .data], laidTests := true, laidLooks := .later }
def FollowersUptoCardSaid : Prop := Claim7.holds Tryz.pinned (.plain (OpenSpec.upto followersSpec)) followersUptoCard

/-- THE SECOND FORM's CARD OF 'keystonelaw.Disks'. -/
def disksUptoCard : Claim7 := { stood := { row := disksUptoRow, standIns := [], harness := (true, "4a8e742756a7d334e97883fd543cbd8026200d34164281dc9077c45e685e9384"), looks := false }, kinds := [], alts := [], laidByText := true, laidKinds := [.data, .data], laidTests := true, laidLooks := .later }
def DisksUptoCardSaid : Prop := Claim7.holds Tryz.pinned (.plain (OpenSpec.upto disksSpec)) disksUptoCard

/-- THE SECOND FORM's CARD OF 'keystonelaw.Voters'. -/
def votersUptoCard : Claim7 := { stood := { row := votersUptoRow, standIns := [], harness := (true, "4a8e742756a7d334e97883fd543cbd8026200d34164281dc9077c45e685e9384"), looks := false }, kinds := [], alts := [], laidByText := true, laidKinds := [.data, .data], laidTests := true, laidLooks := .later }
def VotersUptoCardSaid : Prop := Claim7.holds Tryz.pinned (.plain (OpenSpec.upto votersSpec)) votersUptoCard
end Rows
end Go.Proofs.YtjcbcfpmhpepdaaGreatDoor
