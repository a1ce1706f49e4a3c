/-
  DERIVED. GIVEN WITH THE SEED: THE CARDS: each row of YtlhlchccbphdgaaGreatDoorRows.lean that lists a variable, with what it lists TIED to the program's text (the seventh form; the later family's looks); each row that meets fmt, with fmt's text TOLD by the authors' own Lean function (tested against real Go, not proved from fmt's source: count such statements apart). THE CARD IS WHAT COUNTS. Prove the row's statement (the work); the ties are given (YtlhlchccbphdgaaGreatDoorTie.lean); close each card by the builder's one call (the guide's Derived/Test/ToyasCard.lean, 'card_holds'). Laid BY PROGRAM, IN A SANDBOX (cutbox-door.mjs). By AI agents, Wed Nov 11 2026. No macro, syntax, notation, axiom, sorry.
-/
import Derived.Test.YtlhlchccbphdgaaGreatDoorRows
import GoSem.ClaimSeven
namespace Go.Proofs.YtlhlchccbphdgaaGreatDoor
namespace Rows

/-- THE TIED CARD OF 'choruslaw.News'. -/
def newsCard : Claim7 := { stood := { row := newsRow, standIns := [], harness := (true, "14de2145ad722f0cf0ca8e51ee3bd3259ee0aae0b6c41be3353de25653c3d354"), looks := false }, kinds := [], alts := [], laidByText := true, laidKinds := [.data, .data], laidTests := true, laidLooks := .later }
def NewsCardSaid : Prop := Claim7.holds Tryz.pinned (.plain (OpenSpec.ofChange newsSpec)) newsCard

/-- THE TIED CARD OF 'choruslaw.Casts'. -/
def castsCard : Claim7 := { stood := { row := castsRow, standIns := [], harness := (true, "14de2145ad722f0cf0ca8e51ee3bd3259ee0aae0b6c41be3353de25653c3d354"), looks := false }, kinds := [], alts := [], laidByText := true, laidKinds := [.data, .data], laidTests := true, laidLooks := .later }
def CastsCardSaid : Prop := Claim7.holds Tryz.pinned (.plain (OpenSpec.ofChange castsSpec)) castsCard

/-- THE TIED CARD OF 'choruslaw.Views'. -/
def viewsCard : Claim7 := { stood := { row := viewsRow, standIns := [], harness := (true, "14de2145ad722f0cf0ca8e51ee3bd3259ee0aae0b6c41be3353de25653c3d354"), looks := false }, kinds := [], alts := [], laidByText := true, laidKinds := [.data, .data], laidTests := true, laidLooks := .later }
def ViewsCardSaid : Prop := Claim7.holds Tryz.pinned (.plain (OpenSpec.ofChange viewsSpec)) viewsCard

/-- THE TIED CARD OF 'choruslaw.Apart'. -/
def apartCard : Claim7 := { stood := { row := apartRow, standIns := [], harness := (true, "14de2145ad722f0cf0ca8e51ee3bd3259ee0aae0b6c41be3353de25653c3d354"), looks := false }, kinds := [], alts := [], laidByText := true, laidKinds := [.data, .data], laidTests := true, laidLooks := .later }
def ApartCardSaid : Prop := Claim7.holds Tryz.pinned (.plain (OpenSpec.ofChange apartSpec)) apartCard

/-- THE SECOND FORM's CARD OF 'choruslaw.News'. -/
def newsUptoCard : Claim7 := { stood := { row := newsUptoRow, standIns := [], harness := (true, "14de2145ad722f0cf0ca8e51ee3bd3259ee0aae0b6c41be3353de25653c3d354"), looks := false }, kinds := [], alts := [], laidByText := true, laidKinds := [.data, .data], laidTests := true, laidLooks := .later }
def NewsUptoCardSaid : Prop := Claim7.holds Tryz.pinned (.plain (OpenSpec.upto newsSpec)) newsUptoCard

/-- THE SECOND FORM's CARD OF 'choruslaw.Casts'. -/
def castsUptoCard : Claim7 := { stood := { row := castsUptoRow, standIns := [], harness := (true, "14de2145ad722f0cf0ca8e51ee3bd3259ee0aae0b6c41be3353de25653c3d354"), looks := false }, kinds := [], alts := [], laidByText := true, laidKinds := [.data, .data], laidTests := true, laidLooks := .later }
def CastsUptoCardSaid : Prop := Claim7.holds Tryz.pinned (.plain (OpenSpec.upto castsSpec)) castsUptoCard

/-- THE SECOND FORM's CARD OF 'choruslaw.Views'. -/
def viewsUptoCard : Claim7 := { stood := { row := viewsUptoRow, standIns := [], harness := (true, "14de2145ad722f0cf0ca8e51ee3bd3259ee0aae0b6c41be3353de25653c3d354"), looks := false }, kinds := [], alts := [], laidByText := true, laidKinds := [.data, .data], laidTests := true, laidLooks := .later }
def ViewsUptoCardSaid : Prop := Claim7.holds Tryz.pinned (.plain (OpenSpec.upto viewsSpec)) viewsUptoCard

/-- THE SECOND FORM's CARD OF 'choruslaw.Apart'. -/
def apartUptoCard : Claim7 := { stood := { row := apartUptoRow, standIns := [], harness := (true, "14de2145ad722f0cf0ca8e51ee3bd3259ee0aae0b6c41be3353de25653c3d354"), looks := false }, kinds := [], alts := [], laidByText := true, laidKinds := [.data, .data], laidTests := true, laidLooks := .later }
def ApartUptoCardSaid : Prop := Claim7.holds Tryz.pinned (.plain (OpenSpec.upto apartSpec)) apartUptoCard
end Rows
end Go.Proofs.YtlhlchccbphdgaaGreatDoor
