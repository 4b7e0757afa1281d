/-
  DERIVED. GIVEN WITH THE SEED: THE CARDS: each row of YteiohkajbokekaaDoorRows.lean that lists a variable, with what it lists TIED to the program's text (the seventh form; the later family's looks); each row that meets fmt, with fmt's text TOLD by the authors' own Lean function (tested against real Go, not proved from fmt's source: count such statements apart). THE CARD IS WHAT COUNTS. Prove the row's statement (the work); the ties are given (YteiohkajbokekaaDoorTie.lean); close each card by the builder's one call (the guide's Derived/Test/ToyasCard.lean, 'card_holds'). Laid BY PROGRAM, IN A SANDBOX (cutbox-door.mjs). By AI agents, Wed Nov 11 2026. No macro, syntax, notation, axiom, sorry.
-/
import Derived.Test.YteiohkajbokekaaDoorRows
import GoSem.ClaimSeven
namespace Go.Proofs.YteiohkajbokekaaDoor
namespace Rows

/-- THE TIED CARD OF 'ravelinlaw1.CellTwos'. -/
def cellTwosCard : Claim7 := { stood := { row := cellTwosRow, standIns := [], harness := (true, "37d1207850d28c67d837ed24dfe1f2b1893deadc612b733b69699d63e4c7ca3e"), looks := true }, kinds := [], alts := [], laidByText := true, laidKinds := [.handle], laidTests := true, laidLooks := .later }
def CellTwosCardSaid : Prop := Claim7.holds Tryd.pinned (.plain (OpenSpec.ofChange cellTwosSpec)) cellTwosCard

/-- THE TIED CARD OF 'ravelinlaw1.CellBezouts'. -/
def cellBezoutsCard : Claim7 := { stood := { row := cellBezoutsRow, standIns := [], harness := (true, "37d1207850d28c67d837ed24dfe1f2b1893deadc612b733b69699d63e4c7ca3e"), looks := true }, kinds := [], alts := [], laidByText := true, laidKinds := [.handle], laidTests := true, laidLooks := .later }
def CellBezoutsCardSaid : Prop := Claim7.holds Tryd.pinned (.plain (OpenSpec.ofChange cellBezoutsSpec)) cellBezoutsCard

/-- THE SECOND FORM's CARD OF 'ravelinlaw1.CellTwos'. -/
def cellTwosUptoCard : Claim7 := { stood := { row := cellTwosUptoRow, standIns := [], harness := (true, "37d1207850d28c67d837ed24dfe1f2b1893deadc612b733b69699d63e4c7ca3e"), looks := true }, kinds := [], alts := [], laidByText := true, laidKinds := [.handle], laidTests := true, laidLooks := .later }
def CellTwosUptoCardSaid : Prop := Claim7.holds Tryd.pinned (.plain (OpenSpec.upto cellTwosSpec)) cellTwosUptoCard

/-- THE SECOND FORM's CARD OF 'ravelinlaw1.CellBezouts'. -/
def cellBezoutsUptoCard : Claim7 := { stood := { row := cellBezoutsUptoRow, standIns := [], harness := (true, "37d1207850d28c67d837ed24dfe1f2b1893deadc612b733b69699d63e4c7ca3e"), looks := true }, kinds := [], alts := [], laidByText := true, laidKinds := [.handle], laidTests := true, laidLooks := .later }
def CellBezoutsUptoCardSaid : Prop := Claim7.holds Tryd.pinned (.plain (OpenSpec.upto cellBezoutsSpec)) cellBezoutsUptoCard
end Rows
end Go.Proofs.YteiohkajbokekaaDoor
