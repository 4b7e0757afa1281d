/-
  DERIVED. GIVEN WITH THE SEED: THE CARDS: each row of YtmbgomljofngnacDoorRows.lean that lists a variable, with what it lists TIED to the program's text (the seventh form; the later family's looks); each row that meets fmt, with fmt's text TOLD by the authors' own Lean function (tested against real Go, not proved from fmt's source: count such statements apart). THE CARD IS WHAT COUNTS. Prove the row's statement (the work); the ties are given (YtmbgomljofngnacDoorTie.lean); close each card by the builder's one call (the guide's Derived/Test/ToyasCard.lean, 'card_holds'). Laid BY PROGRAM, IN A SANDBOX (cutbox-door.mjs). By AI agents, Wed Nov 11 2026. No macro, syntax, notation, axiom, sorry.
-/
import Derived.Test.YtmbgomljofngnacDoorRows
import GoSem.ClaimSeven
namespace Go.Proofs.YtmbgomljofngnacDoor
namespace Rows

/-- THE TIED CARD OF 'ravelinlaw3.FoldJoins'. -/
def foldJoinsCard : Claim7 := { stood := { row := foldJoinsRow, standIns := [], harness := (true, "3dbfff86249fe57794684f4cd009d345bc12015494dd6210cd7ddc8012e0ef75"), looks := true }, kinds := [], alts := [], laidByText := true, laidKinds := [.handle], laidTests := true, laidLooks := .later }
def FoldJoinsCardSaid : Prop := Claim7.holds Tryd.pinned (.plain (OpenSpec.ofChange foldJoinsSpec)) foldJoinsCard

/-- THE TIED CARD OF 'ravelinlaw3.FoldSums'. -/
def foldSumsCard : Claim7 := { stood := { row := foldSumsRow, standIns := [], harness := (true, "3dbfff86249fe57794684f4cd009d345bc12015494dd6210cd7ddc8012e0ef75"), looks := true }, kinds := [], alts := [], laidByText := true, laidKinds := [.handle], laidTests := true, laidLooks := .later }
def FoldSumsCardSaid : Prop := Claim7.holds Tryd.pinned (.plain (OpenSpec.ofChange foldSumsSpec)) foldSumsCard

/-- THE TIED CARD OF 'ravelinlaw3.FoldAxes'. -/
def foldAxesCard : Claim7 := { stood := { row := foldAxesRow, standIns := [], harness := (true, "3dbfff86249fe57794684f4cd009d345bc12015494dd6210cd7ddc8012e0ef75"), looks := true }, kinds := [], alts := [], laidByText := true, laidKinds := [.handle], laidTests := true, laidLooks := .later }
def FoldAxesCardSaid : Prop := Claim7.holds Tryd.pinned (.plain (OpenSpec.ofChange foldAxesSpec)) foldAxesCard

/-- THE SECOND FORM's CARD OF 'ravelinlaw3.FoldJoins'. -/
def foldJoinsUptoCard : Claim7 := { stood := { row := foldJoinsUptoRow, standIns := [], harness := (true, "3dbfff86249fe57794684f4cd009d345bc12015494dd6210cd7ddc8012e0ef75"), looks := true }, kinds := [], alts := [], laidByText := true, laidKinds := [.handle], laidTests := true, laidLooks := .later }
def FoldJoinsUptoCardSaid : Prop := Claim7.holds Tryd.pinned (.plain (OpenSpec.upto foldJoinsSpec)) foldJoinsUptoCard

/-- THE SECOND FORM's CARD OF 'ravelinlaw3.FoldSums'. -/
def foldSumsUptoCard : Claim7 := { stood := { row := foldSumsUptoRow, standIns := [], harness := (true, "3dbfff86249fe57794684f4cd009d345bc12015494dd6210cd7ddc8012e0ef75"), looks := true }, kinds := [], alts := [], laidByText := true, laidKinds := [.handle], laidTests := true, laidLooks := .later }
def FoldSumsUptoCardSaid : Prop := Claim7.holds Tryd.pinned (.plain (OpenSpec.upto foldSumsSpec)) foldSumsUptoCard

/-- THE SECOND FORM's CARD OF 'ravelinlaw3.FoldAxes'. -/
def foldAxesUptoCard : Claim7 := { stood := { row := foldAxesUptoRow, standIns := [], harness := (true, "3dbfff86249fe57794684f4cd009d345bc12015494dd6210cd7ddc8012e0ef75"), looks := true }, kinds := [], alts := [], laidByText := true, laidKinds := [.handle], laidTests := true, laidLooks := .later }
def FoldAxesUptoCardSaid : Prop := Claim7.holds Tryd.pinned (.plain (OpenSpec.upto foldAxesSpec)) foldAxesUptoCard
end Rows
end Go.Proofs.YtmbgomljofngnacDoor
