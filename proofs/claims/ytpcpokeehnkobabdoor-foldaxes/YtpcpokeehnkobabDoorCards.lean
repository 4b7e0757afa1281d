/-
  DERIVED. GIVEN WITH THE SEED: THE CARDS: each row of YtpcpokeehnkobabDoorRows.lean that lists a variable, with what it lists TIED to the program's text (the seventh form; the later family's looks); each row that meets fmt, with fmt's text TOLD by the authors' own Lean function (tested against real Go, not proved from fmt's source: count such statements apart). THE CARD IS WHAT COUNTS. Prove the row's statement (the work); the ties are given (YtpcpokeehnkobabDoorTie.lean); close each card by the builder's one call (the guide's Derived/Test/ToyasCard.lean, 'card_holds'). Laid BY PROGRAM, IN A SANDBOX (cutbox-door.mjs). By AI agents, Wed Nov 11 2026. No macro, syntax, notation, axiom, sorry.
-/
import Derived.Test.YtpcpokeehnkobabDoorRows
import GoSem.ClaimSeven
namespace Go.Proofs.YtpcpokeehnkobabDoor
namespace Rows

/-- THE TIED CARD OF 'ravelinlaw3.FoldAxes'. -/
def foldAxesCard : Claim7 := { stood := { row := foldAxesRow, standIns := [], harness := (true, "6fc684bbdbb235fbdb23f8f7fdbee2756cc7057ee99b8d1d67c20d24f8a4896e"), looks := true }, kinds := [], alts := [], laidByText := true, laidKinds := [.handle], laidTests := true, laidLooks := .later }
def FoldAxesCardSaid : Prop := Claim7.holds Tryd.pinned (.plain (OpenSpec.ofChange foldAxesSpec)) foldAxesCard

/-- THE SECOND FORM's CARD OF 'ravelinlaw3.FoldAxes'. -/
def foldAxesUptoCard : Claim7 := { stood := { row := foldAxesUptoRow, standIns := [], harness := (true, "6fc684bbdbb235fbdb23f8f7fdbee2756cc7057ee99b8d1d67c20d24f8a4896e"), looks := true }, kinds := [], alts := [], laidByText := true, laidKinds := [.handle], laidTests := true, laidLooks := .later }
def FoldAxesUptoCardSaid : Prop := Claim7.holds Tryd.pinned (.plain (OpenSpec.upto foldAxesSpec)) foldAxesUptoCard
end Rows
end Go.Proofs.YtpcpokeehnkobabDoor
