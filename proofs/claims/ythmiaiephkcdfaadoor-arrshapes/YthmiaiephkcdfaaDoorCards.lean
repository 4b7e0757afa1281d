/-
  DERIVED. GIVEN WITH THE SEED: THE CARDS: each row of YthmiaiephkcdfaaDoorRows.lean that lists a variable, with what it lists TIED to the program's text (the seventh form; the later family's looks); each row that meets fmt, with fmt's text TOLD by the authors' own Lean function (tested against real Go, not proved from fmt's source: count such statements apart). THE CARD IS WHAT COUNTS. Prove the row's statement (the work); the ties are given (YthmiaiephkcdfaaDoorTie.lean); close each card by the builder's one call (the guide's Derived/Test/ToyasCard.lean, 'card_holds'). Laid BY PROGRAM, IN A SANDBOX (cutbox-door.mjs). By AI agents, Wed Nov 11 2026. No macro, syntax, notation, axiom, sorry.
-/
import Derived.Test.YthmiaiephkcdfaaDoorRows
import GoSem.ClaimSeven
namespace Go.Proofs.YthmiaiephkcdfaaDoor
namespace Rows

/-- THE TIED CARD OF 'ravelinlaw1.ArrShapes'. -/
def arrShapesCard : Claim7 := { stood := { row := arrShapesRow, standIns := [], harness := (true, "b8a045bad19edaf235fafd01d538cdde933157202d5d5c506fc416b04cccf918"), looks := true }, kinds := [], alts := [], laidByText := true, laidKinds := [.handle], laidTests := true, laidLooks := .later }
def ArrShapesCardSaid : Prop := Claim7.holds Tryd.pinned (.plain (OpenSpec.ofChange arrShapesSpec)) arrShapesCard

/-- THE SECOND FORM's CARD OF 'ravelinlaw1.ArrShapes'. -/
def arrShapesUptoCard : Claim7 := { stood := { row := arrShapesUptoRow, standIns := [], harness := (true, "b8a045bad19edaf235fafd01d538cdde933157202d5d5c506fc416b04cccf918"), looks := true }, kinds := [], alts := [], laidByText := true, laidKinds := [.handle], laidTests := true, laidLooks := .later }
def ArrShapesUptoCardSaid : Prop := Claim7.holds Tryd.pinned (.plain (OpenSpec.upto arrShapesSpec)) arrShapesUptoCard
end Rows
end Go.Proofs.YthmiaiephkcdfaaDoor
