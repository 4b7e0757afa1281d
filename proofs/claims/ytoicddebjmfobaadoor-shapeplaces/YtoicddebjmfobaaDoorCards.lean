/-
  DERIVED. GIVEN WITH THE SEED: THE CARDS: each row of YtoicddebjmfobaaDoorRows.lean that lists a variable, with what it lists TIED to the program's text (the seventh form; the later family's looks); each row that meets fmt, with fmt's text TOLD by the authors' own Lean function (tested against real Go, not proved from fmt's source: count such statements apart). THE CARD IS WHAT COUNTS. Prove the row's statement (the work); the ties are given (YtoicddebjmfobaaDoorTie.lean); close each card by the builder's one call (the guide's Derived/Test/ToyasCard.lean, 'card_holds'). Laid BY PROGRAM, IN A SANDBOX (cutbox-door.mjs). By AI agents, Wed Nov 11 2026. No macro, syntax, notation, axiom, sorry.
-/
import Derived.Test.YtoicddebjmfobaaDoorRows
import GoSem.ClaimSeven
namespace Go.Proofs.YtoicddebjmfobaaDoor
namespace Rows

/-- THE TIED CARD OF 'ravelinlaw1.ShapeCounts'. -/
def shapeCountsCard : Claim7 := { stood := { row := shapeCountsRow, standIns := [], harness := (true, "d605cf0cef29a46411c64a90d4a1cfea1c00a59ddd029bb1de6cd6ed9988c480"), looks := true }, kinds := [], alts := [], laidByText := true, laidKinds := [.handle], laidTests := true, laidLooks := .later }
def ShapeCountsCardSaid : Prop := Claim7.holds Tryd.pinned (.plain (OpenSpec.ofChange shapeCountsSpec)) shapeCountsCard

/-- THE TIED CARD OF 'ravelinlaw1.ShapePlaces'. -/
def shapePlacesCard : Claim7 := { stood := { row := shapePlacesRow, standIns := [], harness := (true, "d605cf0cef29a46411c64a90d4a1cfea1c00a59ddd029bb1de6cd6ed9988c480"), looks := true }, kinds := [], alts := [], laidByText := true, laidKinds := [.handle], laidTests := true, laidLooks := .later }
def ShapePlacesCardSaid : Prop := Claim7.holds Tryd.pinned (.plain (OpenSpec.ofChange shapePlacesSpec)) shapePlacesCard

/-- THE TIED CARD OF 'ravelinlaw1.ShapeAxes'. -/
def shapeAxesCard : Claim7 := { stood := { row := shapeAxesRow, standIns := [], harness := (true, "d605cf0cef29a46411c64a90d4a1cfea1c00a59ddd029bb1de6cd6ed9988c480"), looks := true }, kinds := [], alts := [], laidByText := true, laidKinds := [.handle], laidTests := true, laidLooks := .later }
def ShapeAxesCardSaid : Prop := Claim7.holds Tryd.pinned (.plain (OpenSpec.ofChange shapeAxesSpec)) shapeAxesCard

/-- THE SECOND FORM's CARD OF 'ravelinlaw1.ShapeCounts'. -/
def shapeCountsUptoCard : Claim7 := { stood := { row := shapeCountsUptoRow, standIns := [], harness := (true, "d605cf0cef29a46411c64a90d4a1cfea1c00a59ddd029bb1de6cd6ed9988c480"), looks := true }, kinds := [], alts := [], laidByText := true, laidKinds := [.handle], laidTests := true, laidLooks := .later }
def ShapeCountsUptoCardSaid : Prop := Claim7.holds Tryd.pinned (.plain (OpenSpec.upto shapeCountsSpec)) shapeCountsUptoCard

/-- THE SECOND FORM's CARD OF 'ravelinlaw1.ShapePlaces'. -/
def shapePlacesUptoCard : Claim7 := { stood := { row := shapePlacesUptoRow, standIns := [], harness := (true, "d605cf0cef29a46411c64a90d4a1cfea1c00a59ddd029bb1de6cd6ed9988c480"), looks := true }, kinds := [], alts := [], laidByText := true, laidKinds := [.handle], laidTests := true, laidLooks := .later }
def ShapePlacesUptoCardSaid : Prop := Claim7.holds Tryd.pinned (.plain (OpenSpec.upto shapePlacesSpec)) shapePlacesUptoCard

/-- THE SECOND FORM's CARD OF 'ravelinlaw1.ShapeAxes'. -/
def shapeAxesUptoCard : Claim7 := { stood := { row := shapeAxesUptoRow, standIns := [], harness := (true, "d605cf0cef29a46411c64a90d4a1cfea1c00a59ddd029bb1de6cd6ed9988c480"), looks := true }, kinds := [], alts := [], laidByText := true, laidKinds := [.handle], laidTests := true, laidLooks := .later }
def ShapeAxesUptoCardSaid : Prop := Claim7.holds Tryd.pinned (.plain (OpenSpec.upto shapeAxesSpec)) shapeAxesUptoCard
end Rows
end Go.Proofs.YtoicddebjmfobaaDoor
