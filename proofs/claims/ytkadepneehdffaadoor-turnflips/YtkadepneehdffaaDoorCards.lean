/-
  DERIVED. GIVEN WITH THE SEED: THE CARDS: each row of YtkadepneehdffaaDoorRows.lean that lists a variable, with what it lists TIED to the program's text (the seventh form; the later family's looks); each row that meets fmt, with fmt's text TOLD by the authors' own Lean function (tested against real Go, not proved from fmt's source: count such statements apart). THE CARD IS WHAT COUNTS. Prove the row's statement (the work); the ties are given (YtkadepneehdffaaDoorTie.lean); close each card by the builder's one call (the guide's Derived/Test/ToyasCard.lean, 'card_holds'). Laid BY PROGRAM, IN A SANDBOX (cutbox-door.mjs). By AI agents, Wed Nov 11 2026. No macro, syntax, notation, axiom, sorry.
-/
import Derived.Test.YtkadepneehdffaaDoorRows
import GoSem.ClaimSeven
namespace Go.Proofs.YtkadepneehdffaaDoor
namespace Rows

/-- THE TIED CARD OF 'ravelinlaw1.ShapeAxes'. -/
def shapeAxesCard : Claim7 := { stood := { row := shapeAxesRow, standIns := [], harness := (true, "ba37e4242a22695ed19e60792b1a849266bd784fcc8782d54ea3986f80d32be8"), looks := true }, kinds := [], alts := [], laidByText := true, laidKinds := [.handle], laidTests := true, laidLooks := .later }
def ShapeAxesCardSaid : Prop := Claim7.holds Tryd.pinned (.plain (OpenSpec.ofChange shapeAxesSpec)) shapeAxesCard

/-- THE TIED CARD OF 'ravelinlaw2.TurnFlips'. -/
def turnFlipsCard : Claim7 := { stood := { row := turnFlipsRow, standIns := [], harness := (true, "ba37e4242a22695ed19e60792b1a849266bd784fcc8782d54ea3986f80d32be8"), looks := true }, kinds := [], alts := [], laidByText := true, laidKinds := [.handle], laidTests := true, laidLooks := .later }
def TurnFlipsCardSaid : Prop := Claim7.holds Tryd.pinned (.plain (OpenSpec.ofChange turnFlipsSpec)) turnFlipsCard

/-- THE SECOND FORM's CARD OF 'ravelinlaw1.ShapeAxes'. -/
def shapeAxesUptoCard : Claim7 := { stood := { row := shapeAxesUptoRow, standIns := [], harness := (true, "ba37e4242a22695ed19e60792b1a849266bd784fcc8782d54ea3986f80d32be8"), looks := true }, kinds := [], alts := [], laidByText := true, laidKinds := [.handle], laidTests := true, laidLooks := .later }
def ShapeAxesUptoCardSaid : Prop := Claim7.holds Tryd.pinned (.plain (OpenSpec.upto shapeAxesSpec)) shapeAxesUptoCard

/-- THE SECOND FORM's CARD OF 'ravelinlaw2.TurnFlips'. -/
def turnFlipsUptoCard : Claim7 := { stood := { row := turnFlipsUptoRow, standIns := [], harness := (true, "ba37e4242a22695ed19e60792b1a849266bd784fcc8782d54ea3986f80d32be8"), looks := true }, kinds := [], alts := [], laidByText := true, laidKinds := [.handle], laidTests := true, laidLooks := .later }
def TurnFlipsUptoCardSaid : Prop := Claim7.holds Tryd.pinned (.plain (OpenSpec.upto turnFlipsSpec)) turnFlipsUptoCard
end Rows
end Go.Proofs.YtkadepneehdffaaDoor
