/-
  DERIVED. GIVEN WITH THE SEED: THE CARDS: each row of YtaahndglgjhneaaDoorRows.lean that lists a variable, with what it lists TIED to the program's text (the seventh form; the later family's looks); each row that meets fmt, with fmt's text TOLD by the authors' own Lean function (tested against real Go, not proved from fmt's source: count such statements apart). THE CARD IS WHAT COUNTS. Prove the row's statement (the work); the ties are given (YtaahndglgjhneaaDoorTie.lean); close each card by the builder's one call (the guide's Derived/Test/ToyasCard.lean, 'card_holds'). Laid BY PROGRAM, IN A SANDBOX (cutbox-door.mjs). By AI agents, Wed Nov 11 2026. No macro, syntax, notation, axiom, sorry.
-/
import Derived.Test.YtaahndglgjhneaaDoorRows
import GoSem.ClaimSeven
namespace Go.Proofs.YtaahndglgjhneaaDoor
namespace Rows

/-- THE TIED CARD OF 'ravelinlaw2.TurnReverses'. -/
def turnReversesCard : Claim7 := { stood := { row := turnReversesRow, standIns := [], harness := (true, "8e95b628bfc4f57f30d7d941ece68560980c64b180f370ee92a10ffce9271dc4"), looks := true }, kinds := [], alts := [], laidByText := true, laidKinds := [.handle], laidTests := true, laidLooks := .later }
def TurnReversesCardSaid : Prop := Claim7.holds Tryd.pinned (.plain (OpenSpec.ofChange turnReversesSpec)) turnReversesCard

/-- THE TIED CARD OF 'ravelinlaw2.TurnRotates'. -/
def turnRotatesCard : Claim7 := { stood := { row := turnRotatesRow, standIns := [], harness := (true, "8e95b628bfc4f57f30d7d941ece68560980c64b180f370ee92a10ffce9271dc4"), looks := true }, kinds := [], alts := [], laidByText := true, laidKinds := [.handle], laidTests := true, laidLooks := .later }
def TurnRotatesCardSaid : Prop := Claim7.holds Tryd.pinned (.plain (OpenSpec.ofChange turnRotatesSpec)) turnRotatesCard

/-- THE TIED CARD OF 'ravelinlaw2.TurnFlips'. -/
def turnFlipsCard : Claim7 := { stood := { row := turnFlipsRow, standIns := [], harness := (true, "8e95b628bfc4f57f30d7d941ece68560980c64b180f370ee92a10ffce9271dc4"), looks := true }, kinds := [], alts := [], laidByText := true, laidKinds := [.handle], laidTests := true, laidLooks := .later }
def TurnFlipsCardSaid : Prop := Claim7.holds Tryd.pinned (.plain (OpenSpec.ofChange turnFlipsSpec)) turnFlipsCard

/-- THE SECOND FORM's CARD OF 'ravelinlaw2.TurnReverses'. -/
def turnReversesUptoCard : Claim7 := { stood := { row := turnReversesUptoRow, standIns := [], harness := (true, "8e95b628bfc4f57f30d7d941ece68560980c64b180f370ee92a10ffce9271dc4"), looks := true }, kinds := [], alts := [], laidByText := true, laidKinds := [.handle], laidTests := true, laidLooks := .later }
def TurnReversesUptoCardSaid : Prop := Claim7.holds Tryd.pinned (.plain (OpenSpec.upto turnReversesSpec)) turnReversesUptoCard

/-- THE SECOND FORM's CARD OF 'ravelinlaw2.TurnRotates'. -/
def turnRotatesUptoCard : Claim7 := { stood := { row := turnRotatesUptoRow, standIns := [], harness := (true, "8e95b628bfc4f57f30d7d941ece68560980c64b180f370ee92a10ffce9271dc4"), looks := true }, kinds := [], alts := [], laidByText := true, laidKinds := [.handle], laidTests := true, laidLooks := .later }
def TurnRotatesUptoCardSaid : Prop := Claim7.holds Tryd.pinned (.plain (OpenSpec.upto turnRotatesSpec)) turnRotatesUptoCard

/-- THE SECOND FORM's CARD OF 'ravelinlaw2.TurnFlips'. -/
def turnFlipsUptoCard : Claim7 := { stood := { row := turnFlipsUptoRow, standIns := [], harness := (true, "8e95b628bfc4f57f30d7d941ece68560980c64b180f370ee92a10ffce9271dc4"), looks := true }, kinds := [], alts := [], laidByText := true, laidKinds := [.handle], laidTests := true, laidLooks := .later }
def TurnFlipsUptoCardSaid : Prop := Claim7.holds Tryd.pinned (.plain (OpenSpec.upto turnFlipsSpec)) turnFlipsUptoCard
end Rows
end Go.Proofs.YtaahndglgjhneaaDoor
