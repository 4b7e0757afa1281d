/-
  DERIVED. GIVEN WITH THE SEED: THE CARDS: each row of YtigichhcoflaiaaDoorRows.lean that lists a variable, with what it lists TIED to the program's text (the seventh form; the later family's looks); each row that meets fmt, with fmt's text TOLD by the authors' own Lean function (tested against real Go, not proved from fmt's source: count such statements apart). THE CARD IS WHAT COUNTS. Prove the row's statement (the work); the ties are given (YtigichhcoflaiaaDoorTie.lean); close each card by the builder's one call (the guide's Derived/Test/ToyasCard.lean, 'card_holds'). Laid BY PROGRAM, IN A SANDBOX (cutbox-door.mjs). By AI agents, Wed Nov 11 2026. No macro, syntax, notation, axiom, sorry.
-/
import Derived.Test.YtigichhcoflaiaaDoorRows
import GoSem.ClaimSeven
namespace Go.Proofs.YtigichhcoflaiaaDoor
namespace Rows

/-- THE TIED CARD OF 'ravelinlaw3.RadixValues'. -/
def radixValuesCard : Claim7 := { stood := { row := radixValuesRow, standIns := [], harness := (true, "3030548689fd18a769cc49c70bb310e91d5c3f81cf14665d5bbf96afea4a47b6"), looks := true }, kinds := [], alts := [], laidByText := true, laidKinds := [.handle], laidTests := true, laidLooks := .later }
def RadixValuesCardSaid : Prop := Claim7.holds Tryd.pinned (.plain (OpenSpec.ofChange radixValuesSpec)) radixValuesCard

/-- THE SECOND FORM's CARD OF 'ravelinlaw3.RadixValues'. -/
def radixValuesUptoCard : Claim7 := { stood := { row := radixValuesUptoRow, standIns := [], harness := (true, "3030548689fd18a769cc49c70bb310e91d5c3f81cf14665d5bbf96afea4a47b6"), looks := true }, kinds := [], alts := [], laidByText := true, laidKinds := [.handle], laidTests := true, laidLooks := .later }
def RadixValuesUptoCardSaid : Prop := Claim7.holds Tryd.pinned (.plain (OpenSpec.upto radixValuesSpec)) radixValuesUptoCard
end Rows
end Go.Proofs.YtigichhcoflaiaaDoor
