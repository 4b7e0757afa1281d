/-
  DERIVED. GIVEN WITH THE SEED: THE CARDS: each row of YtkfdhnabhpnmcabDoorRows.lean that lists a variable, with what it lists TIED to the program's text (the seventh form; the later family's looks); each row that meets fmt, with fmt's text TOLD by the authors' own Lean function (tested against real Go, not proved from fmt's source: count such statements apart). THE CARD IS WHAT COUNTS. Prove the row's statement (the work); the ties are given (YtkfdhnabhpnmcabDoorTie.lean); close each card by the builder's one call (the guide's Derived/Test/ToyasCard.lean, 'card_holds'). Laid BY PROGRAM, IN A SANDBOX (cutbox-door.mjs). By AI agents, Wed Nov 11 2026. No macro, syntax, notation, axiom, sorry.
-/
import Derived.Test.YtkfdhnabhpnmcabDoorRows
import GoSem.ClaimSeven
namespace Go.Proofs.YtkfdhnabhpnmcabDoor
namespace Rows

/-- THE TIED CARD OF 'ravelinlaw1.ArrSpells'. -/
def arrSpellsCard : Claim7 := { stood := { row := arrSpellsRow, standIns := [], harness := (true, "636e6772e69b541dc35318aba50445ab627593234432aac153635d3c05b52c7a"), looks := false }, kinds := [], alts := [], laidByText := true, laidKinds := [.data, .pinned], laidTests := true, laidLooks := .later }
def ArrSpellsCardSaid : Prop := Claim7.holds Tryd.pinned (.plain (OpenSpec.ofChange arrSpellsSpec)) arrSpellsCard

/-- THE SECOND FORM's CARD OF 'ravelinlaw1.ArrSpells'. -/
def arrSpellsUptoCard : Claim7 := { stood := { row := arrSpellsUptoRow, standIns := [], harness := (true, "636e6772e69b541dc35318aba50445ab627593234432aac153635d3c05b52c7a"), looks := false }, kinds := [], alts := [], laidByText := true, laidKinds := [.data, .pinned], laidTests := true, laidLooks := .later }
def ArrSpellsUptoCardSaid : Prop := Claim7.holds Tryd.pinned (.plain (OpenSpec.upto arrSpellsSpec)) arrSpellsUptoCard
end Rows
end Go.Proofs.YtkfdhnabhpnmcabDoor
