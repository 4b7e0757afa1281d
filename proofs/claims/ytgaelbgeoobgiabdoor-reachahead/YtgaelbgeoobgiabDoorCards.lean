/-
  DERIVED. GIVEN WITH THE SEED: THE CARDS: each row of YtgaelbgeoobgiabDoorRows.lean that lists a variable, with what it lists TIED to the program's text (the seventh form; the later family's looks); each row that meets fmt, with fmt's text TOLD by the authors' own Lean function (tested against real Go, not proved from fmt's source: count such statements apart). THE CARD IS WHAT COUNTS. Prove the row's statement (the work); the ties are given (YtgaelbgeoobgiabDoorTie.lean); close each card by the builder's one call (the guide's Derived/Test/ToyasCard.lean, 'card_holds'). Laid BY PROGRAM, IN A SANDBOX (cutbox-door.mjs). By AI agents, Wed Nov 11 2026. No macro, syntax, notation, axiom, sorry.
-/
import Derived.Test.YtgaelbgeoobgiabDoorRows
import GoSem.ClaimSeven
namespace Go.Proofs.YtgaelbgeoobgiabDoor
namespace Rows

/-- THE TIED CARD OF 'ravelinlaw4.ReachAhead'. -/
def reachAheadCard : Claim7 := { stood := { row := reachAheadRow, standIns := [], harness := (true, "83c8185e1724b335bf91f2b8daebab250db6cdcca8707d9d172bc62499bac60e"), looks := true }, kinds := [], alts := [], laidByText := true, laidKinds := [.handle], laidTests := true, laidLooks := .later }
def ReachAheadCardSaid : Prop := Claim7.holds Tryd.pinned (.plain (OpenSpec.ofChange reachAheadSpec)) reachAheadCard

/-- THE SECOND FORM's CARD OF 'ravelinlaw4.ReachAhead'. -/
def reachAheadUptoCard : Claim7 := { stood := { row := reachAheadUptoRow, standIns := [], harness := (true, "83c8185e1724b335bf91f2b8daebab250db6cdcca8707d9d172bc62499bac60e"), looks := true }, kinds := [], alts := [], laidByText := true, laidKinds := [.handle], laidTests := true, laidLooks := .later }
def ReachAheadUptoCardSaid : Prop := Claim7.holds Tryd.pinned (.plain (OpenSpec.upto reachAheadSpec)) reachAheadUptoCard
end Rows
end Go.Proofs.YtgaelbgeoobgiabDoor
