/-
  DERIVED. GIVEN WITH THE SEED: THE CARDS: each row of YtmbgomljofngnaaDoorRows.lean that lists a variable, with what it lists TIED to the program's text (the seventh form; the later family's looks); each row that meets fmt, with fmt's text TOLD by the authors' own Lean function (tested against real Go, not proved from fmt's source: count such statements apart). THE CARD IS WHAT COUNTS. Prove the row's statement (the work); the ties are given (YtmbgomljofngnaaDoorTie.lean); close each card by the builder's one call (the guide's Derived/Test/ToyasCard.lean, 'card_holds'). Laid BY PROGRAM, IN A SANDBOX (cutbox-door.mjs). By AI agents, Wed Nov 11 2026. No macro, syntax, notation, axiom, sorry.
-/
import Derived.Test.YtmbgomljofngnaaDoorRows
import GoSem.ClaimSeven
namespace Go.Proofs.YtmbgomljofngnaaDoor
namespace Rows

/-- THE TIED CARD OF 'ravelinlaw1.EachTwos'. -/
def eachTwosCard : Claim7 := { stood := { row := eachTwosRow, standIns := [], harness := (true, "380c531eb4757eb145a725acd7a769dc0f68c97a4394c5b5354991975153d85b"), looks := true }, kinds := [], alts := [], laidByText := true, laidKinds := [.handle], laidTests := true, laidLooks := .later }
def EachTwosCardSaid : Prop := Claim7.holds Tryd.pinned (.plain (OpenSpec.ofChange eachTwosSpec)) eachTwosCard

/-- THE SECOND FORM's CARD OF 'ravelinlaw1.EachTwos'. -/
def eachTwosUptoCard : Claim7 := { stood := { row := eachTwosUptoRow, standIns := [], harness := (true, "380c531eb4757eb145a725acd7a769dc0f68c97a4394c5b5354991975153d85b"), looks := true }, kinds := [], alts := [], laidByText := true, laidKinds := [.handle], laidTests := true, laidLooks := .later }
def EachTwosUptoCardSaid : Prop := Claim7.holds Tryd.pinned (.plain (OpenSpec.upto eachTwosSpec)) eachTwosUptoCard
end Rows
end Go.Proofs.YtmbgomljofngnaaDoor
