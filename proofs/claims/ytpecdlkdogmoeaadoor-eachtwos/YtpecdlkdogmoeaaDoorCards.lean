/-
  DERIVED. GIVEN WITH THE SEED: THE CARDS: each row of YtpecdlkdogmoeaaDoorRows.lean that lists a variable, with what it lists TIED to the program's text (the seventh form; the later family's looks); each row that meets fmt, with fmt's text TOLD by the authors' own Lean function (tested against real Go, not proved from fmt's source: count such statements apart). THE CARD IS WHAT COUNTS. Prove the row's statement (the work); the ties are given (YtpecdlkdogmoeaaDoorTie.lean); close each card by the builder's one call (the guide's Derived/Test/ToyasCard.lean, 'card_holds'). Laid BY PROGRAM, IN A SANDBOX (cutbox-door.mjs). By AI agents, Wed Nov 11 2026. No macro, syntax, notation, axiom, sorry.
-/
import Derived.Test.YtpecdlkdogmoeaaDoorRows
import GoSem.ClaimSeven
namespace Go.Proofs.YtpecdlkdogmoeaaDoor
namespace Rows

/-- THE TIED CARD OF 'ravelinlaw1.EachOnes'. -/
def eachOnesCard : Claim7 := { stood := { row := eachOnesRow, standIns := [], harness := (true, "a93a73ea5644fcb1d7ad13c1f54a08b1e1956ac937c1636c4a1811c27d32102c"), looks := true }, kinds := [], alts := [], laidByText := true, laidKinds := [.handle], laidTests := true, laidLooks := .later }
def EachOnesCardSaid : Prop := Claim7.holds Tryd.pinned (.plain (OpenSpec.ofChange eachOnesSpec)) eachOnesCard

/-- THE TIED CARD OF 'ravelinlaw1.EachTwos'. -/
def eachTwosCard : Claim7 := { stood := { row := eachTwosRow, standIns := [], harness := (true, "a93a73ea5644fcb1d7ad13c1f54a08b1e1956ac937c1636c4a1811c27d32102c"), looks := true }, kinds := [], alts := [], laidByText := true, laidKinds := [.handle], laidTests := true, laidLooks := .later }
def EachTwosCardSaid : Prop := Claim7.holds Tryd.pinned (.plain (OpenSpec.ofChange eachTwosSpec)) eachTwosCard

/-- THE SECOND FORM's CARD OF 'ravelinlaw1.EachOnes'. -/
def eachOnesUptoCard : Claim7 := { stood := { row := eachOnesUptoRow, standIns := [], harness := (true, "a93a73ea5644fcb1d7ad13c1f54a08b1e1956ac937c1636c4a1811c27d32102c"), looks := true }, kinds := [], alts := [], laidByText := true, laidKinds := [.handle], laidTests := true, laidLooks := .later }
def EachOnesUptoCardSaid : Prop := Claim7.holds Tryd.pinned (.plain (OpenSpec.upto eachOnesSpec)) eachOnesUptoCard

/-- THE SECOND FORM's CARD OF 'ravelinlaw1.EachTwos'. -/
def eachTwosUptoCard : Claim7 := { stood := { row := eachTwosUptoRow, standIns := [], harness := (true, "a93a73ea5644fcb1d7ad13c1f54a08b1e1956ac937c1636c4a1811c27d32102c"), looks := true }, kinds := [], alts := [], laidByText := true, laidKinds := [.handle], laidTests := true, laidLooks := .later }
def EachTwosUptoCardSaid : Prop := Claim7.holds Tryd.pinned (.plain (OpenSpec.upto eachTwosSpec)) eachTwosUptoCard
end Rows
end Go.Proofs.YtpecdlkdogmoeaaDoor
