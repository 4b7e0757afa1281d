/-
  DERIVED. GIVEN WITH THE SEED: THE CARDS: each row of YtcpmendkocnlhaaDoorRows.lean that lists a variable, with what it lists TIED to the program's text (the seventh form; the later family's looks); each row that meets fmt, with fmt's text TOLD by the authors' own Lean function (tested against real Go, not proved from fmt's source: count such statements apart). THE CARD IS WHAT COUNTS. Prove the row's statement (the work); the ties are given (YtcpmendkocnlhaaDoorTie.lean); close each card by the builder's one call (the guide's Derived/Test/ToyasCard.lean, 'card_holds'). Laid BY PROGRAM, IN A SANDBOX (cutbox-door.mjs). By AI agents, Wed Nov 11 2026. No macro, syntax, notation, axiom, sorry.
-/
import Derived.Test.YtcpmendkocnlhaaDoorRows
import GoSem.ClaimSeven
namespace Go.Proofs.YtcpmendkocnlhaaDoor
namespace Rows

/-- THE TIED CARD OF 'ravelinlaw4.ProdOuters'. -/
def prodOutersCard : Claim7 := { stood := { row := prodOutersRow, standIns := [], harness := (true, "2bccb3280f2b8a1ca7e1207e10da1744614d88987d9d9d6e60a1650d9ea1adcc"), looks := true }, kinds := [], alts := [], laidByText := true, laidKinds := [.handle], laidTests := true, laidLooks := .later }
def ProdOutersCardSaid : Prop := Claim7.holds Tryd.pinned (.plain (OpenSpec.ofChange prodOutersSpec)) prodOutersCard

/-- THE TIED CARD OF 'ravelinlaw4.ProdInners'. -/
def prodInnersCard : Claim7 := { stood := { row := prodInnersRow, standIns := [], harness := (true, "2bccb3280f2b8a1ca7e1207e10da1744614d88987d9d9d6e60a1650d9ea1adcc"), looks := true }, kinds := [], alts := [], laidByText := true, laidKinds := [.handle], laidTests := true, laidLooks := .later }
def ProdInnersCardSaid : Prop := Claim7.holds Tryd.pinned (.plain (OpenSpec.ofChange prodInnersSpec)) prodInnersCard

/-- THE SECOND FORM's CARD OF 'ravelinlaw4.ProdOuters'. -/
def prodOutersUptoCard : Claim7 := { stood := { row := prodOutersUptoRow, standIns := [], harness := (true, "2bccb3280f2b8a1ca7e1207e10da1744614d88987d9d9d6e60a1650d9ea1adcc"), looks := true }, kinds := [], alts := [], laidByText := true, laidKinds := [.handle], laidTests := true, laidLooks := .later }
def ProdOutersUptoCardSaid : Prop := Claim7.holds Tryd.pinned (.plain (OpenSpec.upto prodOutersSpec)) prodOutersUptoCard

/-- THE SECOND FORM's CARD OF 'ravelinlaw4.ProdInners'. -/
def prodInnersUptoCard : Claim7 := { stood := { row := prodInnersUptoRow, standIns := [], harness := (true, "2bccb3280f2b8a1ca7e1207e10da1744614d88987d9d9d6e60a1650d9ea1adcc"), looks := true }, kinds := [], alts := [], laidByText := true, laidKinds := [.handle], laidTests := true, laidLooks := .later }
def ProdInnersUptoCardSaid : Prop := Claim7.holds Tryd.pinned (.plain (OpenSpec.upto prodInnersSpec)) prodInnersUptoCard
end Rows
end Go.Proofs.YtcpmendkocnlhaaDoor
