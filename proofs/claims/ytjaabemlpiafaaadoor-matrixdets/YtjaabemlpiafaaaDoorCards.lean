/-
  DERIVED. GIVEN WITH THE SEED: THE CARDS: each row of YtjaabemlpiafaaaDoorRows.lean that lists a variable, with what it lists TIED to the program's text (the seventh form; the later family's looks); each row that meets fmt, with fmt's text TOLD by the authors' own Lean function (tested against real Go, not proved from fmt's source: count such statements apart). THE CARD IS WHAT COUNTS. Prove the row's statement (the work); the ties are given (YtjaabemlpiafaaaDoorTie.lean); close each card by the builder's one call (the guide's Derived/Test/ToyasCard.lean, 'card_holds'). Laid BY PROGRAM, IN A SANDBOX (cutbox-door.mjs). By AI agents, Wed Nov 11 2026. No macro, syntax, notation, axiom, sorry.
-/
import Derived.Test.YtjaabemlpiafaaaDoorRows
import GoSem.ClaimSeven
namespace Go.Proofs.YtjaabemlpiafaaaDoor
namespace Rows

/-- THE TIED CARD OF 'ravelinlaw4.MatrixDets'. -/
def matrixDetsCard : Claim7 := { stood := { row := matrixDetsRow, standIns := [], harness := (true, "5fb1d1503aec92cd68364642b33ecbe5f59c1267c03a5dce9240e18e61eaa901"), looks := true }, kinds := [], alts := [], laidByText := true, laidKinds := [.handle], laidTests := true, laidLooks := .later }
def MatrixDetsCardSaid : Prop := Claim7.holds Tryd.pinned (.plain (OpenSpec.ofChange matrixDetsSpec)) matrixDetsCard

/-- THE TIED CARD OF 'ravelinlaw4.MatrixAdjugates'. -/
def matrixAdjugatesCard : Claim7 := { stood := { row := matrixAdjugatesRow, standIns := [], harness := (true, "5fb1d1503aec92cd68364642b33ecbe5f59c1267c03a5dce9240e18e61eaa901"), looks := true }, kinds := [], alts := [], laidByText := true, laidKinds := [.handle], laidTests := true, laidLooks := .later }
def MatrixAdjugatesCardSaid : Prop := Claim7.holds Tryd.pinned (.plain (OpenSpec.ofChange matrixAdjugatesSpec)) matrixAdjugatesCard

/-- THE TIED CARD OF 'ravelinlaw4.MatrixPowers'. -/
def matrixPowersCard : Claim7 := { stood := { row := matrixPowersRow, standIns := [], harness := (true, "5fb1d1503aec92cd68364642b33ecbe5f59c1267c03a5dce9240e18e61eaa901"), looks := true }, kinds := [], alts := [], laidByText := true, laidKinds := [.handle], laidTests := true, laidLooks := .later }
def MatrixPowersCardSaid : Prop := Claim7.holds Tryd.pinned (.plain (OpenSpec.ofChange matrixPowersSpec)) matrixPowersCard

/-- THE TIED CARD OF 'ravelinlaw4.MatrixInverses'. -/
def matrixInversesCard : Claim7 := { stood := { row := matrixInversesRow, standIns := [], harness := (true, "5fb1d1503aec92cd68364642b33ecbe5f59c1267c03a5dce9240e18e61eaa901"), looks := true }, kinds := [], alts := [], laidByText := true, laidKinds := [.handle], laidTests := true, laidLooks := .later }
def MatrixInversesCardSaid : Prop := Claim7.holds Tryd.pinned (.plain (OpenSpec.ofChange matrixInversesSpec)) matrixInversesCard

/-- THE SECOND FORM's CARD OF 'ravelinlaw4.MatrixDets'. -/
def matrixDetsUptoCard : Claim7 := { stood := { row := matrixDetsUptoRow, standIns := [], harness := (true, "5fb1d1503aec92cd68364642b33ecbe5f59c1267c03a5dce9240e18e61eaa901"), looks := true }, kinds := [], alts := [], laidByText := true, laidKinds := [.handle], laidTests := true, laidLooks := .later }
def MatrixDetsUptoCardSaid : Prop := Claim7.holds Tryd.pinned (.plain (OpenSpec.upto matrixDetsSpec)) matrixDetsUptoCard

/-- THE SECOND FORM's CARD OF 'ravelinlaw4.MatrixAdjugates'. -/
def matrixAdjugatesUptoCard : Claim7 := { stood := { row := matrixAdjugatesUptoRow, standIns := [], harness := (true, "5fb1d1503aec92cd68364642b33ecbe5f59c1267c03a5dce9240e18e61eaa901"), looks := true }, kinds := [], alts := [], laidByText := true, laidKinds := [.handle], laidTests := true, laidLooks := .later }
def MatrixAdjugatesUptoCardSaid : Prop := Claim7.holds Tryd.pinned (.plain (OpenSpec.upto matrixAdjugatesSpec)) matrixAdjugatesUptoCard

/-- THE SECOND FORM's CARD OF 'ravelinlaw4.MatrixPowers'. -/
def matrixPowersUptoCard : Claim7 := { stood := { row := matrixPowersUptoRow, standIns := [], harness := (true, "5fb1d1503aec92cd68364642b33ecbe5f59c1267c03a5dce9240e18e61eaa901"), looks := true }, kinds := [], alts := [], laidByText := true, laidKinds := [.handle], laidTests := true, laidLooks := .later }
def MatrixPowersUptoCardSaid : Prop := Claim7.holds Tryd.pinned (.plain (OpenSpec.upto matrixPowersSpec)) matrixPowersUptoCard

/-- THE SECOND FORM's CARD OF 'ravelinlaw4.MatrixInverses'. -/
def matrixInversesUptoCard : Claim7 := { stood := { row := matrixInversesUptoRow, standIns := [], harness := (true, "5fb1d1503aec92cd68364642b33ecbe5f59c1267c03a5dce9240e18e61eaa901"), looks := true }, kinds := [], alts := [], laidByText := true, laidKinds := [.handle], laidTests := true, laidLooks := .later }
def MatrixInversesUptoCardSaid : Prop := Claim7.holds Tryd.pinned (.plain (OpenSpec.upto matrixInversesSpec)) matrixInversesUptoCard
end Rows
end Go.Proofs.YtjaabemlpiafaaaDoor
