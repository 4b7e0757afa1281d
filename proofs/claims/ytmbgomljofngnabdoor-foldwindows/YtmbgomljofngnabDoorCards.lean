/-
  DERIVED. GIVEN WITH THE SEED: THE CARDS: each row of YtmbgomljofngnabDoorRows.lean that lists a variable, with what it lists TIED to the program's text (the seventh form; the later family's looks); each row that meets fmt, with fmt's text TOLD by the authors' own Lean function (tested against real Go, not proved from fmt's source: count such statements apart). THE CARD IS WHAT COUNTS. Prove the row's statement (the work); the ties are given (YtmbgomljofngnabDoorTie.lean); close each card by the builder's one call (the guide's Derived/Test/ToyasCard.lean, 'card_holds'). Laid BY PROGRAM, IN A SANDBOX (cutbox-door.mjs). By AI agents, Wed Nov 11 2026. No macro, syntax, notation, axiom, sorry.
-/
import Derived.Test.YtmbgomljofngnabDoorRows
import GoSem.ClaimSeven
namespace Go.Proofs.YtmbgomljofngnabDoor
namespace Rows

/-- THE TIED CARD OF 'ravelinlaw3.FoldReduces'. -/
def foldReducesCard : Claim7 := { stood := { row := foldReducesRow, standIns := [], harness := (true, "e384f3849ebe6720b91b41b5d0e291c98cbce7a954e76c72f9620058c417c42f"), looks := true }, kinds := [], alts := [], laidByText := true, laidKinds := [.handle], laidTests := true, laidLooks := .later }
def FoldReducesCardSaid : Prop := Claim7.holds Tryd.pinned (.plain (OpenSpec.ofChange foldReducesSpec)) foldReducesCard

/-- THE TIED CARD OF 'ravelinlaw3.FoldScans'. -/
def foldScansCard : Claim7 := { stood := { row := foldScansRow, standIns := [], harness := (true, "e384f3849ebe6720b91b41b5d0e291c98cbce7a954e76c72f9620058c417c42f"), looks := true }, kinds := [], alts := [], laidByText := true, laidKinds := [.handle], laidTests := true, laidLooks := .later }
def FoldScansCardSaid : Prop := Claim7.holds Tryd.pinned (.plain (OpenSpec.ofChange foldScansSpec)) foldScansCard

/-- THE TIED CARD OF 'ravelinlaw3.FoldWindows'. -/
def foldWindowsCard : Claim7 := { stood := { row := foldWindowsRow, standIns := [], harness := (true, "e384f3849ebe6720b91b41b5d0e291c98cbce7a954e76c72f9620058c417c42f"), looks := true }, kinds := [], alts := [], laidByText := true, laidKinds := [.handle], laidTests := true, laidLooks := .later }
def FoldWindowsCardSaid : Prop := Claim7.holds Tryd.pinned (.plain (OpenSpec.ofChange foldWindowsSpec)) foldWindowsCard

/-- THE SECOND FORM's CARD OF 'ravelinlaw3.FoldReduces'. -/
def foldReducesUptoCard : Claim7 := { stood := { row := foldReducesUptoRow, standIns := [], harness := (true, "e384f3849ebe6720b91b41b5d0e291c98cbce7a954e76c72f9620058c417c42f"), looks := true }, kinds := [], alts := [], laidByText := true, laidKinds := [.handle], laidTests := true, laidLooks := .later }
def FoldReducesUptoCardSaid : Prop := Claim7.holds Tryd.pinned (.plain (OpenSpec.upto foldReducesSpec)) foldReducesUptoCard

/-- THE SECOND FORM's CARD OF 'ravelinlaw3.FoldScans'. -/
def foldScansUptoCard : Claim7 := { stood := { row := foldScansUptoRow, standIns := [], harness := (true, "e384f3849ebe6720b91b41b5d0e291c98cbce7a954e76c72f9620058c417c42f"), looks := true }, kinds := [], alts := [], laidByText := true, laidKinds := [.handle], laidTests := true, laidLooks := .later }
def FoldScansUptoCardSaid : Prop := Claim7.holds Tryd.pinned (.plain (OpenSpec.upto foldScansSpec)) foldScansUptoCard

/-- THE SECOND FORM's CARD OF 'ravelinlaw3.FoldWindows'. -/
def foldWindowsUptoCard : Claim7 := { stood := { row := foldWindowsUptoRow, standIns := [], harness := (true, "e384f3849ebe6720b91b41b5d0e291c98cbce7a954e76c72f9620058c417c42f"), looks := true }, kinds := [], alts := [], laidByText := true, laidKinds := [.handle], laidTests := true, laidLooks := .later }
def FoldWindowsUptoCardSaid : Prop := Claim7.holds Tryd.pinned (.plain (OpenSpec.upto foldWindowsSpec)) foldWindowsUptoCard
end Rows
end Go.Proofs.YtmbgomljofngnabDoor
