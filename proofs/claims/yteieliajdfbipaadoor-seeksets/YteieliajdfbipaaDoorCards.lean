/-
  DERIVED. GIVEN WITH THE SEED: THE CARDS: each row of YteieliajdfbipaaDoorRows.lean that lists a variable, with what it lists TIED to the program's text (the seventh form; the later family's looks); each row that meets fmt, with fmt's text TOLD by the authors' own Lean function (tested against real Go, not proved from fmt's source: count such statements apart). THE CARD IS WHAT COUNTS. Prove the row's statement (the work); the ties are given (YteieliajdfbipaaDoorTie.lean); close each card by the builder's one call (the guide's Derived/Test/ToyasCard.lean, 'card_holds'). Laid BY PROGRAM, IN A SANDBOX (cutbox-door.mjs). By AI agents, Wed Nov 11 2026. No macro, syntax, notation, axiom, sorry.
-/
import Derived.Test.YteieliajdfbipaaDoorRows
import GoSem.ClaimSeven
namespace Go.Proofs.YteieliajdfbipaaDoor
namespace Rows

/-- THE TIED CARD OF 'ravelinlaw2.SeekIndexes'. -/
def seekIndexesCard : Claim7 := { stood := { row := seekIndexesRow, standIns := [], harness := (true, "08201a408bbb1924bf792cf9ba2d6d6b1dbdd07ddf7ce201a27d4874a19302a0"), looks := true }, kinds := [], alts := [], laidByText := true, laidKinds := [.handle], laidTests := true, laidLooks := .later }
def SeekIndexesCardSaid : Prop := Claim7.holds Tryd.pinned (.plain (OpenSpec.ofChange seekIndexesSpec)) seekIndexesCard

/-- THE TIED CARD OF 'ravelinlaw2.SeekIns'. -/
def seekInsCard : Claim7 := { stood := { row := seekInsRow, standIns := [], harness := (true, "08201a408bbb1924bf792cf9ba2d6d6b1dbdd07ddf7ce201a27d4874a19302a0"), looks := true }, kinds := [], alts := [], laidByText := true, laidKinds := [.handle], laidTests := true, laidLooks := .later }
def SeekInsCardSaid : Prop := Claim7.holds Tryd.pinned (.plain (OpenSpec.ofChange seekInsSpec)) seekInsCard

/-- THE TIED CARD OF 'ravelinlaw2.SeekSets'. -/
def seekSetsCard : Claim7 := { stood := { row := seekSetsRow, standIns := [], harness := (true, "08201a408bbb1924bf792cf9ba2d6d6b1dbdd07ddf7ce201a27d4874a19302a0"), looks := true }, kinds := [], alts := [], laidByText := true, laidKinds := [.handle], laidTests := true, laidLooks := .later }
def SeekSetsCardSaid : Prop := Claim7.holds Tryd.pinned (.plain (OpenSpec.ofChange seekSetsSpec)) seekSetsCard

/-- THE SECOND FORM's CARD OF 'ravelinlaw2.SeekIndexes'. -/
def seekIndexesUptoCard : Claim7 := { stood := { row := seekIndexesUptoRow, standIns := [], harness := (true, "08201a408bbb1924bf792cf9ba2d6d6b1dbdd07ddf7ce201a27d4874a19302a0"), looks := true }, kinds := [], alts := [], laidByText := true, laidKinds := [.handle], laidTests := true, laidLooks := .later }
def SeekIndexesUptoCardSaid : Prop := Claim7.holds Tryd.pinned (.plain (OpenSpec.upto seekIndexesSpec)) seekIndexesUptoCard

/-- THE SECOND FORM's CARD OF 'ravelinlaw2.SeekIns'. -/
def seekInsUptoCard : Claim7 := { stood := { row := seekInsUptoRow, standIns := [], harness := (true, "08201a408bbb1924bf792cf9ba2d6d6b1dbdd07ddf7ce201a27d4874a19302a0"), looks := true }, kinds := [], alts := [], laidByText := true, laidKinds := [.handle], laidTests := true, laidLooks := .later }
def SeekInsUptoCardSaid : Prop := Claim7.holds Tryd.pinned (.plain (OpenSpec.upto seekInsSpec)) seekInsUptoCard

/-- THE SECOND FORM's CARD OF 'ravelinlaw2.SeekSets'. -/
def seekSetsUptoCard : Claim7 := { stood := { row := seekSetsUptoRow, standIns := [], harness := (true, "08201a408bbb1924bf792cf9ba2d6d6b1dbdd07ddf7ce201a27d4874a19302a0"), looks := true }, kinds := [], alts := [], laidByText := true, laidKinds := [.handle], laidTests := true, laidLooks := .later }
def SeekSetsUptoCardSaid : Prop := Claim7.holds Tryd.pinned (.plain (OpenSpec.upto seekSetsSpec)) seekSetsUptoCard
end Rows
end Go.Proofs.YteieliajdfbipaaDoor
