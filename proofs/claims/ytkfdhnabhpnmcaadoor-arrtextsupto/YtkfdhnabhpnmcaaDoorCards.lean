/-
  DERIVED. GIVEN WITH THE SEED: THE CARDS: each row of YtkfdhnabhpnmcaaDoorRows.lean that lists a variable, with what it lists TIED to the program's text (the seventh form; the later family's looks); each row that meets fmt, with fmt's text TOLD by the authors' own Lean function (tested against real Go, not proved from fmt's source: count such statements apart). THE CARD IS WHAT COUNTS. Prove the row's statement (the work); the ties are given (YtkfdhnabhpnmcaaDoorTie.lean); close each card by the builder's one call (the guide's Derived/Test/ToyasCard.lean, 'card_holds'). Laid BY PROGRAM, IN A SANDBOX (cutbox-door.mjs). By AI agents, Wed Nov 11 2026. No macro, syntax, notation, axiom, sorry.
-/
import Derived.Test.YtkfdhnabhpnmcaaDoorRows
import GoSem.ClaimSeven
namespace Go.Proofs.YtkfdhnabhpnmcaaDoor
namespace Rows

/-- THE TIED CARD OF 'ravelinlaw1.ArrChecks'. -/
def arrChecksCard : Claim7 := { stood := { row := arrChecksRow, standIns := [], harness := (true, "978beb15b48b15f5b91872e84c63b966da5637d7d495b7d5cb755e6ccc21e9c1"), looks := true }, kinds := [], alts := [], laidByText := true, laidKinds := [.handle], laidTests := true, laidLooks := .later }
def ArrChecksCardSaid : Prop := Claim7.holds Tryd.pinned (.plain (OpenSpec.ofChange arrChecksSpec)) arrChecksCard

/-- THE TIED CARD OF 'ravelinlaw1.ArrShapes'. -/
def arrShapesCard : Claim7 := { stood := { row := arrShapesRow, standIns := [], harness := (true, "978beb15b48b15f5b91872e84c63b966da5637d7d495b7d5cb755e6ccc21e9c1"), looks := true }, kinds := [], alts := [], laidByText := true, laidKinds := [.handle], laidTests := true, laidLooks := .later }
def ArrShapesCardSaid : Prop := Claim7.holds Tryd.pinned (.plain (OpenSpec.ofChange arrShapesSpec)) arrShapesCard

/-- THE TIED CARD OF 'ravelinlaw1.ArrIotas'. -/
def arrIotasCard : Claim7 := { stood := { row := arrIotasRow, standIns := [], harness := (true, "978beb15b48b15f5b91872e84c63b966da5637d7d495b7d5cb755e6ccc21e9c1"), looks := true }, kinds := [], alts := [], laidByText := true, laidKinds := [.handle], laidTests := true, laidLooks := .later }
def ArrIotasCardSaid : Prop := Claim7.holds Tryd.pinned (.plain (OpenSpec.ofChange arrIotasSpec)) arrIotasCard

/-- THE TIED CARD OF 'ravelinlaw1.ArrTexts'. -/
def arrTextsCard : Claim7 := { stood := { row := arrTextsRow, standIns := [], harness := (true, "978beb15b48b15f5b91872e84c63b966da5637d7d495b7d5cb755e6ccc21e9c1"), looks := true }, kinds := [], alts := [], laidByText := true, laidKinds := [.data, .handle, .pinned], laidTests := true, laidLooks := .later }
def ArrTextsCardSaid : Prop := Claim7.holds Tryd.pinned (.plain (OpenSpec.ofChange arrTextsSpec)) arrTextsCard

/-- THE SECOND FORM's CARD OF 'ravelinlaw1.ArrChecks'. -/
def arrChecksUptoCard : Claim7 := { stood := { row := arrChecksUptoRow, standIns := [], harness := (true, "978beb15b48b15f5b91872e84c63b966da5637d7d495b7d5cb755e6ccc21e9c1"), looks := true }, kinds := [], alts := [], laidByText := true, laidKinds := [.handle], laidTests := true, laidLooks := .later }
def ArrChecksUptoCardSaid : Prop := Claim7.holds Tryd.pinned (.plain (OpenSpec.upto arrChecksSpec)) arrChecksUptoCard

/-- THE SECOND FORM's CARD OF 'ravelinlaw1.ArrShapes'. -/
def arrShapesUptoCard : Claim7 := { stood := { row := arrShapesUptoRow, standIns := [], harness := (true, "978beb15b48b15f5b91872e84c63b966da5637d7d495b7d5cb755e6ccc21e9c1"), looks := true }, kinds := [], alts := [], laidByText := true, laidKinds := [.handle], laidTests := true, laidLooks := .later }
def ArrShapesUptoCardSaid : Prop := Claim7.holds Tryd.pinned (.plain (OpenSpec.upto arrShapesSpec)) arrShapesUptoCard

/-- THE SECOND FORM's CARD OF 'ravelinlaw1.ArrIotas'. -/
def arrIotasUptoCard : Claim7 := { stood := { row := arrIotasUptoRow, standIns := [], harness := (true, "978beb15b48b15f5b91872e84c63b966da5637d7d495b7d5cb755e6ccc21e9c1"), looks := true }, kinds := [], alts := [], laidByText := true, laidKinds := [.handle], laidTests := true, laidLooks := .later }
def ArrIotasUptoCardSaid : Prop := Claim7.holds Tryd.pinned (.plain (OpenSpec.upto arrIotasSpec)) arrIotasUptoCard

/-- THE SECOND FORM's CARD OF 'ravelinlaw1.ArrTexts'. -/
def arrTextsUptoCard : Claim7 := { stood := { row := arrTextsUptoRow, standIns := [], harness := (true, "978beb15b48b15f5b91872e84c63b966da5637d7d495b7d5cb755e6ccc21e9c1"), looks := true }, kinds := [], alts := [], laidByText := true, laidKinds := [.data, .handle, .pinned], laidTests := true, laidLooks := .later }
def ArrTextsUptoCardSaid : Prop := Claim7.holds Tryd.pinned (.plain (OpenSpec.upto arrTextsSpec)) arrTextsUptoCard
end Rows
end Go.Proofs.YtkfdhnabhpnmcaaDoor
