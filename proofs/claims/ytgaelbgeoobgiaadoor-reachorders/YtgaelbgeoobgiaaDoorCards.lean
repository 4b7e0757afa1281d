/-
  DERIVED. GIVEN WITH THE SEED: THE CARDS: each row of YtgaelbgeoobgiaaDoorRows.lean that lists a variable, with what it lists TIED to the program's text (the seventh form; the later family's looks); each row that meets fmt, with fmt's text TOLD by the authors' own Lean function (tested against real Go, not proved from fmt's source: count such statements apart). THE CARD IS WHAT COUNTS. Prove the row's statement (the work); the ties are given (YtgaelbgeoobgiaaDoorTie.lean); close each card by the builder's one call (the guide's Derived/Test/ToyasCard.lean, 'card_holds'). Laid BY PROGRAM, IN A SANDBOX (cutbox-door.mjs). By AI agents, Wed Nov 11 2026. No macro, syntax, notation, axiom, sorry.
-/
import Derived.Test.YtgaelbgeoobgiaaDoorRows
import GoSem.ClaimSeven
namespace Go.Proofs.YtgaelbgeoobgiaaDoor
namespace Rows

/-- THE TIED CARD OF 'ravelinlaw4.ReachCloses'. -/
def reachClosesCard : Claim7 := { stood := { row := reachClosesRow, standIns := [], harness := (true, "3f2eab7b7e3863fca003e2d70e5f3f9accf6603aa524d3fba21750b6961be415"), looks := true }, kinds := [], alts := [], laidByText := true, laidKinds := [.handle], laidTests := true, laidLooks := .later }
def ReachClosesCardSaid : Prop := Claim7.holds Tryd.pinned (.plain (OpenSpec.ofChange reachClosesSpec)) reachClosesCard

/-- THE TIED CARD OF 'ravelinlaw4.ReachOrders'. -/
def reachOrdersCard : Claim7 := { stood := { row := reachOrdersRow, standIns := [], harness := (true, "3f2eab7b7e3863fca003e2d70e5f3f9accf6603aa524d3fba21750b6961be415"), looks := true }, kinds := [], alts := [], laidByText := true, laidKinds := [.handle], laidTests := true, laidLooks := .later }
def ReachOrdersCardSaid : Prop := Claim7.holds Tryd.pinned (.plain (OpenSpec.ofChange reachOrdersSpec)) reachOrdersCard

/-- THE TIED CARD OF 'ravelinlaw4.ReachFars'. -/
def reachFarsCard : Claim7 := { stood := { row := reachFarsRow, standIns := [], harness := (true, "3f2eab7b7e3863fca003e2d70e5f3f9accf6603aa524d3fba21750b6961be415"), looks := true }, kinds := [], alts := [], laidByText := true, laidKinds := [.handle], laidTests := true, laidLooks := .later }
def ReachFarsCardSaid : Prop := Claim7.holds Tryd.pinned (.plain (OpenSpec.ofChange reachFarsSpec)) reachFarsCard

/-- THE SECOND FORM's CARD OF 'ravelinlaw4.ReachCloses'. -/
def reachClosesUptoCard : Claim7 := { stood := { row := reachClosesUptoRow, standIns := [], harness := (true, "3f2eab7b7e3863fca003e2d70e5f3f9accf6603aa524d3fba21750b6961be415"), looks := true }, kinds := [], alts := [], laidByText := true, laidKinds := [.handle], laidTests := true, laidLooks := .later }
def ReachClosesUptoCardSaid : Prop := Claim7.holds Tryd.pinned (.plain (OpenSpec.upto reachClosesSpec)) reachClosesUptoCard

/-- THE SECOND FORM's CARD OF 'ravelinlaw4.ReachOrders'. -/
def reachOrdersUptoCard : Claim7 := { stood := { row := reachOrdersUptoRow, standIns := [], harness := (true, "3f2eab7b7e3863fca003e2d70e5f3f9accf6603aa524d3fba21750b6961be415"), looks := true }, kinds := [], alts := [], laidByText := true, laidKinds := [.handle], laidTests := true, laidLooks := .later }
def ReachOrdersUptoCardSaid : Prop := Claim7.holds Tryd.pinned (.plain (OpenSpec.upto reachOrdersSpec)) reachOrdersUptoCard

/-- THE SECOND FORM's CARD OF 'ravelinlaw4.ReachFars'. -/
def reachFarsUptoCard : Claim7 := { stood := { row := reachFarsUptoRow, standIns := [], harness := (true, "3f2eab7b7e3863fca003e2d70e5f3f9accf6603aa524d3fba21750b6961be415"), looks := true }, kinds := [], alts := [], laidByText := true, laidKinds := [.handle], laidTests := true, laidLooks := .later }
def ReachFarsUptoCardSaid : Prop := Claim7.holds Tryd.pinned (.plain (OpenSpec.upto reachFarsSpec)) reachFarsUptoCard
end Rows
end Go.Proofs.YtgaelbgeoobgiaaDoor
