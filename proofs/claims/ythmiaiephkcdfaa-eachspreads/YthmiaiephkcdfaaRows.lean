/-
  No cell of these rows narrows 'for every input' (looked for: loops, veiled, ifaces, maps, wideKeys, modest, calm, conditions, laid).
  DERIVED. THE GIVEN ROWS OF THIS SEAT. 3 by the template 'for every input the law returns true; each argument reads behind the call as it read before'; 0 by the template 'total and deterministic' (their statements: YthmiaiephkcdfaaTotals.lean).
  GIVEN WITH THE SEED: the statements are not yours to turn. If you find one false, say at which input.
  Laid BY PROGRAM, IN A SANDBOX (cutbox-rows.mjs): the forced cells as the released guide's own fill.sh prints them over the translation 32f0269fd03038c9… (all of the seat's roots in one cut). By AI agents, Wed Nov 11 2026. No macro, syntax, notation, axiom, sorry.
-/
import Derived.Test.YthmiaiephkcdfaaChecked
import GoSem.Claim
import GoSem.ClaimJoined
import GoSem.ClaimMapViews
import Derived.JoinedTies
import Derived.KernelRfl
namespace Go.Proofs.Ythmiaiephkcdfaa
/- THE CELL 'sum', in the pinned program and in every row, IS THE sha256 OF THE DUMP (.gsa) THAT YthmiaiephkcdfaaProg.lean LOADS. Nothing in Lean hashes anything: it is a label: what it is worth is what the hold of that sum in a sandbox is worth. -/
noncomputable def Try.pinned : Pinned := { name := "ythmiaiephkcdfaa", sum := "32f0269fd03038c9019bae376036533afb72bcefd528143b20f049ddc5231627", checked := Try.checked }
namespace Rows
def none {H : Type} : Left H := { results := [], args := [] }

/-- 'ravelinlaw1.ArrBack': WHATEVER THE INPUT: true; the input reads as it did. -/
def arrBackSpec : ChangeSpec := { name := "arrBack", fn := fun _ => fun
  | [d] => { results := [.lit (.bool true)], args := [d] }
  | _ => none }
def arrBackRow : OpenClaim := { program := "ythmiaiephkcdfaa", sum := "32f0269fd03038c9019bae376036533afb72bcefd528143b20f049ddc5231627", func := "ravelin/ravelinlaw1.ArrBack", spec := "arrBack", unfollowed := true, recurses := true, apart := false }
def ArrBackSaid : Prop := arrBackRow.holds Try.pinned (OpenSpec.ofChange arrBackSpec)

/-- ITS FALSE NEIGHBOUR: 'it returns false'. Refute it at one input. -/
def arrBackWrong : ChangeSpec := { name := "arrBack", fn := fun _ => fun
  | [d] => { results := [.lit (.bool false)], args := [d] }
  | _ => none }
def ArrBackWrongFalsely : Prop := arrBackRow.holds Try.pinned (OpenSpec.ofChange arrBackWrong)

/-- 'ravelinlaw1.ArrCycles': WHATEVER THE INPUT: true; the input reads as it did. -/
def arrCyclesSpec : ChangeSpec := { name := "arrCycles", fn := fun _ => fun
  | [d1, d2, d3] => { results := [.lit (.bool true)], args := [d1, d2, d3] }
  | _ => none }
def arrCyclesRow : OpenClaim := { program := "ythmiaiephkcdfaa", sum := "32f0269fd03038c9019bae376036533afb72bcefd528143b20f049ddc5231627", func := "ravelin/ravelinlaw1.ArrCycles", spec := "arrCycles", unfollowed := true, recurses := true, apart := false }
def ArrCyclesSaid : Prop := arrCyclesRow.holds Try.pinned (OpenSpec.ofChange arrCyclesSpec)

/-- ITS FALSE NEIGHBOUR: 'it returns false'. Refute it at one input. -/
def arrCyclesWrong : ChangeSpec := { name := "arrCycles", fn := fun _ => fun
  | [d1, d2, d3] => { results := [.lit (.bool false)], args := [d1, d2, d3] }
  | _ => none }
def ArrCyclesWrongFalsely : Prop := arrCyclesRow.holds Try.pinned (OpenSpec.ofChange arrCyclesWrong)

/-- 'ravelinlaw1.EachSpreads': WHATEVER THE INPUT: true; the input reads as it did. -/
def eachSpreadsSpec : ChangeSpec := { name := "eachSpreads", fn := fun _ => fun
  | [d1, d2, d3] => { results := [.lit (.bool true)], args := [d1, d2, d3] }
  | _ => none }
def eachSpreadsRow : OpenClaim := { program := "ythmiaiephkcdfaa", sum := "32f0269fd03038c9019bae376036533afb72bcefd528143b20f049ddc5231627", func := "ravelin/ravelinlaw1.EachSpreads", spec := "eachSpreads", unfollowed := true, recurses := true, apart := false }
def EachSpreadsSaid : Prop := eachSpreadsRow.holds Try.pinned (OpenSpec.ofChange eachSpreadsSpec)

/-- ITS FALSE NEIGHBOUR: 'it returns false'. Refute it at one input. -/
def eachSpreadsWrong : ChangeSpec := { name := "eachSpreads", fn := fun _ => fun
  | [d1, d2, d3] => { results := [.lit (.bool false)], args := [d1, d2, d3] }
  | _ => none }
def EachSpreadsWrongFalsely : Prop := eachSpreadsRow.holds Try.pinned (OpenSpec.ofChange eachSpreadsWrong)

/- THE SECOND FORM. 'bulk': how many values and letters a reading holds, each counted each time it is reached (what is shared counts as often as it is met; a slice's spare places count too). A statement '..UptoSaid' is the law's where the arguments, and the package variables that the reading takes, are together of bulk at most 1048576: NARROWER than '..Said'. Prove '..Said' where nothing that the law and all that it calls make is longer than what came in: it says more and counts as full. Else prove '..UptoSaid'. A law counts once. -/
mutual
def uptoBulk {H : Type} : DataW H → Nat
  | .lit (.string bytes) => bytes.length + 1
  | .lit _ => 1
  | .nil => 1
  | .ptr d => uptoBulk d + 1
  | .slice elems spare => uptoBulkAll elems + uptoBulkAll spare + 1
  | .agg parts => uptoBulkAll parts + 1
  | .iface _ d => uptoBulk d + 1
  | .map entries => uptoBulkEntries entries + 1
  | .held _ => 1
def uptoBulkAll {H : Type} : List (DataW H) → Nat
  | [] => 0
  | d :: r => uptoBulk d + uptoBulkAll r
def uptoBulkEntries {H : Type} : List (Lit × DataW H) → Nat
  | [] => 0
  | x :: r => uptoBulkEntry x + uptoBulkEntries r
def uptoBulkEntry {H : Type} : Lit × DataW H → Nat
  | (.string bytes, d) => bytes.length + uptoBulk d + 1
  | (_, d) => uptoBulk d + 1
 end
def uptoSmall : (H : Type) → List (DataW H) → Bool := fun _ ds => decide (uptoBulkAll ds ≤ 1048576)
def OpenSpec.upto (s : _root_.Go.ChangeSpec) : _root_.Go.OpenSpec := { _root_.Go.OpenSpec.ofChange s with cond := some uptoSmall }

/-- 'ravelinlaw1.ArrBack', WHERE WHAT IT READS IS OF BULK AT MOST 1048576: true; the input reads as it did. -/
def arrBackUptoRow : OpenClaim := { program := "ythmiaiephkcdfaa", sum := "32f0269fd03038c9019bae376036533afb72bcefd528143b20f049ddc5231627", func := "ravelin/ravelinlaw1.ArrBack", spec := "arrBack", unfollowed := true, recurses := true, apart := false, narrowed := true }
def ArrBackUptoSaid : Prop := arrBackUptoRow.holds Try.pinned (OpenSpec.upto arrBackSpec)

/-- 'ravelinlaw1.ArrCycles', WHERE WHAT IT READS IS OF BULK AT MOST 1048576: true; the input reads as it did. -/
def arrCyclesUptoRow : OpenClaim := { program := "ythmiaiephkcdfaa", sum := "32f0269fd03038c9019bae376036533afb72bcefd528143b20f049ddc5231627", func := "ravelin/ravelinlaw1.ArrCycles", spec := "arrCycles", unfollowed := true, recurses := true, apart := false, narrowed := true }
def ArrCyclesUptoSaid : Prop := arrCyclesUptoRow.holds Try.pinned (OpenSpec.upto arrCyclesSpec)

/-- 'ravelinlaw1.EachSpreads', WHERE WHAT IT READS IS OF BULK AT MOST 1048576: true; the input reads as it did. -/
def eachSpreadsUptoRow : OpenClaim := { program := "ythmiaiephkcdfaa", sum := "32f0269fd03038c9019bae376036533afb72bcefd528143b20f049ddc5231627", func := "ravelin/ravelinlaw1.EachSpreads", spec := "eachSpreads", unfollowed := true, recurses := true, apart := false, narrowed := true }
def EachSpreadsUptoSaid : Prop := eachSpreadsUptoRow.holds Try.pinned (OpenSpec.upto eachSpreadsSpec)

end Rows
end Go.Proofs.Ythmiaiephkcdfaa
