/-
  No cell of these rows narrows 'for every input' (looked for: loops, veiled, ifaces, maps, wideKeys, modest, calm, conditions, laid).
  DERIVED. THE GIVEN ROWS OF THIS SEAT. 5 by the template 'for every input the law returns true; each argument reads behind the call as it read before'; 0 by the template 'total and deterministic' (their statements: YtjaabemlpiafaabTotals.lean).
  GIVEN WITH THE SEED: the statements are not yours to turn. If you find one false, say at which input.
  Laid BY PROGRAM, IN A SANDBOX (cutbox-rows.mjs): the forced cells as the released guide's own fill.sh prints them over the translation bd2c255451f11e30… (all of the seat's roots in one cut). By AI agents, Wed Nov 11 2026. No macro, syntax, notation, axiom, sorry.
-/
import Derived.Test.YtjaabemlpiafaabChecked
import GoSem.Claim
import GoSem.ClaimJoined
import GoSem.ClaimMapViews
import Derived.JoinedTies
import Derived.KernelRfl
namespace Go.Proofs.Ytjaabemlpiafaab
/- THE CELL 'sum', in the pinned program and in every row, IS THE sha256 OF THE DUMP (.gsa) THAT YtjaabemlpiafaabProg.lean LOADS. Nothing in Lean hashes anything: it is a label: what it is worth is what the hold of that sum in a sandbox is worth. -/
noncomputable def Try.pinned : Pinned := { name := "ytjaabemlpiafaab", sum := "bd2c255451f11e30a3f22be6944074f8b81a8ec50d5861d8e0758085b46a88ea", checked := Try.checked }
namespace Rows
def none {H : Type} : Left H := { results := [], args := [] }

/-- 'ravelinlaw4.MatrixHamilton': WHATEVER THE INPUT: true; the input reads as it did. -/
def matrixHamiltonSpec : ChangeSpec := { name := "matrixHamilton", fn := fun _ => fun
  | [d] => { results := [.lit (.bool true)], args := [d] }
  | _ => none }
def matrixHamiltonRow : OpenClaim := { program := "ytjaabemlpiafaab", sum := "bd2c255451f11e30a3f22be6944074f8b81a8ec50d5861d8e0758085b46a88ea", func := "ravelin/ravelinlaw4.MatrixHamilton", spec := "matrixHamilton", unfollowed := true, recurses := true, apart := false }
def MatrixHamiltonSaid : Prop := matrixHamiltonRow.holds Try.pinned (OpenSpec.ofChange matrixHamiltonSpec)

/-- ITS FALSE NEIGHBOUR: 'it returns false'. Refute it at one input. -/
def matrixHamiltonWrong : ChangeSpec := { name := "matrixHamilton", fn := fun _ => fun
  | [d] => { results := [.lit (.bool false)], args := [d] }
  | _ => none }
def MatrixHamiltonWrongFalsely : Prop := matrixHamiltonRow.holds Try.pinned (OpenSpec.ofChange matrixHamiltonWrong)

/-- 'ravelinlaw4.MatrixTurned': WHATEVER THE INPUT: true; the input reads as it did. -/
def matrixTurnedSpec : ChangeSpec := { name := "matrixTurned", fn := fun _ => fun
  | [d] => { results := [.lit (.bool true)], args := [d] }
  | _ => none }
def matrixTurnedRow : OpenClaim := { program := "ytjaabemlpiafaab", sum := "bd2c255451f11e30a3f22be6944074f8b81a8ec50d5861d8e0758085b46a88ea", func := "ravelin/ravelinlaw4.MatrixTurned", spec := "matrixTurned", unfollowed := true, recurses := true, apart := false }
def MatrixTurnedSaid : Prop := matrixTurnedRow.holds Try.pinned (OpenSpec.ofChange matrixTurnedSpec)

/-- ITS FALSE NEIGHBOUR: 'it returns false'. Refute it at one input. -/
def matrixTurnedWrong : ChangeSpec := { name := "matrixTurned", fn := fun _ => fun
  | [d] => { results := [.lit (.bool false)], args := [d] }
  | _ => none }
def MatrixTurnedWrongFalsely : Prop := matrixTurnedRow.holds Try.pinned (OpenSpec.ofChange matrixTurnedWrong)

/-- 'ravelinlaw4.MatrixSwaps': WHATEVER THE INPUT: true; the input reads as it did. -/
def matrixSwapsSpec : ChangeSpec := { name := "matrixSwaps", fn := fun _ => fun
  | [d1, d2, d3] => { results := [.lit (.bool true)], args := [d1, d2, d3] }
  | _ => none }
def matrixSwapsRow : OpenClaim := { program := "ytjaabemlpiafaab", sum := "bd2c255451f11e30a3f22be6944074f8b81a8ec50d5861d8e0758085b46a88ea", func := "ravelin/ravelinlaw4.MatrixSwaps", spec := "matrixSwaps", unfollowed := true, recurses := true, apart := false }
def MatrixSwapsSaid : Prop := matrixSwapsRow.holds Try.pinned (OpenSpec.ofChange matrixSwapsSpec)

/-- ITS FALSE NEIGHBOUR: 'it returns false'. Refute it at one input. -/
def matrixSwapsWrong : ChangeSpec := { name := "matrixSwaps", fn := fun _ => fun
  | [d1, d2, d3] => { results := [.lit (.bool false)], args := [d1, d2, d3] }
  | _ => none }
def MatrixSwapsWrongFalsely : Prop := matrixSwapsRow.holds Try.pinned (OpenSpec.ofChange matrixSwapsWrong)

/-- 'ravelinlaw4.MatrixRows': WHATEVER THE INPUT: true; the input reads as it did. -/
def matrixRowsSpec : ChangeSpec := { name := "matrixRows", fn := fun _ => fun
  | [d1, d2, d3, d4] => { results := [.lit (.bool true)], args := [d1, d2, d3, d4] }
  | _ => none }
def matrixRowsRow : OpenClaim := { program := "ytjaabemlpiafaab", sum := "bd2c255451f11e30a3f22be6944074f8b81a8ec50d5861d8e0758085b46a88ea", func := "ravelin/ravelinlaw4.MatrixRows", spec := "matrixRows", unfollowed := true, recurses := true, apart := false }
def MatrixRowsSaid : Prop := matrixRowsRow.holds Try.pinned (OpenSpec.ofChange matrixRowsSpec)

/-- ITS FALSE NEIGHBOUR: 'it returns false'. Refute it at one input. -/
def matrixRowsWrong : ChangeSpec := { name := "matrixRows", fn := fun _ => fun
  | [d1, d2, d3, d4] => { results := [.lit (.bool false)], args := [d1, d2, d3, d4] }
  | _ => none }
def MatrixRowsWrongFalsely : Prop := matrixRowsRow.holds Try.pinned (OpenSpec.ofChange matrixRowsWrong)

/-- 'ravelinlaw4.MatrixSylvester': WHATEVER THE INPUT: true; the input reads as it did. -/
def matrixSylvesterSpec : ChangeSpec := { name := "matrixSylvester", fn := fun _ => fun
  | [d1, d2] => { results := [.lit (.bool true)], args := [d1, d2] }
  | _ => none }
def matrixSylvesterRow : OpenClaim := { program := "ytjaabemlpiafaab", sum := "bd2c255451f11e30a3f22be6944074f8b81a8ec50d5861d8e0758085b46a88ea", func := "ravelin/ravelinlaw4.MatrixSylvester", spec := "matrixSylvester", unfollowed := true, recurses := true, apart := false }
def MatrixSylvesterSaid : Prop := matrixSylvesterRow.holds Try.pinned (OpenSpec.ofChange matrixSylvesterSpec)

/-- ITS FALSE NEIGHBOUR: 'it returns false'. Refute it at one input. -/
def matrixSylvesterWrong : ChangeSpec := { name := "matrixSylvester", fn := fun _ => fun
  | [d1, d2] => { results := [.lit (.bool false)], args := [d1, d2] }
  | _ => none }
def MatrixSylvesterWrongFalsely : Prop := matrixSylvesterRow.holds Try.pinned (OpenSpec.ofChange matrixSylvesterWrong)

/- THE SECOND FORM. 'bulk': how many values and letters a reading holds, each counted each time it is reached (what is shared counts as often as it is met; a slice's spare places count too). A statement '..UptoSaid' is the law's where the arguments, and the package variables that the reading takes, are together of bulk at most 1048576: NARROWER than '..Said'. Prove '..Said' where nothing that the law and all that it calls make is longer than what came in: it says more and counts as full. Else prove '..UptoSaid'. A law counts once. -/
mutual
def uptoBulk {H : Type} : DataW H → Nat
  | .lit (.string bytes) => bytes.length + 1
  | .lit _ => 1
  | .nil => 1
  | .ptr d => uptoBulk d + 1
  | .slice elems spare => uptoBulkAll elems + uptoBulkAll spare + 1
  | .agg parts => uptoBulkAll parts + 1
  | .iface _ d => uptoBulk d + 1
  | .map entries => uptoBulkEntries entries + 1
  | .held _ => 1
def uptoBulkAll {H : Type} : List (DataW H) → Nat
  | [] => 0
  | d :: r => uptoBulk d + uptoBulkAll r
def uptoBulkEntries {H : Type} : List (Lit × DataW H) → Nat
  | [] => 0
  | x :: r => uptoBulkEntry x + uptoBulkEntries r
def uptoBulkEntry {H : Type} : Lit × DataW H → Nat
  | (.string bytes, d) => bytes.length + uptoBulk d + 1
  | (_, d) => uptoBulk d + 1
 end
def uptoSmall : (H : Type) → List (DataW H) → Bool := fun _ ds => decide (uptoBulkAll ds ≤ 1048576)
def OpenSpec.upto (s : _root_.Go.ChangeSpec) : _root_.Go.OpenSpec := { _root_.Go.OpenSpec.ofChange s with cond := some uptoSmall }

/-- 'ravelinlaw4.MatrixHamilton', WHERE WHAT IT READS IS OF BULK AT MOST 1048576: true; the input reads as it did. -/
def matrixHamiltonUptoRow : OpenClaim := { program := "ytjaabemlpiafaab", sum := "bd2c255451f11e30a3f22be6944074f8b81a8ec50d5861d8e0758085b46a88ea", func := "ravelin/ravelinlaw4.MatrixHamilton", spec := "matrixHamilton", unfollowed := true, recurses := true, apart := false, narrowed := true }
def MatrixHamiltonUptoSaid : Prop := matrixHamiltonUptoRow.holds Try.pinned (OpenSpec.upto matrixHamiltonSpec)

/-- 'ravelinlaw4.MatrixTurned', WHERE WHAT IT READS IS OF BULK AT MOST 1048576: true; the input reads as it did. -/
def matrixTurnedUptoRow : OpenClaim := { program := "ytjaabemlpiafaab", sum := "bd2c255451f11e30a3f22be6944074f8b81a8ec50d5861d8e0758085b46a88ea", func := "ravelin/ravelinlaw4.MatrixTurned", spec := "matrixTurned", unfollowed := true, recurses := true, apart := false, narrowed := true }
def MatrixTurnedUptoSaid : Prop := matrixTurnedUptoRow.holds Try.pinned (OpenSpec.upto matrixTurnedSpec)

/-- 'ravelinlaw4.MatrixSwaps', WHERE WHAT IT READS IS OF BULK AT MOST 1048576: true; the input reads as it did. -/
def matrixSwapsUptoRow : OpenClaim := { program := "ytjaabemlpiafaab", sum := "bd2c255451f11e30a3f22be6944074f8b81a8ec50d5861d8e0758085b46a88ea", func := "ravelin/ravelinlaw4.MatrixSwaps", spec := "matrixSwaps", unfollowed := true, recurses := true, apart := false, narrowed := true }
def MatrixSwapsUptoSaid : Prop := matrixSwapsUptoRow.holds Try.pinned (OpenSpec.upto matrixSwapsSpec)

/-- 'ravelinlaw4.MatrixRows', WHERE WHAT IT READS IS OF BULK AT MOST 1048576: true; the input reads as it did. -/
def matrixRowsUptoRow : OpenClaim := { program := "ytjaabemlpiafaab", sum := "bd2c255451f11e30a3f22be6944074f8b81a8ec50d5861d8e0758085b46a88ea", func := "ravelin/ravelinlaw4.MatrixRows", spec := "matrixRows", unfollowed := true, recurses := true, apart := false, narrowed := true }
def MatrixRowsUptoSaid : Prop := matrixRowsUptoRow.holds Try.pinned (OpenSpec.upto matrixRowsSpec)

/-- 'ravelinlaw4.MatrixSylvester', WHERE WHAT IT READS IS OF BULK AT MOST 1048576: true; the input reads as it did. -/
def matrixSylvesterUptoRow : OpenClaim := { program := "ytjaabemlpiafaab", sum := "bd2c255451f11e30a3f22be6944074f8b81a8ec50d5861d8e0758085b46a88ea", func := "ravelin/ravelinlaw4.MatrixSylvester", spec := "matrixSylvester", unfollowed := true, recurses := true, apart := false, narrowed := true }
def MatrixSylvesterUptoSaid : Prop := matrixSylvesterUptoRow.holds Try.pinned (OpenSpec.upto matrixSylvesterSpec)

end Rows
end Go.Proofs.Ytjaabemlpiafaab
