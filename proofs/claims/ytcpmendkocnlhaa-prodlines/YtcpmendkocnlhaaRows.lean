/-
  No cell of these rows narrows 'for every input' (looked for: loops, veiled, ifaces, maps, wideKeys, modest, calm, conditions, laid).
  DERIVED. THE GIVEN ROWS OF THIS SEAT. 4 by the template 'for every input the law returns true; each argument reads behind the call as it read before'; 0 by the template 'total and deterministic' (their statements: YtcpmendkocnlhaaTotals.lean).
  GIVEN WITH THE SEED: the statements are not yours to turn. If you find one false, say at which input.
  Laid BY PROGRAM, IN A SANDBOX (cutbox-rows.mjs): the forced cells as the released guide's own fill.sh prints them over the translation 367bfdf60ad2e30c… (all of the seat's roots in one cut). By AI agents, Wed Nov 11 2026. No macro, syntax, notation, axiom, sorry.
-/
import Derived.Test.YtcpmendkocnlhaaChecked
import GoSem.Claim
import GoSem.ClaimJoined
import GoSem.ClaimMapViews
import Derived.JoinedTies
import Derived.KernelRfl
namespace Go.Proofs.Ytcpmendkocnlhaa
/- THE CELL 'sum', in the pinned program and in every row, IS THE sha256 OF THE DUMP (.gsa) THAT YtcpmendkocnlhaaProg.lean LOADS. Nothing in Lean hashes anything: it is a label: what it is worth is what the hold of that sum in a sandbox is worth. -/
noncomputable def Try.pinned : Pinned := { name := "ytcpmendkocnlhaa", sum := "367bfdf60ad2e30c18cf525ee538ce3632db4a1571d9ff30df0e2a5cf2bc0b85", checked := Try.checked }
namespace Rows
def none {H : Type} : Left H := { results := [], args := [] }

/-- 'ravelinlaw4.ProdChain': WHATEVER THE INPUT: true; the input reads as it did. -/
def prodChainSpec : ChangeSpec := { name := "prodChain", fn := fun _ => fun
  | [d1, d2, d3, d4, d5] => { results := [.lit (.bool true)], args := [d1, d2, d3, d4, d5] }
  | _ => none }
def prodChainRow : OpenClaim := { program := "ytcpmendkocnlhaa", sum := "367bfdf60ad2e30c18cf525ee538ce3632db4a1571d9ff30df0e2a5cf2bc0b85", func := "ravelin/ravelinlaw4.ProdChain", spec := "prodChain", unfollowed := true, recurses := true, apart := false }
def ProdChainSaid : Prop := prodChainRow.holds Try.pinned (OpenSpec.ofChange prodChainSpec)

/-- ITS FALSE NEIGHBOUR: 'it returns false'. Refute it at one input. -/
def prodChainWrong : ChangeSpec := { name := "prodChain", fn := fun _ => fun
  | [d1, d2, d3, d4, d5] => { results := [.lit (.bool false)], args := [d1, d2, d3, d4, d5] }
  | _ => none }
def ProdChainWrongFalsely : Prop := prodChainRow.holds Try.pinned (OpenSpec.ofChange prodChainWrong)

/-- 'ravelinlaw4.ProdTurned': WHATEVER THE INPUT: true; the input reads as it did. -/
def prodTurnedSpec : ChangeSpec := { name := "prodTurned", fn := fun _ => fun
  | [d1, d2, d3, d4] => { results := [.lit (.bool true)], args := [d1, d2, d3, d4] }
  | _ => none }
def prodTurnedRow : OpenClaim := { program := "ytcpmendkocnlhaa", sum := "367bfdf60ad2e30c18cf525ee538ce3632db4a1571d9ff30df0e2a5cf2bc0b85", func := "ravelin/ravelinlaw4.ProdTurned", spec := "prodTurned", unfollowed := true, recurses := true, apart := false }
def ProdTurnedSaid : Prop := prodTurnedRow.holds Try.pinned (OpenSpec.ofChange prodTurnedSpec)

/-- ITS FALSE NEIGHBOUR: 'it returns false'. Refute it at one input. -/
def prodTurnedWrong : ChangeSpec := { name := "prodTurned", fn := fun _ => fun
  | [d1, d2, d3, d4] => { results := [.lit (.bool false)], args := [d1, d2, d3, d4] }
  | _ => none }
def ProdTurnedWrongFalsely : Prop := prodTurnedRow.holds Try.pinned (OpenSpec.ofChange prodTurnedWrong)

/-- 'ravelinlaw4.ProdSums': WHATEVER THE INPUT: true; the input reads as it did. -/
def prodSumsSpec : ChangeSpec := { name := "prodSums", fn := fun _ => fun
  | [d1, d2, d3] => { results := [.lit (.bool true)], args := [d1, d2, d3] }
  | _ => none }
def prodSumsRow : OpenClaim := { program := "ytcpmendkocnlhaa", sum := "367bfdf60ad2e30c18cf525ee538ce3632db4a1571d9ff30df0e2a5cf2bc0b85", func := "ravelin/ravelinlaw4.ProdSums", spec := "prodSums", unfollowed := true, recurses := true, apart := false }
def ProdSumsSaid : Prop := prodSumsRow.holds Try.pinned (OpenSpec.ofChange prodSumsSpec)

/-- ITS FALSE NEIGHBOUR: 'it returns false'. Refute it at one input. -/
def prodSumsWrong : ChangeSpec := { name := "prodSums", fn := fun _ => fun
  | [d1, d2, d3] => { results := [.lit (.bool false)], args := [d1, d2, d3] }
  | _ => none }
def ProdSumsWrongFalsely : Prop := prodSumsRow.holds Try.pinned (OpenSpec.ofChange prodSumsWrong)

/-- 'ravelinlaw4.ProdLines': WHATEVER THE INPUT: true; the input reads as it did. -/
def prodLinesSpec : ChangeSpec := { name := "prodLines", fn := fun _ => fun
  | [d1, d2, d3, d4] => { results := [.lit (.bool true)], args := [d1, d2, d3, d4] }
  | _ => none }
def prodLinesRow : OpenClaim := { program := "ytcpmendkocnlhaa", sum := "367bfdf60ad2e30c18cf525ee538ce3632db4a1571d9ff30df0e2a5cf2bc0b85", func := "ravelin/ravelinlaw4.ProdLines", spec := "prodLines", unfollowed := true, recurses := true, apart := false }
def ProdLinesSaid : Prop := prodLinesRow.holds Try.pinned (OpenSpec.ofChange prodLinesSpec)

/-- ITS FALSE NEIGHBOUR: 'it returns false'. Refute it at one input. -/
def prodLinesWrong : ChangeSpec := { name := "prodLines", fn := fun _ => fun
  | [d1, d2, d3, d4] => { results := [.lit (.bool false)], args := [d1, d2, d3, d4] }
  | _ => none }
def ProdLinesWrongFalsely : Prop := prodLinesRow.holds Try.pinned (OpenSpec.ofChange prodLinesWrong)

/- THE SECOND FORM. 'bulk': how many values and letters a reading holds, each counted each time it is reached (what is shared counts as often as it is met; a slice's spare places count too). A statement '..UptoSaid' is the law's where the arguments, and the package variables that the reading takes, are together of bulk at most 1048576: NARROWER than '..Said'. Prove '..Said' where nothing that the law and all that it calls make is longer than what came in: it says more and counts as full. Else prove '..UptoSaid'. A law counts once. -/
mutual
def uptoBulk {H : Type} : DataW H → Nat
  | .lit (.string bytes) => bytes.length + 1
  | .lit _ => 1
  | .nil => 1
  | .ptr d => uptoBulk d + 1
  | .slice elems spare => uptoBulkAll elems + uptoBulkAll spare + 1
  | .agg parts => uptoBulkAll parts + 1
  | .iface _ d => uptoBulk d + 1
  | .map entries => uptoBulkEntries entries + 1
  | .held _ => 1
def uptoBulkAll {H : Type} : List (DataW H) → Nat
  | [] => 0
  | d :: r => uptoBulk d + uptoBulkAll r
def uptoBulkEntries {H : Type} : List (Lit × DataW H) → Nat
  | [] => 0
  | x :: r => uptoBulkEntry x + uptoBulkEntries r
def uptoBulkEntry {H : Type} : Lit × DataW H → Nat
  | (.string bytes, d) => bytes.length + uptoBulk d + 1
  | (_, d) => uptoBulk d + 1
 end
def uptoSmall : (H : Type) → List (DataW H) → Bool := fun _ ds => decide (uptoBulkAll ds ≤ 1048576)
def OpenSpec.upto (s : _root_.Go.ChangeSpec) : _root_.Go.OpenSpec := { _root_.Go.OpenSpec.ofChange s with cond := some uptoSmall }

/-- 'ravelinlaw4.ProdChain', WHERE WHAT IT READS IS OF BULK AT MOST 1048576: true; the input reads as it did. -/
def prodChainUptoRow : OpenClaim := { program := "ytcpmendkocnlhaa", sum := "367bfdf60ad2e30c18cf525ee538ce3632db4a1571d9ff30df0e2a5cf2bc0b85", func := "ravelin/ravelinlaw4.ProdChain", spec := "prodChain", unfollowed := true, recurses := true, apart := false, narrowed := true }
def ProdChainUptoSaid : Prop := prodChainUptoRow.holds Try.pinned (OpenSpec.upto prodChainSpec)

/-- 'ravelinlaw4.ProdTurned', WHERE WHAT IT READS IS OF BULK AT MOST 1048576: true; the input reads as it did. -/
def prodTurnedUptoRow : OpenClaim := { program := "ytcpmendkocnlhaa", sum := "367bfdf60ad2e30c18cf525ee538ce3632db4a1571d9ff30df0e2a5cf2bc0b85", func := "ravelin/ravelinlaw4.ProdTurned", spec := "prodTurned", unfollowed := true, recurses := true, apart := false, narrowed := true }
def ProdTurnedUptoSaid : Prop := prodTurnedUptoRow.holds Try.pinned (OpenSpec.upto prodTurnedSpec)

/-- 'ravelinlaw4.ProdSums', WHERE WHAT IT READS IS OF BULK AT MOST 1048576: true; the input reads as it did. -/
def prodSumsUptoRow : OpenClaim := { program := "ytcpmendkocnlhaa", sum := "367bfdf60ad2e30c18cf525ee538ce3632db4a1571d9ff30df0e2a5cf2bc0b85", func := "ravelin/ravelinlaw4.ProdSums", spec := "prodSums", unfollowed := true, recurses := true, apart := false, narrowed := true }
def ProdSumsUptoSaid : Prop := prodSumsUptoRow.holds Try.pinned (OpenSpec.upto prodSumsSpec)

/-- 'ravelinlaw4.ProdLines', WHERE WHAT IT READS IS OF BULK AT MOST 1048576: true; the input reads as it did. -/
def prodLinesUptoRow : OpenClaim := { program := "ytcpmendkocnlhaa", sum := "367bfdf60ad2e30c18cf525ee538ce3632db4a1571d9ff30df0e2a5cf2bc0b85", func := "ravelin/ravelinlaw4.ProdLines", spec := "prodLines", unfollowed := true, recurses := true, apart := false, narrowed := true }
def ProdLinesUptoSaid : Prop := prodLinesUptoRow.holds Try.pinned (OpenSpec.upto prodLinesSpec)

end Rows
end Go.Proofs.Ytcpmendkocnlhaa
