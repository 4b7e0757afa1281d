/-
  No cell of these rows narrows 'for every input' (looked for: loops, veiled, ifaces, maps, wideKeys, modest, calm, conditions, laid).
  DERIVED. THE GIVEN ROWS OF THIS SEAT. 5 by the template 'for every input the law returns true; each argument reads behind the call as it read before'; 0 by the template 'total and deterministic' (their statements: YtldjgacnjogbnabTotals.lean).
  GIVEN WITH THE SEED: the statements are not yours to turn. If you find one false, say at which input.
  Laid BY PROGRAM, IN A SANDBOX (cutbox-rows.mjs): the forced cells as the released guide's own fill.sh prints them over the translation 99b7e242d1300c39… (all of the seat's roots in one cut). By AI agents, Wed Nov 11 2026. No macro, syntax, notation, axiom, sorry.
-/
import Derived.Test.YtldjgacnjogbnabChecked
import GoSem.Claim
import GoSem.ClaimJoined
import GoSem.ClaimMapViews
import Derived.JoinedTies
import Derived.KernelRfl
namespace Go.Proofs.Ytldjgacnjogbnab
/- THE CELL 'sum', in the pinned program and in every row, IS THE sha256 OF THE DUMP (.gsa) THAT YtldjgacnjogbnabProg.lean LOADS. Nothing in Lean hashes anything: it is a label: what it is worth is what the hold of that sum in a sandbox is worth. -/
noncomputable def Try.pinned : Pinned := { name := "ytldjgacnjogbnab", sum := "99b7e242d1300c395b9d57c444281558ca7801bae2b310b64eaa61ac7779a5b9", checked := Try.checked }
namespace Rows
def none {H : Type} : Left H := { results := [], args := [] }

/-- 'ravelinlaw2.CutMonoid': WHATEVER THE INPUT: true; the input reads as it did. -/
def cutMonoidSpec : ChangeSpec := { name := "cutMonoid", fn := fun _ => fun
  | [d1, d2, d3, d4] => { results := [.lit (.bool true)], args := [d1, d2, d3, d4] }
  | _ => none }
def cutMonoidRow : OpenClaim := { program := "ytldjgacnjogbnab", sum := "99b7e242d1300c395b9d57c444281558ca7801bae2b310b64eaa61ac7779a5b9", func := "ravelin/ravelinlaw2.CutMonoid", spec := "cutMonoid", unfollowed := true, recurses := true, apart := false }
def CutMonoidSaid : Prop := cutMonoidRow.holds Try.pinned (OpenSpec.ofChange cutMonoidSpec)

/-- ITS FALSE NEIGHBOUR: 'it returns false'. Refute it at one input. -/
def cutMonoidWrong : ChangeSpec := { name := "cutMonoid", fn := fun _ => fun
  | [d1, d2, d3, d4] => { results := [.lit (.bool false)], args := [d1, d2, d3, d4] }
  | _ => none }
def CutMonoidWrongFalsely : Prop := cutMonoidRow.holds Try.pinned (OpenSpec.ofChange cutMonoidWrong)

/-- 'ravelinlaw2.CutBack': WHATEVER THE INPUT: true; the input reads as it did. -/
def cutBackSpec : ChangeSpec := { name := "cutBack", fn := fun _ => fun
  | [d1, d2, d3] => { results := [.lit (.bool true)], args := [d1, d2, d3] }
  | _ => none }
def cutBackRow : OpenClaim := { program := "ytldjgacnjogbnab", sum := "99b7e242d1300c395b9d57c444281558ca7801bae2b310b64eaa61ac7779a5b9", func := "ravelin/ravelinlaw2.CutBack", spec := "cutBack", unfollowed := true, recurses := true, apart := false }
def CutBackSaid : Prop := cutBackRow.holds Try.pinned (OpenSpec.ofChange cutBackSpec)

/-- ITS FALSE NEIGHBOUR: 'it returns false'. Refute it at one input. -/
def cutBackWrong : ChangeSpec := { name := "cutBack", fn := fun _ => fun
  | [d1, d2, d3] => { results := [.lit (.bool false)], args := [d1, d2, d3] }
  | _ => none }
def CutBackWrongFalsely : Prop := cutBackRow.holds Try.pinned (OpenSpec.ofChange cutBackWrong)

/-- 'ravelinlaw2.CutMeshes': WHATEVER THE INPUT: true; the input reads as it did. -/
def cutMeshesSpec : ChangeSpec := { name := "cutMeshes", fn := fun _ => fun
  | [d1, d2, d3] => { results := [.lit (.bool true)], args := [d1, d2, d3] }
  | _ => none }
def cutMeshesRow : OpenClaim := { program := "ytldjgacnjogbnab", sum := "99b7e242d1300c395b9d57c444281558ca7801bae2b310b64eaa61ac7779a5b9", func := "ravelin/ravelinlaw2.CutMeshes", spec := "cutMeshes", unfollowed := true, recurses := true, apart := false }
def CutMeshesSaid : Prop := cutMeshesRow.holds Try.pinned (OpenSpec.ofChange cutMeshesSpec)

/-- ITS FALSE NEIGHBOUR: 'it returns false'. Refute it at one input. -/
def cutMeshesWrong : ChangeSpec := { name := "cutMeshes", fn := fun _ => fun
  | [d1, d2, d3] => { results := [.lit (.bool false)], args := [d1, d2, d3] }
  | _ => none }
def CutMeshesWrongFalsely : Prop := cutMeshesRow.holds Try.pinned (OpenSpec.ofChange cutMeshesWrong)

/-- 'ravelinlaw2.CutMirrors': WHATEVER THE INPUT: true; the input reads as it did. -/
def cutMirrorsSpec : ChangeSpec := { name := "cutMirrors", fn := fun _ => fun
  | [d1, d2, d3, d4] => { results := [.lit (.bool true)], args := [d1, d2, d3, d4] }
  | _ => none }
def cutMirrorsRow : OpenClaim := { program := "ytldjgacnjogbnab", sum := "99b7e242d1300c395b9d57c444281558ca7801bae2b310b64eaa61ac7779a5b9", func := "ravelin/ravelinlaw2.CutMirrors", spec := "cutMirrors", unfollowed := true, recurses := true, apart := false }
def CutMirrorsSaid : Prop := cutMirrorsRow.holds Try.pinned (OpenSpec.ofChange cutMirrorsSpec)

/-- ITS FALSE NEIGHBOUR: 'it returns false'. Refute it at one input. -/
def cutMirrorsWrong : ChangeSpec := { name := "cutMirrors", fn := fun _ => fun
  | [d1, d2, d3, d4] => { results := [.lit (.bool false)], args := [d1, d2, d3, d4] }
  | _ => none }
def CutMirrorsWrongFalsely : Prop := cutMirrorsRow.holds Try.pinned (OpenSpec.ofChange cutMirrorsWrong)

/-- 'ravelinlaw2.CutAgain': WHATEVER THE INPUT: true; the input reads as it did. -/
def cutAgainSpec : ChangeSpec := { name := "cutAgain", fn := fun _ => fun
  | [d1, d2, d3] => { results := [.lit (.bool true)], args := [d1, d2, d3] }
  | _ => none }
def cutAgainRow : OpenClaim := { program := "ytldjgacnjogbnab", sum := "99b7e242d1300c395b9d57c444281558ca7801bae2b310b64eaa61ac7779a5b9", func := "ravelin/ravelinlaw2.CutAgain", spec := "cutAgain", unfollowed := true, recurses := true, apart := false }
def CutAgainSaid : Prop := cutAgainRow.holds Try.pinned (OpenSpec.ofChange cutAgainSpec)

/-- ITS FALSE NEIGHBOUR: 'it returns false'. Refute it at one input. -/
def cutAgainWrong : ChangeSpec := { name := "cutAgain", fn := fun _ => fun
  | [d1, d2, d3] => { results := [.lit (.bool false)], args := [d1, d2, d3] }
  | _ => none }
def CutAgainWrongFalsely : Prop := cutAgainRow.holds Try.pinned (OpenSpec.ofChange cutAgainWrong)

/- THE SECOND FORM. 'bulk': how many values and letters a reading holds, each counted each time it is reached (what is shared counts as often as it is met; a slice's spare places count too). A statement '..UptoSaid' is the law's where the arguments, and the package variables that the reading takes, are together of bulk at most 1048576: NARROWER than '..Said'. Prove '..Said' where nothing that the law and all that it calls make is longer than what came in: it says more and counts as full. Else prove '..UptoSaid'. A law counts once. -/
mutual
def uptoBulk {H : Type} : DataW H → Nat
  | .lit (.string bytes) => bytes.length + 1
  | .lit _ => 1
  | .nil => 1
  | .ptr d => uptoBulk d + 1
  | .slice elems spare => uptoBulkAll elems + uptoBulkAll spare + 1
  | .agg parts => uptoBulkAll parts + 1
  | .iface _ d => uptoBulk d + 1
  | .map entries => uptoBulkEntries entries + 1
  | .held _ => 1
def uptoBulkAll {H : Type} : List (DataW H) → Nat
  | [] => 0
  | d :: r => uptoBulk d + uptoBulkAll r
def uptoBulkEntries {H : Type} : List (Lit × DataW H) → Nat
  | [] => 0
  | x :: r => uptoBulkEntry x + uptoBulkEntries r
def uptoBulkEntry {H : Type} : Lit × DataW H → Nat
  | (.string bytes, d) => bytes.length + uptoBulk d + 1
  | (_, d) => uptoBulk d + 1
 end
def uptoSmall : (H : Type) → List (DataW H) → Bool := fun _ ds => decide (uptoBulkAll ds ≤ 1048576)
def OpenSpec.upto (s : _root_.Go.ChangeSpec) : _root_.Go.OpenSpec := { _root_.Go.OpenSpec.ofChange s with cond := some uptoSmall }

/-- 'ravelinlaw2.CutMonoid', WHERE WHAT IT READS IS OF BULK AT MOST 1048576: true; the input reads as it did. -/
def cutMonoidUptoRow : OpenClaim := { program := "ytldjgacnjogbnab", sum := "99b7e242d1300c395b9d57c444281558ca7801bae2b310b64eaa61ac7779a5b9", func := "ravelin/ravelinlaw2.CutMonoid", spec := "cutMonoid", unfollowed := true, recurses := true, apart := false, narrowed := true }
def CutMonoidUptoSaid : Prop := cutMonoidUptoRow.holds Try.pinned (OpenSpec.upto cutMonoidSpec)

/-- 'ravelinlaw2.CutBack', WHERE WHAT IT READS IS OF BULK AT MOST 1048576: true; the input reads as it did. -/
def cutBackUptoRow : OpenClaim := { program := "ytldjgacnjogbnab", sum := "99b7e242d1300c395b9d57c444281558ca7801bae2b310b64eaa61ac7779a5b9", func := "ravelin/ravelinlaw2.CutBack", spec := "cutBack", unfollowed := true, recurses := true, apart := false, narrowed := true }
def CutBackUptoSaid : Prop := cutBackUptoRow.holds Try.pinned (OpenSpec.upto cutBackSpec)

/-- 'ravelinlaw2.CutMeshes', WHERE WHAT IT READS IS OF BULK AT MOST 1048576: true; the input reads as it did. -/
def cutMeshesUptoRow : OpenClaim := { program := "ytldjgacnjogbnab", sum := "99b7e242d1300c395b9d57c444281558ca7801bae2b310b64eaa61ac7779a5b9", func := "ravelin/ravelinlaw2.CutMeshes", spec := "cutMeshes", unfollowed := true, recurses := true, apart := false, narrowed := true }
def CutMeshesUptoSaid : Prop := cutMeshesUptoRow.holds Try.pinned (OpenSpec.upto cutMeshesSpec)

/-- 'ravelinlaw2.CutMirrors', WHERE WHAT IT READS IS OF BULK AT MOST 1048576: true; the input reads as it did. -/
def cutMirrorsUptoRow : OpenClaim := { program := "ytldjgacnjogbnab", sum := "99b7e242d1300c395b9d57c444281558ca7801bae2b310b64eaa61ac7779a5b9", func := "ravelin/ravelinlaw2.CutMirrors", spec := "cutMirrors", unfollowed := true, recurses := true, apart := false, narrowed := true }
def CutMirrorsUptoSaid : Prop := cutMirrorsUptoRow.holds Try.pinned (OpenSpec.upto cutMirrorsSpec)

/-- 'ravelinlaw2.CutAgain', WHERE WHAT IT READS IS OF BULK AT MOST 1048576: true; the input reads as it did. -/
def cutAgainUptoRow : OpenClaim := { program := "ytldjgacnjogbnab", sum := "99b7e242d1300c395b9d57c444281558ca7801bae2b310b64eaa61ac7779a5b9", func := "ravelin/ravelinlaw2.CutAgain", spec := "cutAgain", unfollowed := true, recurses := true, apart := false, narrowed := true }
def CutAgainUptoSaid : Prop := cutAgainUptoRow.holds Try.pinned (OpenSpec.upto cutAgainSpec)

end Rows
end Go.Proofs.Ytldjgacnjogbnab
