/-
  No cell of these rows narrows 'for every input' (looked for: loops, veiled, ifaces, maps, wideKeys, modest, calm, conditions, laid).
  DERIVED. THE GIVEN ROWS OF THIS SEAT. 3 by the template 'for every input the law returns true; each argument reads behind the call as it read before'; 0 by the template 'total and deterministic' (their statements: YtmbgomljofngnabTotals.lean).
  GIVEN WITH THE SEED: the statements are not yours to turn. If you find one false, say at which input.
  Laid BY PROGRAM, IN A SANDBOX (cutbox-rows.mjs): the forced cells as the released guide's own fill.sh prints them over the translation 7946d494f3f81b9a… (all of the seat's roots in one cut). By AI agents, Wed Nov 11 2026. No macro, syntax, notation, axiom, sorry.
-/
import Derived.Test.YtmbgomljofngnabChecked
import GoSem.Claim
import GoSem.ClaimJoined
import GoSem.ClaimMapViews
import Derived.JoinedTies
import Derived.KernelRfl
namespace Go.Proofs.Ytmbgomljofngnab
/- THE CELL 'sum', in the pinned program and in every row, IS THE sha256 OF THE DUMP (.gsa) THAT YtmbgomljofngnabProg.lean LOADS. Nothing in Lean hashes anything: it is a label: what it is worth is what the hold of that sum in a sandbox is worth. -/
noncomputable def Try.pinned : Pinned := { name := "ytmbgomljofngnab", sum := "7946d494f3f81b9a19dc478ea1592e0ab980b63190b96bfb2bd0ae1a792f674c", checked := Try.checked }
namespace Rows
def none {H : Type} : Left H := { results := [], args := [] }

/-- 'ravelinlaw2.CutMeshes': WHATEVER THE INPUT: true; the input reads as it did. -/
def cutMeshesSpec : ChangeSpec := { name := "cutMeshes", fn := fun _ => fun
  | [d1, d2, d3] => { results := [.lit (.bool true)], args := [d1, d2, d3] }
  | _ => none }
def cutMeshesRow : OpenClaim := { program := "ytmbgomljofngnab", sum := "7946d494f3f81b9a19dc478ea1592e0ab980b63190b96bfb2bd0ae1a792f674c", func := "ravelin/ravelinlaw2.CutMeshes", spec := "cutMeshes", unfollowed := true, recurses := true, apart := false }
def CutMeshesSaid : Prop := cutMeshesRow.holds Try.pinned (OpenSpec.ofChange cutMeshesSpec)

/-- ITS FALSE NEIGHBOUR: 'it returns false'. Refute it at one input. -/
def cutMeshesWrong : ChangeSpec := { name := "cutMeshes", fn := fun _ => fun
  | [d1, d2, d3] => { results := [.lit (.bool false)], args := [d1, d2, d3] }
  | _ => none }
def CutMeshesWrongFalsely : Prop := cutMeshesRow.holds Try.pinned (OpenSpec.ofChange cutMeshesWrong)

/-- 'ravelinlaw3.GradeDowns': WHATEVER THE INPUT: true; the input reads as it did. -/
def gradeDownsSpec : ChangeSpec := { name := "gradeDowns", fn := fun _ => fun
  | [d] => { results := [.lit (.bool true)], args := [d] }
  | _ => none }
def gradeDownsRow : OpenClaim := { program := "ytmbgomljofngnab", sum := "7946d494f3f81b9a19dc478ea1592e0ab980b63190b96bfb2bd0ae1a792f674c", func := "ravelin/ravelinlaw3.GradeDowns", spec := "gradeDowns", unfollowed := true, recurses := true, apart := false }
def GradeDownsSaid : Prop := gradeDownsRow.holds Try.pinned (OpenSpec.ofChange gradeDownsSpec)

/-- ITS FALSE NEIGHBOUR: 'it returns false'. Refute it at one input. -/
def gradeDownsWrong : ChangeSpec := { name := "gradeDowns", fn := fun _ => fun
  | [d] => { results := [.lit (.bool false)], args := [d] }
  | _ => none }
def GradeDownsWrongFalsely : Prop := gradeDownsRow.holds Try.pinned (OpenSpec.ofChange gradeDownsWrong)

/-- 'ravelinlaw3.FoldLast': WHATEVER THE INPUT: true; the input reads as it did. -/
def foldLastSpec : ChangeSpec := { name := "foldLast", fn := fun _ => fun
  | [d1, d2, d3] => { results := [.lit (.bool true)], args := [d1, d2, d3] }
  | _ => none }
def foldLastRow : OpenClaim := { program := "ytmbgomljofngnab", sum := "7946d494f3f81b9a19dc478ea1592e0ab980b63190b96bfb2bd0ae1a792f674c", func := "ravelin/ravelinlaw3.FoldLast", spec := "foldLast", unfollowed := true, recurses := true, apart := false }
def FoldLastSaid : Prop := foldLastRow.holds Try.pinned (OpenSpec.ofChange foldLastSpec)

/-- ITS FALSE NEIGHBOUR: 'it returns false'. Refute it at one input. -/
def foldLastWrong : ChangeSpec := { name := "foldLast", fn := fun _ => fun
  | [d1, d2, d3] => { results := [.lit (.bool false)], args := [d1, d2, d3] }
  | _ => none }
def FoldLastWrongFalsely : Prop := foldLastRow.holds Try.pinned (OpenSpec.ofChange foldLastWrong)

/- THE SECOND FORM. 'bulk': how many values and letters a reading holds, each counted each time it is reached (what is shared counts as often as it is met; a slice's spare places count too). A statement '..UptoSaid' is the law's where the arguments, and the package variables that the reading takes, are together of bulk at most 1048576: NARROWER than '..Said'. Prove '..Said' where nothing that the law and all that it calls make is longer than what came in: it says more and counts as full. Else prove '..UptoSaid'. A law counts once. -/
mutual
def uptoBulk {H : Type} : DataW H → Nat
  | .lit (.string bytes) => bytes.length + 1
  | .lit _ => 1
  | .nil => 1
  | .ptr d => uptoBulk d + 1
  | .slice elems spare => uptoBulkAll elems + uptoBulkAll spare + 1
  | .agg parts => uptoBulkAll parts + 1
  | .iface _ d => uptoBulk d + 1
  | .map entries => uptoBulkEntries entries + 1
  | .held _ => 1
def uptoBulkAll {H : Type} : List (DataW H) → Nat
  | [] => 0
  | d :: r => uptoBulk d + uptoBulkAll r
def uptoBulkEntries {H : Type} : List (Lit × DataW H) → Nat
  | [] => 0
  | x :: r => uptoBulkEntry x + uptoBulkEntries r
def uptoBulkEntry {H : Type} : Lit × DataW H → Nat
  | (.string bytes, d) => bytes.length + uptoBulk d + 1
  | (_, d) => uptoBulk d + 1
 end
def uptoSmall : (H : Type) → List (DataW H) → Bool := fun _ ds => decide (uptoBulkAll ds ≤ 1048576)
def OpenSpec.upto (s : _root_.Go.ChangeSpec) : _root_.Go.OpenSpec := { _root_.Go.OpenSpec.ofChange s with cond := some uptoSmall }

/-- 'ravelinlaw2.CutMeshes', WHERE WHAT IT READS IS OF BULK AT MOST 1048576: true; the input reads as it did. -/
def cutMeshesUptoRow : OpenClaim := { program := "ytmbgomljofngnab", sum := "7946d494f3f81b9a19dc478ea1592e0ab980b63190b96bfb2bd0ae1a792f674c", func := "ravelin/ravelinlaw2.CutMeshes", spec := "cutMeshes", unfollowed := true, recurses := true, apart := false, narrowed := true }
def CutMeshesUptoSaid : Prop := cutMeshesUptoRow.holds Try.pinned (OpenSpec.upto cutMeshesSpec)

/-- 'ravelinlaw3.GradeDowns', WHERE WHAT IT READS IS OF BULK AT MOST 1048576: true; the input reads as it did. -/
def gradeDownsUptoRow : OpenClaim := { program := "ytmbgomljofngnab", sum := "7946d494f3f81b9a19dc478ea1592e0ab980b63190b96bfb2bd0ae1a792f674c", func := "ravelin/ravelinlaw3.GradeDowns", spec := "gradeDowns", unfollowed := true, recurses := true, apart := false, narrowed := true }
def GradeDownsUptoSaid : Prop := gradeDownsUptoRow.holds Try.pinned (OpenSpec.upto gradeDownsSpec)

/-- 'ravelinlaw3.FoldLast', WHERE WHAT IT READS IS OF BULK AT MOST 1048576: true; the input reads as it did. -/
def foldLastUptoRow : OpenClaim := { program := "ytmbgomljofngnab", sum := "7946d494f3f81b9a19dc478ea1592e0ab980b63190b96bfb2bd0ae1a792f674c", func := "ravelin/ravelinlaw3.FoldLast", spec := "foldLast", unfollowed := true, recurses := true, apart := false, narrowed := true }
def FoldLastUptoSaid : Prop := foldLastUptoRow.holds Try.pinned (OpenSpec.upto foldLastSpec)

end Rows
end Go.Proofs.Ytmbgomljofngnab
