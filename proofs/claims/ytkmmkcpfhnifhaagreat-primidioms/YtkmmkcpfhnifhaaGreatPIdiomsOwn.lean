/-
  The cells in the shape are the array, the shape of the shape is how many axes there are, an array is the same as itself, turned twice it is itself, and on one axis what Up picks is Sort: the law tells true of every array.
-/
import Derived.Test.YtkmmkcpfhnifhaaGreatRows
import Derived.Test.YtkmmkcpfhnifhaaGreatJ16
import Derived.WalkKit
import Derived.ProofKit
import Derived.OpenShut
import Derived.ShutString
import Derived.ChangeOld
import Derived.Below
namespace Go.Proofs.YtkmmkcpfhnifhaaGreat.primIdioms
open Go.ChangeShapes Go.WideShapes Go.ChangeAt Go.RowKit
open Go.ChangeMaps (open_string shut_string)
set_option linter.unusedVariables false

theorem own : ownKnob Tryz.prog.godebug = none := by kernel_rfl
theorem laidOut : laidOutB Tryz.prog = true := by kernel_rfl

def IsRow (k : IntKind) (w : World) (a : Option Addr) (len cap : Nat) (zs : List Int) : Prop :=
  (a = none ∧ len = 0 ∧ cap = 0 ∧ zs = []) ∨
  ∃ x, a = some x ∧ len ≤ cap ∧ cap ≤ maxLen ∧ zs.length = cap ∧ (∀ i, i < zs.length → w.cell? (x.add i) = some (.int k (zs.getD i 0))) ∧ ∀ n ∈ zs, (Lit.int k n).wf = true

theorem walk (c0 : Bool) (sa0 : Option Addr) (sc0 : Nat) (sz0 : List Int) (da0 : Option Addr) (dc0 : Nat) (dz0 : List Int) (w : World) (w0 : IsArrD w sa0 sz0 sc0 da0 dz0 dc0) :
    Calls Tryz.prog 3 #[.agg #[.bool c0, .slice sa0 sz0.length sc0, .slice da0 dz0.length dc0]] w fun e w' => e = .returned (.bool true) ∧ Below w.heap.size w w' := by
  exact pidioms_walk rvb_holds up_holds at_holds so_holds c0 sa0 sc0 sz0 da0 dc0 dz0 w w0

set_option maxRecDepth 100000 in
theorem lifted (os : Os) (started : os.Started) (H : Type) (enc : TypeId × Value → H) :
    ReturnsInHanded {} Tryz.checked os 3 .any (Rows.primIdiomsSpec.pre6 enc Tryz.prog Tryz.f3 Rows.primIdiomsRow.domain false) (Rows.primIdiomsSpec.post enc Tryz.prog Tryz.f3 false true false false) := by
  refine returnsInHanded_of_change (C := Tryz.checked) own started (by kernel_rfl) Tryz.func3
    (ChangeSpec.witness6 (enc := enc) (C := Tryz.checked) false ⟨#[], #[.agg #[.bool false, .slice none 0 0, .slice none 0 0]], []⟩ 8 (by kernel_rfl) (by kernel_rfl) (by kernel_rfl) (by kernel_rfl)) ?_
  intro W base args ds gs before hval0 hW hcnd _
  have hval : ∀ (j : Nat) t v, Tryz.f3.params[j]? = some t → args[j]? = some v → Value.okWide Tryz.prog W .any base t v := hval0
  have hW' := hW
  obtain ⟨p, q, hA0, hV, rfl, hfz, hnd⟩ := hW
  have hA : DataW.TrodAll enc Tryz.prog W 0 (fun _ => true) true Tryz.f3.params.toList args.toList ds p := hA0
  rw [Tryz.params3] at hA hval
  obtain ⟨v0, vs0, d0, ds0, p0, q0, hargs, rfl, rfl, h0, r0⟩ := trodAll_cons hA
  obtain ⟨rfl, rfl, rfl⟩ := trodAll_nil r0
  obtain rfl : args = #[v0] := by cases args; simp_all
  obtain ⟨rfl, rfl⟩ := trodVars_none hV
  have k0 := h0
  have lt0 : ∀ x ∈ p0, x.block < W.heap.size := by obtain ⟨m, hm⟩ := k0; exact DataW.trod_lt m _ _ _ hm
  obtain ⟨c0, sa0, sc0, sz0, da0, dc0, dz0, rfl, w0⟩ := open_arrD (hval 0 24 v0 rfl rfl) h0
  clear hA0 hval0
  refine (walk c0 sa0 sc0 sz0 da0 dc0 dz0 W w0).mono fun e W' ⟨he, bel⟩ => ?_
  subst he
  exact ⟨_, rfl, _, _, _, [], _, [], hW', trodAll_mk1 (shut_bool Tryz.underlying4 _), (trodAll_cons_mk (Below.trod laidOut (by kernel_rfl) (of_decide_eq_true (by kernel_rfl)) k0 bel lt0) trodAll_mk0), rfl, bel.frame _, fun h => by cases h⟩

theorem over : Rows.primIdiomsRow.holds Tryz.pinned (OpenSpec.ofChange Rows.primIdiomsSpec) :=
  OpenClaim.holds_of_wide 3 Tryz.f3 rfl rfl rfl rfl rfl rfl rfl ⟨rfl, rfl, rfl, rfl, rfl⟩ rfl rfl rfl rfl rfl (by kernel_rfl) Tryz.func3 (by kernel_rfl)
    (of_decide_eq_true (by kernel_rfl)) (by unfold Func.isWrapper; first | (rw [if_pos (by decide +kernel)]; kernel_rfl) | (rw [if_neg (by decide +kernel)]; exact ⟨rfl, rfl⟩))
    (fun os started H enc _ => lifted os started H enc)

theorem proved : Rows.PrimIdiomsSaid := over
#print axioms proved
end Go.Proofs.YtkmmkcpfhnifhaaGreat.primIdioms
namespace Go.Proofs.YtkmmkcpfhnifhaaGreat
theorem primIdioms_holds : Rows.PrimIdiomsSaid := primIdioms.proved
end Go.Proofs.YtkmmkcpfhnifhaaGreat
