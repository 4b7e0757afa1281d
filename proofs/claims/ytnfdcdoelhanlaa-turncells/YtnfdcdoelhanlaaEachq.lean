/-
  Answers cell by cell in one form: an array and an error, whichever it is; and whether two answers are alike.
-/
import Derived.Test.YtnfdcdoelhanlaaEachp
import Derived.Test.YtnfdcdoelhanlaaEachn
import Derived.Test.YtnfdcdoelhanlaaBase
namespace Go.Proofs.Ytnfdcdoelhanlaa
open Go.RowKit
set_option linter.unusedVariables false

section
variable (f : Int) (c : Bool) (sz dz : List Int) (c' : Bool) (sz' dz' : List Int)
def e1S : List Int := if e1E f c sz dz = 0 then sz else []
def e1D : List Int := if e1E f c sz dz = 0 then e1V f dz else []
def e2S : List Int := if e2E f c sz dz c' sz' dz' = 0 then shp sz sz' else []
def e2D : List Int := if e2E f c sz dz c' sz' dz' = 0 then e2V f c sz dz c' sz' dz' else []
end
/-- What is told are numbers, and nothing is wrong with it. -/
theorem e2_flaw {f : Int} {c : Bool} {sz dz : List Int} {c' : Bool} {sz' dz' : List Int} (h : e2E f c sz dz c' sz' dz' = 0) : flawE false (shp sz sz') (e2V f c sz dz c' sz' dz') = 0 := by
  have hs := shp_ok (e2E_sub h).1
  exact flawE_okn hs.1 (by rw [e2V_length]; exact hs.2.1)
theorem e1_flaw {f : Int} {sz dz : List Int} (h : flawE false sz dz = 0) : flawE false sz (e1V f dz) = 0 := by
  obtain ⟨h1, h2, _⟩ := flawE_zero h
  exact flawE_okn h1 (by rw [e1V_length]; exact h2)
theorem shp_swap {f : Int} {c : Bool} {sz dz : List Int} {c' : Bool} {sz' dz' : List Int} (h : e2F f c sz dz c' sz' dz' = 0) : shp sz' sz = shp sz sz' := by
  have h3 := (e2F_zero.1 h).2.2.2.1
  unfold shp
  by_cases a : sz.length = 0
  · by_cases b : sz'.length = 0
    · rw [if_pos a, if_pos b, List.eq_nil_of_length_eq_zero a, List.eq_nil_of_length_eq_zero b]
    · rw [if_pos a, if_neg b]
  · by_cases b : sz'.length = 0
    · rw [if_neg a, if_pos b]
    · rw [if_neg a, if_neg b]
      rcases h3 with q | q | q
      · exact absurd q a
      · exact absurd q b
      · exact q.symm
theorem nil_new (w : World) (lo : Nat) : NewInts lo w none [] := .inl rfl
theorem c2_uni (H : C2) (f : Int) (c : Bool) (sa : Option Addr) (sc : Nat) (sz : List Int) (da : Option Addr) (dc : Nat) (dz : List Int) (c' : Bool) (sa' : Option Addr) (sc' : Nat) (sz' : List Int) (da' : Option Addr) (dc' : Nat) (dz' : List Int) (w : World) (hf : In64 f) (h1 : sz.length ≤ 9223372036854775807) (h2 : dz.length ≤ 9223372036854775807) (h1' : sz'.length ≤ 9223372036854775807) (h2' : dz'.length ≤ 9223372036854775807)
    (hs : IsInts w.heap.size w sa sz) (hd : IsInts w.heap.size w da dz) (hs' : IsInts w.heap.size w sa' sz') (hd' : IsInts w.heap.size w da' dz') (T : ∀ j, In64 (nth dz j)) (T' : ∀ j, In64 (nth dz' j)) :
    Calls Try.prog 8 #[.int .i64 f, .agg #[.bool c, .slice sa sz.length sc, .slice da dz.length dc], .agg #[.bool c', .slice sa' sz'.length sc', .slice da' dz'.length dc']] w fun e w' => ∃ xa xc ya yc, e = .returned (.tuple #[.agg #[.bool false, .slice xa (e2S f c sz dz c' sz' dz').length xc, .slice ya (e2D f c sz dz c' sz' dz').length yc], errV (e2E f c sz dz c' sz' dz')]) ∧ NewInts w.heap.size w' xa (e2S f c sz dz c' sz' dz') ∧ NewInts w.heap.size w' ya (e2D f c sz dz c' sz' dz') ∧ Below w.heap.size w w' :=
  (H f c sa sc sz da dc dz c' sa' sc' sz' da' dc' dz' w hf h1 h2 h1' h2' hs hd hs' hd' T T').mono fun e w' h' => by
    unfold e2S e2D
    rcases h' with ⟨h0, he, hB⟩ | ⟨h0, xa, xc, ya, yc, he, hX, hY, hB⟩
    · rw [if_neg h0, if_neg h0, errV_pos h0]
      exact ⟨none, 0, none, 0, he, nil_new _ _, nil_new _ _, hB⟩
    · rw [if_pos h0, if_pos h0, h0, errV_zero]
      exact ⟨xa, xc, ya, yc, he, hX, hY, hB⟩
/-- Are two answers alike? -/
def alB (c : Bool) (sz dz : List Int) (e : Int) (c' : Bool) (sz' dz' : List Int) (e' : Int) : Bool := if e = 0 ∧ e' = 0 then mtB c sz dz c' sz' dz' else decide (e ≠ 0 ∧ e' ≠ 0)
theorem mt_tail {b : Bool} {e : Int} (h : e ≠ 0 → b = false) : (if e = 0 then b else false) = b := by
  by_cases h0 : e = 0
  · rw [if_pos h0]
  · rw [if_neg h0, h h0]
theorem mtB_bad {c : Bool} {sz dz : List Int} {c' : Bool} {sz' dz' : List Int} (h : flawsE c sz dz c' sz' dz' ≠ 0) : mtB c sz dz c' sz' dz' = false := by unfold mtB; rw [decide_eq_false h]; rfl
/-- Alike: an error each, or the same array, with nothing wrong. -/
theorem al_ok {c : Bool} {sz dz : List Int} {e e' : Int} (he : e = 0 ↔ e' = 0) (hf : e = 0 → flawE c sz dz = 0) : alB c sz dz e c sz dz e' = true := by
  unfold alB
  by_cases h : e = 0
  · rw [if_pos ⟨h, he.1 h⟩, mtB_ok (hf h) (hf h), arrB_self]
  · rw [if_neg (fun q => h q.1), decide_eq_true ⟨h, fun q => h (he.2 q)⟩]
theorem e2_short {f : Int} {c : Bool} {sz dz : List Int} {c' : Bool} {sz' dz' : List Int} : (e2S f c sz dz c' sz' dz').length ≤ 6 ∧ (e2D f c sz dz c' sz' dz').length ≤ 4096 := by
  unfold e2S e2D
  by_cases h : e2E f c sz dz c' sz' dz' = 0
  · rw [if_pos h, if_pos h]; exact flawE_short (e2_flaw h)
  · rw [if_neg h, if_neg h]; simp
end Go.Proofs.Ytnfdcdoelhanlaa
