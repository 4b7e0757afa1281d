/-
  The statements' own words of matrices: one of two rows, is it one, its determinant.
-/
import Derived.BigQuiet
import Derived.Test.YtjaabemlpiafaaaDoorMgk
import Derived.Test.YtjaabemlpiafaaaDoorPrg
namespace Go.Proofs.YtjaabemlpiafaaaDoor
open Go.RowKit
set_option linter.unusedVariables false

/-- A matrix of at most six rows. -/
def SqP (c : Bool) (sz dz : List Int) : Prop := ∃ n : Nat, n ≤ 6 ∧ sz = [(n : Int), (n : Int)] ∧ dz.length = n * n ∧ c = false
theorem sq_of {c : Bool} {sz dz : List Int} (h : GrdP 6 c sz dz) (e : nth sz 0 = nth sz 1) : SqP c sz dz := by
  obtain ⟨hc, hz, hx, hy, hd⟩ := h
  match sz, hz with
  | [a, b], _ =>
    have e' : a = b := e
    subst e'
    have h0 : 0 ≤ a := hx.1
    obtain ⟨n, rfl⟩ := Int.eq_ofNat_of_zero_le h0
    have h6 : (n : Int) ≤ 6 := hx.2
    refine ⟨n, by omega, rfl, ?_, hc⟩
    have h2 : (dz.length : Int) = (n : Int) * (n : Int) := hd
    exact_mod_cast h2
theorem SqP.grd {c : Bool} {sz dz : List Int} (h : SqP c sz dz) : GrdP 6 c sz dz ∧ nth sz 0 = nth sz 1 := by
  obtain ⟨n, hn, rfl, hd, hc⟩ := h
  refine ⟨⟨hc, rfl, ⟨by show (0 : Int) ≤ (n : Int); omega, by show (n : Int) ≤ 6; omega⟩, ⟨by show (0 : Int) ≤ (n : Int); omega, by show (n : Int) ≤ 6; omega⟩, ?_⟩, rfl⟩
  show (dz.length : Int) = (n : Int) * (n : Int)
  rw [hd]
  simp
set_option maxRecDepth 100000 in
set_option maxHeartbeats 1000000 in
theorem sqr_any (n : Nat) (a : Option Addr) (l cap : Nat) (w : World) :
    Calls Tryd.prog 14 #[.int .i64 (n : Nat), .slice a l cap] w fun e w' => ∃ xa, e = .returned (.agg #[.bool false, .slice xa 2 2, .slice a l cap]) ∧ NewC w.heap.size w' xa [(n : Int), (n : Int)] 2 ∧ Below w.heap.size w w' := by
  go_enter Tryd.func14, Tryd.ntmps14
  go_wp2_with fail
  refine bodyPost_ret (v := .agg #[.bool false, .slice (some ⟨w.heap.size + 1, 0, none⟩) 2 2, .slice a l cap]) (by simp [results, Tryd.results14, go_sem]) rfl ?_
  have hl := lit_mid (w.alloc (.cells #[.bool false, .slice (some ⟨w.heap.size + 1, 0, none⟩) 2 2, .slice a l cap] 24)) 3 [(n : Int), (n : Int)] 2 rfl
  rw [World.size_alloc] at hl
  exact ⟨some ⟨w.heap.size + 1, 0, none⟩, rfl, hl.newc (by simp) (by omega), ((Below.refl _ w).alloc (Nat.le_refl _) _).alloc (by simp) _⟩
end Go.Proofs.YtjaabemlpiafaaaDoor
