/-
  The reference's copy of a list, and its answer whether there is such an axis.
-/
import Derived.Test.YteieliajdfbipaaDoorTurnq
import Derived.Test.YteieliajdfbipaaDoorFlaw
import Derived.Test.YteieliajdfbipaaDoorBase
namespace Go.Proofs.YteieliajdfbipaaDoor
open Go.RowKit
set_option linter.unusedVariables false

/-- A row that is filled as far as k. -/
def upR (f : Nat → Int) (k j : Nat) : Value := .int .i64 (if j < k then f j else 0)
theorem upR_set {wr : World} {B : Nat} {t : TypeId} {n : Nat} {f : Nat → Int} {k : Nat} (h : wr.rowIs B t n (upR f k)) (v : Int) (hv : v = f k) : (wr.setCell ⟨B, k, none⟩ (.int .i64 v)).rowIs B t n (upR f (k + 1)) := by
  subst hv
  refine (h.set k _).congr fun j hj => ?_
  unfold upR
  by_cases e : j = k
  · subst e; rw [if_pos rfl, if_pos (by omega)]
  · rw [if_neg e]
    by_cases h2 : j < k
    · rw [if_pos h2, if_pos (by omega)]
    · rw [if_neg h2, if_neg (by omega)]
theorem upR_new {wr : World} {lo B : Nat} {t : TypeId} {n : Nat} {f : Nat → Int} (h : wr.rowIs B t n (upR f n)) (hlo : lo ≤ B) (xs : List Int) (hx : xs.length = n) (hf : ∀ j, j < n → nth xs j = f j) : NewInts lo wr (some ⟨B, 0, none⟩) xs := by
  refine .inr ⟨B, 0, rfl, hlo, h.lt, fun j hj => ?_, fun j => h.frozen _⟩
  rw [hx] at hj
  have := h.cell hj
  unfold upR at this
  rw [if_pos hj] at this
  rw [Nat.zero_add, hf j hj]
  exact this
set_option maxRecDepth 100000 in
set_option maxHeartbeats 2000000 in
theorem copied_any (a : Option Addr) (cap : Nat) (zs : List Int) (h1 : zs.length ≤ 100000) (w : World) (hI : IsInts w.heap.size w a zs) :
    Calls Tryd.prog 19 #[.slice a zs.length cap] w fun e w' => ∃ g c, e = .returned (.slice g zs.length c) ∧ NewInts w.heap.size w' g zs ∧ Below w.heap.size w w' := by
  obtain ⟨n, hn⟩ : ∃ n, n = zs.length := ⟨_, rfl⟩
  rw [← hn] at h1 ⊢
  have HN : Hid (n = zs.length) := hn
  clear hn
  have hmk := run_make_row' (P := Tryd.prog) 22 3 (.int .i64 0) 8 Tryd.underlying22 Tryd.infoInt rfl .i64 .i64 n (by omega) (by omega)
  have HI : Hid (IsInts w.heap.size w a zs) := hI
  clear hI
  go_enter Tryd.func19, Tryd.ntmps19
  go_wp2_with fail
  clear hmk
  go_loopw [4] (fun i wr => ∃ k : Nat, k ≤ n ∧ i = .int .i64 k ∧ wr.rowIs w.heap.size 3 n (upR (nth zs) k) ∧ Below w.heap.size w wr) (fun i _ => n - (intOf i).toNat)
  case atStart => exact ⟨0, Nat.zero_le _, rfl, (World.rowIs_made w (.int .i64 0) n 3).congr (fun j _ => by simp [upR]), (Below.refl _ w).alloc (Nat.le_refl _) _⟩
  case round =>
    obtain ⟨k, hk, rfl, hrow, hB⟩ := hrel
    by_cases hlt : k < n
    · obtain ⟨b, off, rfl, hb, hcell⟩ := (HI.out.below hB).at (q := k) (by rw [← HN.out]; exact hlt)
      have hc := hcell k (by rw [← HN.out]; exact hlt)
      clear hcell
      have c2 := hrow.cell hlt
      have f2 := hrow.frozen k
      go_wp2_with fail
      first
        | exact ⟨⟨k + 1, by omega, by go_num, upR_set hrow _ rfl, hB.setCell (p := ⟨w.heap.size, k, none⟩) (Nat.le_refl _) _⟩, by simp [intOf]; omega⟩
    · obtain rfl : k = n := by omega
      go_wp2_with fail
      go_ret
      exact ⟨some ⟨w.heap.size, 0, none⟩, k, rfl, upR_new hrow (Nat.le_refl _) _ HN.out.symm (fun j _ => rfl), hB⟩
end Go.Proofs.YteieliajdfbipaaDoor
