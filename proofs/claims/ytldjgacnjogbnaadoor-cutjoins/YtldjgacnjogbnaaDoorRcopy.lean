/-
  The reference's copy of a list, and its answer whether there is such an axis.
-/
import Derived.Test.YtldjgacnjogbnaaDoorTurnq
import Derived.Test.YtldjgacnjogbnaaDoorFlaw
import Derived.Test.YtldjgacnjogbnaaDoorCounted
namespace Go.Proofs.YtldjgacnjogbnaaDoor
open Go.RowKit
set_option linter.unusedVariables false

/-- A row that is filled as far as k. -/
def upR (f : Nat → Int) (k j : Nat) : Value := .int .i64 (if j < k then f j else 0)
theorem upR_set {wr : World} {B : Nat} {t : TypeId} {n : Nat} {f : Nat → Int} {k : Nat} (h : wr.rowIs B t n (upR f k)) (v : Int) (hv : v = f k) : (wr.setCell ⟨B, k, none⟩ (.int .i64 v)).rowIs B t n (upR f (k + 1)) := by
  subst hv
  refine (h.set k _).congr fun j hj => ?_
  unfold upR
  by_cases e : j = k
  · subst e; rw [if_pos rfl, if_pos (by omega)]
  · rw [if_neg e]
    by_cases h2 : j < k
    · rw [if_pos h2, if_pos (by omega)]
    · rw [if_neg h2, if_neg (by omega)]
theorem upR_new {wr : World} {lo B : Nat} {t : TypeId} {n : Nat} {f : Nat → Int} (h : wr.rowIs B t n (upR f n)) (hlo : lo ≤ B) (xs : List Int) (hx : xs.length = n) (hf : ∀ j, j < n → nth xs j = f j) : NewInts lo wr (some ⟨B, 0, none⟩) xs := by
  refine .inr ⟨B, 0, rfl, hlo, h.lt, fun j hj => ?_, fun j => h.frozen _⟩
  rw [hx] at hj
  have := h.cell hj
  unfold upR at this
  rw [if_pos hj] at this
  rw [Nat.zero_add, hf j hj]
  exact this
set_option maxRecDepth 100000 in
set_option maxHeartbeats 2000000 in
theorem copied_any (a : Option Addr) (cap : Nat) (zs : List Int) (h1 : zs.length ≤ 100000) (w : World) (hI : IsInts w.heap.size w a zs) :
    Calls Tryd.prog 28 #[.slice a zs.length cap] w fun e w' => ∃ g c, e = .returned (.slice g zs.length c) ∧ NewInts w.heap.size w' g zs ∧ Below w.heap.size w w' := by
  obtain ⟨n, hn⟩ : ∃ n, n = zs.length := ⟨_, rfl⟩
  rw [← hn] at h1 ⊢
  have HN : Hid (n = zs.length) := hn
  clear hn
  have hmk := run_make_row' (P := Tryd.prog) 22 3 (.int .i64 0) 8 Tryd.underlying22 Tryd.infoInt rfl .i64 .i64 n (by omega) (by omega)
  have HI : Hid (IsInts w.heap.size w a zs) := hI
  clear hI
  go_enter Tryd.func28, Tryd.ntmps28
  go_wp2_with fail
  clear hmk
  go_loopw [4] (fun i wr => ∃ k : Nat, k ≤ n ∧ i = .int .i64 k ∧ wr.rowIs w.heap.size 3 n (upR (nth zs) k) ∧ Below w.heap.size w wr) (fun i _ => n - (intOf i).toNat)
  case atStart => exact ⟨0, Nat.zero_le _, rfl, (World.rowIs_made w (.int .i64 0) n 3).congr (fun j _ => by simp [upR]), (Below.refl _ w).alloc (Nat.le_refl _) _⟩
  case round =>
    obtain ⟨k, hk, rfl, hrow, hB⟩ := hrel
    by_cases hlt : k < n
    · obtain ⟨b, off, rfl, hb, hcell⟩ := (HI.out.below hB).at (q := k) (by rw [← HN.out]; exact hlt)
      have hc := hcell k (by rw [← HN.out]; exact hlt)
      clear hcell
      have c2 := hrow.cell hlt
      have f2 := hrow.frozen k
      go_wp2_with fail
      first
        | exact ⟨⟨k + 1, by omega, by go_num, upR_set hrow _ rfl, hB.setCell (p := ⟨w.heap.size, k, none⟩) (Nat.le_refl _) _⟩, by simp [intOf]; omega⟩
    · obtain rfl : k = n := by omega
      go_wp2_with fail
      go_ret
      exact ⟨some ⟨w.heap.size, 0, none⟩, k, rfl, upR_new hrow (Nat.le_refl _) _ HN.out.symm (fun j _ => rfl), hB⟩
set_option maxRecDepth 100000 in
set_option maxHeartbeats 2000000 in
theorem axis_any (x : Int) (c : Bool) (sa : Option Addr) (sc : Nat) (sz : List Int) (da : Option Addr) (dc : Nat) (dz : List Int) (h1 : sz.length ≤ 9223372036854775807) (h2 : dz.length ≤ 9223372036854775807) (w : World) (hs : IsInts w.heap.size w sa sz) (hd : IsInts w.heap.size w da dz) :
    Calls Tryd.prog 36 #[.int .i64 x, .agg #[.bool c, .slice sa sz.length sc, .slice da dz.length dc]] w fun e w' => e = .returned (.int .i64 (axE x c sz dz)) ∧ Below w.heap.size w w' := by
  have HI : Hid (IsInts w.heap.size w sa sz ∧ IsInts w.heap.size w da dz) := ⟨hs, hd⟩
  have hb0 : Hid (Below w.heap.size w (w.alloc (.cells #[.bool c, .slice sa sz.length sc, .slice da dz.length dc] 24))) := (Below.refl _ w).alloc (Nat.le_refl _) _
  have pa0 : Hid (Abx (w.alloc (.cells #[.bool c, .slice sa sz.length sc, .slice da dz.length dc] 24)) w.heap.size (.bool c) (.slice sa sz.length sc) (.slice da dz.length dc)) := Abx.new w _ _ _
  clear hs hd
  go_enter Tryd.func36, Tryd.ntmps36
  go_wp2_with fail
  refine (flaw_any c sa sc sz da dc dz h1 h2 _ ((HI.out.1.below hb0.out).mono hb0.out.size) ((HI.out.2.below hb0.out).mono hb0.out.size)).mono ?_
  rintro e v1 ⟨rfl, hB⟩
  have HB : Hid (Below w.heap.size w v1) := hb0.out.trans (hB.mono hb0.out.size)
  have pa : Hid (Abx v1 w.heap.size (.bool c) (.slice sa sz.length sc) (.slice da dz.length dc)) := pa0.out.go hB
  clear hB
  have p1 := pa.out.c1
  by_cases hf : flawE c sz dz = 0
  · rw [hf]
    have HF : Hid (flawE c sz dz = 0) := hf
    clear hf
    by_cases hx : x < 0
    · have HE : Hid (axE x c sz dz = 5) := by show _ = _; unfold axE; rw [if_neg (by simpa using HF.out), if_pos (.inl hx)]
      have t : decide (x < 0) = true := by simp [hx]
      go_wp2_with fail
      go_ret
      exact ⟨by rw [HE.out]; rfl, HB.out⟩
    · have t : decide (x < 0) = false := by simp [hx]
      by_cases hl : (sz.length : Int) ≤ x
      · have HE : Hid (axE x c sz dz = 5) := by show _ = _; unfold axE; rw [if_neg (by simpa using HF.out), if_pos (.inr hl)]
        have t2 : decide ((sz.length : Int) ≤ x) = true := by simp [hl]
        go_wp2_with fail
        go_ret
        exact ⟨by rw [HE.out]; rfl, HB.out⟩
      · have HE : Hid (axE x c sz dz = 0) := by show _ = _; unfold axE; rw [if_neg (by simpa using HF.out), if_neg (by omega)]
        have t2 : decide ((sz.length : Int) ≤ x) = false := by simp [hl]
        go_wp2_with fail
        go_ret
        exact ⟨by rw [HE.out]; rfl, HB.out⟩
  · have t0 : (flawE c sz dz == 0) = false := by simpa using hf
    have HE : Hid (axE x c sz dz = flawE c sz dz) := by show _ = _; unfold axE; rw [if_pos hf]
    clear hf
    go_wp2_with fail
    go_ret
    exact ⟨by rw [HE.out]; rfl, HB.out⟩
end Go.Proofs.YtldjgacnjogbnaaDoor
