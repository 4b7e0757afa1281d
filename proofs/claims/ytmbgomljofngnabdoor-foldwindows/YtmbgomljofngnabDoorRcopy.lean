/-
  The reference's copy of a list, and its answer whether there is such an axis.
-/
import Derived.Test.YtmbgomljofngnabDoorTurnq
import Derived.Test.YtmbgomljofngnabDoorFlaw
import Derived.Test.YtmbgomljofngnabDoorCounted
namespace Go.Proofs.YtmbgomljofngnabDoor
open Go.RowKit
set_option linter.unusedVariables false

/-- A row that is filled as far as k. -/
def upR (f : Nat → Int) (k j : Nat) : Value := .int .i64 (if j < k then f j else 0)
theorem upR_set {wr : World} {B : Nat} {t : TypeId} {n : Nat} {f : Nat → Int} {k : Nat} (h : wr.rowIs B t n (upR f k)) (v : Int) (hv : v = f k) : (wr.setCell ⟨B, k, none⟩ (.int .i64 v)).rowIs B t n (upR f (k + 1)) := by
  subst hv
  refine (h.set k _).congr fun j hj => ?_
  unfold upR
  by_cases e : j = k
  · subst e; rw [if_pos rfl, if_pos (by omega)]
  · rw [if_neg e]
    by_cases h2 : j < k
    · rw [if_pos h2, if_pos (by omega)]
    · rw [if_neg h2, if_neg (by omega)]
theorem upR_new {wr : World} {lo B : Nat} {t : TypeId} {n : Nat} {f : Nat → Int} (h : wr.rowIs B t n (upR f n)) (hlo : lo ≤ B) (xs : List Int) (hx : xs.length = n) (hf : ∀ j, j < n → nth xs j = f j) : NewInts lo wr (some ⟨B, 0, none⟩) xs := by
  refine .inr ⟨B, 0, rfl, hlo, h.lt, fun j hj => ?_, fun j => h.frozen _⟩
  rw [hx] at hj
  have := h.cell hj
  unfold upR at this
  rw [if_pos hj] at this
  rw [Nat.zero_add, hf j hj]
  exact this
set_option maxRecDepth 100000 in
set_option maxHeartbeats 2000000 in
theorem axis_any (x : Int) (c : Bool) (sa : Option Addr) (sc : Nat) (sz : List Int) (da : Option Addr) (dc : Nat) (dz : List Int) (h1 : sz.length ≤ 9223372036854775807) (h2 : dz.length ≤ 9223372036854775807) (w : World) (hs : IsInts w.heap.size w sa sz) (hd : IsInts w.heap.size w da dz) :
    Calls Tryd.prog 30 #[.int .i64 x, .agg #[.bool c, .slice sa sz.length sc, .slice da dz.length dc]] w fun e w' => e = .returned (.int .i64 (axE x c sz dz)) ∧ Below w.heap.size w w' := by
  have HI : Hid (IsInts w.heap.size w sa sz ∧ IsInts w.heap.size w da dz) := ⟨hs, hd⟩
  have hb0 : Hid (Below w.heap.size w (w.alloc (.cells #[.bool c, .slice sa sz.length sc, .slice da dz.length dc] 25))) := (Below.refl _ w).alloc (Nat.le_refl _) _
  have pa0 : Hid (Abx (w.alloc (.cells #[.bool c, .slice sa sz.length sc, .slice da dz.length dc] 25)) w.heap.size (.bool c) (.slice sa sz.length sc) (.slice da dz.length dc)) := Abx.new w _ _ _
  clear hs hd
  go_enter Tryd.func30, Tryd.ntmps30
  go_wp2_with fail
  refine (flaw_any c sa sc sz da dc dz h1 h2 _ ((HI.out.1.below hb0.out).mono hb0.out.size) ((HI.out.2.below hb0.out).mono hb0.out.size)).mono ?_
  rintro e v1 ⟨rfl, hB⟩
  have HB : Hid (Below w.heap.size w v1) := hb0.out.trans (hB.mono hb0.out.size)
  have pa : Hid (Abx v1 w.heap.size (.bool c) (.slice sa sz.length sc) (.slice da dz.length dc)) := pa0.out.go hB
  clear hB
  have p1 := pa.out.c1
  by_cases hf : flawE c sz dz = 0
  · rw [hf]
    have HF : Hid (flawE c sz dz = 0) := hf
    clear hf
    by_cases hx : x < 0
    · have HE : Hid (axE x c sz dz = 5) := by show _ = _; unfold axE; rw [if_neg (by simpa using HF.out), if_pos (.inl hx)]
      have t : decide (x < 0) = true := by simp [hx]
      go_wp2_with fail
      go_ret
      exact ⟨by rw [HE.out]; rfl, HB.out⟩
    · have t : decide (x < 0) = false := by simp [hx]
      by_cases hl : (sz.length : Int) ≤ x
      · have HE : Hid (axE x c sz dz = 5) := by show _ = _; unfold axE; rw [if_neg (by simpa using HF.out), if_pos (.inr hl)]
        have t2 : decide ((sz.length : Int) ≤ x) = true := by simp [hl]
        go_wp2_with fail
        go_ret
        exact ⟨by rw [HE.out]; rfl, HB.out⟩
      · have HE : Hid (axE x c sz dz = 0) := by show _ = _; unfold axE; rw [if_neg (by simpa using HF.out), if_neg (by omega)]
        have t2 : decide ((sz.length : Int) ≤ x) = false := by simp [hl]
        go_wp2_with fail
        go_ret
        exact ⟨by rw [HE.out]; rfl, HB.out⟩
  · have t0 : (flawE c sz dz == 0) = false := by simpa using hf
    have HE : Hid (axE x c sz dz = flawE c sz dz) := by show _ = _; unfold axE; rw [if_pos hf]
    clear hf
    go_wp2_with fail
    go_ret
    exact ⟨by rw [HE.out]; rfl, HB.out⟩
end Go.Proofs.YtmbgomljofngnabDoor
