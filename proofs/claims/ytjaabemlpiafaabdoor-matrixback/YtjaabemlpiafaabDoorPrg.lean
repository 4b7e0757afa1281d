/-
  The statements' own questions: is it a matrix that is not too long; do two functions go together like sums and products?
-/
import Derived.BigQuiet
import Derived.Test.YtjaabemlpiafaabDoorPrdn
import Derived.Test.YtjaabemlpiafaabDoorBase
namespace Go.Proofs.YtjaabemlpiafaabDoor
open Go.RowKit
set_option linter.unusedVariables false

/-- A matrix of numbers, no longer than so much. -/
def GrdP (F : Int) (c : Bool) (sz dz : List Int) : Prop := c = false ∧ sz.length = 2 ∧ (0 ≤ nth sz 0 ∧ nth sz 0 ≤ F) ∧ (0 ≤ nth sz 1 ∧ nth sz 1 ≤ F) ∧ (dz.length : Int) = nth sz 0 * nth sz 1
theorem GrdP.two {F : Int} {c : Bool} {sz dz : List Int} (h : GrdP F c sz dz) : c = false ∧ sz = [nth sz 0, nth sz 1] := by
  refine ⟨h.1, ?_⟩
  match sz, h.2.1 with
  | [a, b], _ => rfl
theorem GrdP.flaw {F : Int} {c : Bool} {sz dz : List Int} (h : GrdP F c sz dz) (hF : F ≤ 64) : errOf sz = 0 ∧ flawE false sz dz = 0 := by
  have he : errOf sz = 0 := by
    rw [h.two.2]
    exact err_two (by have := h.2.2.1; omega) (by have := h.2.2.2.1; omega)
  refine ⟨he, flawE_okn he ?_⟩
  rw [h.2.2.2.2, h.two.2]
  simp [prod, nth]
set_option maxRecDepth 100000 in
set_option maxHeartbeats 2000000 in
theorem grid_yes (F : Int) (hF : 0 ≤ F ∧ F ≤ 4096) (c : Bool) (sa : Option Addr) (sc : Nat) (sz : List Int) (da : Option Addr) (dc : Nat) (dz : List Int) (w : World) (hs : IsInts w.heap.size w sa sz) (h : GrdP F c sz dz) :
    Calls Tryd.prog 14 #[.agg #[.bool c, .slice sa sz.length sc, .slice da dz.length dc], .int .i64 F] w fun e w' => e = .returned (.bool true) ∧ Below w.heap.size w w' := by
  obtain ⟨rfl, hl, hx, hy, hd⟩ := h
  have HB0 : Hid (Below w.heap.size w (w.alloc (.cells #[.bool false, .slice sa sz.length sc, .slice da dz.length dc] 24))) := (Below.refl _ w).alloc (Nat.le_refl _) _
  have pa := Abx.new w (.bool false) (.slice sa sz.length sc) (.slice da dz.length dc)
  obtain ⟨b, off, rfl, hb, hc⟩ := (hs.below HB0.out).at (q := 0) (by omega)
  have k0 := hc 0 (by omega)
  have k1 := hc 1 (by omega)
  rw [Nat.add_zero] at k0
  obtain ⟨x, hxe⟩ : ∃ x, x = nth sz 0 := ⟨_, rfl⟩
  obtain ⟨y, hye⟩ : ∃ y, y = nth sz 1 := ⟨_, rfl⟩
  rw [← hxe] at hx hd k0
  rw [← hye] at hy hd k1
  have hxy : x * y ≤ 4096 * 4096 := Int.mul_le_mul (by omega) (by omega) hy.1 (by omega)
  have hxy0 : 0 ≤ x * y := Int.mul_nonneg hx.1 hy.1
  have p0 := pa.c0
  have p1 := pa.c1
  have p2 := pa.c2
  rw [hl] at HB0 k0 k1 p0 p1 p2 ⊢
  have hx1 : ¬ x < 0 := by omega
  have hx2 : ¬ F < x := by omega
  have hy1 : ¬ y < 0 := by omega
  have hy2 : ¬ F < y := by omega
  have HW : Hid (wrap64 (x * y) = (dz.length : Int)) := by show _ = _; rw [wrap64_small (by omega) (by omega), hd]
  clear hc hs hxe hye hd hx hy hxy hxy0 pa hl
  go_enter Tryd.func14, Tryd.ntmps14
  go_wp2_with fail
  go_quiet (fail)
  go_wp2_with fail
  go_ret
  exact ⟨by rw [HW.out]; simp, bel_drewN HB0.out _⟩
/-- Do the two go together like sums and products, as a test. -/
def srB (f g : Int) : Bool := if f = 1 then g == 3 else if f = 6 then g == 7 else if f = 7 then g == 6 else if f = 15 then g == 14 else f == 14 && g == 15
theorem srB_yes {f g : Int} (h : Srg f g) : srB f g = true := by
  rcases h with ⟨rfl, rfl⟩ | ⟨rfl, rfl⟩ | ⟨rfl, rfl⟩ | ⟨rfl, rfl⟩ | ⟨rfl, rfl⟩ <;> decide
theorem srB_no {f g : Int} (h : ¬ Srg f g) : srB f g = false := by
  unfold Srg at h
  unfold srB
  split
  · simp; omega
  · split
    · simp; omega
    · split
      · simp; omega
      · split
        · simp; omega
        · simp; omega
set_option maxRecDepth 100000 in
set_option maxHeartbeats 2000000 in
theorem grid_no (F : Int) (hF : 0 ≤ F ∧ F ≤ 4096) (c : Bool) (sa : Option Addr) (sc : Nat) (sz : List Int) (da : Option Addr) (dc : Nat) (dz : List Int) (w : World) (hs : IsInts w.heap.size w sa sz) (h : ¬ GrdP F c sz dz) :
    Calls Tryd.prog 14 #[.agg #[.bool c, .slice sa sz.length sc, .slice da dz.length dc], .int .i64 F] w fun e w' => e = .returned (.bool false) ∧ Below w.heap.size w w' := by
  have HB0 : Hid (Below w.heap.size w (w.alloc (.cells #[.bool c, .slice sa sz.length sc, .slice da dz.length dc] 24))) := (Below.refl _ w).alloc (Nat.le_refl _) _
  have pa := Abx.new w (.bool c) (.slice sa sz.length sc) (.slice da dz.length dc)
  have p0 := pa.c0
  have p1 := pa.c1
  have p2 := pa.c2
  by_cases hc : c = true
  · subst hc
    clear h
    go_enter Tryd.func14, Tryd.ntmps14
    go_wp2_with fail
    go_ret
    exact ⟨rfl, HB0.out⟩
  · obtain rfl : c = false := by simpa using hc
    by_cases hl : sz.length = 2
    · obtain ⟨b, off, rfl, hb, hcl⟩ := (hs.below HB0.out).at (q := 0) (by omega)
      have k0 := hcl 0 (by omega)
      have k1 := hcl 1 (by omega)
      rw [Nat.add_zero] at k0
      have h' : ¬ ((0 ≤ nth sz 0 ∧ nth sz 0 ≤ F) ∧ (0 ≤ nth sz 1 ∧ nth sz 1 ≤ F) ∧ (dz.length : Int) = nth sz 0 * nth sz 1) := fun q => h ⟨rfl, hl, q⟩
      obtain ⟨x, hxe⟩ : ∃ x, x = nth sz 0 := ⟨_, rfl⟩
      obtain ⟨y, hye⟩ : ∃ y, y = nth sz 1 := ⟨_, rfl⟩
      rw [← hxe] at k0 h'
      rw [← hye] at k1 h'
      rw [hl] at HB0 k0 k1 p0 p1 p2 ⊢
      clear hcl hs hxe hye pa hl h
      by_cases hx1 : x < 0
      · clear h'
        go_enter Tryd.func14, Tryd.ntmps14
        go_wp2_with fail
        go_ret
        exact ⟨rfl, HB0.out⟩
      · by_cases hx2 : F < x
        · clear h'
          go_enter Tryd.func14, Tryd.ntmps14
          go_wp2_with fail
          go_ret
          exact ⟨rfl, HB0.out⟩
        · by_cases hy1 : y < 0
          · clear h'
            go_enter Tryd.func14, Tryd.ntmps14
            go_wp2_with fail
            go_ret
            exact ⟨rfl, HB0.out⟩
          · by_cases hy2 : F < y
            · clear h'
              go_enter Tryd.func14, Tryd.ntmps14
              go_wp2_with fail
              go_ret
              exact ⟨rfl, HB0.out⟩
            · have hd : ¬ (dz.length : Int) = x * y := fun e => h' ⟨by omega, by omega, e⟩
              have hxy : x * y ≤ 4096 * 4096 := Int.mul_le_mul (by omega) (by omega) (by omega) (by omega)
              have hxy0 : 0 ≤ x * y := Int.mul_nonneg (by omega) (by omega)
              have HW : Hid (((dz.length : Int) == wrap64 (x * y)) = false) := by show _ = _; rw [wrap64_small (by omega) (by omega)]; simpa using hd
              clear h' hd hxy hxy0
              go_enter Tryd.func14, Tryd.ntmps14
              go_wp2_with fail
              go_quiet (fail)
              go_wp2_with fail
              go_ret
              exact ⟨ret_bool HW.out, bel_drewN HB0.out _⟩
    · have t2 : ((sz.length : Int) != 2) = true := by simp; omega
      clear h hl
      go_enter Tryd.func14, Tryd.ntmps14
      go_wp2_with fail
      go_ret
      exact ⟨rfl, HB0.out⟩
end Go.Proofs.YtjaabemlpiafaabDoor
