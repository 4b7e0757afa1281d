/-
  The walk of the statement ReachNear, given what the program tells.
-/
import Derived.BigQuiet
import Derived.Test.YtgaelbgeoobgiabRlw
import Derived.Test.YtgaelbgeoobgiabRgk
import Derived.Test.YtgaelbgeoobgiabMidc
import Derived.Test.YtgaelbgeoobgiabCutq
namespace Go.Proofs.Ytgaelbgeoobgiab
open Go.RowKit
set_option linter.unusedVariables false

theorem near_ahead {R : Rl} {n f j : Nat} {dj : Int} {ah : Bool} (hf : f < n) (hj : j < n) (hd : dj = far R n f j) (h1 : dj ≤ 0 → ah = true) (h2 : ∀ a, a < n → R a j = true → 0 ≤ far R n f a → dj = far R n f a + 1 → ah = true) : ah = true := by
  by_cases h : dj ≤ 0
  · exact h1 h
  · obtain ⟨a, q1, q2, q3, q4⟩ := far_ahead (R := R) (n := n) (i := f) (j := j) hf (by omega)
    exact h2 a q1 q2 q3 (by omega)
theorem shp14 {w v : World} {b o n sc : Nat} (h : IsC w.heap.size w (some ⟨b, o, none⟩) [(n : Int), (n : Int)] sc) (hB : Below w.heap.size w v) : b < w.heap.size ∧ v.cell? ⟨b, o, none⟩ = some (.int .i64 (n : Int)) := by
  obtain ⟨b', o', e, hb, hc⟩ := (h.1.below hB).at (q := 0) (by simp)
  cases e
  have h0 := hc 0 (by simp)
  rw [Nat.add_zero] at h0
  exact ⟨hb, h0⟩
theorem opn14 {w : World} {sa : Option Addr} {n sc : Nat} (h : IsC w.heap.size w sa [(n : Int), (n : Int)] sc) : ∃ b o, sa = some ⟨b, o, none⟩ := by
  obtain ⟨b, o, e, _, _⟩ := h.1.at (q := 0) (by simp)
  exact ⟨b, o, e⟩
set_option maxRecDepth 100000 in
set_option maxHeartbeats 2000000 in
theorem near_no (c1 : Bool) (sa1 : Option Addr) (sc1 : Nat) (sz1 : List Int) (da1 : Option Addr) (dc1 : Nat) (dz1 : List Int) (f : Int) (hf : In64 f) (w : World) (w8 : IsArrD w sa1 sz1 sc1 da1 dz1 dc1) (h0 : rlE c1 sz1 dz1 ≠ 0) :
    Calls Try.prog 3 #[.agg #[.bool c1, .slice sa1 sz1.length sc1, .slice da1 dz1.length dc1], .int .i64 f] w fun e w' => e = .returned (.bool true) ∧ Below w.heap.size w w' := by
  have HI1 : Hid (IsC w.heap.size w sa1 sz1 sc1 ∧ IsC w.heap.size w da1 dz1 dc1) := ⟨w8.2.2.1, w8.2.2.2.1⟩
  have HNe : Hid (rlE c1 sz1 dz1 ≠ 0) := h0
  clear h0
  have n1 := Abx.new w (.bool c1) (.slice sa1 sz1.length sc1) (.slice da1 dz1.length dc1)
  go_enter Try.func3, Try.ntmps3
  go_wp2_with fail
  obtain ⟨wo2, hwo2⟩ : ∃ wo2, wo2 = (w.alloc (.cells #[.bool c1, .slice sa1 sz1.length sc1, .slice da1 dz1.length dc1] 24)) := ⟨_, rfl⟩
  rw [← hwo2]
  have z3 : w.heap.size + 1 ≤ wo2.heap.size := by rw [hwo2]; simp only [World.size_alloc]; omega
  have B4 : Hid (Abx wo2 (w.heap.size) (.bool c1) (.slice sa1 sz1.length sc1) (.slice da1 dz1.length dc1)) := by rw [hwo2]; exact n1
  have hb5 : Hid (Below w.heap.size w wo2) := by rw [hwo2]; exact ((Below.refl w.heap.size w).alloc (by omega) (.cells #[.bool c1, .slice sa1 sz1.length sc1, .slice da1 dz1.length dc1] 24))
  have zwo2 : w.heap.size ≤ wo2.heap.size := hb5.out.size
  clear hwo2 n1
  refine (chain_any _).mono ?_
  rintro e v1 ⟨rfl, hB⟩
  have z6 : wo2.heap.size ≤ v1.heap.size := hB.size
  have B7 : Hid (Abx v1 (w.heap.size) (.bool c1) (.slice sa1 sz1.length sc1) (.slice da1 dz1.length dc1)) := B4.out.go hB
  have hb8 : Hid (Below w.heap.size w v1) := hb5.out.trans (hB.mono hb5.out.size)
  clear hB hb5 B4
  have l9 := (B7.out).c0
  have l10 := (B7.out).c1
  have l11 := (B7.out).c2
  go_wp2_with fail
  clear l9 l10 l11
  refine (fra_no c1 sa1 sc1 sz1 da1 dc1 dz1 f _ w8.1 w8.2.1 ((HI1.out.1.below hb8.out).mono hb8.out.size).1 ((HI1.out.2.below hb8.out).mono hb8.out.size).1 HNe.out).mono ?_
  rintro e v2 ⟨rfl, hB⟩
  have z12 : v1.heap.size ≤ v2.heap.size := hB.size
  have B13 : Hid (Abx v2 (w.heap.size) (.bool c1) (.slice sa1 sz1.length sc1) (.slice da1 dz1.length dc1)) := B7.out.go hB
  have hb14 : Hid (Below w.heap.size w v2) := hb8.out.trans (hB.mono hb8.out.size)
  clear hB hb8 B7
  go_wp2_with fail
  go_ret
  exact ⟨rfl, hb14.out⟩
set_option maxRecDepth 100000 in
set_option maxHeartbeats 2000000 in
theorem near_lo (n : Nat) (hn : n ≤ 24) (b1 o1 sc1 : Nat) (da1 : Option Addr) (dc1 : Nat) (dz1 : List Int) (HL1 : Hid (dz1.length = n * n)) (w : World) (HI1 : Hid (IsC w.heap.size w (some ⟨b1, o1, none⟩) [(n : Int), (n : Int)] sc1 ∧ IsC w.heap.size w da1 dz1 dc1 ∧ ∀ j, In64 (nth dz1 j))) (hk1 : mskB dz1 = true) (f : Int) (hx : f < 0) :
    Calls Try.prog 3 #[.agg #[.bool false, .slice (some ⟨b1, o1, none⟩) 2 sc1, .slice da1 dz1.length dc1], .int .i64 f] w fun e w' => e = .returned (.bool true) ∧ Below w.heap.size w w' := by
  have HK1 : Hid (mskB dz1 = true) := hk1
  obtain ⟨N, hN⟩ : ∃ N, N = n * n := ⟨_, rfl⟩
  have N576 : N ≤ 576 := by have : n * n ≤ 24 * 24 := Nat.mul_le_mul hn hn; omega
  have HN : Hid (N = n * n ∧ dz1.length = N) := ⟨hN, by rw [HL1.out, hN]⟩
  clear hN
  have hmul : (n : Int) * (n : Int) = (N : Int) := by rw [HN.out.1]; simp
  have HSh : Hid (∀ v, Below w.heap.size w v → v.cell? ⟨b1, o1, none⟩ = some (.int .i64 (n : Int))) := fun v h => (shp14 HI1.out.1 h).2
  have HLp : Hid ((clL n (clB (rdR n dz1) n)).length = N) := by show _ = _; rw [clL_len, HN.out.1]
  have HX : Hid (f < 0) := hx
  clear hx
  clear hk1
  rw [HN.out.2]
  have n1 := Abx.new w (.bool false) (.slice (some ⟨b1, o1, none⟩) 2 sc1) (.slice da1 N dc1)
  go_enter Try.func3, Try.ntmps3
  go_wp2_with fail
  obtain ⟨wo2, hwo2⟩ : ∃ wo2, wo2 = (w.alloc (.cells #[.bool false, .slice (some ⟨b1, o1, none⟩) 2 sc1, .slice da1 N dc1] 24)) := ⟨_, rfl⟩
  rw [← hwo2]
  have z3 : w.heap.size + 1 ≤ wo2.heap.size := by rw [hwo2]; simp only [World.size_alloc]; omega
  have B4 : Hid (Abx wo2 (w.heap.size) (.bool false) (.slice (some ⟨b1, o1, none⟩) 2 sc1) (.slice da1 N dc1)) := by rw [hwo2]; exact n1
  have hb5 : Hid (Below w.heap.size w wo2) := by rw [hwo2]; exact ((Below.refl w.heap.size w).alloc (by omega) (.cells #[.bool false, .slice (some ⟨b1, o1, none⟩) 2 sc1, .slice da1 N dc1] 24))
  have zwo2 : w.heap.size ≤ wo2.heap.size := hb5.out.size
  clear hwo2 n1
  refine (chain_any _).mono ?_
  rintro e v1 ⟨rfl, hB⟩
  have z6 : wo2.heap.size ≤ v1.heap.size := hB.size
  have B7 : Hid (Abx v1 (w.heap.size) (.bool false) (.slice (some ⟨b1, o1, none⟩) 2 sc1) (.slice da1 N dc1)) := B4.out.go hB
  have hb8 : Hid (Below w.heap.size w v1) := hb5.out.trans (hB.mono hb5.out.size)
  clear hB hb5 B4
  have l9 := (B7.out).c0
  have l10 := (B7.out).c1
  have l11 := (B7.out).c2
  go_wp2_with fail
  clear l9 l10 l11
  refine (fra_lo n hn (some ⟨b1, o1, none⟩) sc1 da1 dc1 dz1 N HN.out.2 HL1.out HK1.out f HX.out _ ((HI1.out.1.below hb8.out).mono hb8.out.size).1 ((HI1.out.2.1.below hb8.out).mono hb8.out.size).1).mono ?_
  rintro e v2 ⟨rfl, hB⟩
  have z12 : v1.heap.size ≤ v2.heap.size := hB.size
  have B13 : Hid (Abx v2 (w.heap.size) (.bool false) (.slice (some ⟨b1, o1, none⟩) 2 sc1) (.slice da1 N dc1)) := B7.out.go hB
  have hb14 : Hid (Below w.heap.size w v2) := hb8.out.trans (hB.mono hb8.out.size)
  clear hB hb8 B7
  go_wp2_with fail
  go_ret
  exact ⟨rfl, hb14.out⟩
set_option maxRecDepth 100000 in
set_option maxHeartbeats 2000000 in
theorem near_hi (n : Nat) (hn : n ≤ 24) (b1 o1 sc1 : Nat) (da1 : Option Addr) (dc1 : Nat) (dz1 : List Int) (HL1 : Hid (dz1.length = n * n)) (w : World) (HI1 : Hid (IsC w.heap.size w (some ⟨b1, o1, none⟩) [(n : Int), (n : Int)] sc1 ∧ IsC w.heap.size w da1 dz1 dc1 ∧ ∀ j, In64 (nth dz1 j))) (hk1 : mskB dz1 = true) (f : Int) (hx : ¬ f < 0) (hy : (n : Int) ≤ f) :
    Calls Try.prog 3 #[.agg #[.bool false, .slice (some ⟨b1, o1, none⟩) 2 sc1, .slice da1 dz1.length dc1], .int .i64 f] w fun e w' => e = .returned (.bool true) ∧ Below w.heap.size w w' := by
  have HK1 : Hid (mskB dz1 = true) := hk1
  obtain ⟨N, hN⟩ : ∃ N, N = n * n := ⟨_, rfl⟩
  have N576 : N ≤ 576 := by have : n * n ≤ 24 * 24 := Nat.mul_le_mul hn hn; omega
  have HN : Hid (N = n * n ∧ dz1.length = N) := ⟨hN, by rw [HL1.out, hN]⟩
  clear hN
  have hmul : (n : Int) * (n : Int) = (N : Int) := by rw [HN.out.1]; simp
  have HSh : Hid (∀ v, Below w.heap.size w v → v.cell? ⟨b1, o1, none⟩ = some (.int .i64 (n : Int))) := fun v h => (shp14 HI1.out.1 h).2
  have HLp : Hid ((clL n (clB (rdR n dz1) n)).length = N) := by show _ = _; rw [clL_len, HN.out.1]
  have HX : Hid (0 ≤ f ∧ (n : Int) ≤ f) := ⟨by omega, hy⟩
  clear hx hy
  clear hk1
  rw [HN.out.2]
  have n1 := Abx.new w (.bool false) (.slice (some ⟨b1, o1, none⟩) 2 sc1) (.slice da1 N dc1)
  go_enter Try.func3, Try.ntmps3
  go_wp2_with fail
  obtain ⟨wo2, hwo2⟩ : ∃ wo2, wo2 = (w.alloc (.cells #[.bool false, .slice (some ⟨b1, o1, none⟩) 2 sc1, .slice da1 N dc1] 24)) := ⟨_, rfl⟩
  rw [← hwo2]
  have z3 : w.heap.size + 1 ≤ wo2.heap.size := by rw [hwo2]; simp only [World.size_alloc]; omega
  have B4 : Hid (Abx wo2 (w.heap.size) (.bool false) (.slice (some ⟨b1, o1, none⟩) 2 sc1) (.slice da1 N dc1)) := by rw [hwo2]; exact n1
  have hb5 : Hid (Below w.heap.size w wo2) := by rw [hwo2]; exact ((Below.refl w.heap.size w).alloc (by omega) (.cells #[.bool false, .slice (some ⟨b1, o1, none⟩) 2 sc1, .slice da1 N dc1] 24))
  have zwo2 : w.heap.size ≤ wo2.heap.size := hb5.out.size
  clear hwo2 n1
  refine (chain_any _).mono ?_
  rintro e v1 ⟨rfl, hB⟩
  have z6 : wo2.heap.size ≤ v1.heap.size := hB.size
  have B7 : Hid (Abx v1 (w.heap.size) (.bool false) (.slice (some ⟨b1, o1, none⟩) 2 sc1) (.slice da1 N dc1)) := B4.out.go hB
  have hb8 : Hid (Below w.heap.size w v1) := hb5.out.trans (hB.mono hb5.out.size)
  clear hB hb5 B4
  have l9 := (B7.out).c0
  have l10 := (B7.out).c1
  have l11 := (B7.out).c2
  go_wp2_with fail
  clear l9 l10 l11
  refine (fra_hi n hn (some ⟨b1, o1, none⟩) sc1 da1 dc1 dz1 N HN.out.2 HL1.out HK1.out f (by have := HX.out.1; omega) HX.out.2 _ ((HI1.out.1.below hb8.out).mono hb8.out.size).1 ((HI1.out.2.1.below hb8.out).mono hb8.out.size).1).mono ?_
  rintro e v2 ⟨rfl, hB⟩
  have z12 : v1.heap.size ≤ v2.heap.size := hB.size
  have B13 : Hid (Abx v2 (w.heap.size) (.bool false) (.slice (some ⟨b1, o1, none⟩) 2 sc1) (.slice da1 N dc1)) := B7.out.go hB
  have hb14 : Hid (Below w.heap.size w v2) := hb8.out.trans (hB.mono hb8.out.size)
  clear hB hb8 B7
  go_wp2_with fail
  go_ret
  exact ⟨rfl, hb14.out⟩
set_option maxRecDepth 100000 in
set_option maxHeartbeats 2000000 in
theorem near_ok (f : Nat) (n : Nat) (hn : n ≤ 24) (b1 o1 sc1 : Nat) (da1 : Option Addr) (dc1 : Nat) (dz1 : List Int) (HL1 : Hid (dz1.length = n * n)) (w : World) (HI1 : Hid (IsC w.heap.size w (some ⟨b1, o1, none⟩) [(n : Int), (n : Int)] sc1 ∧ IsC w.heap.size w da1 dz1 dc1 ∧ ∀ j, In64 (nth dz1 j))) (hk1 : mskB dz1 = true) (hx : f < n) :
    Calls Try.prog 3 #[.agg #[.bool false, .slice (some ⟨b1, o1, none⟩) 2 sc1, .slice da1 dz1.length dc1], .int .i64 (f : Nat)] w fun e w' => e = .returned (.bool true) ∧ Below w.heap.size w w' := by
  have HFn : Hid (f < n) := hx
  have hfn : f < n := hx
  clear hx
  have HK1 : Hid (mskB dz1 = true) := hk1
  obtain ⟨N, hN⟩ : ∃ N, N = n * n := ⟨_, rfl⟩
  have N576 : N ≤ 576 := by have : n * n ≤ 24 * 24 := Nat.mul_le_mul hn hn; omega
  have HN : Hid (N = n * n ∧ dz1.length = N) := ⟨hN, by rw [HL1.out, hN]⟩
  clear hN
  have hmul : (n : Int) * (n : Int) = (N : Int) := by rw [HN.out.1]; simp
  have HSh : Hid (∀ v, Below w.heap.size w v → v.cell? ⟨b1, o1, none⟩ = some (.int .i64 (n : Int))) := fun v h => (shp14 HI1.out.1 h).2
  have HLp : Hid ((clL n (clB (rdR n dz1) n)).length = N) := by show _ = _; rw [clL_len, HN.out.1]
  clear hk1
  rw [HN.out.2]
  have n1 := Abx.new w (.bool false) (.slice (some ⟨b1, o1, none⟩) 2 sc1) (.slice da1 N dc1)
  go_enter Try.func3, Try.ntmps3
  go_wp2_with fail
  obtain ⟨wo2, hwo2⟩ : ∃ wo2, wo2 = (w.alloc (.cells #[.bool false, .slice (some ⟨b1, o1, none⟩) 2 sc1, .slice da1 N dc1] 24)) := ⟨_, rfl⟩
  rw [← hwo2]
  have z3 : w.heap.size + 1 ≤ wo2.heap.size := by rw [hwo2]; simp only [World.size_alloc]; omega
  have B4 : Hid (Abx wo2 (w.heap.size) (.bool false) (.slice (some ⟨b1, o1, none⟩) 2 sc1) (.slice da1 N dc1)) := by rw [hwo2]; exact n1
  have hb5 : Hid (Below w.heap.size w wo2) := by rw [hwo2]; exact ((Below.refl w.heap.size w).alloc (by omega) (.cells #[.bool false, .slice (some ⟨b1, o1, none⟩) 2 sc1, .slice da1 N dc1] 24))
  have zwo2 : w.heap.size ≤ wo2.heap.size := hb5.out.size
  clear hwo2 n1
  refine (chain_any _).mono ?_
  rintro e v1 ⟨rfl, hB⟩
  have z6 : wo2.heap.size ≤ v1.heap.size := hB.size
  have B7 : Hid (Abx v1 (w.heap.size) (.bool false) (.slice (some ⟨b1, o1, none⟩) 2 sc1) (.slice da1 N dc1)) := B4.out.go hB
  have hb8 : Hid (Below w.heap.size w v1) := hb5.out.trans (hB.mono hb5.out.size)
  clear hB hb5 B4
  have l9 := (B7.out).c0
  have l10 := (B7.out).c1
  have l11 := (B7.out).c2
  go_wp2_with fail
  clear l9 l10 l11
  refine (fra_ok n hn (some ⟨b1, o1, none⟩) sc1 da1 dc1 dz1 N HN.out.2 HL1.out HK1.out f HFn.out _ ((HI1.out.1.below hb8.out).mono hb8.out.size).1 ((HI1.out.2.1.below hb8.out).mono hb8.out.size).1).mono ?_
  rintro e v2 ⟨xa4, rfl, hX4, hB⟩
  have z12 : v1.heap.size ≤ v2.heap.size := hB.size
  have B13 : Hid (Abx v2 (w.heap.size) (.bool false) (.slice (some ⟨b1, o1, none⟩) 2 sc1) (.slice da1 N dc1)) := B7.out.go hB
  have hb14 : Hid (Below w.heap.size w v2) := hb8.out.trans (hB.mono hb8.out.size)
  have L15 : Hid (MidC (v1.heap.size) (v2.heap.size) v2 (xa4) (frL n (rdR n dz1) f) (n)) := hX4.midc
  clear hB hb8 B7 hX4
  have l16 := (B13.out).c0
  have l17 := (B13.out).c1
  have l18 := (B13.out).c2
  go_wp2_with fail
  clear l16 l17 l18
  refine (clo_ok n hn (some ⟨b1, o1, none⟩) sc1 da1 dc1 dz1 N HN.out.2 HL1.out HK1.out _ ((HI1.out.1.below hb14.out).mono hb14.out.size).1 ((HI1.out.2.1.below hb14.out).mono hb14.out.size).1).mono ?_
  rintro e v3 ⟨xa1, xc1, ya1, yc1, rfl, hX1, hY1, hB⟩
  have z19 : v2.heap.size ≤ v3.heap.size := hB.size
  have B20 : Hid (Abx v3 (w.heap.size) (.bool false) (.slice (some ⟨b1, o1, none⟩) 2 sc1) (.slice da1 N dc1)) := B13.out.go hB
  have L21 : Hid (MidC (v1.heap.size) (v2.heap.size) v3 (xa4) (frL n (rdR n dz1) f) (n)) := L15.out.go (by omega) hB
  have hb22 : Hid (Below w.heap.size w v3) := hb14.out.trans (hB.mono hb14.out.size)
  have L23 : Hid (MidC (v2.heap.size) (v3.heap.size) v3 (xa1) ([(n : Int), (n : Int)]) (xc1)) := hX1.midc
  have L24 : Hid (MidC (v2.heap.size) (v3.heap.size) v3 (ya1) (clL n (clB (rdR n dz1) n)) (yc1)) := hY1.midc
  clear hB hb14 B13 L15 hX1 hY1
  rw [HLp.out]
  have s1 : decide ((f : Int) < 0) = false := decide_eq_false (by omega)
  have s2 : decide ((n : Int) ≤ (f : Int)) = false := decide_eq_false (by omega)
  have s3 : decide (n ≤ f) = false := decide_eq_false (by omega)
  have s4 : ¬ n ≤ f := by omega
  have n25 := Abx.new v3 (.bool false) (.slice (xa1) 2 (xc1)) (.slice (ya1) (N) (yc1))
  have l26 := ((B20.out.al (.cells #[.bool false, .slice (xa1) 2 (xc1), .slice (ya1) (N) (yc1)] 24))).c0
  have l27 := ((B20.out.al (.cells #[.bool false, .slice (xa1) 2 (xc1), .slice (ya1) (N) (yc1)] 24))).c1
  have l28 := ((B20.out.al (.cells #[.bool false, .slice (xa1) 2 (xc1), .slice (ya1) (N) (yc1)] 24))).c2
  have l29 := HSh.out _ (hb22.out.alloc (by omega) (.cells #[.bool false, .slice (xa1) 2 (xc1), .slice (ya1) (N) (yc1)] 24))
  have l30 := (n25).c0
  have l31 := (n25).c1
  have l32 := (n25).c2
  go_wp2_with fail
  obtain ⟨wo33, hwo33⟩ : ∃ wo33, wo33 = (v3.alloc (.cells #[.bool false, .slice (xa1) 2 (xc1), .slice (ya1) (N) (yc1)] 24)) := ⟨_, rfl⟩
  rw [← hwo33]
  have z34 : v3.heap.size + 1 ≤ wo33.heap.size := by rw [hwo33]; simp only [World.size_alloc]; omega
  have B35 : Hid (Abx wo33 (w.heap.size) (.bool false) (.slice (some ⟨b1, o1, none⟩) 2 sc1) (.slice da1 N dc1)) := by rw [hwo33]; exact (B20.out.al (.cells #[.bool false, .slice (xa1) 2 (xc1), .slice (ya1) (N) (yc1)] 24))
  have B36 : Hid (Abx wo33 (v3.heap.size) (.bool false) (.slice (xa1) 2 (xc1)) (.slice (ya1) (N) (yc1))) := by rw [hwo33]; exact n25
  have L37 : Hid (MidC (v1.heap.size) (v2.heap.size) wo33 (xa4) (frL n (rdR n dz1) f) (n)) := by rw [hwo33]; exact (L21.out.al (by omega) (.cells #[.bool false, .slice (xa1) 2 (xc1), .slice (ya1) (N) (yc1)] 24))
  have L38 : Hid (MidC (v2.heap.size) (v3.heap.size) wo33 (xa1) ([(n : Int), (n : Int)]) (xc1)) := by rw [hwo33]; exact (L23.out.al (by omega) (.cells #[.bool false, .slice (xa1) 2 (xc1), .slice (ya1) (N) (yc1)] 24))
  have L39 : Hid (MidC (v2.heap.size) (v3.heap.size) wo33 (ya1) (clL n (clB (rdR n dz1) n)) (yc1)) := by rw [hwo33]; exact (L24.out.al (by omega) (.cells #[.bool false, .slice (xa1) 2 (xc1), .slice (ya1) (N) (yc1)] 24))
  have hb40 : Hid (Below w.heap.size w wo33) := by rw [hwo33]; exact (hb22.out.alloc (by omega) (.cells #[.bool false, .slice (xa1) 2 (xc1), .slice (ya1) (N) (yc1)] 24))
  have zwo33 : w.heap.size ≤ wo33.heap.size := hb40.out.size
  clear hwo33 n25 l26 l27 l28 l29 l30 l31 l32 hb22 B20 L21 L23 L24 s1 s2 s3 s4
  obtain ⟨R, hR⟩ : ∃ R, R = rdR n dz1 := ⟨_, rfl⟩
  obtain ⟨D, hD⟩ : ∃ D, D = clL n (clB (rdR n dz1) n) := ⟨_, rfl⟩
  obtain ⟨C, hC⟩ : ∃ C, C = frL n (rdR n dz1) f := ⟨_, rfl⟩
  have LYD : Hid (MidC (v2.heap.size) (v3.heap.size) wo33 (ya1) D (yc1)) := by rw [hD]; exact L39.out
  have LCC : Hid (MidC (v1.heap.size) (v2.heap.size) wo33 (xa4) C (n)) := by rw [hC]; exact L37.out
  have HD : Hid (D.length = N ∧ ∀ a, a < n → ∀ b, b < n → nth D (a * n + b) = bI (clB R n a b)) := ⟨by rw [hD]; exact HLp.out, fun a ha b hb => by rw [hD, hR, clL_at _ ha hb]⟩
  have HC : Hid (C.length = n ∧ ∀ a, a < n → nth C a = far R n f a) := ⟨by rw [hC, frL_len], fun a ha => by rw [hC, hR, frL_nth _ _ ha]⟩
  have HR : Hid (∀ a, a < n → ∀ b, b < n → (nth dz1 (a * n + b) = 1 ↔ R a b = true)) := fun a ha b hb => by rw [hR, rdR_at ha hb]; simp
  clear hR hD hC
  have zl : v3.heap.size ≤ wo33.heap.size := by omega
  have zc : v2.heap.size ≤ wo33.heap.size := by omega
  obtain ⟨Pf, hPf⟩ : ∃ P, P = f * n := ⟨_, rfl⟩
  have hPfi : (f : Int) * (n : Int) = (Pf : Int) := by rw [hPf]; simp
  have HPf : Hid (Pf = f * n ∧ Pf + n ≤ N) := ⟨hPf, by rw [hPf, HN.out.1, ← Nat.succ_mul]; exact Nat.mul_le_mul_right n hfn⟩
  have hPfm : Pf + n ≤ N := HPf.out.2
  clear hPf
  go_loopw [11] (fun q wr => Below wo33.heap.size wo33 wr ∧ ∃ j : Nat, j ≤ n ∧ q = .int .i64 (j : Nat)) (fun q _ => n - (intOf q).toNat)
  case atStart => exact ⟨Below.refl _ _, 0, Nat.zero_le _, rfl⟩
  case round =>
    obtain ⟨hB, j, hj, rfl⟩ := hrel
    by_cases hjl : j < n
    · obtain ⟨bc, oc, hbc, _, _, _, _⟩ := LCC.out.at (i := j) (by rw [HC.out.1]; exact hjl)
      subst hbc
      obtain ⟨dj, hdj⟩ : ∃ d, d = far R n f j := ⟨_, rfl⟩
      have HDj : Hid (dj = far R n f j) := hdj
      have d10 := LCC.out.go zc hB
      obtain ⟨_, _, ed1, _, _, d1, _⟩ := d10.at (i := j) (by rw [HC.out.1]; omega)
      cases ed1
      rw [HC.out.2 j (by omega), ← hdj] at d1
      clear d10
      clear hdj
      have hb := far_bd (R := R) (n := n) f j
      rw [← HDj.out] at hb
      have hb1 : -1 ≤ dj := by omega
      have hb2 : dj < (n : Int) := by omega
      clear hb
      have ijn : (j : Int) < (n : Int) := by omega
      have HZ : Hid (dj = 0 ↔ j = f) := by show _ ↔ _; rw [HDj.out]; exact far_zero hfn
      have HZ2 : Hid (∀ b : Bool, (b = true ↔ j = f) → (dj == 0) = b) := fun b hb => by
        by_cases e : j = f
        · rw [hb.2 e]; simpa using HZ.out.2 e
        · have : b = false := by cases b; rfl; exact absurd (hb.1 rfl) e
          rw [this]; simpa using fun h => e (HZ.out.1 h)
      have r1 : decide (dj < -1) = false := decide_eq_false (by omega)
      have r2 : decide ((n : Int) ≤ dj) = false := decide_eq_false (by omega)
      have bx := (B36.out.go hB).c2
      have hPj : Pf + j < N := by omega
      have x0 := LYD.out.go zl hB
      obtain ⟨bD, oD, hbD, _, _, x1, _⟩ := x0.at (i := Pf + j) (by rw [HD.out.1]; exact hPj)
      subst hbD
      clear x0
      obtain ⟨x, hx⟩ : ∃ x, x = nth D (Pf + j) := ⟨_, rfl⟩
      rw [← hx] at x1
      have HX : Hid (x = 1 ↔ clB R n f j = true) := by show _ ↔ _; rw [hx, HPf.out.1, HD.out.2 f hfn j hjl]; exact bI_one
      clear hx
      obtain ⟨I0, hI0⟩ : ∃ I0 : Nat, I0 = Pf + j := ⟨_, rfl⟩
      have hw1 : IntKind.i64.wrap (Pf : Int) = (Pf : Int) := by rw [IntWalk.i64_left]; exact w_small (by omega) (by omega)
      have hw2 : IntKind.i64.wrap ((Pf : Int) + (j : Int)) = (I0 : Int) := by rw [IntWalk.i64_left, show ((Pf : Int) + (j : Int)) = (I0 : Int) by omega]; exact w_small (by omega) (by omega)
      have hI1 : I0 < N := by omega
      have hI2 : (I0 : Int) < (N : Int) := by omega
      rw [← hI0] at x1
      clear hI0 hPj
      by_cases hjf : j = f
      · have u1 := HZ2.out true ⟨fun _ => hjf, fun _ => rfl⟩
        have u2 : ((j : Int) == (f : Int)) = true := by rw [hjf]; simp
        have u2' : (j == f) = true := by simpa using hjf
        have u3 : ((j : Int) != (f : Int)) = false := by rw [hjf]; simp
        have u3' : (j != f) = false := by simp [hjf]
        clear HZ2 hjf
        go_wp2_with fail
        go_quiet (fail)
        go_wp2_with fail
        clear x1 bx hw1 hw2 hI1 hI2 d1 u1 u2 u2' u3 u3' r1 r2
        go_loopw [12, 13] (fun v q wr => Below wo33.heap.size wo33 wr ∧ ∃ (i : Nat) (ah : Bool), i ≤ n ∧ q = .int .i64 (i : Nat) ∧ v = .bool ah ∧ Hid ((dj ≤ 0 → ah = true) ∧ ∀ a, a < i → R a j = true → 0 ≤ far R n f a → dj = far R n f a + 1 → ah = true)) (fun _ q _ => n - (intOf q).toNat)
        case atStart => first | exact ⟨bel_drewN hB _, 0, decide (dj ≤ 0), Nat.zero_le _, rfl, rfl, fun h => decide_eq_true h, fun a ha => absurd ha (Nat.not_lt_zero _)⟩ | exact ⟨bel_drewN hB _, 0, true, Nat.zero_le _, rfl, rfl, fun _ => rfl, fun _ _ _ _ _ => rfl⟩
        case round =>
          clear hB
          obtain ⟨hB, i, ah, hi, rfl, rfl, HA⟩ := hrel
          by_cases hil : i < n
          · have ba := (B35.out.go hB).c2
            obtain ⟨Pi, hPi⟩ : ∃ P, P = i * n := ⟨_, rfl⟩
            have hPii : (i : Int) * (n : Int) = (Pi : Int) := by rw [hPi]; simp
            have HPi : Hid (Pi = i * n ∧ Pi + n ≤ N) := ⟨hPi, by rw [hPi, HN.out.1, ← Nat.succ_mul]; exact Nat.mul_le_mul_right n hil⟩
            have hPim : Pi + n ≤ N := HPi.out.2
            clear hPi
            have hPij : Pi + j < N := by omega
            obtain ⟨bd, od, rfl, _, hcd⟩ := (HI1.out.2.1.1.below (hb40.out.trans (hB.mono hb40.out.size))).at (q := Pi + j) (by rw [HN.out.2]; exact hPij)
            have a1 := hcd (Pi + j) (by rw [HN.out.2]; exact hPij)
            clear hcd
            obtain ⟨y, hy⟩ : ∃ y, y = nth dz1 (Pi + j) := ⟨_, rfl⟩
            rw [← hy] at a1
            have HY : Hid (y = 1 ↔ R i j = true) := by show _ ↔ _; rw [hy, HPi.out.1]; exact HR.out i hil j hjl
            clear hy
            obtain ⟨di, hdi⟩ : ∃ d, d = far R n f i := ⟨_, rfl⟩
            have HDi : Hid (di = far R n f i) := hdi
            have d20 := LCC.out.go zc hB
            obtain ⟨_, _, ed2, _, _, d2, _⟩ := d20.at (i := i) (by rw [HC.out.1]; omega)
            cases ed2
            rw [HC.out.2 i (by omega), ← hdi] at d2
            clear d20
            have d10 := LCC.out.go zc hB
            obtain ⟨_, _, ed1, _, _, d1, _⟩ := d10.at (i := j) (by rw [HC.out.1]; omega)
            cases ed1
            rw [HC.out.2 j (by omega), ← HDj.out] at d1
            clear d10
            clear hdi
            have hb := far_bd (R := R) (n := n) f i
            rw [← HDi.out] at hb
            have hc2 : di < (n : Int) := by omega
            have hc1 : -1 ≤ di := by omega
            clear hb
            have iin : (i : Int) < (n : Int) := by omega
            have hw : IntKind.i64.wrap (di + 1) = di + 1 := by rw [IntWalk.i64_left]; exact w_small (by omega) (by omega)
            have HSt : y = 1 → 0 ≤ di → Hid (0 ≤ dj ∧ dj ≤ di + 1) := fun e1 e2 => by
              have h := far_step (R := R) (n := n) (i := f) (a := i) (b := j) hfn hjl (HY.out.1 e1) (by rw [← HDi.out]; exact e2)
              rw [← HDi.out, ← HDj.out] at h
              exact h
            have HSk : ¬ (y = 1 ∧ 0 ≤ di ∧ dj = di + 1) → Hid ((dj ≤ 0 → ah = true) ∧ ∀ a, a < i + 1 → R a j = true → 0 ≤ far R n f a → dj = far R n f a + 1 → ah = true) := fun e => ⟨HA.out.1, fun a ha h1 h2 h3 => by
              by_cases e2 : a = i
              · subst e2
                rw [← HDi.out] at h2 h3
                exact absurd ⟨HY.out.2 h1, h2, h3⟩ e
              · exact HA.out.2 a (by omega) h1 h2 h3⟩
            by_cases hy1 : y = 1
            · have t1 : (y != 1) = false := by simp [hy1]
              by_cases hd0 : di < 0
              · have HT := HSk (fun e => by have := e.2.1; omega)
                clear hy1 HSt HSk HA
                go_wp2_with fail
                exact ⟨⟨hB, i + 1, ah, by omega, by go_num, rfl, HT⟩, by simp [intOf]; omega⟩
              · have hs := HSt hy1 (by omega)
                have g1 : decide (dj < 0) = false := decide_eq_false (by have := hs.out; omega)
                have g2 : decide (di + 1 < dj) = false := decide_eq_false (by have := hs.out; omega)
                have g3 : 0 ≤ dj := hs.out.1
                have g4 : dj ≤ di + 1 := hs.out.2
                have g5 : decide (di < 0) = false := decide_eq_false hd0
                by_cases heq : dj = di + 1
                · have t2 : (dj == di + 1) = true := by simpa using heq
                  have HT : Hid ((dj ≤ 0 → true = true) ∧ ∀ a, a < i + 1 → R a j = true → 0 ≤ far R n f a → dj = far R n f a + 1 → true = true) := ⟨fun _ => rfl, fun _ _ _ _ _ => rfl⟩
                  clear hy1 HSt HSk HA hs heq
                  go_wp2_with fail
                  go_quiet (fail)
                  go_wp2_with fail
                  go_quiet (fail)
                  go_wp2_with fail
                  exact ⟨⟨bel_drewN hB _, i + 1, true, by omega, by go_num, rfl, ⟨fun _ => rfl, fun _ _ _ _ _ => rfl⟩⟩, by simp [intOf]; omega⟩
                · have t2 : (dj == di + 1) = false := by simpa using heq
                  have HT := HSk (fun e => heq e.2.2)
                  clear hy1 HSt HSk HA hs heq
                  go_wp2_with fail
                  go_quiet (fail)
                  go_wp2_with fail
                  go_quiet (fail)
                  go_wp2_with fail
                  exact ⟨⟨bel_drewN hB _, i + 1, ah, by omega, by go_num, rfl, HT⟩, by simp [intOf]; omega⟩
            · have t1 : (y != 1) = true := by simp [hy1]
              have HT := HSk (fun e => hy1 e.1)
              clear hy1 HSt HSk HA
              go_wp2_with fail
              exact ⟨⟨hB, i + 1, ah, by omega, by go_num, rfl, HT⟩, by simp [intOf]; omega⟩
          · obtain rfl : i = n := by omega
            have hat : ah = true := near_ahead hfn hjl HDj.out HA.out.1 HA.out.2
            subst hat
            clear HA
            go_wp2_with fail
            exact ⟨⟨hB, j + 1, by omega, by go_num⟩, by simp [intOf]; omega⟩
      · have u1 := HZ2.out false ⟨fun h => absurd h (by decide), fun h => absurd h hjf⟩
        have u2 : ((j : Int) == (f : Int)) = false := by simp; omega
        have u2' : (j == f) = false := by simpa using hjf
        have u3 : ((j : Int) != (f : Int)) = true := by simp; omega
        have u3' : (j != f) = true := by simpa using hjf
        have HG : Hid (0 < dj ↔ x = 1) := by show _ ↔ _; rw [HX.out, HDj.out]; exact far_pos hfn hjf
        clear HZ2 hjf
        by_cases hx1 : x = 1
        · have v1 : (x == 1) = true := by simpa using hx1
          have v2 : decide (0 < dj) = true := decide_eq_true (HG.out.2 hx1)
          have v3 : 0 < dj := HG.out.2 hx1
          clear hx1 HG
          go_wp2_with fail
          go_quiet (fail)
          go_wp2_with fail
          clear x1 bx hw1 hw2 hI1 hI2 d1 u1 u2 u2' u3 u3' r1 r2 v1 v2 v3
          go_loopw [12, 13] (fun v q wr => Below wo33.heap.size wo33 wr ∧ ∃ (i : Nat) (ah : Bool), i ≤ n ∧ q = .int .i64 (i : Nat) ∧ v = .bool ah ∧ Hid ((dj ≤ 0 → ah = true) ∧ ∀ a, a < i → R a j = true → 0 ≤ far R n f a → dj = far R n f a + 1 → ah = true)) (fun _ q _ => n - (intOf q).toNat)
          case atStart => first | exact ⟨bel_drewN hB _, 0, decide (dj ≤ 0), Nat.zero_le _, rfl, rfl, fun h => decide_eq_true h, fun a ha => absurd ha (Nat.not_lt_zero _)⟩ | exact ⟨bel_drewN hB _, 0, true, Nat.zero_le _, rfl, rfl, fun _ => rfl, fun _ _ _ _ _ => rfl⟩
          case round =>
            clear hB
            obtain ⟨hB, i, ah, hi, rfl, rfl, HA⟩ := hrel
            by_cases hil : i < n
            · have ba := (B35.out.go hB).c2
              obtain ⟨Pi, hPi⟩ : ∃ P, P = i * n := ⟨_, rfl⟩
              have hPii : (i : Int) * (n : Int) = (Pi : Int) := by rw [hPi]; simp
              have HPi : Hid (Pi = i * n ∧ Pi + n ≤ N) := ⟨hPi, by rw [hPi, HN.out.1, ← Nat.succ_mul]; exact Nat.mul_le_mul_right n hil⟩
              have hPim : Pi + n ≤ N := HPi.out.2
              clear hPi
              have hPij : Pi + j < N := by omega
              obtain ⟨bd, od, rfl, _, hcd⟩ := (HI1.out.2.1.1.below (hb40.out.trans (hB.mono hb40.out.size))).at (q := Pi + j) (by rw [HN.out.2]; exact hPij)
              have a1 := hcd (Pi + j) (by rw [HN.out.2]; exact hPij)
              clear hcd
              obtain ⟨y, hy⟩ : ∃ y, y = nth dz1 (Pi + j) := ⟨_, rfl⟩
              rw [← hy] at a1
              have HY : Hid (y = 1 ↔ R i j = true) := by show _ ↔ _; rw [hy, HPi.out.1]; exact HR.out i hil j hjl
              clear hy
              obtain ⟨di, hdi⟩ : ∃ d, d = far R n f i := ⟨_, rfl⟩
              have HDi : Hid (di = far R n f i) := hdi
              have d20 := LCC.out.go zc hB
              obtain ⟨_, _, ed2, _, _, d2, _⟩ := d20.at (i := i) (by rw [HC.out.1]; omega)
              cases ed2
              rw [HC.out.2 i (by omega), ← hdi] at d2
              clear d20
              have d10 := LCC.out.go zc hB
              obtain ⟨_, _, ed1, _, _, d1, _⟩ := d10.at (i := j) (by rw [HC.out.1]; omega)
              cases ed1
              rw [HC.out.2 j (by omega), ← HDj.out] at d1
              clear d10
              clear hdi
              have hb := far_bd (R := R) (n := n) f i
              rw [← HDi.out] at hb
              have hc2 : di < (n : Int) := by omega
              have hc1 : -1 ≤ di := by omega
              clear hb
              have iin : (i : Int) < (n : Int) := by omega
              have hw : IntKind.i64.wrap (di + 1) = di + 1 := by rw [IntWalk.i64_left]; exact w_small (by omega) (by omega)
              have HSt : y = 1 → 0 ≤ di → Hid (0 ≤ dj ∧ dj ≤ di + 1) := fun e1 e2 => by
                have h := far_step (R := R) (n := n) (i := f) (a := i) (b := j) hfn hjl (HY.out.1 e1) (by rw [← HDi.out]; exact e2)
                rw [← HDi.out, ← HDj.out] at h
                exact h
              have HSk : ¬ (y = 1 ∧ 0 ≤ di ∧ dj = di + 1) → Hid ((dj ≤ 0 → ah = true) ∧ ∀ a, a < i + 1 → R a j = true → 0 ≤ far R n f a → dj = far R n f a + 1 → ah = true) := fun e => ⟨HA.out.1, fun a ha h1 h2 h3 => by
                by_cases e2 : a = i
                · subst e2
                  rw [← HDi.out] at h2 h3
                  exact absurd ⟨HY.out.2 h1, h2, h3⟩ e
                · exact HA.out.2 a (by omega) h1 h2 h3⟩
              by_cases hy1 : y = 1
              · have t1 : (y != 1) = false := by simp [hy1]
                by_cases hd0 : di < 0
                · have HT := HSk (fun e => by have := e.2.1; omega)
                  clear hy1 HSt HSk HA
                  go_wp2_with fail
                  exact ⟨⟨hB, i + 1, ah, by omega, by go_num, rfl, HT⟩, by simp [intOf]; omega⟩
                · have hs := HSt hy1 (by omega)
                  have g1 : decide (dj < 0) = false := decide_eq_false (by have := hs.out; omega)
                  have g2 : decide (di + 1 < dj) = false := decide_eq_false (by have := hs.out; omega)
                  have g3 : 0 ≤ dj := hs.out.1
                  have g4 : dj ≤ di + 1 := hs.out.2
                  have g5 : decide (di < 0) = false := decide_eq_false hd0
                  by_cases heq : dj = di + 1
                  · have t2 : (dj == di + 1) = true := by simpa using heq
                    have HT : Hid ((dj ≤ 0 → true = true) ∧ ∀ a, a < i + 1 → R a j = true → 0 ≤ far R n f a → dj = far R n f a + 1 → true = true) := ⟨fun _ => rfl, fun _ _ _ _ _ => rfl⟩
                    clear hy1 HSt HSk HA hs heq
                    go_wp2_with fail
                    go_quiet (fail)
                    go_wp2_with fail
                    go_quiet (fail)
                    go_wp2_with fail
                    exact ⟨⟨bel_drewN hB _, i + 1, true, by omega, by go_num, rfl, ⟨fun _ => rfl, fun _ _ _ _ _ => rfl⟩⟩, by simp [intOf]; omega⟩
                  · have t2 : (dj == di + 1) = false := by simpa using heq
                    have HT := HSk (fun e => heq e.2.2)
                    clear hy1 HSt HSk HA hs heq
                    go_wp2_with fail
                    go_quiet (fail)
                    go_wp2_with fail
                    go_quiet (fail)
                    go_wp2_with fail
                    exact ⟨⟨bel_drewN hB _, i + 1, ah, by omega, by go_num, rfl, HT⟩, by simp [intOf]; omega⟩
              · have t1 : (y != 1) = true := by simp [hy1]
                have HT := HSk (fun e => hy1 e.1)
                clear hy1 HSt HSk HA
                go_wp2_with fail
                exact ⟨⟨hB, i + 1, ah, by omega, by go_num, rfl, HT⟩, by simp [intOf]; omega⟩
            · obtain rfl : i = n := by omega
              have hat : ah = true := near_ahead hfn hjl HDj.out HA.out.1 HA.out.2
              subst hat
              clear HA
              go_wp2_with fail
              exact ⟨⟨hB, j + 1, by omega, by go_num⟩, by simp [intOf]; omega⟩
        · have v1 : (x == 1) = false := by simpa using hx1
          have v2 : decide (0 < dj) = false := decide_eq_false (fun h => hx1 (HG.out.1 h))
          have v3 : ¬ 0 < dj := fun h => hx1 (HG.out.1 h)
          clear hx1 HG
          go_wp2_with fail
          go_quiet (fail)
          go_wp2_with fail
          clear x1 bx hw1 hw2 hI1 hI2 d1 u1 u2 u2' u3 u3' r1 r2 v1 v2 v3
          go_loopw [12, 13] (fun v q wr => Below wo33.heap.size wo33 wr ∧ ∃ (i : Nat) (ah : Bool), i ≤ n ∧ q = .int .i64 (i : Nat) ∧ v = .bool ah ∧ Hid ((dj ≤ 0 → ah = true) ∧ ∀ a, a < i → R a j = true → 0 ≤ far R n f a → dj = far R n f a + 1 → ah = true)) (fun _ q _ => n - (intOf q).toNat)
          case atStart => first | exact ⟨bel_drewN hB _, 0, decide (dj ≤ 0), Nat.zero_le _, rfl, rfl, fun h => decide_eq_true h, fun a ha => absurd ha (Nat.not_lt_zero _)⟩ | exact ⟨bel_drewN hB _, 0, true, Nat.zero_le _, rfl, rfl, fun _ => rfl, fun _ _ _ _ _ => rfl⟩
          case round =>
            clear hB
            obtain ⟨hB, i, ah, hi, rfl, rfl, HA⟩ := hrel
            by_cases hil : i < n
            · have ba := (B35.out.go hB).c2
              obtain ⟨Pi, hPi⟩ : ∃ P, P = i * n := ⟨_, rfl⟩
              have hPii : (i : Int) * (n : Int) = (Pi : Int) := by rw [hPi]; simp
              have HPi : Hid (Pi = i * n ∧ Pi + n ≤ N) := ⟨hPi, by rw [hPi, HN.out.1, ← Nat.succ_mul]; exact Nat.mul_le_mul_right n hil⟩
              have hPim : Pi + n ≤ N := HPi.out.2
              clear hPi
              have hPij : Pi + j < N := by omega
              obtain ⟨bd, od, rfl, _, hcd⟩ := (HI1.out.2.1.1.below (hb40.out.trans (hB.mono hb40.out.size))).at (q := Pi + j) (by rw [HN.out.2]; exact hPij)
              have a1 := hcd (Pi + j) (by rw [HN.out.2]; exact hPij)
              clear hcd
              obtain ⟨y, hy⟩ : ∃ y, y = nth dz1 (Pi + j) := ⟨_, rfl⟩
              rw [← hy] at a1
              have HY : Hid (y = 1 ↔ R i j = true) := by show _ ↔ _; rw [hy, HPi.out.1]; exact HR.out i hil j hjl
              clear hy
              obtain ⟨di, hdi⟩ : ∃ d, d = far R n f i := ⟨_, rfl⟩
              have HDi : Hid (di = far R n f i) := hdi
              have d20 := LCC.out.go zc hB
              obtain ⟨_, _, ed2, _, _, d2, _⟩ := d20.at (i := i) (by rw [HC.out.1]; omega)
              cases ed2
              rw [HC.out.2 i (by omega), ← hdi] at d2
              clear d20
              have d10 := LCC.out.go zc hB
              obtain ⟨_, _, ed1, _, _, d1, _⟩ := d10.at (i := j) (by rw [HC.out.1]; omega)
              cases ed1
              rw [HC.out.2 j (by omega), ← HDj.out] at d1
              clear d10
              clear hdi
              have hb := far_bd (R := R) (n := n) f i
              rw [← HDi.out] at hb
              have hc2 : di < (n : Int) := by omega
              have hc1 : -1 ≤ di := by omega
              clear hb
              have iin : (i : Int) < (n : Int) := by omega
              have hw : IntKind.i64.wrap (di + 1) = di + 1 := by rw [IntWalk.i64_left]; exact w_small (by omega) (by omega)
              have HSt : y = 1 → 0 ≤ di → Hid (0 ≤ dj ∧ dj ≤ di + 1) := fun e1 e2 => by
                have h := far_step (R := R) (n := n) (i := f) (a := i) (b := j) hfn hjl (HY.out.1 e1) (by rw [← HDi.out]; exact e2)
                rw [← HDi.out, ← HDj.out] at h
                exact h
              have HSk : ¬ (y = 1 ∧ 0 ≤ di ∧ dj = di + 1) → Hid ((dj ≤ 0 → ah = true) ∧ ∀ a, a < i + 1 → R a j = true → 0 ≤ far R n f a → dj = far R n f a + 1 → ah = true) := fun e => ⟨HA.out.1, fun a ha h1 h2 h3 => by
                by_cases e2 : a = i
                · subst e2
                  rw [← HDi.out] at h2 h3
                  exact absurd ⟨HY.out.2 h1, h2, h3⟩ e
                · exact HA.out.2 a (by omega) h1 h2 h3⟩
              by_cases hy1 : y = 1
              · have t1 : (y != 1) = false := by simp [hy1]
                by_cases hd0 : di < 0
                · have HT := HSk (fun e => by have := e.2.1; omega)
                  clear hy1 HSt HSk HA
                  go_wp2_with fail
                  exact ⟨⟨hB, i + 1, ah, by omega, by go_num, rfl, HT⟩, by simp [intOf]; omega⟩
                · have hs := HSt hy1 (by omega)
                  have g1 : decide (dj < 0) = false := decide_eq_false (by have := hs.out; omega)
                  have g2 : decide (di + 1 < dj) = false := decide_eq_false (by have := hs.out; omega)
                  have g3 : 0 ≤ dj := hs.out.1
                  have g4 : dj ≤ di + 1 := hs.out.2
                  have g5 : decide (di < 0) = false := decide_eq_false hd0
                  by_cases heq : dj = di + 1
                  · have t2 : (dj == di + 1) = true := by simpa using heq
                    have HT : Hid ((dj ≤ 0 → true = true) ∧ ∀ a, a < i + 1 → R a j = true → 0 ≤ far R n f a → dj = far R n f a + 1 → true = true) := ⟨fun _ => rfl, fun _ _ _ _ _ => rfl⟩
                    clear hy1 HSt HSk HA hs heq
                    go_wp2_with fail
                    go_quiet (fail)
                    go_wp2_with fail
                    go_quiet (fail)
                    go_wp2_with fail
                    exact ⟨⟨bel_drewN hB _, i + 1, true, by omega, by go_num, rfl, ⟨fun _ => rfl, fun _ _ _ _ _ => rfl⟩⟩, by simp [intOf]; omega⟩
                  · have t2 : (dj == di + 1) = false := by simpa using heq
                    have HT := HSk (fun e => heq e.2.2)
                    clear hy1 HSt HSk HA hs heq
                    go_wp2_with fail
                    go_quiet (fail)
                    go_wp2_with fail
                    go_quiet (fail)
                    go_wp2_with fail
                    exact ⟨⟨bel_drewN hB _, i + 1, ah, by omega, by go_num, rfl, HT⟩, by simp [intOf]; omega⟩
              · have t1 : (y != 1) = true := by simp [hy1]
                have HT := HSk (fun e => hy1 e.1)
                clear hy1 HSt HSk HA
                go_wp2_with fail
                exact ⟨⟨hB, i + 1, ah, by omega, by go_num, rfl, HT⟩, by simp [intOf]; omega⟩
            · obtain rfl : i = n := by omega
              have hat : ah = true := near_ahead hfn hjl HDj.out HA.out.1 HA.out.2
              subst hat
              clear HA
              go_wp2_with fail
              exact ⟨⟨hB, j + 1, by omega, by go_num⟩, by simp [intOf]; omega⟩
    · obtain rfl : j = n := by omega
      go_wp2_with fail
      go_ret
      exact ⟨rfl, hb40.out.trans (hB.mono hb40.out.size)⟩
theorem rnear_walk (c1 : Bool) (sa1 : Option Addr) (sc1 : Nat) (sz1 : List Int) (da1 : Option Addr) (dc1 : Nat) (dz1 : List Int) (f : Int) (hf : In64 f) (w : World) (w8 : IsArrD w sa1 sz1 sc1 da1 dz1 dc1) :
    Calls Try.prog 3 #[.agg #[.bool c1, .slice sa1 sz1.length sc1, .slice da1 dz1.length dc1], .int .i64 f] w fun e w' => e = .returned (.bool true) ∧ Below w.heap.size w w' := by
  by_cases h1 : rlE c1 sz1 dz1 = 0
  · obtain ⟨n, hn, rfl, hl1, rfl, hk1⟩ := rl_is h1
    obtain ⟨b1, o1, rfl⟩ := opn14 w8.2.2.1
    by_cases hx : f < 0
    · exact near_lo n hn b1 o1 sc1 da1 dc1 dz1 hl1 w ⟨w8.2.2.1, w8.2.2.2.1, w8.2.2.2.2.2⟩ hk1 f hx
    · by_cases hy : (n : Int) ≤ f
      · exact near_hi n hn b1 o1 sc1 da1 dc1 dz1 hl1 w ⟨w8.2.2.1, w8.2.2.2.1, w8.2.2.2.2.2⟩ hk1 f hx hy
      · obtain ⟨f, rfl⟩ := Int.eq_ofNat_of_zero_le (Int.not_lt.1 hx)
        exact near_ok f n hn b1 o1 sc1 da1 dc1 dz1 hl1 w ⟨w8.2.2.1, w8.2.2.2.1, w8.2.2.2.2.2⟩ hk1 (by omega)
  · exact near_no c1 sa1 sc1 sz1 da1 dc1 dz1 f hf w w8 h1
end Go.Proofs.Ytgaelbgeoobgiab
