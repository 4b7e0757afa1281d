/-
  The walk of the statement ReachLeast, given what the program tells.
-/
import Derived.Test.YtgaelbgeoobgiaaRlw
import Derived.Test.YtgaelbgeoobgiaaMidc
import Derived.Test.YtgaelbgeoobgiaaCutq
namespace Go.Proofs.Ytgaelbgeoobgiaa
open Go.RowKit
set_option linter.unusedVariables false

theorem least_in {n p : Nat} {dz : List Int} (hp : p < n * n) (h : nth dz p = 1) : nth (clL n (clB (rdR n dz) n)) p = 1 := by
  obtain ⟨h1, h2, h3⟩ := div_row hp
  rw [clL_nth _ hp, bI_one]
  exact cl_step h2 (by rw [rdR_at h1 h2, h3, h]; rfl)
theorem least_of {n p : Nat} {dz dz2 : List Int} (h2 : Trn n (rdR n dz2)) (h3 : ∀ p, p < n * n → nth dz p = 1 → nth dz2 p = 1) (hp : p < n * n) (h : nth (clL n (clB (rdR n dz) n)) p = 1) : nth dz2 p = 1 := by
  obtain ⟨q1, q2, q3⟩ := div_row hp
  rw [clL_nth _ hp, bI_one] at h
  have := cl_least (T := rdR n dz2) (fun i hi j hj e => by
    rw [rdR_at hi hj] at e ⊢
    have := h3 _ (row_lt hi hj) (by simpa using e)
    rw [this]; rfl) h2 q1 h
  rw [rdR_at q1 q2, q3] at this
  simpa using this
theorem shp14 {w v : World} {b o n sc : Nat} (h : IsC w.heap.size w (some ⟨b, o, none⟩) [(n : Int), (n : Int)] sc) (hB : Below w.heap.size w v) : b < w.heap.size ∧ v.cell? ⟨b, o, none⟩ = some (.int .i64 (n : Int)) := by
  obtain ⟨b', o', e, hb, hc⟩ := (h.1.below hB).at (q := 0) (by simp)
  cases e
  have h0 := hc 0 (by simp)
  rw [Nat.add_zero] at h0
  exact ⟨hb, h0⟩
theorem opn14 {w : World} {sa : Option Addr} {n sc : Nat} (h : IsC w.heap.size w sa [(n : Int), (n : Int)] sc) : ∃ b o, sa = some ⟨b, o, none⟩ := by
  obtain ⟨b, o, e, _, _⟩ := h.1.at (q := 0) (by simp)
  exact ⟨b, o, e⟩
set_option maxRecDepth 100000 in
set_option maxHeartbeats 2000000 in
theorem leas_no (c1 : Bool) (sa1 : Option Addr) (sc1 : Nat) (sz1 : List Int) (da1 : Option Addr) (dc1 : Nat) (dz1 : List Int) (c2 : Bool) (sa2 : Option Addr) (sc2 : Nat) (sz2 : List Int) (da2 : Option Addr) (dc2 : Nat) (dz2 : List Int) (w : World) (w8 : IsArrD w sa1 sz1 sc1 da1 dz1 dc1) (w9 : IsArrD w sa2 sz2 sc2 da2 dz2 dc2) (h0 : rlE c1 sz1 dz1 ≠ 0) :
    Calls Try.prog 3 #[.agg #[.bool c1, .slice sa1 sz1.length sc1, .slice da1 dz1.length dc1], .agg #[.bool c2, .slice sa2 sz2.length sc2, .slice da2 dz2.length dc2]] w fun e w' => e = .returned (.bool true) ∧ Below w.heap.size w w' := by
  have HI1 : Hid (IsC w.heap.size w sa1 sz1 sc1 ∧ IsC w.heap.size w da1 dz1 dc1) := ⟨w8.2.2.1, w8.2.2.2.1⟩
  have HNe : Hid (rlE c1 sz1 dz1 ≠ 0) := h0
  clear h0
  have n1 := Abx.new w (.bool c1) (.slice sa1 sz1.length sc1) (.slice da1 dz1.length dc1)
  have n2 := Abx.new (w.alloc (.cells #[.bool c1, .slice sa1 sz1.length sc1, .slice da1 dz1.length dc1] 24)) (.bool c2) (.slice sa2 sz2.length sc2) (.slice da2 dz2.length dc2)
  simp only [World.size_alloc] at n2
  go_enter Try.func3, Try.ntmps3
  go_wp2_with fail
  obtain ⟨wo3, hwo3⟩ : ∃ wo3, wo3 = ((w.alloc (.cells #[.bool c1, .slice sa1 sz1.length sc1, .slice da1 dz1.length dc1] 24)).alloc (.cells #[.bool c2, .slice sa2 sz2.length sc2, .slice da2 dz2.length dc2] 24)) := ⟨_, rfl⟩
  rw [← hwo3]
  have z4 : w.heap.size + 1 + 1 ≤ wo3.heap.size := by rw [hwo3]; simp only [World.size_alloc]; omega
  have B5 : Hid (Abx wo3 (w.heap.size) (.bool c1) (.slice sa1 sz1.length sc1) (.slice da1 dz1.length dc1)) := by rw [hwo3]; exact (n1.al (.cells #[.bool c2, .slice sa2 sz2.length sc2, .slice da2 dz2.length dc2] 24))
  have B6 : Hid (Abx wo3 (w.heap.size + 1) (.bool c2) (.slice sa2 sz2.length sc2) (.slice da2 dz2.length dc2)) := by rw [hwo3]; exact n2
  have hb7 : Hid (Below w.heap.size w wo3) := by rw [hwo3]; exact (((Below.refl w.heap.size w).alloc (by omega) (.cells #[.bool c1, .slice sa1 sz1.length sc1, .slice da1 dz1.length dc1] 24)).alloc (by simp only [World.size_alloc]; omega) (.cells #[.bool c2, .slice sa2 sz2.length sc2, .slice da2 dz2.length dc2] 24))
  have zwo3 : w.heap.size ≤ wo3.heap.size := hb7.out.size
  clear hwo3 n1 n2
  refine (chain_any _).mono ?_
  rintro e v1 ⟨rfl, hB⟩
  have z8 : wo3.heap.size ≤ v1.heap.size := hB.size
  have B9 : Hid (Abx v1 (w.heap.size) (.bool c1) (.slice sa1 sz1.length sc1) (.slice da1 dz1.length dc1)) := B5.out.go hB
  have B10 : Hid (Abx v1 (w.heap.size + 1) (.bool c2) (.slice sa2 sz2.length sc2) (.slice da2 dz2.length dc2)) := B6.out.go hB
  have hb11 : Hid (Below w.heap.size w v1) := hb7.out.trans (hB.mono hb7.out.size)
  clear hB hb7 B5 B6
  have l12 := (B9.out).c0
  have l13 := (B9.out).c1
  have l14 := (B9.out).c2
  go_wp2_with fail
  clear l12 l13 l14
  refine (clo_no c1 sa1 sc1 sz1 da1 dc1 dz1 _ w8.1 w8.2.1 ((HI1.out.1.below hb11.out).mono hb11.out.size).1 ((HI1.out.2.below hb11.out).mono hb11.out.size).1 HNe.out).mono ?_
  rintro e v2 ⟨rfl, hB⟩
  have z15 : v1.heap.size ≤ v2.heap.size := hB.size
  have B16 : Hid (Abx v2 (w.heap.size) (.bool c1) (.slice sa1 sz1.length sc1) (.slice da1 dz1.length dc1)) := B9.out.go hB
  have B17 : Hid (Abx v2 (w.heap.size + 1) (.bool c2) (.slice sa2 sz2.length sc2) (.slice da2 dz2.length dc2)) := B10.out.go hB
  have hb18 : Hid (Below w.heap.size w v2) := hb11.out.trans (hB.mono hb11.out.size)
  clear hB hb11 B9 B10
  have n19 := Abx.new v2 (.bool false) (.slice none 0 0) (.slice none 0 0)
  go_wp2_with fail
  obtain ⟨wo20, hwo20⟩ : ∃ wo20, wo20 = (v2.alloc (.cells #[.bool false, .slice none 0 0, .slice none 0 0] 24)) := ⟨_, rfl⟩
  rw [← hwo20]
  have z21 : v2.heap.size + 1 ≤ wo20.heap.size := by rw [hwo20]; simp only [World.size_alloc]; omega
  have B22 : Hid (Abx wo20 (w.heap.size) (.bool c1) (.slice sa1 sz1.length sc1) (.slice da1 dz1.length dc1)) := by rw [hwo20]; exact (B16.out.al (.cells #[.bool false, .slice none 0 0, .slice none 0 0] 24))
  have B23 : Hid (Abx wo20 (w.heap.size + 1) (.bool c2) (.slice sa2 sz2.length sc2) (.slice da2 dz2.length dc2)) := by rw [hwo20]; exact (B17.out.al (.cells #[.bool false, .slice none 0 0, .slice none 0 0] 24))
  have B24 : Hid (Abx wo20 (v2.heap.size) (.bool false) (.slice none 0 0) (.slice none 0 0)) := by rw [hwo20]; exact n19
  have hb25 : Hid (Below w.heap.size w wo20) := by rw [hwo20]; exact (hb18.out.alloc (by omega) (.cells #[.bool false, .slice none 0 0, .slice none 0 0] 24))
  have zwo20 : w.heap.size ≤ wo20.heap.size := hb25.out.size
  clear hwo20 n19 hb18 B16 B17
  go_wp2_with fail
  go_ret
  exact ⟨rfl, hb25.out⟩
set_option maxRecDepth 100000 in
set_option maxHeartbeats 2000000 in
theorem leas_ok (n : Nat) (hn : n ≤ 24) (b1 o1 sc1 : Nat) (da1 : Option Addr) (dc1 : Nat) (dz1 : List Int) (HL1 : Hid (dz1.length = n * n)) (w : World) (HI1 : Hid (IsC w.heap.size w (some ⟨b1, o1, none⟩) [(n : Int), (n : Int)] sc1 ∧ IsC w.heap.size w da1 dz1 dc1 ∧ ∀ j, In64 (nth dz1 j))) (c2 : Bool) (sa2 : Option Addr) (sc2 : Nat) (sz2 : List Int) (da2 : Option Addr) (dc2 : Nat) (dz2 : List Int) (w9 : IsArrD w sa2 sz2 sc2 da2 dz2 dc2) (hk1 : mskB dz1 = true) :
    Calls Try.prog 3 #[.agg #[.bool false, .slice (some ⟨b1, o1, none⟩) 2 sc1, .slice da1 dz1.length dc1], .agg #[.bool c2, .slice sa2 sz2.length sc2, .slice da2 dz2.length dc2]] w fun e w' => e = .returned (.bool true) ∧ Below w.heap.size w w' := by
  have HI2 : Hid (IsC w.heap.size w sa2 sz2 sc2 ∧ IsC w.heap.size w da2 dz2 dc2) := ⟨w9.2.2.1, w9.2.2.2.1⟩
  have HK1 : Hid (mskB dz1 = true) := hk1
  obtain ⟨N, hN⟩ : ∃ N, N = n * n := ⟨_, rfl⟩
  have N576 : N ≤ 576 := by have : n * n ≤ 24 * 24 := Nat.mul_le_mul hn hn; omega
  have HN : Hid (N = n * n ∧ dz1.length = N) := ⟨hN, by rw [HL1.out, hN]⟩
  clear hN
  have hmul : (n : Int) * (n : Int) = (N : Int) := by rw [HN.out.1]; simp
  have HSh : Hid (∀ v, Below w.heap.size w v → v.cell? ⟨b1, o1, none⟩ = some (.int .i64 (n : Int))) := fun v h => (shp14 HI1.out.1 h).2
  have HLp : Hid ((clL n (clB (rdR n dz1) n)).length = N) := by show _ = _; rw [clL_len, HN.out.1]
  have HF : Hid ((∀ p, p < N → nth dz1 p = 1 → nth (clL n (clB (rdR n dz1) n)) p = 1) ∧ ∀ dz2 : List Int, dz2.length = N → Trn n (rdR n dz2) → (∀ p, p < N → nth dz1 p = 1 → nth dz2 p = 1) → ∀ p, p < N → nth (clL n (clB (rdR n dz1) n)) p = 1 → nth dz2 p = 1) := by rw [HN.out.1]; exact ⟨fun p hp h => least_in hp h, fun dz2 h1 h2 h3 p hp h => least_of h2 h3 hp h⟩
  clear hk1
  rw [HN.out.2]
  have n1 := Abx.new w (.bool false) (.slice (some ⟨b1, o1, none⟩) 2 sc1) (.slice da1 N dc1)
  have n2 := Abx.new (w.alloc (.cells #[.bool false, .slice (some ⟨b1, o1, none⟩) 2 sc1, .slice da1 N dc1] 24)) (.bool c2) (.slice sa2 sz2.length sc2) (.slice da2 dz2.length dc2)
  simp only [World.size_alloc] at n2
  go_enter Try.func3, Try.ntmps3
  go_wp2_with fail
  obtain ⟨wo3, hwo3⟩ : ∃ wo3, wo3 = ((w.alloc (.cells #[.bool false, .slice (some ⟨b1, o1, none⟩) 2 sc1, .slice da1 N dc1] 24)).alloc (.cells #[.bool c2, .slice sa2 sz2.length sc2, .slice da2 dz2.length dc2] 24)) := ⟨_, rfl⟩
  rw [← hwo3]
  have z4 : w.heap.size + 1 + 1 ≤ wo3.heap.size := by rw [hwo3]; simp only [World.size_alloc]; omega
  have B5 : Hid (Abx wo3 (w.heap.size) (.bool false) (.slice (some ⟨b1, o1, none⟩) 2 sc1) (.slice da1 N dc1)) := by rw [hwo3]; exact (n1.al (.cells #[.bool c2, .slice sa2 sz2.length sc2, .slice da2 dz2.length dc2] 24))
  have B6 : Hid (Abx wo3 (w.heap.size + 1) (.bool c2) (.slice sa2 sz2.length sc2) (.slice da2 dz2.length dc2)) := by rw [hwo3]; exact n2
  have hb7 : Hid (Below w.heap.size w wo3) := by rw [hwo3]; exact (((Below.refl w.heap.size w).alloc (by omega) (.cells #[.bool false, .slice (some ⟨b1, o1, none⟩) 2 sc1, .slice da1 N dc1] 24)).alloc (by simp only [World.size_alloc]; omega) (.cells #[.bool c2, .slice sa2 sz2.length sc2, .slice da2 dz2.length dc2] 24))
  have zwo3 : w.heap.size ≤ wo3.heap.size := hb7.out.size
  clear hwo3 n1 n2
  refine (chain_any _).mono ?_
  rintro e v1 ⟨rfl, hB⟩
  have z8 : wo3.heap.size ≤ v1.heap.size := hB.size
  have B9 : Hid (Abx v1 (w.heap.size) (.bool false) (.slice (some ⟨b1, o1, none⟩) 2 sc1) (.slice da1 N dc1)) := B5.out.go hB
  have B10 : Hid (Abx v1 (w.heap.size + 1) (.bool c2) (.slice sa2 sz2.length sc2) (.slice da2 dz2.length dc2)) := B6.out.go hB
  have hb11 : Hid (Below w.heap.size w v1) := hb7.out.trans (hB.mono hb7.out.size)
  clear hB hb7 B5 B6
  have l12 := (B9.out).c0
  have l13 := (B9.out).c1
  have l14 := (B9.out).c2
  go_wp2_with fail
  clear l12 l13 l14
  refine (clo_ok n hn (some ⟨b1, o1, none⟩) sc1 da1 dc1 dz1 N HN.out.2 HL1.out HK1.out _ ((HI1.out.1.below hb11.out).mono hb11.out.size).1 ((HI1.out.2.1.below hb11.out).mono hb11.out.size).1).mono ?_
  rintro e v2 ⟨xa1, xc1, ya1, yc1, rfl, hX1, hY1, hB⟩
  have z15 : v1.heap.size ≤ v2.heap.size := hB.size
  have B16 : Hid (Abx v2 (w.heap.size) (.bool false) (.slice (some ⟨b1, o1, none⟩) 2 sc1) (.slice da1 N dc1)) := B9.out.go hB
  have B17 : Hid (Abx v2 (w.heap.size + 1) (.bool c2) (.slice sa2 sz2.length sc2) (.slice da2 dz2.length dc2)) := B10.out.go hB
  have hb18 : Hid (Below w.heap.size w v2) := hb11.out.trans (hB.mono hb11.out.size)
  have L19 : Hid (MidC (v1.heap.size) (v2.heap.size) v2 (xa1) ([(n : Int), (n : Int)]) (xc1)) := hX1.midc
  have L20 : Hid (MidC (v1.heap.size) (v2.heap.size) v2 (ya1) (clL n (clB (rdR n dz1) n)) (yc1)) := hY1.midc
  clear hB hb11 B9 B10 hX1 hY1
  rw [HLp.out]
  have n21 := Abx.new v2 (.bool false) (.slice (xa1) 2 (xc1)) (.slice (ya1) (N) (yc1))
  have l22 := ((B16.out.al (.cells #[.bool false, .slice (xa1) 2 (xc1), .slice (ya1) (N) (yc1)] 24))).c0
  have l23 := ((B16.out.al (.cells #[.bool false, .slice (xa1) 2 (xc1), .slice (ya1) (N) (yc1)] 24))).c1
  have l24 := ((B16.out.al (.cells #[.bool false, .slice (xa1) 2 (xc1), .slice (ya1) (N) (yc1)] 24))).c2
  have l25 := HSh.out _ (hb18.out.alloc (by omega) (.cells #[.bool false, .slice (xa1) 2 (xc1), .slice (ya1) (N) (yc1)] 24))
  have l26 := (n21).c0
  have l27 := (n21).c1
  have l28 := (n21).c2
  go_wp2_with fail
  obtain ⟨wo29, hwo29⟩ : ∃ wo29, wo29 = (v2.alloc (.cells #[.bool false, .slice (xa1) 2 (xc1), .slice (ya1) (N) (yc1)] 24)) := ⟨_, rfl⟩
  rw [← hwo29]
  have z30 : v2.heap.size + 1 ≤ wo29.heap.size := by rw [hwo29]; simp only [World.size_alloc]; omega
  have B31 : Hid (Abx wo29 (w.heap.size) (.bool false) (.slice (some ⟨b1, o1, none⟩) 2 sc1) (.slice da1 N dc1)) := by rw [hwo29]; exact (B16.out.al (.cells #[.bool false, .slice (xa1) 2 (xc1), .slice (ya1) (N) (yc1)] 24))
  have B32 : Hid (Abx wo29 (w.heap.size + 1) (.bool c2) (.slice sa2 sz2.length sc2) (.slice da2 dz2.length dc2)) := by rw [hwo29]; exact (B17.out.al (.cells #[.bool false, .slice (xa1) 2 (xc1), .slice (ya1) (N) (yc1)] 24))
  have B33 : Hid (Abx wo29 (v2.heap.size) (.bool false) (.slice (xa1) 2 (xc1)) (.slice (ya1) (N) (yc1))) := by rw [hwo29]; exact n21
  have L34 : Hid (MidC (v1.heap.size) (v2.heap.size) wo29 (xa1) ([(n : Int), (n : Int)]) (xc1)) := by rw [hwo29]; exact (L19.out.al (by omega) (.cells #[.bool false, .slice (xa1) 2 (xc1), .slice (ya1) (N) (yc1)] 24))
  have L35 : Hid (MidC (v1.heap.size) (v2.heap.size) wo29 (ya1) (clL n (clB (rdR n dz1) n)) (yc1)) := by rw [hwo29]; exact (L20.out.al (by omega) (.cells #[.bool false, .slice (xa1) 2 (xc1), .slice (ya1) (N) (yc1)] 24))
  have hb36 : Hid (Below w.heap.size w wo29) := by rw [hwo29]; exact (hb18.out.alloc (by omega) (.cells #[.bool false, .slice (xa1) 2 (xc1), .slice (ya1) (N) (yc1)] 24))
  have zwo29 : w.heap.size ≤ wo29.heap.size := hb36.out.size
  clear hwo29 n21 l22 l23 l24 l25 l26 l27 l28 hb18 B16 B17 L19 L20
  refine (clo_ok n hn (xa1) xc1 (ya1) yc1 (clL n (clB (rdR n dz1) n)) N HLp.out (clL_len n _) (clL_msk n _) _ (L34.out.is (by omega)).1 (L35.out.is (by omega)).1).mono ?_
  rintro e v3 ⟨xa2, xc2, ya2, yc2, rfl, hX2, hY2, hB⟩
  have z37 : wo29.heap.size ≤ v3.heap.size := hB.size
  have B38 : Hid (Abx v3 (w.heap.size) (.bool false) (.slice (some ⟨b1, o1, none⟩) 2 sc1) (.slice da1 N dc1)) := B31.out.go hB
  have B39 : Hid (Abx v3 (w.heap.size + 1) (.bool c2) (.slice sa2 sz2.length sc2) (.slice da2 dz2.length dc2)) := B32.out.go hB
  have B40 : Hid (Abx v3 (v2.heap.size) (.bool false) (.slice (xa1) 2 (xc1)) (.slice (ya1) (N) (yc1))) := B33.out.go hB
  have L41 : Hid (MidC (v1.heap.size) (v2.heap.size) v3 (xa1) ([(n : Int), (n : Int)]) (xc1)) := L34.out.go (by omega) hB
  have L42 : Hid (MidC (v1.heap.size) (v2.heap.size) v3 (ya1) (clL n (clB (rdR n dz1) n)) (yc1)) := L35.out.go (by omega) hB
  have hb43 : Hid (Below w.heap.size w v3) := hb36.out.trans (hB.mono hb36.out.size)
  have L44 : Hid (MidC (wo29.heap.size) (v3.heap.size) v3 (xa2) ([(n : Int), (n : Int)]) (xc2)) := hX2.midc
  have L45 : Hid (MidC (wo29.heap.size) (v3.heap.size) v3 (ya2) (clL n (clB (rdR n (clL n (clB (rdR n dz1) n))) n)) (yc2)) := hY2.midc
  clear hB hb36 B31 B32 B33 L34 L35 hX2 hY2
  rw [show (clL n (clB (rdR n (clL n (clB (rdR n dz1) n))) n)).length = N by rw [clL_len, HN.out.1]]
  have n46 := Abx.new v3 (.bool false) (.slice (xa2) 2 (xc2)) (.slice (ya2) (N) (yc2))
  have l47 := (n46).c0
  have l48 := (n46).c1
  have l49 := (n46).c2
  have l50 := ((B40.out.al (.cells #[.bool false, .slice (xa2) 2 (xc2), .slice (ya2) (N) (yc2)] 24))).c0
  have l51 := ((B40.out.al (.cells #[.bool false, .slice (xa2) 2 (xc2), .slice (ya2) (N) (yc2)] 24))).c1
  have l52 := ((B40.out.al (.cells #[.bool false, .slice (xa2) 2 (xc2), .slice (ya2) (N) (yc2)] 24))).c2
  go_wp2_with fail
  obtain ⟨wo53, hwo53⟩ : ∃ wo53, wo53 = (v3.alloc (.cells #[.bool false, .slice (xa2) 2 (xc2), .slice (ya2) (N) (yc2)] 24)) := ⟨_, rfl⟩
  rw [← hwo53]
  have z54 : v3.heap.size + 1 ≤ wo53.heap.size := by rw [hwo53]; simp only [World.size_alloc]; omega
  have B55 : Hid (Abx wo53 (w.heap.size) (.bool false) (.slice (some ⟨b1, o1, none⟩) 2 sc1) (.slice da1 N dc1)) := by rw [hwo53]; exact (B38.out.al (.cells #[.bool false, .slice (xa2) 2 (xc2), .slice (ya2) (N) (yc2)] 24))
  have B56 : Hid (Abx wo53 (w.heap.size + 1) (.bool c2) (.slice sa2 sz2.length sc2) (.slice da2 dz2.length dc2)) := by rw [hwo53]; exact (B39.out.al (.cells #[.bool false, .slice (xa2) 2 (xc2), .slice (ya2) (N) (yc2)] 24))
  have B57 : Hid (Abx wo53 (v2.heap.size) (.bool false) (.slice (xa1) 2 (xc1)) (.slice (ya1) (N) (yc1))) := by rw [hwo53]; exact (B40.out.al (.cells #[.bool false, .slice (xa2) 2 (xc2), .slice (ya2) (N) (yc2)] 24))
  have B58 : Hid (Abx wo53 (v3.heap.size) (.bool false) (.slice (xa2) 2 (xc2)) (.slice (ya2) (N) (yc2))) := by rw [hwo53]; exact n46
  have L59 : Hid (MidC (v1.heap.size) (v2.heap.size) wo53 (xa1) ([(n : Int), (n : Int)]) (xc1)) := by rw [hwo53]; exact (L41.out.al (by omega) (.cells #[.bool false, .slice (xa2) 2 (xc2), .slice (ya2) (N) (yc2)] 24))
  have L60 : Hid (MidC (v1.heap.size) (v2.heap.size) wo53 (ya1) (clL n (clB (rdR n dz1) n)) (yc1)) := by rw [hwo53]; exact (L42.out.al (by omega) (.cells #[.bool false, .slice (xa2) 2 (xc2), .slice (ya2) (N) (yc2)] 24))
  have L61 : Hid (MidC (wo29.heap.size) (v3.heap.size) wo53 (xa2) ([(n : Int), (n : Int)]) (xc2)) := by rw [hwo53]; exact (L44.out.al (by omega) (.cells #[.bool false, .slice (xa2) 2 (xc2), .slice (ya2) (N) (yc2)] 24))
  have L62 : Hid (MidC (wo29.heap.size) (v3.heap.size) wo53 (ya2) (clL n (clB (rdR n (clL n (clB (rdR n dz1) n))) n)) (yc2)) := by rw [hwo53]; exact (L45.out.al (by omega) (.cells #[.bool false, .slice (xa2) 2 (xc2), .slice (ya2) (N) (yc2)] 24))
  have hb63 : Hid (Below w.heap.size w wo53) := by rw [hwo53]; exact (hb43.out.alloc (by omega) (.cells #[.bool false, .slice (xa2) 2 (xc2), .slice (ya2) (N) (yc2)] 24))
  have zwo53 : w.heap.size ≤ wo53.heap.size := hb63.out.size
  clear hwo53 n46 l47 l48 l49 l50 l51 l52 hb43 B38 B39 B40 L41 L42 L44 L45
  refine (alike15 n N (xa2) (xc2) (ya2) (yc2) (clL n (clB (rdR n (clL n (clB (rdR n dz1) n))) n)) (xa1) (xc1) (ya1) (yc1) (clL n (clB (rdR n dz1) n)) (by rw [clL_len, HN.out.1]) N576 (cl_twice (rdR n dz1) n).symm _ (L61.out.is (by omega)) (L62.out.is (by omega)).1 (L59.out.is (by omega)) (L60.out.is (by omega)).1).mono ?_
  rintro e v4 ⟨rfl, hB⟩
  have z64 : wo53.heap.size ≤ v4.heap.size := hB.size
  have B65 : Hid (Abx v4 (w.heap.size) (.bool false) (.slice (some ⟨b1, o1, none⟩) 2 sc1) (.slice da1 N dc1)) := B55.out.go hB
  have B66 : Hid (Abx v4 (w.heap.size + 1) (.bool c2) (.slice sa2 sz2.length sc2) (.slice da2 dz2.length dc2)) := B56.out.go hB
  have B67 : Hid (Abx v4 (v2.heap.size) (.bool false) (.slice (xa1) 2 (xc1)) (.slice (ya1) (N) (yc1))) := B57.out.go hB
  have B68 : Hid (Abx v4 (v3.heap.size) (.bool false) (.slice (xa2) 2 (xc2)) (.slice (ya2) (N) (yc2))) := B58.out.go hB
  have L69 : Hid (MidC (v1.heap.size) (v2.heap.size) v4 (xa1) ([(n : Int), (n : Int)]) (xc1)) := L59.out.go (by omega) hB
  have L70 : Hid (MidC (v1.heap.size) (v2.heap.size) v4 (ya1) (clL n (clB (rdR n dz1) n)) (yc1)) := L60.out.go (by omega) hB
  have L71 : Hid (MidC (wo29.heap.size) (v3.heap.size) v4 (xa2) ([(n : Int), (n : Int)]) (xc2)) := L61.out.go (by omega) hB
  have L72 : Hid (MidC (wo29.heap.size) (v3.heap.size) v4 (ya2) (clL n (clB (rdR n (clL n (clB (rdR n dz1) n))) n)) (yc2)) := L62.out.go (by omega) hB
  have hb73 : Hid (Below w.heap.size w v4) := hb63.out.trans (hB.mono hb63.out.size)
  clear hB hb63 B55 B56 B57 B58 L59 L60 L61 L62
  clear L71 L72 B68
  have l74 := (B67.out).c0
  have l75 := (B67.out).c1
  have l76 := (B67.out).c2
  have l77 := (B65.out).c0
  have l78 := (B65.out).c1
  have l79 := (B65.out).c2
  go_wp2_with fail
  clear l74 l75 l76 l77 l78 l79
  refine (chained_yes n hn ya1 yc1 (clL n (clB (rdR n dz1) n)) N HLp.out (clL_len n _) _ (L70.out.is (by omega)).1 (cl_Trn_L _ n)).mono ?_
  rintro e v5 ⟨rfl, hB⟩
  have z80 : v4.heap.size ≤ v5.heap.size := hB.size
  have B81 : Hid (Abx v5 (w.heap.size) (.bool false) (.slice (some ⟨b1, o1, none⟩) 2 sc1) (.slice da1 N dc1)) := B65.out.go hB
  have B82 : Hid (Abx v5 (w.heap.size + 1) (.bool c2) (.slice sa2 sz2.length sc2) (.slice da2 dz2.length dc2)) := B66.out.go hB
  have B83 : Hid (Abx v5 (v2.heap.size) (.bool false) (.slice (xa1) 2 (xc1)) (.slice (ya1) (N) (yc1))) := B67.out.go hB
  have L84 : Hid (MidC (v1.heap.size) (v2.heap.size) v5 (xa1) ([(n : Int), (n : Int)]) (xc1)) := L69.out.go (by omega) hB
  have L85 : Hid (MidC (v1.heap.size) (v2.heap.size) v5 (ya1) (clL n (clB (rdR n dz1) n)) (yc1)) := L70.out.go (by omega) hB
  have hb86 : Hid (Below w.heap.size w v5) := hb73.out.trans (hB.mono hb73.out.size)
  clear hB hb73 B65 B66 B67 L69 L70
  go_upto_region 15 with fail
  have qb2 := B82.out.c2
  go_cut [13] (fun v wc => wc = v5 ∧ ∃ ab : Bool, v = .bool ab ∧ Hid (ab = true → dz2.length = N ∧ Trn n (rdR n dz2)))
  case first =>
    by_cases hlb : dz2.length = N
    · have t1 : ((dz2.length : Int) == (N : Int)) = true := by rw [hlb]; simp
      have HLb : Hid (dz2.length = N) := hlb
      clear hlb
      go_wp2_with (go_at_call 9; refine (chained_r n hn da2 dc2 dz2 dz2.length rfl (HLb.out.trans HN.out.1) _ ((HI2.out.2.below hb86.out).mono hb86.out.size).1).mono ?_; rintro e vc ⟨r, rfl, hr, hvc⟩; obtain rfl := hvc.symm; clear hvc)
      go_meet
      exact ⟨rfl, r, rfl, fun e => ⟨HLb.out, hr.1 e⟩⟩
    · have t1 : ((dz2.length : Int) == (N : Int)) = false := by simp; omega
      clear hlb
      go_wp2_with fail
      go_meet
      exact ⟨rfl, false, rfl, fun e => absurd e (by decide)⟩
  case rest =>
    obtain ⟨hwc, ab, rfl, HAB⟩ := hcut
    obtain rfl := hwc.symm
    clear hwc qb2
    obtain ⟨D, hD⟩ : ∃ D, D = clL n (clB (rdR n dz1) n) := ⟨_, rfl⟩
    rw [← hD] at HF
    have LYD : Hid (MidC (v1.heap.size) (v2.heap.size) v5 (ya1) D (yc1)) := by rw [hD]; exact L85.out
    have HLD : Hid (D.length = N) := by rw [hD]; exact HLp.out
    clear hD
    go_wp2_with fail
    go_loopw [13, 14] (fun v q wr => wr = v5 ∧ ∃ (t : Nat) (ab : Bool), t ≤ N ∧ q = .int .i64 (t : Nat) ∧ v = .bool ab ∧ Hid (ab = true → dz2.length = N ∧ Trn n (rdR n dz2) ∧ ∀ p, p < t → nth dz1 p = 1 → nth dz2 p = 1)) (fun _ q _ => N - (intOf q).toNat)
    case atStart => exact ⟨by first | trivial | rfl, 0, ab, Nat.zero_le _, rfl, rfl, fun e => ⟨(HAB.out e).1, (HAB.out e).2, fun p hp => absurd hp (Nat.not_lt_zero _)⟩⟩
    case round =>
      clear HAB
      obtain ⟨hwr, t, ab, ht, rfl, rfl, HAB⟩ := hrel
      obtain rfl := hwr.symm
      by_cases hlt : t < N
      · have qa2 := B81.out.c2
        have qx2 := B83.out.c2
        have qb2 := B82.out.c2
        obtain ⟨bd, od, rfl, _, hcd⟩ := (HI1.out.2.1.1.below hb86.out).at (q := t) (by rw [HN.out.2]; exact hlt)
        have d1 := hcd t (by rw [HN.out.2]; exact hlt)
        obtain ⟨_, _, rfl, _, _, d2, _⟩ := LYD.out.at (i := t) (by rw [HLD.out]; exact hlt)
        obtain ⟨x, hx⟩ : ∃ x, x = nth dz1 t := ⟨_, rfl⟩
        obtain ⟨y, hy⟩ : ∃ x, x = nth D t := ⟨_, rfl⟩
        rw [← hx] at d1
        rw [← hy] at d2
        clear hcd
        by_cases hx1 : x = 1
        · have t1 : (x == 1) = true := by simpa using hx1
          have hy1 : y = 1 := by rw [hy]; exact HF.out.1 t hlt (by rw [← hx]; exact hx1)
          have t2 : (y != 1) = false := by simp [hy1]
          cases ab
          · have HT : Hid (false = true → dz2.length = N ∧ Trn n (rdR n dz2) ∧ ∀ p, p < t + 1 → nth dz1 p = 1 → nth dz2 p = 1) := fun e => absurd e (by decide)
            clear hx hy hx1 hy1 HAB
            go_wp2_with fail
            exact ⟨⟨by first | trivial | rfl, t + 1, false, by omega, by go_num, rfl, HT.out⟩, by simp [intOf]; omega⟩
          · have hlb : t < dz2.length := by rw [(HAB.out rfl).1]; exact hlt
            have ilb : (t : Int) < (dz2.length : Int) := by omega
            obtain ⟨be, oe, rfl, _, hce⟩ := (HI2.out.2.1.below hb86.out).at (q := t) hlb
            have d3 := hce t hlb
            clear hce
            obtain ⟨z, hz⟩ : ∃ z, z = nth dz2 t := ⟨_, rfl⟩
            rw [← hz] at d3
            by_cases hz1 : z = 1
            · have t3 : (z != 1) = false := by simp [hz1]
              have HT : Hid (true = true → dz2.length = N ∧ Trn n (rdR n dz2) ∧ ∀ p, p < t + 1 → nth dz1 p = 1 → nth dz2 p = 1) := fun e => ⟨(HAB.out e).1, (HAB.out e).2.1, fun p hp h => by
                by_cases e2 : p = t
                · rw [e2, ← hz]; exact hz1
                · exact (HAB.out e).2.2 p (by omega) h⟩
              clear hx hy hz hx1 hy1 hz1 HAB hlb
              go_wp2_with fail
              exact ⟨⟨by first | trivial | rfl, t + 1, true, by omega, by go_num, rfl, HT.out⟩, by simp [intOf]; omega⟩
            · have t3 : (z != 1) = true := by simp [hz1]
              have HT : Hid (false = true → dz2.length = N ∧ Trn n (rdR n dz2) ∧ ∀ p, p < t + 1 → nth dz1 p = 1 → nth dz2 p = 1) := fun e => absurd e (by decide)
              clear hx hy hz hx1 hy1 hz1 HAB hlb
              go_wp2_with fail
              exact ⟨⟨by first | trivial | rfl, t + 1, false, by omega, by go_num, rfl, HT.out⟩, by simp [intOf]; omega⟩
        · have t1 : (x == 1) = false := by simpa using hx1
          have HT : Hid (ab = true → dz2.length = N ∧ Trn n (rdR n dz2) ∧ ∀ p, p < t + 1 → nth dz1 p = 1 → nth dz2 p = 1) := fun e => ⟨(HAB.out e).1, (HAB.out e).2.1, fun p hp h => by
            by_cases e2 : p = t
            · exact absurd (by rw [hx, ← e2]; exact h) hx1
            · exact (HAB.out e).2.2 p (by omega) h⟩
          clear hx hy hx1 HAB
          cases ab
          · go_wp2_with fail
            exact ⟨⟨by first | trivial | rfl, t + 1, false, by omega, by go_num, rfl, HT.out⟩, by simp [intOf]; omega⟩
          · go_wp2_with fail
            exact ⟨⟨by first | trivial | rfl, t + 1, true, by omega, by go_num, rfl, HT.out⟩, by simp [intOf]; omega⟩
      · obtain rfl : t = N := by omega
        have HAC : Hid (ab = true → dz2.length = t ∧ ∀ p, p < t → nth D p = 1 → nth dz2 p = 1) := fun e => ⟨(HAB.out e).1, HF.out.2 dz2 (HAB.out e).1 (HAB.out e).2.1 (HAB.out e).2.2⟩
        clear HAB
        go_wp2_with fail
        go_loopw [15] (fun q wr => wr = v5 ∧ ∃ s : Nat, s ≤ t ∧ q = .int .i64 (s : Nat)) (fun q _ => t - (intOf q).toNat)
        case atStart => exact ⟨by first | trivial | rfl, 0, Nat.zero_le _, rfl⟩
        case round =>
          obtain ⟨hwr, s, hs, rfl⟩ := hrel
          obtain rfl := hwr.symm
          by_cases hsl : s < t
          · cases ab
            · go_wp2_with fail
              exact ⟨⟨by first | trivial | rfl, s + 1, by omega, by go_num⟩, by simp [intOf]; omega⟩
            · have qx2 := B83.out.c2
              have qb2 := B82.out.c2
              obtain ⟨_, _, rfl, _, _, d2, _⟩ := LYD.out.at (i := s) (by rw [HLD.out]; exact hsl)
              have hlb : s < dz2.length := by rw [(HAC.out rfl).1]; exact hsl
              have ilb : (s : Int) < (dz2.length : Int) := by omega
              obtain ⟨be, oe, rfl, _, hce⟩ := (HI2.out.2.1.below hb86.out).at (q := s) hlb
              have d3 := hce s hlb
              obtain ⟨z, hz⟩ : ∃ z, z = nth dz2 s := ⟨_, rfl⟩
              rw [← hz] at d3
              obtain ⟨y, hy⟩ : ∃ x, x = nth D s := ⟨_, rfl⟩
              rw [← hy] at d2
              clear hce hlb
              by_cases hy1 : y = 1
              · have t1 : (y == 1) = true := by simpa using hy1
                have hz1 : z = 1 := by rw [hz]; exact (HAC.out rfl).2 s hsl (by rw [← hy]; exact hy1)
                have t2 : (z != 1) = false := by simp [hz1]
                clear hy hz hy1 hz1
                go_wp2_with fail
                exact ⟨⟨by first | trivial | rfl, s + 1, by omega, by go_num⟩, by simp [intOf]; omega⟩
              · have t1 : (y == 1) = false := by simpa using hy1
                clear hy hz hy1
                go_wp2_with fail
                exact ⟨⟨by first | trivial | rfl, s + 1, by omega, by go_num⟩, by simp [intOf]; omega⟩
          · obtain rfl : s = t := by omega
            go_wp2_with fail
            go_ret
            exact ⟨rfl, hb86.out⟩
theorem rleas_walk (c1 : Bool) (sa1 : Option Addr) (sc1 : Nat) (sz1 : List Int) (da1 : Option Addr) (dc1 : Nat) (dz1 : List Int) (c2 : Bool) (sa2 : Option Addr) (sc2 : Nat) (sz2 : List Int) (da2 : Option Addr) (dc2 : Nat) (dz2 : List Int) (w : World) (w8 : IsArrD w sa1 sz1 sc1 da1 dz1 dc1) (w9 : IsArrD w sa2 sz2 sc2 da2 dz2 dc2) :
    Calls Try.prog 3 #[.agg #[.bool c1, .slice sa1 sz1.length sc1, .slice da1 dz1.length dc1], .agg #[.bool c2, .slice sa2 sz2.length sc2, .slice da2 dz2.length dc2]] w fun e w' => e = .returned (.bool true) ∧ Below w.heap.size w w' := by
  by_cases h1 : rlE c1 sz1 dz1 = 0
  · obtain ⟨n, hn, rfl, hl1, rfl, hk1⟩ := rl_is h1
    obtain ⟨b1, o1, rfl⟩ := opn14 w8.2.2.1
    exact leas_ok n hn b1 o1 sc1 da1 dc1 dz1 hl1 w ⟨w8.2.2.1, w8.2.2.2.1, w8.2.2.2.2.2⟩ c2 sa2 sc2 sz2 da2 dc2 dz2 w9 hk1
  · exact leas_no c1 sa1 sc1 sz1 da1 dc1 dz1 c2 sa2 sc2 sz2 da2 dc2 dz2 w w8 w9 h1
end Go.Proofs.Ytgaelbgeoobgiaa
