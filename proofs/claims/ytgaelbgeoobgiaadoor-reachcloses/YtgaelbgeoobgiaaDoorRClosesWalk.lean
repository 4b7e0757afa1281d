/-
  The walk of the statement ReachCloses, given what the program tells.
-/
import Derived.Test.YtgaelbgeoobgiaaDoorHold
import Derived.Test.YtgaelbgeoobgiaaDoorRsx
import Derived.Test.YtgaelbgeoobgiaaDoorRsr
import Derived.Test.YtgaelbgeoobgiaaDoorRrl
import Derived.Test.YtgaelbgeoobgiaaDoorRgh
import Derived.Test.YtgaelbgeoobgiaaDoorMidc
import Derived.Test.YtgaelbgeoobgiaaDoorCutq
namespace Go.Proofs.YtgaelbgeoobgiaaDoor
open Go.RowKit
set_option linter.unusedVariables false

theorem shp14 {w v : World} {b o n sc : Nat} (h : IsC w.heap.size w (some ⟨b, o, none⟩) [(n : Int), (n : Int)] sc) (hB : Below w.heap.size w v) : b < w.heap.size ∧ v.cell? ⟨b, o, none⟩ = some (.int .i64 (n : Int)) := by
  obtain ⟨b', o', e, hb, hc⟩ := (h.1.below hB).at (q := 0) (by simp)
  cases e
  have h0 := hc 0 (by simp)
  rw [Nat.add_zero] at h0
  exact ⟨hb, h0⟩
theorem opn14 {w : World} {sa : Option Addr} {n sc : Nat} (h : IsC w.heap.size w sa [(n : Int), (n : Int)] sc) : ∃ b o, sa = some ⟨b, o, none⟩ := by
  obtain ⟨b, o, e, _, _⟩ := h.1.at (q := 0) (by simp)
  exact ⟨b, o, e⟩
set_option maxRecDepth 100000 in
set_option maxHeartbeats 2000000 in
theorem clos_no (c1 : Bool) (sa1 : Option Addr) (sc1 : Nat) (sz1 : List Int) (da1 : Option Addr) (dc1 : Nat) (dz1 : List Int) (w : World) (hg : HasErr w) (w8 : IsArrD w sa1 sz1 sc1 da1 dz1 dc1) (h0 : rlE c1 sz1 dz1 ≠ 0) :
    Calls Tryd.prog 3 #[.agg #[.bool c1, .slice sa1 sz1.length sc1, .slice da1 dz1.length dc1]] w fun e w' => e = .returned (.bool true) ∧ Below w.heap.size w w' := by
  have HI1 : Hid (IsC w.heap.size w sa1 sz1 sc1 ∧ IsC w.heap.size w da1 dz1 dc1) := ⟨w8.2.2.1, w8.2.2.2.1⟩
  have HG : Hid (HasErr w) := hg
  obtain ⟨E, hE⟩ : ∃ E, rlE c1 sz1 dz1 = E := ⟨_, rfl⟩
  have HE : Hid (rlE c1 sz1 dz1 = E) := hE
  have HNe : Hid (rlE c1 sz1 dz1 ≠ 0) := h0
  have tE : (E == 0) = false := by rw [← hE]; simpa using h0
  clear hE h0 hg
  have n1 := Abx.new w (.bool c1) (.slice sa1 sz1.length sc1) (.slice da1 dz1.length dc1)
  have l2 := (n1).c0
  have l3 := (n1).c1
  have l4 := (n1).c2
  go_enter Tryd.func3, Tryd.ntmps3
  go_wp2_with fail
  obtain ⟨wo5, hwo5⟩ : ∃ wo5, wo5 = (w.alloc (.cells #[.bool c1, .slice sa1 sz1.length sc1, .slice da1 dz1.length dc1] 24)) := ⟨_, rfl⟩
  rw [← hwo5]
  have z6 : w.heap.size + 1 ≤ wo5.heap.size := by rw [hwo5]; simp only [World.size_alloc]; omega
  have B7 : Hid (Abx wo5 (w.heap.size) (.bool c1) (.slice sa1 sz1.length sc1) (.slice da1 dz1.length dc1)) := by rw [hwo5]; exact n1
  have hb8 : Hid (Below w.heap.size w wo5) := by rw [hwo5]; exact ((Below.refl w.heap.size w).alloc (by omega) (.cells #[.bool c1, .slice sa1 sz1.length sc1, .slice da1 dz1.length dc1] 24))
  have zwo5 : w.heap.size ≤ wo5.heap.size := hb8.out.size
  clear hwo5 n1 l2 l3 l4
  refine (rfault_no c1 sa1 sc1 sz1 da1 dc1 dz1 E HE.out _ w8.1 w8.2.1 ((HI1.out.1.below hb8.out).mono hb8.out.size).1 ((HI1.out.2.below hb8.out).mono hb8.out.size).1).mono ?_
  rintro e v1 ⟨rfl, hB⟩
  have z9 : wo5.heap.size ≤ v1.heap.size := hB.size
  have B10 : Hid (Abx v1 (w.heap.size) (.bool c1) (.slice sa1 sz1.length sc1) (.slice da1 dz1.length dc1)) := B7.out.go hB
  have hb11 : Hid (Below w.heap.size w v1) := hb8.out.trans (hB.mono hb8.out.size)
  clear hB hb8 B7
  have n12 := Abx.new v1 (.bool false) (.slice none 0 0) (.slice none 0 0)
  have l13 := ((B10.out.al (.cells #[.bool false, .slice none 0 0, .slice none 0 0] 24))).c0
  have l14 := ((B10.out.al (.cells #[.bool false, .slice none 0 0, .slice none 0 0] 24))).c1
  have l15 := ((B10.out.al (.cells #[.bool false, .slice none 0 0, .slice none 0 0] 24))).c2
  go_wp2_with fail
  obtain ⟨wo16, hwo16⟩ : ∃ wo16, wo16 = (v1.alloc (.cells #[.bool false, .slice none 0 0, .slice none 0 0] 24)) := ⟨_, rfl⟩
  rw [← hwo16]
  have z17 : v1.heap.size + 1 ≤ wo16.heap.size := by rw [hwo16]; simp only [World.size_alloc]; omega
  have B18 : Hid (Abx wo16 (w.heap.size) (.bool c1) (.slice sa1 sz1.length sc1) (.slice da1 dz1.length dc1)) := by rw [hwo16]; exact (B10.out.al (.cells #[.bool false, .slice none 0 0, .slice none 0 0] 24))
  have B19 : Hid (Abx wo16 (v1.heap.size) (.bool false) (.slice none 0 0) (.slice none 0 0)) := by rw [hwo16]; exact n12
  have hb20 : Hid (Below w.heap.size w wo16) := by rw [hwo16]; exact (hb11.out.alloc (by omega) (.cells #[.bool false, .slice none 0 0, .slice none 0 0] 24))
  have zwo16 : w.heap.size ≤ wo16.heap.size := hb20.out.size
  clear hwo16 n12 l13 l14 l15 hb11 B10
  refine (clo_no c1 sa1 sc1 sz1 da1 dc1 dz1 _ w8.1 w8.2.1 ((HI1.out.1.below hb20.out).mono hb20.out.size).1 ((HI1.out.2.below hb20.out).mono hb20.out.size).1 HNe.out).mono ?_
  rintro e v2 ⟨rfl, hB⟩
  have z21 : wo16.heap.size ≤ v2.heap.size := hB.size
  have B22 : Hid (Abx v2 (w.heap.size) (.bool c1) (.slice sa1 sz1.length sc1) (.slice da1 dz1.length dc1)) := B18.out.go hB
  have B23 : Hid (Abx v2 (v1.heap.size) (.bool false) (.slice none 0 0) (.slice none 0 0)) := B19.out.go hB
  have hb24 : Hid (Below w.heap.size w v2) := hb20.out.trans (hB.mono hb20.out.size)
  clear hB hb20 B18 B19
  rw [HE.out]
  have n25 := Abx.new v2 (.bool false) (.slice none 0 0) (.slice none 0 0)
  have l26 := (n25).c0
  have l27 := (n25).c1
  have l28 := (n25).c2
  have l29 := ((B23.out.al (.cells #[.bool false, .slice none 0 0, .slice none 0 0] 24))).c0
  have l30 := ((B23.out.al (.cells #[.bool false, .slice none 0 0, .slice none 0 0] 24))).c1
  have l31 := ((B23.out.al (.cells #[.bool false, .slice none 0 0, .slice none 0 0] 24))).c2
  go_wp2_with fail
  obtain ⟨wo32, hwo32⟩ : ∃ wo32, wo32 = (v2.alloc (.cells #[.bool false, .slice none 0 0, .slice none 0 0] 24)) := ⟨_, rfl⟩
  rw [← hwo32]
  have z33 : v2.heap.size + 1 ≤ wo32.heap.size := by rw [hwo32]; simp only [World.size_alloc]; omega
  have B34 : Hid (Abx wo32 (w.heap.size) (.bool c1) (.slice sa1 sz1.length sc1) (.slice da1 dz1.length dc1)) := by rw [hwo32]; exact (B22.out.al (.cells #[.bool false, .slice none 0 0, .slice none 0 0] 24))
  have B35 : Hid (Abx wo32 (v1.heap.size) (.bool false) (.slice none 0 0) (.slice none 0 0)) := by rw [hwo32]; exact (B23.out.al (.cells #[.bool false, .slice none 0 0, .slice none 0 0] 24))
  have B36 : Hid (Abx wo32 (v2.heap.size) (.bool false) (.slice none 0 0) (.slice none 0 0)) := by rw [hwo32]; exact n25
  have hb37 : Hid (Below w.heap.size w wo32) := by rw [hwo32]; exact (hb24.out.alloc (by omega) (.cells #[.bool false, .slice none 0 0, .slice none 0 0] 24))
  have zwo32 : w.heap.size ≤ wo32.heap.size := hb37.out.size
  clear hwo32 n25 l26 l27 l28 l29 l30 l31 hb24 B22 B23
  refine (is_no15 E (by rw [← HE.out]; exact HNe.out) _ (HG.out.go hb37.out)).mono ?_
  rintro e v3 ⟨rfl, hB⟩
  have z38 : wo32.heap.size ≤ v3.heap.size := hB.size
  have B39 : Hid (Abx v3 (w.heap.size) (.bool c1) (.slice sa1 sz1.length sc1) (.slice da1 dz1.length dc1)) := B34.out.go hB
  have B40 : Hid (Abx v3 (v1.heap.size) (.bool false) (.slice none 0 0) (.slice none 0 0)) := B35.out.go hB
  have B41 : Hid (Abx v3 (v2.heap.size) (.bool false) (.slice none 0 0) (.slice none 0 0)) := B36.out.go hB
  have hb42 : Hid (Below w.heap.size w v3) := hb37.out.trans (hB.mono hb37.out.size)
  clear hB hb37 B34 B35 B36
  have l43 := (B39.out).c0
  have l44 := (B39.out).c1
  have l45 := (B39.out).c2
  go_wp2_with fail
  clear l43 l44 l45
  refine (cla_no c1 sa1 sc1 sz1 da1 dc1 dz1 _ w8.1 w8.2.1 ((HI1.out.1.below hb42.out).mono hb42.out.size).1 ((HI1.out.2.below hb42.out).mono hb42.out.size).1 HNe.out).mono ?_
  rintro e v4 ⟨rfl, hB⟩
  have z46 : v3.heap.size ≤ v4.heap.size := hB.size
  have B47 : Hid (Abx v4 (w.heap.size) (.bool c1) (.slice sa1 sz1.length sc1) (.slice da1 dz1.length dc1)) := B39.out.go hB
  have B48 : Hid (Abx v4 (v1.heap.size) (.bool false) (.slice none 0 0) (.slice none 0 0)) := B40.out.go hB
  have B49 : Hid (Abx v4 (v2.heap.size) (.bool false) (.slice none 0 0) (.slice none 0 0)) := B41.out.go hB
  have hb50 : Hid (Below w.heap.size w v4) := hb42.out.trans (hB.mono hb42.out.size)
  clear hB hb42 B39 B40 B41
  rw [HE.out]
  go_wp2_with fail
  refine (ints_no15 E (by rw [← HE.out]; exact HNe.out) _ (HG.out.go hb50.out)).mono ?_
  rintro e v5 ⟨rfl, hB⟩
  have z51 : v4.heap.size ≤ v5.heap.size := hB.size
  have B52 : Hid (Abx v5 (w.heap.size) (.bool c1) (.slice sa1 sz1.length sc1) (.slice da1 dz1.length dc1)) := B47.out.go hB
  have B53 : Hid (Abx v5 (v1.heap.size) (.bool false) (.slice none 0 0) (.slice none 0 0)) := B48.out.go hB
  have B54 : Hid (Abx v5 (v2.heap.size) (.bool false) (.slice none 0 0) (.slice none 0 0)) := B49.out.go hB
  have hb55 : Hid (Below w.heap.size w v5) := hb50.out.trans (hB.mono hb50.out.size)
  clear hB hb50 B47 B48 B49
  go_wp2_with fail
  go_ret
  exact ⟨rfl, hb55.out⟩
set_option maxRecDepth 100000 in
set_option maxHeartbeats 2000000 in
theorem clos_ok (n : Nat) (hn : n ≤ 24) (b1 o1 sc1 : Nat) (da1 : Option Addr) (dc1 : Nat) (dz1 : List Int) (HL1 : Hid (dz1.length = n * n)) (w : World) (HI1 : Hid (IsC w.heap.size w (some ⟨b1, o1, none⟩) [(n : Int), (n : Int)] sc1 ∧ IsC w.heap.size w da1 dz1 dc1 ∧ ∀ j, In64 (nth dz1 j))) (hg : HasErr w) (hk1 : mskB dz1 = true) :
    Calls Tryd.prog 3 #[.agg #[.bool false, .slice (some ⟨b1, o1, none⟩) 2 sc1, .slice da1 dz1.length dc1]] w fun e w' => e = .returned (.bool true) ∧ Below w.heap.size w w' := by
  have HG : Hid (HasErr w) := hg
  have HK1 : Hid (mskB dz1 = true) := hk1
  obtain ⟨N, hN⟩ : ∃ N, N = n * n := ⟨_, rfl⟩
  have N576 : N ≤ 576 := by have : n * n ≤ 24 * 24 := Nat.mul_le_mul hn hn; omega
  have HN : Hid (N = n * n ∧ dz1.length = N) := ⟨hN, by rw [HL1.out, hN]⟩
  clear hN
  have HLp : Hid ((clL n (clB (rdR n dz1) n)).length = N) := by show _ = _; rw [clL_len, HN.out.1]
  clear hg hk1
  rw [HN.out.2]
  have n1 := Abx.new w (.bool false) (.slice (some ⟨b1, o1, none⟩) 2 sc1) (.slice da1 N dc1)
  have l2 := (n1).c0
  have l3 := (n1).c1
  have l4 := (n1).c2
  go_enter Tryd.func3, Tryd.ntmps3
  go_wp2_with fail
  obtain ⟨wo5, hwo5⟩ : ∃ wo5, wo5 = (w.alloc (.cells #[.bool false, .slice (some ⟨b1, o1, none⟩) 2 sc1, .slice da1 N dc1] 24)) := ⟨_, rfl⟩
  rw [← hwo5]
  have z6 : w.heap.size + 1 ≤ wo5.heap.size := by rw [hwo5]; simp only [World.size_alloc]; omega
  have B7 : Hid (Abx wo5 (w.heap.size) (.bool false) (.slice (some ⟨b1, o1, none⟩) 2 sc1) (.slice da1 N dc1)) := by rw [hwo5]; exact n1
  have hb8 : Hid (Below w.heap.size w wo5) := by rw [hwo5]; exact ((Below.refl w.heap.size w).alloc (by omega) (.cells #[.bool false, .slice (some ⟨b1, o1, none⟩) 2 sc1, .slice da1 N dc1] 24))
  have zwo5 : w.heap.size ≤ wo5.heap.size := hb8.out.size
  clear hwo5 n1 l2 l3 l4
  refine (rfault_ok n hn (some ⟨b1, o1, none⟩) sc1 da1 dc1 dz1 N HN.out.2 HL1.out HK1.out _ ((HI1.out.1.below hb8.out).mono hb8.out.size).1 ((HI1.out.2.1.below hb8.out).mono hb8.out.size).1).mono ?_
  rintro e v1 ⟨rfl, hB⟩
  have z9 : wo5.heap.size ≤ v1.heap.size := hB.size
  have B10 : Hid (Abx v1 (w.heap.size) (.bool false) (.slice (some ⟨b1, o1, none⟩) 2 sc1) (.slice da1 N dc1)) := B7.out.go hB
  have hb11 : Hid (Below w.heap.size w v1) := hb8.out.trans (hB.mono hb8.out.size)
  clear hB hb8 B7
  have n12 := Abx.new v1 (.bool false) (.slice none 0 0) (.slice none 0 0)
  go_wp2_with fail
  obtain ⟨wo13, hwo13⟩ : ∃ wo13, wo13 = (v1.alloc (.cells #[.bool false, .slice none 0 0, .slice none 0 0] 24)) := ⟨_, rfl⟩
  rw [← hwo13]
  have z14 : v1.heap.size + 1 ≤ wo13.heap.size := by rw [hwo13]; simp only [World.size_alloc]; omega
  have B15 : Hid (Abx wo13 (w.heap.size) (.bool false) (.slice (some ⟨b1, o1, none⟩) 2 sc1) (.slice da1 N dc1)) := by rw [hwo13]; exact (B10.out.al (.cells #[.bool false, .slice none 0 0, .slice none 0 0] 24))
  have B16 : Hid (Abx wo13 (v1.heap.size) (.bool false) (.slice none 0 0) (.slice none 0 0)) := by rw [hwo13]; exact n12
  have hb17 : Hid (Below w.heap.size w wo13) := by rw [hwo13]; exact (hb11.out.alloc (by omega) (.cells #[.bool false, .slice none 0 0, .slice none 0 0] 24))
  have zwo13 : w.heap.size ≤ wo13.heap.size := hb17.out.size
  clear hwo13 n12 hb11 B10
  obtain ⟨hqr1, hsr1⟩ : b1 < w.heap.size ∧ wo13.cell? ⟨b1, o1, none⟩ = some (.int .i64 (n : Int)) := shp14 HI1.out.1 hb17.out
  have hb0r1 : Below wo13.heap.size wo13 wo13.drew := (Below.refl _ wo13).drew
  refine anyT_begin 12 (fun w' => w'.cell? ⟨w.heap.size, 0, none⟩ = some (.bool false) ∧ w'.cell? ⟨w.heap.size, 1, none⟩ = some (.slice (some ⟨b1, o1, none⟩) 2 sc1) ∧ w'.cell? ⟨w.heap.size, 2, none⟩ = some (.slice da1 N dc1) ∧ w'.cell? ⟨b1, o1, none⟩ = some (.int .i64 (n : Int))) 13 #[false, false, false, false, false, false, false, false, false, false, false, false, false] (by kernel_rfl) rfl rfl ?_
  refine anyT_put 0 15 ?rv0 #[true, false, false, false, false, false, false, false, false, false, false, false, false] rfl rfl rfl (by kernel_rfl) (by kernel_rfl) (by kernel_rfl) (fun _ _ _ h => h) (by decide) ?ry0 (fun _ => ⟨(B15.out.go hb0r1).c0, (B15.out.go hb0r1).c1, (B15.out.go hb0r1).c2, (hb0r1.cell (p := ⟨b1, o1, none⟩) (Nat.lt_of_lt_of_le hqr1 hb17.out.size)).trans hsr1⟩) ?rm0
  case ry0 => first | exact Or.inl ⟨by rfl, by intro w'; go_simp; first | done | rfl⟩
  case rm0 =>
  simp only [Act.put, List.setIfInBounds_toArray, List.set_cons_zero, List.set_cons_succ]
  refine anyT_take 1 16 ?rv1 #[true, true, false, false, false, false, false, false, false, false, false, false, false] rfl rfl rfl (by kernel_rfl) (by kernel_rfl) (by kernel_rfl) (fun _ _ _ h => h) (by kernel_rfl) (by decide) (by kernel_rfl) ?ry1 (⟨(B15.out.go hb0r1).c0, (B15.out.go hb0r1).c1, (B15.out.go hb0r1).c2, (hb0r1.cell (p := ⟨b1, o1, none⟩) (Nat.lt_of_lt_of_le hqr1 hb17.out.size)).trans hsr1⟩) ?rm1
  case ry1 => first | exact Or.inl ⟨by rfl, by intro w' hw'; (try dsimp only at hw'); go_simp; first | done | rfl⟩
  case rm1 =>
  simp only [Act.put, List.setIfInBounds_toArray, List.set_cons_zero, List.set_cons_succ]
  refine anyT_put 2 17 ?rv2 #[true, true, true, false, false, false, false, false, false, false, false, false, false] rfl rfl rfl (by kernel_rfl) (by kernel_rfl) (by kernel_rfl) (fun _ _ _ h => h) (by decide) ?ry2 (fun _ => ⟨(B15.out.go hb0r1).c0, (B15.out.go hb0r1).c1, (B15.out.go hb0r1).c2, (hb0r1.cell (p := ⟨b1, o1, none⟩) (Nat.lt_of_lt_of_le hqr1 hb17.out.size)).trans hsr1⟩) ?rm2
  case ry2 => first | exact Or.inl ⟨by rfl, by intro w'; go_simp; first | done | rfl⟩
  case rm2 =>
  simp only [Act.put, List.setIfInBounds_toArray, List.set_cons_zero, List.set_cons_succ]
  refine anyT_take 3 18 ?rv3 #[true, true, true, true, false, false, false, false, false, false, false, false, false] rfl rfl rfl (by kernel_rfl) (by kernel_rfl) (by kernel_rfl) (fun _ _ _ h => h) (by kernel_rfl) (by decide) (by kernel_rfl) ?ry3 (⟨(B15.out.go hb0r1).c0, (B15.out.go hb0r1).c1, (B15.out.go hb0r1).c2, (hb0r1.cell (p := ⟨b1, o1, none⟩) (Nat.lt_of_lt_of_le hqr1 hb17.out.size)).trans hsr1⟩) ?rm3
  case ry3 => first | exact Or.inl ⟨by rfl, by intro w' hw'; (try dsimp only at hw'); go_simp; first | done | rfl⟩
  case rm3 =>
  simp only [Act.put, List.setIfInBounds_toArray, List.set_cons_zero, List.set_cons_succ]
  refine anyT_put 4 19 ?rv4 #[true, true, true, true, true, false, false, false, false, false, false, false, false] rfl rfl rfl (by kernel_rfl) (by kernel_rfl) (by kernel_rfl) (fun _ _ _ h => h) (by decide) ?ry4 (fun _ => ⟨(B15.out.go hb0r1).c0, (B15.out.go hb0r1).c1, (B15.out.go hb0r1).c2, (hb0r1.cell (p := ⟨b1, o1, none⟩) (Nat.lt_of_lt_of_le hqr1 hb17.out.size)).trans hsr1⟩) ?rm4
  case ry4 => first | exact Or.inl ⟨by rfl, by intro w'; go_simp; first | done | rfl⟩
  case rm4 =>
  simp only [Act.put, List.setIfInBounds_toArray, List.set_cons_zero, List.set_cons_succ]
  refine anyT_take 5 20 ?rv5 #[true, true, true, true, true, true, false, false, false, false, false, false, false] rfl rfl rfl (by kernel_rfl) (by kernel_rfl) (by kernel_rfl) (fun _ _ _ h => h) (by kernel_rfl) (by decide) (by kernel_rfl) ?ry5 (⟨(B15.out.go hb0r1).c0, (B15.out.go hb0r1).c1, (B15.out.go hb0r1).c2, (hb0r1.cell (p := ⟨b1, o1, none⟩) (Nat.lt_of_lt_of_le hqr1 hb17.out.size)).trans hsr1⟩) ?rm5
  case ry5 => first | exact Or.inl ⟨by rfl, by intro w' hw'; (try dsimp only at hw'); go_simp; first | done | rfl⟩
  case rm5 =>
  simp only [Act.put, List.setIfInBounds_toArray, List.set_cons_zero, List.set_cons_succ]
  refine anyT_put 6 21 ?rv6 #[true, true, true, true, true, true, true, false, false, false, false, false, false] rfl rfl rfl (by kernel_rfl) (by kernel_rfl) (by kernel_rfl) (fun _ _ _ h => h) (by decide) ?ry6 (fun _ => ⟨(B15.out.go hb0r1).c0, (B15.out.go hb0r1).c1, (B15.out.go hb0r1).c2, (hb0r1.cell (p := ⟨b1, o1, none⟩) (Nat.lt_of_lt_of_le hqr1 hb17.out.size)).trans hsr1⟩) ?rm6
  case ry6 => first | exact Or.inl ⟨by rfl, by intro w'; go_simp; first | done | rfl⟩
  case rm6 =>
  simp only [Act.put, List.setIfInBounds_toArray, List.set_cons_zero, List.set_cons_succ]
  refine anyT_take 7 22 ?rv7 #[true, true, true, true, true, true, true, true, false, false, false, false, false] rfl rfl rfl (by kernel_rfl) (by kernel_rfl) (by kernel_rfl) (fun _ _ _ h => h) (by kernel_rfl) (by decide) (by kernel_rfl) ?ry7 (⟨(B15.out.go hb0r1).c0, (B15.out.go hb0r1).c1, (B15.out.go hb0r1).c2, (hb0r1.cell (p := ⟨b1, o1, none⟩) (Nat.lt_of_lt_of_le hqr1 hb17.out.size)).trans hsr1⟩) ?rm7
  case ry7 => first | exact Or.inl ⟨by rfl, by intro w' hw'; (try dsimp only at hw'); go_simp; first | done | rfl⟩
  case rm7 =>
  simp only [Act.put, List.setIfInBounds_toArray, List.set_cons_zero, List.set_cons_succ]
  refine anyT_put 8 23 ?rv8 #[true, true, true, true, true, true, true, true, true, false, false, false, false] rfl rfl rfl (by kernel_rfl) (by kernel_rfl) (by kernel_rfl) (fun _ _ _ h => h) (by decide) ?ry8 (fun _ => ⟨(B15.out.go hb0r1).c0, (B15.out.go hb0r1).c1, (B15.out.go hb0r1).c2, (hb0r1.cell (p := ⟨b1, o1, none⟩) (Nat.lt_of_lt_of_le hqr1 hb17.out.size)).trans hsr1⟩) ?rm8
  case ry8 => first | exact Or.inl ⟨by rfl, by intro w'; go_simp; first | done | rfl⟩
  case rm8 =>
  simp only [Act.put, List.setIfInBounds_toArray, List.set_cons_zero, List.set_cons_succ]
  refine anyT_take 9 24 ?rv9 #[true, true, true, true, true, true, true, true, true, true, false, false, false] rfl rfl rfl (by kernel_rfl) (by kernel_rfl) (by kernel_rfl) (fun _ _ _ h => h) (by kernel_rfl) (by decide) (by kernel_rfl) ?ry9 (⟨(B15.out.go hb0r1).c0, (B15.out.go hb0r1).c1, (B15.out.go hb0r1).c2, (hb0r1.cell (p := ⟨b1, o1, none⟩) (Nat.lt_of_lt_of_le hqr1 hb17.out.size)).trans hsr1⟩) ?rm9
  case ry9 => first | exact Or.inl ⟨by rfl, by intro w' hw'; (try dsimp only at hw'); go_simp; first | done | rfl⟩
  case rm9 =>
  simp only [Act.put, List.setIfInBounds_toArray, List.set_cons_zero, List.set_cons_succ]
  refine anyT_one 10 #[true, true, true, true, true, true, true, true, true, true, true, false, false] (by kernel_rfl) rfl rfl (fun K hK => ?_)
  go_simp
  go_wp2_with (go_at_call 8; refine (closed_ref n hn da1 dc1 dz1 N HN.out.2 HL1.out _ ((HI1.out.2.1.below (hb17.out.trans (hb0r1.mono hb17.out.size))).mono (hb17.out.trans (hb0r1.mono hb17.out.size)).size).1).mono ?_; rintro e y1r1 ⟨grG, rfl, hGr, hBy1r1⟩)
  have hby1r1 : Below wo13.heap.size wo13 y1r1 := hb0r1.trans (hBy1r1.mono hb0r1.size)
  refine hK.out _ _ (fun _ => ⟨(B15.out.go hby1r1).c0, (B15.out.go hby1r1).c1, (B15.out.go hby1r1).c2, (hby1r1.cell (p := ⟨b1, o1, none⟩) (Nat.lt_of_lt_of_le hqr1 hb17.out.size)).trans hsr1⟩) ?_
  clear hK K
  refine anyT_one 11 #[true, true, true, true, true, true, true, true, true, true, true, true, false] (by kernel_rfl) rfl rfl (fun K hK => ?_)
  go_simp
  go_wp2_with (go_at_call 7; refine (sqr15_any n grG N N _).mono ?_; rintro e y2r1 ⟨xsr1, rfl, hSr1, hBy2r1⟩)
  have hby2r1 : Below wo13.heap.size wo13 y2r1 := hby1r1.trans (hBy2r1.mono hby1r1.size)
  have bx := B16.out.go hby2r1
  have f0 := bx.fr 0
  have r0 := bx.c0
  have f1 := bx.fr 1
  have r1 := bx.c1
  have f2 := bx.fr 2
  have r2 := bx.c2
  refine hK.out _ _ (fun _ => ⟨(B15.out.go hby2r1).c0, (B15.out.go hby2r1).c1, (B15.out.go hby2r1).c2, (hby2r1.cell (p := ⟨b1, o1, none⟩) (Nat.lt_of_lt_of_le hqr1 hb17.out.size)).trans hsr1⟩) ?_
  clear hK K
  refine anyT_one 12 #[true, true, true, true, true, true, true, true, true, true, true, true, true] (by kernel_rfl) rfl rfl (fun K hK => ?_)
  go_simp
  refine hK.out _ _ (fun h => absurd h (by decide)) ?_
  clear hK K
  refine anyT_done (by kernel_rfl) ?_
  obtain ⟨wr1, HWr1⟩ : ∃ x, Hid (x = (((y2r1.setCell ⟨v1.heap.size, 0, none⟩ (.bool false)).setCell ⟨v1.heap.size, 1, none⟩ (.slice xsr1 2 2)).setCell ⟨v1.heap.size, 2, none⟩ (.slice grG N N))) := ⟨_, rfl⟩
  rw [← HWr1.out]
  have hltr1 : v1.heap.size < wo13.heap.size := B16.out.lt
  have zz1r1 : wo13.heap.size ≤ y1r1.heap.size := hBy1r1.size
  have zz2r1 : y1r1.heap.size ≤ y2r1.heap.size := hBy2r1.size
  have zdr1 : wo13.drew.heap.size = wo13.heap.size := rfl
  have B1r1 : Hid (Abx wr1 (w.heap.size) (.bool false) (.slice (some ⟨b1, o1, none⟩) 2 sc1) (.slice da1 N dc1)) := by rw [HWr1.out]; exact abx_o3 (B15.out.go hby2r1) (B := v1.heap.size) (by omega) (.bool false) (.slice xsr1 2 2) (.slice grG N N)
  have B2r1 : Hid (Abx wr1 (v1.heap.size) (.bool false) (.slice xsr1 2 2) (.slice grG N N)) := by rw [HWr1.out]; exact bx.set3 (.bool false) (.slice xsr1 2 2) (.slice grG N N)
  have L1r1 : Hid (MidC (y1r1.heap.size) (y2r1.heap.size) wr1 (xsr1) [(n : Int), (n : Int)] 2) := by rw [HWr1.out]; exact (hSr1.midc).s3 (b := v1.heap.size) (by omega) (.bool false) (.slice xsr1 2 2) (.slice grG N N)
  have L2r1 : Hid (MidC (wo13.heap.size) (y1r1.heap.size) wr1 (grG) (clL n (clB (rdR n dz1) n)) (N)) := by rw [HWr1.out]; exact ((hGr.midc).go (by omega) hBy2r1).s3 (b := v1.heap.size) (by omega) (.bool false) (.slice xsr1 2 2) (.slice grG N N)
  have hbr1 : Hid (Below w.heap.size w wr1) := by rw [HWr1.out]; exact bel_s3 (hb17.out.trans (hby2r1.mono hb17.out.size)) (B := v1.heap.size) (by omega) (.bool false) (.slice xsr1 2 2) (.slice grG N N)
  have zwr1 : y2r1.heap.size ≤ wr1.heap.size := by rw [HWr1.out]; simp
  clear zdr1 HWr1 B15 B16 hb17 bx f0 f1 f2 r0 r1 r2
  go_wp2_with fail
  obtain ⟨hqr21, hsr21⟩ : b1 < w.heap.size ∧ wr1.cell? ⟨b1, o1, none⟩ = some (.int .i64 (n : Int)) := shp14 HI1.out.1 hbr1.out
  have hb0r2 : Below wr1.heap.size wr1 wr1.drew := (Below.refl _ wr1).drew
  refine anyC_begin (fun w' => w'.cell? ⟨w.heap.size, 0, none⟩ = some (.bool false) ∧ w'.cell? ⟨w.heap.size, 1, none⟩ = some (.slice (some ⟨b1, o1, none⟩) 2 sc1) ∧ w'.cell? ⟨w.heap.size, 2, none⟩ = some (.slice da1 N dc1) ∧ w'.cell? ⟨b1, o1, none⟩ = some (.int .i64 (n : Int))) 8 #[false, false, false, false, false, false, false, false] (by kernel_rfl) rfl rfl ?_
  refine anyC_put 0 27 ?rv13 #[true, false, false, false, false, false, false, false] rfl rfl rfl (by kernel_rfl) (by kernel_rfl) (by kernel_rfl) (fun _ _ _ h => h) ?ry13 (⟨(B1r1.out.go hb0r2).c0, (B1r1.out.go hb0r2).c1, (B1r1.out.go hb0r2).c2, (hb0r2.cell (p := ⟨b1, o1, none⟩) (Nat.lt_of_lt_of_le hqr21 hbr1.out.size)).trans hsr21⟩) ?rm13
  case ry13 => first | exact Or.inl ⟨by rfl, by intro w'; go_simp; first | done | rfl⟩
  case rm13 =>
  simp only [Act.put, List.setIfInBounds_toArray, List.set_cons_zero, List.set_cons_succ]
  refine anyC_take 1 28 ?rv14 #[true, true, false, false, false, false, false, false] rfl rfl rfl (by kernel_rfl) (by kernel_rfl) (by kernel_rfl) (fun _ _ _ h => h) ?ry14 (⟨(B1r1.out.go hb0r2).c0, (B1r1.out.go hb0r2).c1, (B1r1.out.go hb0r2).c2, (hb0r2.cell (p := ⟨b1, o1, none⟩) (Nat.lt_of_lt_of_le hqr21 hbr1.out.size)).trans hsr21⟩) ?rm14
  case ry14 => first | exact Or.inl ⟨by rfl, by intro w' hw'; (try dsimp only at hw'); go_simp; first | done | rfl⟩
  case rm14 =>
  simp only [Act.put, List.setIfInBounds_toArray, List.set_cons_zero, List.set_cons_succ]
  refine anyC_put 2 29 ?rv15 #[true, true, true, false, false, false, false, false] rfl rfl rfl (by kernel_rfl) (by kernel_rfl) (by kernel_rfl) (fun _ _ _ h => h) ?ry15 (⟨(B1r1.out.go hb0r2).c0, (B1r1.out.go hb0r2).c1, (B1r1.out.go hb0r2).c2, (hb0r2.cell (p := ⟨b1, o1, none⟩) (Nat.lt_of_lt_of_le hqr21 hbr1.out.size)).trans hsr21⟩) ?rm15
  case ry15 => first | exact Or.inl ⟨by rfl, by intro w'; go_simp; first | done | rfl⟩
  case rm15 =>
  simp only [Act.put, List.setIfInBounds_toArray, List.set_cons_zero, List.set_cons_succ]
  refine anyC_take 3 30 ?rv16 #[true, true, true, true, false, false, false, false] rfl rfl rfl (by kernel_rfl) (by kernel_rfl) (by kernel_rfl) (fun _ _ _ h => h) ?ry16 (⟨(B1r1.out.go hb0r2).c0, (B1r1.out.go hb0r2).c1, (B1r1.out.go hb0r2).c2, (hb0r2.cell (p := ⟨b1, o1, none⟩) (Nat.lt_of_lt_of_le hqr21 hbr1.out.size)).trans hsr21⟩) ?rm16
  case ry16 => first | exact Or.inl ⟨by rfl, by intro w' hw'; (try dsimp only at hw'); go_simp; first | done | rfl⟩
  case rm16 =>
  simp only [Act.put, List.setIfInBounds_toArray, List.set_cons_zero, List.set_cons_succ]
  refine anyC_put 4 31 ?rv17 #[true, true, true, true, true, false, false, false] rfl rfl rfl (by kernel_rfl) (by kernel_rfl) (by kernel_rfl) (fun _ _ _ h => h) ?ry17 (⟨(B1r1.out.go hb0r2).c0, (B1r1.out.go hb0r2).c1, (B1r1.out.go hb0r2).c2, (hb0r2.cell (p := ⟨b1, o1, none⟩) (Nat.lt_of_lt_of_le hqr21 hbr1.out.size)).trans hsr21⟩) ?rm17
  case ry17 => first | exact Or.inl ⟨by rfl, by intro w'; go_simp; first | done | rfl⟩
  case rm17 =>
  simp only [Act.put, List.setIfInBounds_toArray, List.set_cons_zero, List.set_cons_succ]
  refine anyC_take 5 32 ?rv18 #[true, true, true, true, true, true, false, false] rfl rfl rfl (by kernel_rfl) (by kernel_rfl) (by kernel_rfl) (fun _ _ _ h => h) ?ry18 (⟨(B1r1.out.go hb0r2).c0, (B1r1.out.go hb0r2).c1, (B1r1.out.go hb0r2).c2, (hb0r2.cell (p := ⟨b1, o1, none⟩) (Nat.lt_of_lt_of_le hqr21 hbr1.out.size)).trans hsr21⟩) ?rm18
  case ry18 => first | exact Or.inl ⟨by rfl, by intro w' hw'; (try dsimp only at hw'); go_simp; first | done | rfl⟩
  case rm18 =>
  simp only [Act.put, List.setIfInBounds_toArray, List.set_cons_zero, List.set_cons_succ]
  refine anyC_one 6 #[true, true, true, true, true, true, true, false] (by kernel_rfl) rfl rfl (fun K hK => ?_)
  go_simp
  go_wp2_with (go_at_call 9; refine (classed_ref n hn da1 dc1 dz1 N HN.out.2 HL1.out _ ((HI1.out.2.1.below (hbr1.out.trans (hb0r2.mono hbr1.out.size))).mono (hbr1.out.trans (hb0r2.mono hbr1.out.size)).size).1).mono ?_; rintro e y1r2 ⟨grCL, gcCL, rfl, hGCL, hBy1r2⟩)
  have hby1r2 : Below wr1.heap.size wr1 y1r2 := hb0r2.trans (hBy1r2.mono hb0r2.size)
  refine hK.out _ _ (⟨(B1r1.out.go hby1r2).c0, (B1r1.out.go hby1r2).c1, (B1r1.out.go hby1r2).c2, (hby1r2.cell (p := ⟨b1, o1, none⟩) (Nat.lt_of_lt_of_le hqr21 hbr1.out.size)).trans hsr21⟩) ?_
  clear hK K
  refine anyC_put 7 5 ?rv20 #[true, true, true, true, true, true, true, true] rfl rfl rfl (by kernel_rfl) (by kernel_rfl) (by kernel_rfl) (fun _ _ _ h => h) ?ry20 (⟨(B1r1.out.go hby1r2).c0, (B1r1.out.go hby1r2).c1, (B1r1.out.go hby1r2).c2, (hby1r2.cell (p := ⟨b1, o1, none⟩) (Nat.lt_of_lt_of_le hqr21 hbr1.out.size)).trans hsr21⟩) ?rm20
  case ry20 => first | exact Or.inl ⟨by rfl, by intro w'; go_simp; first | done | rfl⟩
  case rm20 =>
  simp only [Act.put, List.setIfInBounds_toArray, List.set_cons_zero, List.set_cons_succ]
  refine anyC_done (by kernel_rfl) ?_
  have hB := hby1r2
  have z18 : wr1.heap.size ≤ y1r2.heap.size := hB.size
  have B19 : Hid (Abx y1r2 (w.heap.size) (.bool false) (.slice (some ⟨b1, o1, none⟩) 2 sc1) (.slice da1 N dc1)) := B1r1.out.go hB
  have B20 : Hid (Abx y1r2 (v1.heap.size) (.bool false) (.slice xsr1 2 2) (.slice grG N N)) := B2r1.out.go hB
  have L21 : Hid (MidC (y1r1.heap.size) (y2r1.heap.size) y1r2 (xsr1) ([(n : Int), (n : Int)]) (2)) := L1r1.out.go (by omega) hB
  have L22 : Hid (MidC (wo13.heap.size) (y1r1.heap.size) y1r2 (grG) (clL n (clB (rdR n dz1) n)) (N)) := L2r1.out.go (by omega) hB
  have hb23 : Hid (Below w.heap.size w y1r2) := hbr1.out.trans (hB.mono hbr1.out.size)
  clear hB hbr1 B1r1 B2r1 L1r1 L2r1
  have LCL : Hid (MidC (w.heap.size) (y1r2.heap.size) y1r2 (grCL) (csL n (rdR n dz1)) (gcCL)) := ⟨hGCL.midc.1.low (by have : wr1.drew.heap.size = wr1.heap.size := rfl; omega), hGCL.2⟩
  clear hGCL
  have l24 := (B19.out).c0
  have l25 := (B19.out).c1
  have l26 := (B19.out).c2
  go_wp2_with fail
  clear l24 l25 l26
  refine (clo_ok n hn (some ⟨b1, o1, none⟩) sc1 da1 dc1 dz1 N HN.out.2 HL1.out HK1.out _ ((HI1.out.1.below hb23.out).mono hb23.out.size).1 ((HI1.out.2.1.below hb23.out).mono hb23.out.size).1).mono ?_
  rintro e v2 ⟨xa3, xc3, ya3, yc3, rfl, hX3, hY3, hB⟩
  have z27 : y1r2.heap.size ≤ v2.heap.size := hB.size
  have B28 : Hid (Abx v2 (w.heap.size) (.bool false) (.slice (some ⟨b1, o1, none⟩) 2 sc1) (.slice da1 N dc1)) := B19.out.go hB
  have B29 : Hid (Abx v2 (v1.heap.size) (.bool false) (.slice xsr1 2 2) (.slice grG N N)) := B20.out.go hB
  have L30 : Hid (MidC (y1r1.heap.size) (y2r1.heap.size) v2 (xsr1) ([(n : Int), (n : Int)]) (2)) := L21.out.go (by omega) hB
  have L31 : Hid (MidC (wo13.heap.size) (y1r1.heap.size) v2 (grG) (clL n (clB (rdR n dz1) n)) (N)) := L22.out.go (by omega) hB
  have L32 : Hid (MidC (w.heap.size) (y1r2.heap.size) v2 (grCL) (csL n (rdR n dz1)) (gcCL)) := LCL.out.go (by omega) hB
  have hb33 : Hid (Below w.heap.size w v2) := hb23.out.trans (hB.mono hb23.out.size)
  have L34 : Hid (MidC (y1r2.heap.size) (v2.heap.size) v2 (xa3) ([(n : Int), (n : Int)]) (xc3)) := hX3.midc
  have L35 : Hid (MidC (y1r2.heap.size) (v2.heap.size) v2 (ya3) (clL n (clB (rdR n dz1) n)) (yc3)) := hY3.midc
  clear hB hb23 B19 B20 L21 L22 LCL hX3 hY3
  rw [HLp.out]
  have n36 := Abx.new v2 (.bool false) (.slice (xa3) 2 (xc3)) (.slice (ya3) (N) (yc3))
  have l37 := (n36).c0
  have l38 := (n36).c1
  have l39 := (n36).c2
  have l40 := ((B29.out.al (.cells #[.bool false, .slice (xa3) 2 (xc3), .slice (ya3) (N) (yc3)] 24))).c0
  have l41 := ((B29.out.al (.cells #[.bool false, .slice (xa3) 2 (xc3), .slice (ya3) (N) (yc3)] 24))).c1
  have l42 := ((B29.out.al (.cells #[.bool false, .slice (xa3) 2 (xc3), .slice (ya3) (N) (yc3)] 24))).c2
  go_wp2_with fail
  obtain ⟨wo43, hwo43⟩ : ∃ wo43, wo43 = (v2.alloc (.cells #[.bool false, .slice (xa3) 2 (xc3), .slice (ya3) (N) (yc3)] 24)) := ⟨_, rfl⟩
  rw [← hwo43]
  have z44 : v2.heap.size + 1 ≤ wo43.heap.size := by rw [hwo43]; simp only [World.size_alloc]; omega
  have B45 : Hid (Abx wo43 (w.heap.size) (.bool false) (.slice (some ⟨b1, o1, none⟩) 2 sc1) (.slice da1 N dc1)) := by rw [hwo43]; exact (B28.out.al (.cells #[.bool false, .slice (xa3) 2 (xc3), .slice (ya3) (N) (yc3)] 24))
  have B46 : Hid (Abx wo43 (v1.heap.size) (.bool false) (.slice xsr1 2 2) (.slice grG N N)) := by rw [hwo43]; exact (B29.out.al (.cells #[.bool false, .slice (xa3) 2 (xc3), .slice (ya3) (N) (yc3)] 24))
  have B47 : Hid (Abx wo43 (v2.heap.size) (.bool false) (.slice (xa3) 2 (xc3)) (.slice (ya3) (N) (yc3))) := by rw [hwo43]; exact n36
  have L48 : Hid (MidC (y1r1.heap.size) (y2r1.heap.size) wo43 (xsr1) ([(n : Int), (n : Int)]) (2)) := by rw [hwo43]; exact (L30.out.al (by omega) (.cells #[.bool false, .slice (xa3) 2 (xc3), .slice (ya3) (N) (yc3)] 24))
  have L49 : Hid (MidC (wo13.heap.size) (y1r1.heap.size) wo43 (grG) (clL n (clB (rdR n dz1) n)) (N)) := by rw [hwo43]; exact (L31.out.al (by omega) (.cells #[.bool false, .slice (xa3) 2 (xc3), .slice (ya3) (N) (yc3)] 24))
  have L50 : Hid (MidC (w.heap.size) (y1r2.heap.size) wo43 (grCL) (csL n (rdR n dz1)) (gcCL)) := by rw [hwo43]; exact (L32.out.al (by omega) (.cells #[.bool false, .slice (xa3) 2 (xc3), .slice (ya3) (N) (yc3)] 24))
  have L51 : Hid (MidC (y1r2.heap.size) (v2.heap.size) wo43 (xa3) ([(n : Int), (n : Int)]) (xc3)) := by rw [hwo43]; exact (L34.out.al (by omega) (.cells #[.bool false, .slice (xa3) 2 (xc3), .slice (ya3) (N) (yc3)] 24))
  have L52 : Hid (MidC (y1r2.heap.size) (v2.heap.size) wo43 (ya3) (clL n (clB (rdR n dz1) n)) (yc3)) := by rw [hwo43]; exact (L35.out.al (by omega) (.cells #[.bool false, .slice (xa3) 2 (xc3), .slice (ya3) (N) (yc3)] 24))
  have hb53 : Hid (Below w.heap.size w wo43) := by rw [hwo43]; exact (hb33.out.alloc (by omega) (.cells #[.bool false, .slice (xa3) 2 (xc3), .slice (ya3) (N) (yc3)] 24))
  have zwo43 : w.heap.size ≤ wo43.heap.size := hb53.out.size
  clear hwo43 n36 l37 l38 l39 l40 l41 l42 hb33 B28 B29 L30 L31 L32 L34 L35
  refine (is_ok15 n N (clL n (clB (rdR n dz1) n)) HLp.out N576 (xa3) (xc3) (ya3) (yc3) (xsr1) 2 (grG) (N) _ (HG.out.go hb53.out) (L51.out.is (by omega)).1 (L52.out.is (by omega)).1 (L48.out.is (by omega)).1 (L49.out.is (by omega)).1).mono ?_
  rintro e v3 ⟨rfl, hB⟩
  have z54 : wo43.heap.size ≤ v3.heap.size := hB.size
  have B55 : Hid (Abx v3 (w.heap.size) (.bool false) (.slice (some ⟨b1, o1, none⟩) 2 sc1) (.slice da1 N dc1)) := B45.out.go hB
  have B56 : Hid (Abx v3 (v1.heap.size) (.bool false) (.slice xsr1 2 2) (.slice grG N N)) := B46.out.go hB
  have B57 : Hid (Abx v3 (v2.heap.size) (.bool false) (.slice (xa3) 2 (xc3)) (.slice (ya3) (N) (yc3))) := B47.out.go hB
  have L58 : Hid (MidC (y1r1.heap.size) (y2r1.heap.size) v3 (xsr1) ([(n : Int), (n : Int)]) (2)) := L48.out.go (by omega) hB
  have L59 : Hid (MidC (wo13.heap.size) (y1r1.heap.size) v3 (grG) (clL n (clB (rdR n dz1) n)) (N)) := L49.out.go (by omega) hB
  have L60 : Hid (MidC (w.heap.size) (y1r2.heap.size) v3 (grCL) (csL n (rdR n dz1)) (gcCL)) := L50.out.go (by omega) hB
  have L61 : Hid (MidC (y1r2.heap.size) (v2.heap.size) v3 (xa3) ([(n : Int), (n : Int)]) (xc3)) := L51.out.go (by omega) hB
  have L62 : Hid (MidC (y1r2.heap.size) (v2.heap.size) v3 (ya3) (clL n (clB (rdR n dz1) n)) (yc3)) := L52.out.go (by omega) hB
  have hb63 : Hid (Below w.heap.size w v3) := hb53.out.trans (hB.mono hb53.out.size)
  clear hB hb53 B45 B46 B47 L48 L49 L50 L51 L52
  have l64 := (B55.out).c0
  have l65 := (B55.out).c1
  have l66 := (B55.out).c2
  go_wp2_with fail
  clear l64 l65 l66
  refine (cla_ok n hn (some ⟨b1, o1, none⟩) sc1 da1 dc1 dz1 N HN.out.2 HL1.out HK1.out _ ((HI1.out.1.below hb63.out).mono hb63.out.size).1 ((HI1.out.2.1.below hb63.out).mono hb63.out.size).1).mono ?_
  rintro e v4 ⟨xa4, rfl, hX4, hB⟩
  have z67 : v3.heap.size ≤ v4.heap.size := hB.size
  have B68 : Hid (Abx v4 (w.heap.size) (.bool false) (.slice (some ⟨b1, o1, none⟩) 2 sc1) (.slice da1 N dc1)) := B55.out.go hB
  have B69 : Hid (Abx v4 (v1.heap.size) (.bool false) (.slice xsr1 2 2) (.slice grG N N)) := B56.out.go hB
  have B70 : Hid (Abx v4 (v2.heap.size) (.bool false) (.slice (xa3) 2 (xc3)) (.slice (ya3) (N) (yc3))) := B57.out.go hB
  have L71 : Hid (MidC (y1r1.heap.size) (y2r1.heap.size) v4 (xsr1) ([(n : Int), (n : Int)]) (2)) := L58.out.go (by omega) hB
  have L72 : Hid (MidC (wo13.heap.size) (y1r1.heap.size) v4 (grG) (clL n (clB (rdR n dz1) n)) (N)) := L59.out.go (by omega) hB
  have L73 : Hid (MidC (w.heap.size) (y1r2.heap.size) v4 (grCL) (csL n (rdR n dz1)) (gcCL)) := L60.out.go (by omega) hB
  have L74 : Hid (MidC (y1r2.heap.size) (v2.heap.size) v4 (xa3) ([(n : Int), (n : Int)]) (xc3)) := L61.out.go (by omega) hB
  have L75 : Hid (MidC (y1r2.heap.size) (v2.heap.size) v4 (ya3) (clL n (clB (rdR n dz1) n)) (yc3)) := L62.out.go (by omega) hB
  have hb76 : Hid (Below w.heap.size w v4) := hb63.out.trans (hB.mono hb63.out.size)
  have L77 : Hid (MidC (v3.heap.size) (v4.heap.size) v4 (xa4) (csL n (rdR n dz1)) (n)) := hX4.midc
  clear hB hb63 B55 B56 B57 L58 L59 L60 L61 L62 hX4
  go_wp2_with fail
  refine (ints_ok15 (csL n (rdR n dz1)) n (by rw [csL_len]) (by omega) xa4 n grCL gcCL _ (HG.out.go hb76.out) (L77.out.is (by omega)).1 (L73.out.is (by omega)).1).mono ?_
  rintro e v5 ⟨rfl, hB⟩
  have z78 : v4.heap.size ≤ v5.heap.size := hB.size
  have B79 : Hid (Abx v5 (w.heap.size) (.bool false) (.slice (some ⟨b1, o1, none⟩) 2 sc1) (.slice da1 N dc1)) := B68.out.go hB
  have B80 : Hid (Abx v5 (v1.heap.size) (.bool false) (.slice xsr1 2 2) (.slice grG N N)) := B69.out.go hB
  have B81 : Hid (Abx v5 (v2.heap.size) (.bool false) (.slice (xa3) 2 (xc3)) (.slice (ya3) (N) (yc3))) := B70.out.go hB
  have L82 : Hid (MidC (y1r1.heap.size) (y2r1.heap.size) v5 (xsr1) ([(n : Int), (n : Int)]) (2)) := L71.out.go (by omega) hB
  have L83 : Hid (MidC (wo13.heap.size) (y1r1.heap.size) v5 (grG) (clL n (clB (rdR n dz1) n)) (N)) := L72.out.go (by omega) hB
  have L84 : Hid (MidC (w.heap.size) (y1r2.heap.size) v5 (grCL) (csL n (rdR n dz1)) (gcCL)) := L73.out.go (by omega) hB
  have L85 : Hid (MidC (y1r2.heap.size) (v2.heap.size) v5 (xa3) ([(n : Int), (n : Int)]) (xc3)) := L74.out.go (by omega) hB
  have L86 : Hid (MidC (y1r2.heap.size) (v2.heap.size) v5 (ya3) (clL n (clB (rdR n dz1) n)) (yc3)) := L75.out.go (by omega) hB
  have L87 : Hid (MidC (v3.heap.size) (v4.heap.size) v5 (xa4) (csL n (rdR n dz1)) (n)) := L77.out.go (by omega) hB
  have hb88 : Hid (Below w.heap.size w v5) := hb76.out.trans (hB.mono hb76.out.size)
  clear hB hb76 B68 B69 B70 L71 L72 L73 L74 L75 L77
  go_wp2_with fail
  go_ret
  exact ⟨rfl, hb88.out⟩
theorem rclos_walk (c1 : Bool) (sa1 : Option Addr) (sc1 : Nat) (sz1 : List Int) (da1 : Option Addr) (dc1 : Nat) (dz1 : List Int) (w : World) (hg : HasErr w) (w8 : IsArrD w sa1 sz1 sc1 da1 dz1 dc1) :
    Calls Tryd.prog 3 #[.agg #[.bool c1, .slice sa1 sz1.length sc1, .slice da1 dz1.length dc1]] w fun e w' => e = .returned (.bool true) ∧ Below w.heap.size w w' := by
  by_cases h1 : rlE c1 sz1 dz1 = 0
  · obtain ⟨n, hn, rfl, hl1, rfl, hk1⟩ := rl_is h1
    obtain ⟨b1, o1, rfl⟩ := opn14 w8.2.2.1
    exact clos_ok n hn b1 o1 sc1 da1 dc1 dz1 hl1 w ⟨w8.2.2.1, w8.2.2.2.1, w8.2.2.2.2.2⟩ hg hk1
  · exact clos_no c1 sa1 sc1 sz1 da1 dc1 dz1 w hg w8 h1
end Go.Proofs.YtgaelbgeoobgiaaDoor
