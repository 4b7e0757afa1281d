/-
  The walk of the statement MatrixAdjugates, given what the program tells.
-/
import Derived.Test.YtjaabemlpiafaaaDoorRsq
import Derived.Test.YtjaabemlpiafaaaDoorRad
import Derived.Test.YtjaabemlpiafaaaDoorMidc
import Derived.Test.YtjaabemlpiafaaaDoorMta
import Derived.Test.YtjaabemlpiafaaaDoorCutq
namespace Go.Proofs.YtjaabemlpiafaaaDoor
open Go.RowKit
set_option linter.unusedVariables false

theorem shp14 {w v : World} {b o n sc : Nat} (h : IsC w.heap.size w (some ⟨b, o, none⟩) [(n : Int), (n : Int)] sc) (hB : Below w.heap.size w v) : b < w.heap.size ∧ v.cell? ⟨b, o, none⟩ = some (.int .i64 (n : Int)) := by
  obtain ⟨b', o', e, hb, hc⟩ := (h.1.below hB).at (q := 0) (by simp)
  cases e
  have h0 := hc 0 (by simp)
  rw [Nat.add_zero] at h0
  exact ⟨hb, h0⟩
theorem opn14 {w : World} {sa : Option Addr} {n sc : Nat} (h : IsC w.heap.size w sa [(n : Int), (n : Int)] sc) : ∃ b o, sa = some ⟨b, o, none⟩ := by
  obtain ⟨b, o, e, _, _⟩ := h.1.at (q := 0) (by simp)
  exact ⟨b, o, e⟩
set_option maxRecDepth 100000 in
set_option maxHeartbeats 2000000 in
theorem adjs_no (c1 : Bool) (sa1 : Option Addr) (sc1 : Nat) (sz1 : List Int) (da1 : Option Addr) (dc1 : Nat) (dz1 : List Int) (w : World) (hg : HasErr w) (w8 : IsArrD w sa1 sz1 sc1 da1 dz1 dc1) (h0 : mxE c1 sz1 dz1 ≠ 0) :
    Calls Tryd.prog 4 #[.agg #[.bool c1, .slice sa1 sz1.length sc1, .slice da1 dz1.length dc1]] w fun e w' => e = .returned (.bool true) ∧ Below w.heap.size w w' := by
  have HI1 : Hid (IsC w.heap.size w sa1 sz1 sc1 ∧ IsC w.heap.size w da1 dz1 dc1) := ⟨w8.2.2.1, w8.2.2.2.1⟩
  have HG : Hid (HasErr w) := hg
  obtain ⟨E, hE⟩ : ∃ E, mxE c1 sz1 dz1 = E := ⟨_, rfl⟩
  have HE : Hid (mxE c1 sz1 dz1 = E) := hE
  have HNe : Hid (mxE c1 sz1 dz1 ≠ 0) := h0
  have tE : (E == 0) = false := by rw [← hE]; simpa using h0
  clear hE h0 hg
  have n1 := Abx.new w (.bool c1) (.slice sa1 sz1.length sc1) (.slice da1 dz1.length dc1)
  have l2 := (n1).c0
  have l3 := (n1).c1
  have l4 := (n1).c2
  go_enter Tryd.func4, Tryd.ntmps4
  go_wp2_with fail
  obtain ⟨wo5, hwo5⟩ : ∃ wo5, wo5 = (w.alloc (.cells #[.bool c1, .slice sa1 sz1.length sc1, .slice da1 dz1.length dc1] 24)) := ⟨_, rfl⟩
  rw [← hwo5]
  have z6 : w.heap.size + 1 ≤ wo5.heap.size := by rw [hwo5]; simp only [World.size_alloc]; omega
  have B7 : Hid (Abx wo5 (w.heap.size) (.bool c1) (.slice sa1 sz1.length sc1) (.slice da1 dz1.length dc1)) := by rw [hwo5]; exact n1
  have hb8 : Hid (Below w.heap.size w wo5) := by rw [hwo5]; exact ((Below.refl w.heap.size w).alloc (by omega) (.cells #[.bool c1, .slice sa1 sz1.length sc1, .slice da1 dz1.length dc1] 24))
  have zwo5 : w.heap.size ≤ wo5.heap.size := hb8.out.size
  clear hwo5 n1 l2 l3 l4
  refine (sfault_no c1 sa1 sc1 sz1 da1 dc1 dz1 E HE.out _ w8.1 w8.2.1 ((HI1.out.1.below hb8.out).mono hb8.out.size).1 ((HI1.out.2.below hb8.out).mono hb8.out.size).1).mono ?_
  rintro e v1 ⟨rfl, hB⟩
  have z9 : wo5.heap.size ≤ v1.heap.size := hB.size
  have B10 : Hid (Abx v1 (w.heap.size) (.bool c1) (.slice sa1 sz1.length sc1) (.slice da1 dz1.length dc1)) := B7.out.go hB
  have hb11 : Hid (Below w.heap.size w v1) := hb8.out.trans (hB.mono hb8.out.size)
  clear hB hb8 B7
  have n12 := Abx.new v1 (.bool false) (.slice none 0 0) (.slice none 0 0)
  have l13 := ((B10.out.al (.cells #[.bool false, .slice none 0 0, .slice none 0 0] 24))).c0
  have l14 := ((B10.out.al (.cells #[.bool false, .slice none 0 0, .slice none 0 0] 24))).c1
  have l15 := ((B10.out.al (.cells #[.bool false, .slice none 0 0, .slice none 0 0] 24))).c2
  go_wp2_with fail
  obtain ⟨wo16, hwo16⟩ : ∃ wo16, wo16 = (v1.alloc (.cells #[.bool false, .slice none 0 0, .slice none 0 0] 24)) := ⟨_, rfl⟩
  rw [← hwo16]
  have z17 : v1.heap.size + 1 ≤ wo16.heap.size := by rw [hwo16]; simp only [World.size_alloc]; omega
  have B18 : Hid (Abx wo16 (w.heap.size) (.bool c1) (.slice sa1 sz1.length sc1) (.slice da1 dz1.length dc1)) := by rw [hwo16]; exact (B10.out.al (.cells #[.bool false, .slice none 0 0, .slice none 0 0] 24))
  have B19 : Hid (Abx wo16 (v1.heap.size) (.bool false) (.slice none 0 0) (.slice none 0 0)) := by rw [hwo16]; exact n12
  have hb20 : Hid (Below w.heap.size w wo16) := by rw [hwo16]; exact (hb11.out.alloc (by omega) (.cells #[.bool false, .slice none 0 0, .slice none 0 0] 24))
  have zwo16 : w.heap.size ≤ wo16.heap.size := hb20.out.size
  clear hwo16 n12 l13 l14 l15 hb11 B10
  refine (madj_no c1 sa1 sc1 sz1 da1 dc1 dz1 _ w8.1 w8.2.1 ((HI1.out.1.below hb20.out).mono hb20.out.size).1 ((HI1.out.2.below hb20.out).mono hb20.out.size).1 HNe.out).mono ?_
  rintro e v2 ⟨rfl, hB⟩
  have z21 : wo16.heap.size ≤ v2.heap.size := hB.size
  have B22 : Hid (Abx v2 (w.heap.size) (.bool c1) (.slice sa1 sz1.length sc1) (.slice da1 dz1.length dc1)) := B18.out.go hB
  have B23 : Hid (Abx v2 (v1.heap.size) (.bool false) (.slice none 0 0) (.slice none 0 0)) := B19.out.go hB
  have hb24 : Hid (Below w.heap.size w v2) := hb20.out.trans (hB.mono hb20.out.size)
  clear hB hb20 B18 B19
  rw [HE.out]
  have n25 := Abx.new v2 (.bool false) (.slice none 0 0) (.slice none 0 0)
  have l26 := (n25).c0
  have l27 := (n25).c1
  have l28 := (n25).c2
  have l29 := ((B23.out.al (.cells #[.bool false, .slice none 0 0, .slice none 0 0] 24))).c0
  have l30 := ((B23.out.al (.cells #[.bool false, .slice none 0 0, .slice none 0 0] 24))).c1
  have l31 := ((B23.out.al (.cells #[.bool false, .slice none 0 0, .slice none 0 0] 24))).c2
  go_wp2_with fail
  obtain ⟨wo32, hwo32⟩ : ∃ wo32, wo32 = (v2.alloc (.cells #[.bool false, .slice none 0 0, .slice none 0 0] 24)) := ⟨_, rfl⟩
  rw [← hwo32]
  have z33 : v2.heap.size + 1 ≤ wo32.heap.size := by rw [hwo32]; simp only [World.size_alloc]; omega
  have B34 : Hid (Abx wo32 (w.heap.size) (.bool c1) (.slice sa1 sz1.length sc1) (.slice da1 dz1.length dc1)) := by rw [hwo32]; exact (B22.out.al (.cells #[.bool false, .slice none 0 0, .slice none 0 0] 24))
  have B35 : Hid (Abx wo32 (v1.heap.size) (.bool false) (.slice none 0 0) (.slice none 0 0)) := by rw [hwo32]; exact (B23.out.al (.cells #[.bool false, .slice none 0 0, .slice none 0 0] 24))
  have B36 : Hid (Abx wo32 (v2.heap.size) (.bool false) (.slice none 0 0) (.slice none 0 0)) := by rw [hwo32]; exact n25
  have hb37 : Hid (Below w.heap.size w wo32) := by rw [hwo32]; exact (hb24.out.alloc (by omega) (.cells #[.bool false, .slice none 0 0, .slice none 0 0] 24))
  have zwo32 : w.heap.size ≤ wo32.heap.size := hb37.out.size
  clear hwo32 n25 l26 l27 l28 l29 l30 l31 hb24 B22 B23
  refine (is_no14 E (by rw [← HE.out]; exact HNe.out) _ (HG.out.go hb37.out)).mono ?_
  rintro e v3 ⟨rfl, hB⟩
  have z38 : wo32.heap.size ≤ v3.heap.size := hB.size
  have B39 : Hid (Abx v3 (w.heap.size) (.bool c1) (.slice sa1 sz1.length sc1) (.slice da1 dz1.length dc1)) := B34.out.go hB
  have B40 : Hid (Abx v3 (v1.heap.size) (.bool false) (.slice none 0 0) (.slice none 0 0)) := B35.out.go hB
  have B41 : Hid (Abx v3 (v2.heap.size) (.bool false) (.slice none 0 0) (.slice none 0 0)) := B36.out.go hB
  have hb42 : Hid (Below w.heap.size w v3) := hb37.out.trans (hB.mono hb37.out.size)
  clear hB hb37 B34 B35 B36
  go_wp2_with fail
  go_ret
  exact ⟨rfl, hb42.out⟩
set_option maxRecDepth 100000 in
set_option maxHeartbeats 2000000 in
theorem adjs_ok (n : Nat) (hn : n ≤ 6) (b1 o1 sc1 : Nat) (da1 : Option Addr) (dc1 : Nat) (dz1 : List Int) (HL1 : Hid (dz1.length = n * n)) (w : World) (HI1 : Hid (IsC w.heap.size w (some ⟨b1, o1, none⟩) [(n : Int), (n : Int)] sc1 ∧ IsC w.heap.size w da1 dz1 dc1 ∧ ∀ j, In64 (nth dz1 j))) (hg : HasErr w) :
    Calls Tryd.prog 4 #[.agg #[.bool false, .slice (some ⟨b1, o1, none⟩) 2 sc1, .slice da1 dz1.length dc1]] w fun e w' => e = .returned (.bool true) ∧ Below w.heap.size w w' := by
  have HG : Hid (HasErr w) := hg
  obtain ⟨N, hN⟩ : ∃ N, N = n * n := ⟨_, rfl⟩
  have N36 : N ≤ 36 := by have : n * n ≤ 6 * 6 := Nat.mul_le_mul hn hn; omega
  have HN : Hid (N = n * n ∧ dz1.length = N) := ⟨hN, by rw [HL1.out, hN]⟩
  clear hN
  have HLp : Hid ((cls n (ajg n (rdg n dz1))).length = N) := by show _ = _; rw [cls_len, HN.out.1]
  clear hg
  rw [HN.out.2]
  have n1 := Abx.new w (.bool false) (.slice (some ⟨b1, o1, none⟩) 2 sc1) (.slice da1 N dc1)
  have l2 := (n1).c0
  have l3 := (n1).c1
  have l4 := (n1).c2
  go_enter Tryd.func4, Tryd.ntmps4
  go_wp2_with fail
  obtain ⟨wo5, hwo5⟩ : ∃ wo5, wo5 = (w.alloc (.cells #[.bool false, .slice (some ⟨b1, o1, none⟩) 2 sc1, .slice da1 N dc1] 24)) := ⟨_, rfl⟩
  rw [← hwo5]
  have z6 : w.heap.size + 1 ≤ wo5.heap.size := by rw [hwo5]; simp only [World.size_alloc]; omega
  have B7 : Hid (Abx wo5 (w.heap.size) (.bool false) (.slice (some ⟨b1, o1, none⟩) 2 sc1) (.slice da1 N dc1)) := by rw [hwo5]; exact n1
  have hb8 : Hid (Below w.heap.size w wo5) := by rw [hwo5]; exact ((Below.refl w.heap.size w).alloc (by omega) (.cells #[.bool false, .slice (some ⟨b1, o1, none⟩) 2 sc1, .slice da1 N dc1] 24))
  have zwo5 : w.heap.size ≤ wo5.heap.size := hb8.out.size
  clear hwo5 n1 l2 l3 l4
  refine (sfault_ok n hn (some ⟨b1, o1, none⟩) sc1 da1 dc1 dz1 N HN.out.2 HL1.out _ ((HI1.out.1.below hb8.out).mono hb8.out.size).1 ((HI1.out.2.1.below hb8.out).mono hb8.out.size).1).mono ?_
  rintro e v1 ⟨rfl, hB⟩
  have z9 : wo5.heap.size ≤ v1.heap.size := hB.size
  have B10 : Hid (Abx v1 (w.heap.size) (.bool false) (.slice (some ⟨b1, o1, none⟩) 2 sc1) (.slice da1 N dc1)) := B7.out.go hB
  have hb11 : Hid (Below w.heap.size w v1) := hb8.out.trans (hB.mono hb8.out.size)
  clear hB hb8 B7
  have n12 := Abx.new v1 (.bool false) (.slice none 0 0) (.slice none 0 0)
  go_wp2_with fail
  obtain ⟨wo13, hwo13⟩ : ∃ wo13, wo13 = (v1.alloc (.cells #[.bool false, .slice none 0 0, .slice none 0 0] 24)) := ⟨_, rfl⟩
  rw [← hwo13]
  have z14 : v1.heap.size + 1 ≤ wo13.heap.size := by rw [hwo13]; simp only [World.size_alloc]; omega
  have B15 : Hid (Abx wo13 (w.heap.size) (.bool false) (.slice (some ⟨b1, o1, none⟩) 2 sc1) (.slice da1 N dc1)) := by rw [hwo13]; exact (B10.out.al (.cells #[.bool false, .slice none 0 0, .slice none 0 0] 24))
  have B16 : Hid (Abx wo13 (v1.heap.size) (.bool false) (.slice none 0 0) (.slice none 0 0)) := by rw [hwo13]; exact n12
  have hb17 : Hid (Below w.heap.size w wo13) := by rw [hwo13]; exact (hb11.out.alloc (by omega) (.cells #[.bool false, .slice none 0 0, .slice none 0 0] 24))
  have zwo13 : w.heap.size ≤ wo13.heap.size := hb17.out.size
  clear hwo13 n12 hb11 B10
  obtain ⟨hqr1, hsr1⟩ : b1 < w.heap.size ∧ wo13.cell? ⟨b1, o1, none⟩ = some (.int .i64 (n : Int)) := shp14 HI1.out.1 hb17.out
  have hb0r1 : Below wo13.heap.size wo13 wo13.drew := (Below.refl _ wo13).drew
  refine anyT_begin 12 (fun w' => w'.cell? ⟨w.heap.size, 0, none⟩ = some (.bool false) ∧ w'.cell? ⟨w.heap.size, 1, none⟩ = some (.slice (some ⟨b1, o1, none⟩) 2 sc1) ∧ w'.cell? ⟨w.heap.size, 2, none⟩ = some (.slice da1 N dc1) ∧ w'.cell? ⟨b1, o1, none⟩ = some (.int .i64 (n : Int))) 13 #[false, false, false, false, false, false, false, false, false, false, false, false, false] (by kernel_rfl) rfl rfl ?_
  refine anyT_put 0 11 ?rv0 #[true, false, false, false, false, false, false, false, false, false, false, false, false] rfl rfl rfl (by kernel_rfl) (by kernel_rfl) (by kernel_rfl) (fun _ _ _ h => h) (by decide) ?ry0 (fun _ => ⟨(B15.out.go hb0r1).c0, (B15.out.go hb0r1).c1, (B15.out.go hb0r1).c2, (hb0r1.cell (p := ⟨b1, o1, none⟩) (Nat.lt_of_lt_of_le hqr1 hb17.out.size)).trans hsr1⟩) ?rm0
  case ry0 => first | exact Or.inl ⟨by rfl, by intro w'; go_simp; first | done | rfl⟩
  case rm0 =>
  simp only [Act.put, List.setIfInBounds_toArray, List.set_cons_zero, List.set_cons_succ]
  refine anyT_take 1 12 ?rv1 #[true, true, false, false, false, false, false, false, false, false, false, false, false] rfl rfl rfl (by kernel_rfl) (by kernel_rfl) (by kernel_rfl) (fun _ _ _ h => h) (by kernel_rfl) (by decide) (by kernel_rfl) ?ry1 (⟨(B15.out.go hb0r1).c0, (B15.out.go hb0r1).c1, (B15.out.go hb0r1).c2, (hb0r1.cell (p := ⟨b1, o1, none⟩) (Nat.lt_of_lt_of_le hqr1 hb17.out.size)).trans hsr1⟩) ?rm1
  case ry1 => first | exact Or.inl ⟨by rfl, by intro w' hw'; (try dsimp only at hw'); go_simp; first | done | rfl⟩
  case rm1 =>
  simp only [Act.put, List.setIfInBounds_toArray, List.set_cons_zero, List.set_cons_succ]
  refine anyT_put 2 13 ?rv2 #[true, true, true, false, false, false, false, false, false, false, false, false, false] rfl rfl rfl (by kernel_rfl) (by kernel_rfl) (by kernel_rfl) (fun _ _ _ h => h) (by decide) ?ry2 (fun _ => ⟨(B15.out.go hb0r1).c0, (B15.out.go hb0r1).c1, (B15.out.go hb0r1).c2, (hb0r1.cell (p := ⟨b1, o1, none⟩) (Nat.lt_of_lt_of_le hqr1 hb17.out.size)).trans hsr1⟩) ?rm2
  case ry2 => first | exact Or.inl ⟨by rfl, by intro w'; go_simp; first | done | rfl⟩
  case rm2 =>
  simp only [Act.put, List.setIfInBounds_toArray, List.set_cons_zero, List.set_cons_succ]
  refine anyT_take 3 14 ?rv3 #[true, true, true, true, false, false, false, false, false, false, false, false, false] rfl rfl rfl (by kernel_rfl) (by kernel_rfl) (by kernel_rfl) (fun _ _ _ h => h) (by kernel_rfl) (by decide) (by kernel_rfl) ?ry3 (⟨(B15.out.go hb0r1).c0, (B15.out.go hb0r1).c1, (B15.out.go hb0r1).c2, (hb0r1.cell (p := ⟨b1, o1, none⟩) (Nat.lt_of_lt_of_le hqr1 hb17.out.size)).trans hsr1⟩) ?rm3
  case ry3 => first | exact Or.inl ⟨by rfl, by intro w' hw'; (try dsimp only at hw'); go_simp; first | done | rfl⟩
  case rm3 =>
  simp only [Act.put, List.setIfInBounds_toArray, List.set_cons_zero, List.set_cons_succ]
  refine anyT_put 4 15 ?rv4 #[true, true, true, true, true, false, false, false, false, false, false, false, false] rfl rfl rfl (by kernel_rfl) (by kernel_rfl) (by kernel_rfl) (fun _ _ _ h => h) (by decide) ?ry4 (fun _ => ⟨(B15.out.go hb0r1).c0, (B15.out.go hb0r1).c1, (B15.out.go hb0r1).c2, (hb0r1.cell (p := ⟨b1, o1, none⟩) (Nat.lt_of_lt_of_le hqr1 hb17.out.size)).trans hsr1⟩) ?rm4
  case ry4 => first | exact Or.inl ⟨by rfl, by intro w'; go_simp; first | done | rfl⟩
  case rm4 =>
  simp only [Act.put, List.setIfInBounds_toArray, List.set_cons_zero, List.set_cons_succ]
  refine anyT_take 5 16 ?rv5 #[true, true, true, true, true, true, false, false, false, false, false, false, false] rfl rfl rfl (by kernel_rfl) (by kernel_rfl) (by kernel_rfl) (fun _ _ _ h => h) (by kernel_rfl) (by decide) (by kernel_rfl) ?ry5 (⟨(B15.out.go hb0r1).c0, (B15.out.go hb0r1).c1, (B15.out.go hb0r1).c2, (hb0r1.cell (p := ⟨b1, o1, none⟩) (Nat.lt_of_lt_of_le hqr1 hb17.out.size)).trans hsr1⟩) ?rm5
  case ry5 => first | exact Or.inl ⟨by rfl, by intro w' hw'; (try dsimp only at hw'); go_simp; first | done | rfl⟩
  case rm5 =>
  simp only [Act.put, List.setIfInBounds_toArray, List.set_cons_zero, List.set_cons_succ]
  refine anyT_put 6 17 ?rv6 #[true, true, true, true, true, true, true, false, false, false, false, false, false] rfl rfl rfl (by kernel_rfl) (by kernel_rfl) (by kernel_rfl) (fun _ _ _ h => h) (by decide) ?ry6 (fun _ => ⟨(B15.out.go hb0r1).c0, (B15.out.go hb0r1).c1, (B15.out.go hb0r1).c2, (hb0r1.cell (p := ⟨b1, o1, none⟩) (Nat.lt_of_lt_of_le hqr1 hb17.out.size)).trans hsr1⟩) ?rm6
  case ry6 => first | exact Or.inl ⟨by rfl, by intro w'; go_simp; first | done | rfl⟩
  case rm6 =>
  simp only [Act.put, List.setIfInBounds_toArray, List.set_cons_zero, List.set_cons_succ]
  refine anyT_take 7 18 ?rv7 #[true, true, true, true, true, true, true, true, false, false, false, false, false] rfl rfl rfl (by kernel_rfl) (by kernel_rfl) (by kernel_rfl) (fun _ _ _ h => h) (by kernel_rfl) (by decide) (by kernel_rfl) ?ry7 (⟨(B15.out.go hb0r1).c0, (B15.out.go hb0r1).c1, (B15.out.go hb0r1).c2, (hb0r1.cell (p := ⟨b1, o1, none⟩) (Nat.lt_of_lt_of_le hqr1 hb17.out.size)).trans hsr1⟩) ?rm7
  case ry7 => first | exact Or.inl ⟨by rfl, by intro w' hw'; (try dsimp only at hw'); go_simp; first | done | rfl⟩
  case rm7 =>
  simp only [Act.put, List.setIfInBounds_toArray, List.set_cons_zero, List.set_cons_succ]
  refine anyT_put 8 19 ?rv8 #[true, true, true, true, true, true, true, true, true, false, false, false, false] rfl rfl rfl (by kernel_rfl) (by kernel_rfl) (by kernel_rfl) (fun _ _ _ h => h) (by decide) ?ry8 (fun _ => ⟨(B15.out.go hb0r1).c0, (B15.out.go hb0r1).c1, (B15.out.go hb0r1).c2, (hb0r1.cell (p := ⟨b1, o1, none⟩) (Nat.lt_of_lt_of_le hqr1 hb17.out.size)).trans hsr1⟩) ?rm8
  case ry8 => first | exact Or.inl ⟨by rfl, by intro w'; go_simp; first | done | rfl⟩
  case rm8 =>
  simp only [Act.put, List.setIfInBounds_toArray, List.set_cons_zero, List.set_cons_succ]
  refine anyT_take 9 20 ?rv9 #[true, true, true, true, true, true, true, true, true, true, false, false, false] rfl rfl rfl (by kernel_rfl) (by kernel_rfl) (by kernel_rfl) (fun _ _ _ h => h) (by kernel_rfl) (by decide) (by kernel_rfl) ?ry9 (⟨(B15.out.go hb0r1).c0, (B15.out.go hb0r1).c1, (B15.out.go hb0r1).c2, (hb0r1.cell (p := ⟨b1, o1, none⟩) (Nat.lt_of_lt_of_le hqr1 hb17.out.size)).trans hsr1⟩) ?rm9
  case ry9 => first | exact Or.inl ⟨by rfl, by intro w' hw'; (try dsimp only at hw'); go_simp; first | done | rfl⟩
  case rm9 =>
  simp only [Act.put, List.setIfInBounds_toArray, List.set_cons_zero, List.set_cons_succ]
  refine anyT_one 10 #[true, true, true, true, true, true, true, true, true, true, true, false, false] (by kernel_rfl) rfl rfl (fun K hK => ?_)
  go_simp
  go_wp2_with (go_at_call 15; refine (adjug_ref n hn N HN.out.1 da1 dc1 dz1 HN.out.2 _ ((HI1.out.2.1.below (hb17.out.trans (hb0r1.mono hb17.out.size))).mono (hb17.out.trans (hb0r1.mono hb17.out.size)).size).1).mono ?_; rintro e y1r1 ⟨gr, gc, rfl, hGr, hBy1r1⟩)
  have hby1r1 : Below wo13.heap.size wo13 y1r1 := hb0r1.trans (hBy1r1.mono hb0r1.size)
  refine hK.out _ _ (fun _ => ⟨(B15.out.go hby1r1).c0, (B15.out.go hby1r1).c1, (B15.out.go hby1r1).c2, (hby1r1.cell (p := ⟨b1, o1, none⟩) (Nat.lt_of_lt_of_le hqr1 hb17.out.size)).trans hsr1⟩) ?_
  clear hK K
  refine anyT_one 11 #[true, true, true, true, true, true, true, true, true, true, true, true, false] (by kernel_rfl) rfl rfl (fun K hK => ?_)
  go_simp
  go_wp2_with (go_at_call 14; refine (sqr_any n gr N gc _).mono ?_; rintro e y2r1 ⟨xsr1, rfl, hSr1, hBy2r1⟩)
  have hby2r1 : Below wo13.heap.size wo13 y2r1 := hby1r1.trans (hBy2r1.mono hby1r1.size)
  have bx := B16.out.go hby2r1
  have f0 := bx.fr 0
  have r0 := bx.c0
  have f1 := bx.fr 1
  have r1 := bx.c1
  have f2 := bx.fr 2
  have r2 := bx.c2
  refine hK.out _ _ (fun _ => ⟨(B15.out.go hby2r1).c0, (B15.out.go hby2r1).c1, (B15.out.go hby2r1).c2, (hby2r1.cell (p := ⟨b1, o1, none⟩) (Nat.lt_of_lt_of_le hqr1 hb17.out.size)).trans hsr1⟩) ?_
  clear hK K
  refine anyT_one 12 #[true, true, true, true, true, true, true, true, true, true, true, true, true] (by kernel_rfl) rfl rfl (fun K hK => ?_)
  go_simp
  refine hK.out _ _ (fun h => absurd h (by decide)) ?_
  clear hK K
  refine anyT_done (by kernel_rfl) ?_
  obtain ⟨wr1, HWr1⟩ : ∃ x, Hid (x = (((y2r1.setCell ⟨v1.heap.size, 0, none⟩ (.bool false)).setCell ⟨v1.heap.size, 1, none⟩ (.slice xsr1 2 2)).setCell ⟨v1.heap.size, 2, none⟩ (.slice gr N gc))) := ⟨_, rfl⟩
  rw [← HWr1.out]
  have hltr1 : v1.heap.size < wo13.heap.size := B16.out.lt
  have zz1r1 : wo13.heap.size ≤ y1r1.heap.size := hBy1r1.size
  have zz2r1 : y1r1.heap.size ≤ y2r1.heap.size := hBy2r1.size
  have zdr1 : wo13.drew.heap.size = wo13.heap.size := rfl
  have B1r1 : Hid (Abx wr1 (w.heap.size) (.bool false) (.slice (some ⟨b1, o1, none⟩) 2 sc1) (.slice da1 N dc1)) := by rw [HWr1.out]; exact abx_o3 (B15.out.go hby2r1) (B := v1.heap.size) (by omega) (.bool false) (.slice xsr1 2 2) (.slice gr N gc)
  have B2r1 : Hid (Abx wr1 (v1.heap.size) (.bool false) (.slice xsr1 2 2) (.slice gr N gc)) := by rw [HWr1.out]; exact bx.set3 (.bool false) (.slice xsr1 2 2) (.slice gr N gc)
  have L1r1 : Hid (MidC (y1r1.heap.size) (y2r1.heap.size) wr1 (xsr1) [(n : Int), (n : Int)] 2) := by rw [HWr1.out]; exact (hSr1.midc).s3 (b := v1.heap.size) (by omega) (.bool false) (.slice xsr1 2 2) (.slice gr N gc)
  have L2r1 : Hid (MidC (wo13.heap.size) (y1r1.heap.size) wr1 (gr) (cls n (ajg n (rdg n dz1))) (gc)) := by rw [HWr1.out]; exact ((hGr.midc).go (by omega) hBy2r1).s3 (b := v1.heap.size) (by omega) (.bool false) (.slice xsr1 2 2) (.slice gr N gc)
  have hbr1 : Hid (Below w.heap.size w wr1) := by rw [HWr1.out]; exact bel_s3 (hb17.out.trans (hby2r1.mono hb17.out.size)) (B := v1.heap.size) (by omega) (.bool false) (.slice xsr1 2 2) (.slice gr N gc)
  have zwr1 : y2r1.heap.size ≤ wr1.heap.size := by rw [HWr1.out]; simp
  clear zdr1 HWr1 B15 B16 hb17 bx f0 f1 f2 r0 r1 r2
  have l18 := (B1r1.out).c0
  have l19 := (B1r1.out).c1
  have l20 := (B1r1.out).c2
  go_wp2_with fail
  clear l18 l19 l20
  refine (madj_ok n hn (some ⟨b1, o1, none⟩) sc1 da1 dc1 dz1 N HN.out.2 HL1.out _ ((HI1.out.1.below hbr1.out).mono hbr1.out.size).1 ((HI1.out.2.1.below hbr1.out).mono hbr1.out.size).1).mono ?_
  rintro e v2 ⟨xa3, xc3, ya3, yc3, rfl, hX3, hY3, hB⟩
  have z21 : wr1.heap.size ≤ v2.heap.size := hB.size
  have B22 : Hid (Abx v2 (w.heap.size) (.bool false) (.slice (some ⟨b1, o1, none⟩) 2 sc1) (.slice da1 N dc1)) := B1r1.out.go hB
  have B23 : Hid (Abx v2 (v1.heap.size) (.bool false) (.slice xsr1 2 2) (.slice gr N gc)) := B2r1.out.go hB
  have L24 : Hid (MidC (y1r1.heap.size) (y2r1.heap.size) v2 (xsr1) ([(n : Int), (n : Int)]) (2)) := L1r1.out.go (by omega) hB
  have L25 : Hid (MidC (wo13.heap.size) (y1r1.heap.size) v2 (gr) (cls n (ajg n (rdg n dz1))) (gc)) := L2r1.out.go (by omega) hB
  have hb26 : Hid (Below w.heap.size w v2) := hbr1.out.trans (hB.mono hbr1.out.size)
  have L27 : Hid (MidC (wr1.heap.size) (v2.heap.size) v2 (xa3) ([(n : Int), (n : Int)]) (xc3)) := hX3.midc
  have L28 : Hid (MidC (wr1.heap.size) (v2.heap.size) v2 (ya3) (cls n (ajg n (rdg n dz1))) (yc3)) := hY3.midc
  clear hB hbr1 B1r1 B2r1 L1r1 L2r1 hX3 hY3
  rw [HLp.out]
  have n29 := Abx.new v2 (.bool false) (.slice (xa3) 2 (xc3)) (.slice (ya3) (N) (yc3))
  have l30 := (n29).c0
  have l31 := (n29).c1
  have l32 := (n29).c2
  have l33 := ((B23.out.al (.cells #[.bool false, .slice (xa3) 2 (xc3), .slice (ya3) (N) (yc3)] 24))).c0
  have l34 := ((B23.out.al (.cells #[.bool false, .slice (xa3) 2 (xc3), .slice (ya3) (N) (yc3)] 24))).c1
  have l35 := ((B23.out.al (.cells #[.bool false, .slice (xa3) 2 (xc3), .slice (ya3) (N) (yc3)] 24))).c2
  go_wp2_with fail
  obtain ⟨wo36, hwo36⟩ : ∃ wo36, wo36 = (v2.alloc (.cells #[.bool false, .slice (xa3) 2 (xc3), .slice (ya3) (N) (yc3)] 24)) := ⟨_, rfl⟩
  rw [← hwo36]
  have z37 : v2.heap.size + 1 ≤ wo36.heap.size := by rw [hwo36]; simp only [World.size_alloc]; omega
  have B38 : Hid (Abx wo36 (w.heap.size) (.bool false) (.slice (some ⟨b1, o1, none⟩) 2 sc1) (.slice da1 N dc1)) := by rw [hwo36]; exact (B22.out.al (.cells #[.bool false, .slice (xa3) 2 (xc3), .slice (ya3) (N) (yc3)] 24))
  have B39 : Hid (Abx wo36 (v1.heap.size) (.bool false) (.slice xsr1 2 2) (.slice gr N gc)) := by rw [hwo36]; exact (B23.out.al (.cells #[.bool false, .slice (xa3) 2 (xc3), .slice (ya3) (N) (yc3)] 24))
  have B40 : Hid (Abx wo36 (v2.heap.size) (.bool false) (.slice (xa3) 2 (xc3)) (.slice (ya3) (N) (yc3))) := by rw [hwo36]; exact n29
  have L41 : Hid (MidC (y1r1.heap.size) (y2r1.heap.size) wo36 (xsr1) ([(n : Int), (n : Int)]) (2)) := by rw [hwo36]; exact (L24.out.al (by omega) (.cells #[.bool false, .slice (xa3) 2 (xc3), .slice (ya3) (N) (yc3)] 24))
  have L42 : Hid (MidC (wo13.heap.size) (y1r1.heap.size) wo36 (gr) (cls n (ajg n (rdg n dz1))) (gc)) := by rw [hwo36]; exact (L25.out.al (by omega) (.cells #[.bool false, .slice (xa3) 2 (xc3), .slice (ya3) (N) (yc3)] 24))
  have L43 : Hid (MidC (wr1.heap.size) (v2.heap.size) wo36 (xa3) ([(n : Int), (n : Int)]) (xc3)) := by rw [hwo36]; exact (L27.out.al (by omega) (.cells #[.bool false, .slice (xa3) 2 (xc3), .slice (ya3) (N) (yc3)] 24))
  have L44 : Hid (MidC (wr1.heap.size) (v2.heap.size) wo36 (ya3) (cls n (ajg n (rdg n dz1))) (yc3)) := by rw [hwo36]; exact (L28.out.al (by omega) (.cells #[.bool false, .slice (xa3) 2 (xc3), .slice (ya3) (N) (yc3)] 24))
  have hb45 : Hid (Below w.heap.size w wo36) := by rw [hwo36]; exact (hb26.out.alloc (by omega) (.cells #[.bool false, .slice (xa3) 2 (xc3), .slice (ya3) (N) (yc3)] 24))
  have zwo36 : w.heap.size ≤ wo36.heap.size := hb45.out.size
  clear hwo36 n29 l30 l31 l32 l33 l34 l35 hb26 B22 B23 L24 L25 L27 L28
  refine (is_ok14 n N (cls n (ajg n (rdg n dz1))) HLp.out N36 (xa3) (xc3) (ya3) (yc3) (xsr1) 2 (gr) (gc) _ (HG.out.go hb45.out) (L43.out.is (by omega)).1 (L44.out.is (by omega)).1 (L41.out.is (by omega)).1 (L42.out.is (by omega)).1).mono ?_
  rintro e v3 ⟨rfl, hB⟩
  have z46 : wo36.heap.size ≤ v3.heap.size := hB.size
  have B47 : Hid (Abx v3 (w.heap.size) (.bool false) (.slice (some ⟨b1, o1, none⟩) 2 sc1) (.slice da1 N dc1)) := B38.out.go hB
  have B48 : Hid (Abx v3 (v1.heap.size) (.bool false) (.slice xsr1 2 2) (.slice gr N gc)) := B39.out.go hB
  have B49 : Hid (Abx v3 (v2.heap.size) (.bool false) (.slice (xa3) 2 (xc3)) (.slice (ya3) (N) (yc3))) := B40.out.go hB
  have L50 : Hid (MidC (y1r1.heap.size) (y2r1.heap.size) v3 (xsr1) ([(n : Int), (n : Int)]) (2)) := L41.out.go (by omega) hB
  have L51 : Hid (MidC (wo13.heap.size) (y1r1.heap.size) v3 (gr) (cls n (ajg n (rdg n dz1))) (gc)) := L42.out.go (by omega) hB
  have L52 : Hid (MidC (wr1.heap.size) (v2.heap.size) v3 (xa3) ([(n : Int), (n : Int)]) (xc3)) := L43.out.go (by omega) hB
  have L53 : Hid (MidC (wr1.heap.size) (v2.heap.size) v3 (ya3) (cls n (ajg n (rdg n dz1))) (yc3)) := L44.out.go (by omega) hB
  have hb54 : Hid (Below w.heap.size w v3) := hb45.out.trans (hB.mono hb45.out.size)
  clear hB hb45 B38 B39 B40 L41 L42 L43 L44
  go_wp2_with fail
  go_ret
  exact ⟨rfl, hb54.out⟩
theorem madjs_walk (c1 : Bool) (sa1 : Option Addr) (sc1 : Nat) (sz1 : List Int) (da1 : Option Addr) (dc1 : Nat) (dz1 : List Int) (w : World) (hg : HasErr w) (w8 : IsArrD w sa1 sz1 sc1 da1 dz1 dc1) :
    Calls Tryd.prog 4 #[.agg #[.bool c1, .slice sa1 sz1.length sc1, .slice da1 dz1.length dc1]] w fun e w' => e = .returned (.bool true) ∧ Below w.heap.size w w' := by
  by_cases h1 : mxE c1 sz1 dz1 = 0
  · obtain ⟨n, hn, rfl, hl1, rfl⟩ := mx_is h1
    obtain ⟨b1, o1, rfl⟩ := opn14 w8.2.2.1
    exact adjs_ok n hn b1 o1 sc1 da1 dc1 dz1 hl1 w ⟨w8.2.2.1, w8.2.2.2.1, w8.2.2.2.2.2⟩ hg
  · exact adjs_no c1 sa1 sc1 sz1 da1 dc1 dz1 w hg w8 h1
end Go.Proofs.YtjaabemlpiafaaaDoor
