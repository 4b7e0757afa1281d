/-
  The walk of the statement MatrixDets, given what the program tells.
-/
import Derived.Test.YtjaabemlpiafaaaDoorRsq
import Derived.Test.YtjaabemlpiafaaaDoorRch
import Derived.Test.YtjaabemlpiafaaaDoorMidc
import Derived.Test.YtjaabemlpiafaaaDoorMta
import Derived.Test.YtjaabemlpiafaaaDoorCutq
namespace Go.Proofs.YtjaabemlpiafaaaDoor
open Go.RowKit
set_option linter.unusedVariables false

theorem shp14 {w v : World} {b o n sc : Nat} (h : IsC w.heap.size w (some ⟨b, o, none⟩) [(n : Int), (n : Int)] sc) (hB : Below w.heap.size w v) : b < w.heap.size ∧ v.cell? ⟨b, o, none⟩ = some (.int .i64 (n : Int)) := by
  obtain ⟨b', o', e, hb, hc⟩ := (h.1.below hB).at (q := 0) (by simp)
  cases e
  have h0 := hc 0 (by simp)
  rw [Nat.add_zero] at h0
  exact ⟨hb, h0⟩
theorem opn14 {w : World} {sa : Option Addr} {n sc : Nat} (h : IsC w.heap.size w sa [(n : Int), (n : Int)] sc) : ∃ b o, sa = some ⟨b, o, none⟩ := by
  obtain ⟨b, o, e, _, _⟩ := h.1.at (q := 0) (by simp)
  exact ⟨b, o, e⟩
set_option maxRecDepth 100000 in
set_option maxHeartbeats 2000000 in
theorem dets_no (c1 : Bool) (sa1 : Option Addr) (sc1 : Nat) (sz1 : List Int) (da1 : Option Addr) (dc1 : Nat) (dz1 : List Int) (w : World) (hg : HasErr w) (w8 : IsArrD w sa1 sz1 sc1 da1 dz1 dc1) (h0 : mxE c1 sz1 dz1 ≠ 0) :
    Calls Tryd.prog 3 #[.agg #[.bool c1, .slice sa1 sz1.length sc1, .slice da1 dz1.length dc1]] w fun e w' => e = .returned (.bool true) ∧ Below w.heap.size w w' := by
  have HI1 : Hid (IsC w.heap.size w sa1 sz1 sc1 ∧ IsC w.heap.size w da1 dz1 dc1) := ⟨w8.2.2.1, w8.2.2.2.1⟩
  have HG : Hid (HasErr w) := hg
  obtain ⟨E, hE⟩ : ∃ E, mxE c1 sz1 dz1 = E := ⟨_, rfl⟩
  have HE : Hid (mxE c1 sz1 dz1 = E) := hE
  have HNe : Hid (mxE c1 sz1 dz1 ≠ 0) := h0
  have tE : (E == 0) = false := by rw [← hE]; simpa using h0
  clear hE h0 hg
  have n1 := Abx.new w (.bool c1) (.slice sa1 sz1.length sc1) (.slice da1 dz1.length dc1)
  have l2 := (n1).c0
  have l3 := (n1).c1
  have l4 := (n1).c2
  go_enter Tryd.func3, Tryd.ntmps3
  go_wp2_with fail
  obtain ⟨wo5, hwo5⟩ : ∃ wo5, wo5 = (w.alloc (.cells #[.bool c1, .slice sa1 sz1.length sc1, .slice da1 dz1.length dc1] 24)) := ⟨_, rfl⟩
  rw [← hwo5]
  have z6 : w.heap.size + 1 ≤ wo5.heap.size := by rw [hwo5]; simp only [World.size_alloc]; omega
  have B7 : Hid (Abx wo5 (w.heap.size) (.bool c1) (.slice sa1 sz1.length sc1) (.slice da1 dz1.length dc1)) := by rw [hwo5]; exact n1
  have hb8 : Hid (Below w.heap.size w wo5) := by rw [hwo5]; exact ((Below.refl w.heap.size w).alloc (by omega) (.cells #[.bool c1, .slice sa1 sz1.length sc1, .slice da1 dz1.length dc1] 24))
  have zwo5 : w.heap.size ≤ wo5.heap.size := hb8.out.size
  clear hwo5 n1 l2 l3 l4
  refine (sfault_no c1 sa1 sc1 sz1 da1 dc1 dz1 E HE.out _ w8.1 w8.2.1 ((HI1.out.1.below hb8.out).mono hb8.out.size).1 ((HI1.out.2.below hb8.out).mono hb8.out.size).1).mono ?_
  rintro e v1 ⟨rfl, hB⟩
  have z9 : wo5.heap.size ≤ v1.heap.size := hB.size
  have B10 : Hid (Abx v1 (w.heap.size) (.bool c1) (.slice sa1 sz1.length sc1) (.slice da1 dz1.length dc1)) := B7.out.go hB
  have hb11 : Hid (Below w.heap.size w v1) := hb8.out.trans (hB.mono hb8.out.size)
  clear hB hb8 B7
  have l12 := (B10.out).c0
  have l13 := (B10.out).c1
  have l14 := (B10.out).c2
  go_wp2_with fail
  clear l12 l13 l14
  refine (mdet_no c1 sa1 sc1 sz1 da1 dc1 dz1 _ w8.1 w8.2.1 ((HI1.out.1.below hb11.out).mono hb11.out.size).1 ((HI1.out.2.below hb11.out).mono hb11.out.size).1 HNe.out).mono ?_
  rintro e v2 ⟨rfl, hB⟩
  have z15 : v1.heap.size ≤ v2.heap.size := hB.size
  have B16 : Hid (Abx v2 (w.heap.size) (.bool c1) (.slice sa1 sz1.length sc1) (.slice da1 dz1.length dc1)) := B10.out.go hB
  have hb17 : Hid (Below w.heap.size w v2) := hb11.out.trans (hB.mono hb11.out.size)
  clear hB hb11 B10
  rw [HE.out]
  go_wp2_with fail
  refine (err_no14 E (by rw [← HE.out]; exact HNe.out) _ (HG.out.go hb17.out)).mono ?_
  rintro e v3 ⟨rfl, hB⟩
  have z18 : v2.heap.size ≤ v3.heap.size := hB.size
  have B19 : Hid (Abx v3 (w.heap.size) (.bool c1) (.slice sa1 sz1.length sc1) (.slice da1 dz1.length dc1)) := B16.out.go hB
  have hb20 : Hid (Below w.heap.size w v3) := hb17.out.trans (hB.mono hb17.out.size)
  clear hB hb17 B16
  have l21 := (B19.out).c0
  have l22 := (B19.out).c1
  have l23 := (B19.out).c2
  go_wp2_with fail
  clear l21 l22 l23
  refine (mchr_no c1 sa1 sc1 sz1 da1 dc1 dz1 _ w8.1 w8.2.1 ((HI1.out.1.below hb20.out).mono hb20.out.size).1 ((HI1.out.2.below hb20.out).mono hb20.out.size).1 HNe.out).mono ?_
  rintro e v4 ⟨rfl, hB⟩
  have z24 : v3.heap.size ≤ v4.heap.size := hB.size
  have B25 : Hid (Abx v4 (w.heap.size) (.bool c1) (.slice sa1 sz1.length sc1) (.slice da1 dz1.length dc1)) := B19.out.go hB
  have hb26 : Hid (Below w.heap.size w v4) := hb20.out.trans (hB.mono hb20.out.size)
  clear hB hb20 B19
  rw [HE.out]
  go_wp2_with fail
  refine (ints_no14 E (by rw [← HE.out]; exact HNe.out) _ (HG.out.go hb26.out)).mono ?_
  rintro e v5 ⟨rfl, hB⟩
  have z27 : v4.heap.size ≤ v5.heap.size := hB.size
  have B28 : Hid (Abx v5 (w.heap.size) (.bool c1) (.slice sa1 sz1.length sc1) (.slice da1 dz1.length dc1)) := B25.out.go hB
  have hb29 : Hid (Below w.heap.size w v5) := hb26.out.trans (hB.mono hb26.out.size)
  clear hB hb26 B25
  go_wp2_with fail
  go_ret
  exact ⟨rfl, hb29.out⟩
theorem mchr_m14 (n : Nat) (hn : n ≤ 6) (sa : Option Addr) (sc : Nat) (da : Option Addr) (dc : Nat) (dz : List Int) (m : Nat) (hm : dz.length = m) (hl : dz.length = n * n) (M : Nat) (hM : M = n + 1) (w : World) (hs : IsInts w.heap.size w sa [(n : Int), (n : Int)]) (hd : IsInts w.heap.size w da dz) :
    Calls Tryd.prog 12 #[.agg #[.bool false, .slice sa 2 sc, .slice da m dc]] w fun e w' => ∃ xa, e = .returned (.tuple #[.slice xa M M, .nilIface]) ∧ NewC w.heap.size w' xa (chR n (rdg n dz)) M ∧ Below w.heap.size w w' := by
  subst hM
  exact mchr_ok n hn sa sc da dc dz m hm hl w hs hd
set_option maxRecDepth 100000 in
set_option maxHeartbeats 2000000 in
theorem dets_ok (n : Nat) (hn : n ≤ 6) (b1 o1 sc1 : Nat) (da1 : Option Addr) (dc1 : Nat) (dz1 : List Int) (HL1 : Hid (dz1.length = n * n)) (w : World) (HI1 : Hid (IsC w.heap.size w (some ⟨b1, o1, none⟩) [(n : Int), (n : Int)] sc1 ∧ IsC w.heap.size w da1 dz1 dc1 ∧ ∀ j, In64 (nth dz1 j))) (hg : HasErr w) :
    Calls Tryd.prog 3 #[.agg #[.bool false, .slice (some ⟨b1, o1, none⟩) 2 sc1, .slice da1 dz1.length dc1]] w fun e w' => e = .returned (.bool true) ∧ Below w.heap.size w w' := by
  have HG : Hid (HasErr w) := hg
  obtain ⟨N, hN⟩ : ∃ N, N = n * n := ⟨_, rfl⟩
  have N36 : N ≤ 36 := by have : n * n ≤ 6 * 6 := Nat.mul_le_mul hn hn; omega
  have HN : Hid (N = n * n ∧ dz1.length = N) := ⟨hN, by rw [HL1.out, hN]⟩
  clear hN
  obtain ⟨d, hd⟩ : ∃ d, wrap64 (dt n (rdg n dz1)) = d := ⟨_, rfl⟩
  have HDt : Hid (∀ v, IsInts v.heap.size v da1 dz1 → Calls Tryd.prog 8 #[.int .i64 (n : Nat), .slice da1 N dc1] v fun e w' => e = .returned (.int .i64 d) ∧ Below v.heap.size v w') := fun v hv => by
    rw [← hd]
    exact det_ref n hn N HN.out.1 da1 dc1 dz1 HN.out.2 v hv
  have HD : Hid (wrap64 (dt n (rdg n dz1)) = d) := hd
  clear hd
  obtain ⟨M1, hM1⟩ : ∃ M, M = n + 1 := ⟨_, rfl⟩
  have HM1 : Hid (M1 = n + 1) := hM1
  have M7 : M1 ≤ 7 := by omega
  clear hM1
  have HCh : Hid (∀ v, IsInts v.heap.size v da1 dz1 → Calls Tryd.prog 9 #[.int .i64 (n : Nat), .slice da1 N dc1] v (LnC (chR n (rdg n dz1)) M1 v)) := fun v hv => by
    rw [HM1.out]
    exact chara_ref n hn N HN.out.1 da1 dc1 dz1 HN.out.2 v hv
  clear hg
  rw [HN.out.2]
  have n1 := Abx.new w (.bool false) (.slice (some ⟨b1, o1, none⟩) 2 sc1) (.slice da1 N dc1)
  have l2 := (n1).c0
  have l3 := (n1).c1
  have l4 := (n1).c2
  go_enter Tryd.func3, Tryd.ntmps3
  go_wp2_with fail
  obtain ⟨wo5, hwo5⟩ : ∃ wo5, wo5 = (w.alloc (.cells #[.bool false, .slice (some ⟨b1, o1, none⟩) 2 sc1, .slice da1 N dc1] 24)) := ⟨_, rfl⟩
  rw [← hwo5]
  have z6 : w.heap.size + 1 ≤ wo5.heap.size := by rw [hwo5]; simp only [World.size_alloc]; omega
  have B7 : Hid (Abx wo5 (w.heap.size) (.bool false) (.slice (some ⟨b1, o1, none⟩) 2 sc1) (.slice da1 N dc1)) := by rw [hwo5]; exact n1
  have hb8 : Hid (Below w.heap.size w wo5) := by rw [hwo5]; exact ((Below.refl w.heap.size w).alloc (by omega) (.cells #[.bool false, .slice (some ⟨b1, o1, none⟩) 2 sc1, .slice da1 N dc1] 24))
  have zwo5 : w.heap.size ≤ wo5.heap.size := hb8.out.size
  clear hwo5 n1 l2 l3 l4
  refine (sfault_ok n hn (some ⟨b1, o1, none⟩) sc1 da1 dc1 dz1 N HN.out.2 HL1.out _ ((HI1.out.1.below hb8.out).mono hb8.out.size).1 ((HI1.out.2.1.below hb8.out).mono hb8.out.size).1).mono ?_
  rintro e v1 ⟨rfl, hB⟩
  have z9 : wo5.heap.size ≤ v1.heap.size := hB.size
  have B10 : Hid (Abx v1 (w.heap.size) (.bool false) (.slice (some ⟨b1, o1, none⟩) 2 sc1) (.slice da1 N dc1)) := B7.out.go hB
  have hb11 : Hid (Below w.heap.size w v1) := hb8.out.trans (hB.mono hb8.out.size)
  clear hB hb8 B7
  go_wp2_with fail
  obtain ⟨hqr11, hsr11⟩ : b1 < w.heap.size ∧ v1.cell? ⟨b1, o1, none⟩ = some (.int .i64 (n : Int)) := shp14 HI1.out.1 hb11.out
  have hb0r1 : Below v1.heap.size v1 v1.drew := (Below.refl _ v1).drew
  refine anyC_begin (fun w' => w'.cell? ⟨w.heap.size, 0, none⟩ = some (.bool false) ∧ w'.cell? ⟨w.heap.size, 1, none⟩ = some (.slice (some ⟨b1, o1, none⟩) 2 sc1) ∧ w'.cell? ⟨w.heap.size, 2, none⟩ = some (.slice da1 N dc1) ∧ w'.cell? ⟨b1, o1, none⟩ = some (.int .i64 (n : Int))) 8 #[false, false, false, false, false, false, false, false] (by kernel_rfl) rfl rfl ?_
  refine anyC_put 0 15 ?rv0 #[true, false, false, false, false, false, false, false] rfl rfl rfl (by kernel_rfl) (by kernel_rfl) (by kernel_rfl) (fun _ _ _ h => h) ?ry0 (⟨(B10.out.go hb0r1).c0, (B10.out.go hb0r1).c1, (B10.out.go hb0r1).c2, (hb0r1.cell (p := ⟨b1, o1, none⟩) (Nat.lt_of_lt_of_le hqr11 hb11.out.size)).trans hsr11⟩) ?rm0
  case ry0 => first | exact Or.inl ⟨by rfl, by intro w'; go_simp; first | done | rfl⟩
  case rm0 =>
  simp only [Act.put, List.setIfInBounds_toArray, List.set_cons_zero, List.set_cons_succ]
  refine anyC_take 1 16 ?rv1 #[true, true, false, false, false, false, false, false] rfl rfl rfl (by kernel_rfl) (by kernel_rfl) (by kernel_rfl) (fun _ _ _ h => h) ?ry1 (⟨(B10.out.go hb0r1).c0, (B10.out.go hb0r1).c1, (B10.out.go hb0r1).c2, (hb0r1.cell (p := ⟨b1, o1, none⟩) (Nat.lt_of_lt_of_le hqr11 hb11.out.size)).trans hsr11⟩) ?rm1
  case ry1 => first | exact Or.inl ⟨by rfl, by intro w' hw'; (try dsimp only at hw'); go_simp; first | done | rfl⟩
  case rm1 =>
  simp only [Act.put, List.setIfInBounds_toArray, List.set_cons_zero, List.set_cons_succ]
  refine anyC_put 2 17 ?rv2 #[true, true, true, false, false, false, false, false] rfl rfl rfl (by kernel_rfl) (by kernel_rfl) (by kernel_rfl) (fun _ _ _ h => h) ?ry2 (⟨(B10.out.go hb0r1).c0, (B10.out.go hb0r1).c1, (B10.out.go hb0r1).c2, (hb0r1.cell (p := ⟨b1, o1, none⟩) (Nat.lt_of_lt_of_le hqr11 hb11.out.size)).trans hsr11⟩) ?rm2
  case ry2 => first | exact Or.inl ⟨by rfl, by intro w'; go_simp; first | done | rfl⟩
  case rm2 =>
  simp only [Act.put, List.setIfInBounds_toArray, List.set_cons_zero, List.set_cons_succ]
  refine anyC_take 3 18 ?rv3 #[true, true, true, true, false, false, false, false] rfl rfl rfl (by kernel_rfl) (by kernel_rfl) (by kernel_rfl) (fun _ _ _ h => h) ?ry3 (⟨(B10.out.go hb0r1).c0, (B10.out.go hb0r1).c1, (B10.out.go hb0r1).c2, (hb0r1.cell (p := ⟨b1, o1, none⟩) (Nat.lt_of_lt_of_le hqr11 hb11.out.size)).trans hsr11⟩) ?rm3
  case ry3 => first | exact Or.inl ⟨by rfl, by intro w' hw'; (try dsimp only at hw'); go_simp; first | done | rfl⟩
  case rm3 =>
  simp only [Act.put, List.setIfInBounds_toArray, List.set_cons_zero, List.set_cons_succ]
  refine anyC_put 4 19 ?rv4 #[true, true, true, true, true, false, false, false] rfl rfl rfl (by kernel_rfl) (by kernel_rfl) (by kernel_rfl) (fun _ _ _ h => h) ?ry4 (⟨(B10.out.go hb0r1).c0, (B10.out.go hb0r1).c1, (B10.out.go hb0r1).c2, (hb0r1.cell (p := ⟨b1, o1, none⟩) (Nat.lt_of_lt_of_le hqr11 hb11.out.size)).trans hsr11⟩) ?rm4
  case ry4 => first | exact Or.inl ⟨by rfl, by intro w'; go_simp; first | done | rfl⟩
  case rm4 =>
  simp only [Act.put, List.setIfInBounds_toArray, List.set_cons_zero, List.set_cons_succ]
  refine anyC_take 5 20 ?rv5 #[true, true, true, true, true, true, false, false] rfl rfl rfl (by kernel_rfl) (by kernel_rfl) (by kernel_rfl) (fun _ _ _ h => h) ?ry5 (⟨(B10.out.go hb0r1).c0, (B10.out.go hb0r1).c1, (B10.out.go hb0r1).c2, (hb0r1.cell (p := ⟨b1, o1, none⟩) (Nat.lt_of_lt_of_le hqr11 hb11.out.size)).trans hsr11⟩) ?rm5
  case ry5 => first | exact Or.inl ⟨by rfl, by intro w' hw'; (try dsimp only at hw'); go_simp; first | done | rfl⟩
  case rm5 =>
  simp only [Act.put, List.setIfInBounds_toArray, List.set_cons_zero, List.set_cons_succ]
  refine anyC_one 6 #[true, true, true, true, true, true, true, false] (by kernel_rfl) rfl rfl (fun K hK => ?_)
  go_simp
  go_wp2_with (go_at_call 8; refine (HDt.out _ ((HI1.out.2.1.below (hb11.out.trans (hb0r1.mono hb11.out.size))).mono (hb11.out.trans (hb0r1.mono hb11.out.size)).size).1).mono ?_; rintro e y1r1 ⟨rfl, hBy1r1⟩)
  have hby1r1 : Below v1.heap.size v1 y1r1 := hb0r1.trans (hBy1r1.mono hb0r1.size)
  refine hK.out _ _ (⟨(B10.out.go hby1r1).c0, (B10.out.go hby1r1).c1, (B10.out.go hby1r1).c2, (hby1r1.cell (p := ⟨b1, o1, none⟩) (Nat.lt_of_lt_of_le hqr11 hb11.out.size)).trans hsr11⟩) ?_
  clear hK K
  refine anyC_put 7 4 ?rv7 #[true, true, true, true, true, true, true, true] rfl rfl rfl (by kernel_rfl) (by kernel_rfl) (by kernel_rfl) (fun _ _ _ h => h) ?ry7 (⟨(B10.out.go hby1r1).c0, (B10.out.go hby1r1).c1, (B10.out.go hby1r1).c2, (hby1r1.cell (p := ⟨b1, o1, none⟩) (Nat.lt_of_lt_of_le hqr11 hb11.out.size)).trans hsr11⟩) ?rm7
  case ry7 => first | exact Or.inl ⟨by rfl, by intro w'; go_simp; first | done | rfl⟩
  case rm7 =>
  simp only [Act.put, List.setIfInBounds_toArray, List.set_cons_zero, List.set_cons_succ]
  refine anyC_done (by kernel_rfl) ?_
  have hB := hby1r1
  have z12 : v1.heap.size ≤ y1r1.heap.size := hB.size
  have B13 : Hid (Abx y1r1 (w.heap.size) (.bool false) (.slice (some ⟨b1, o1, none⟩) 2 sc1) (.slice da1 N dc1)) := B10.out.go hB
  have hb14 : Hid (Below w.heap.size w y1r1) := hb11.out.trans (hB.mono hb11.out.size)
  clear hB hb11 B10
  go_wp2_with fail
  obtain ⟨hqr21, hsr21⟩ : b1 < w.heap.size ∧ y1r1.cell? ⟨b1, o1, none⟩ = some (.int .i64 (n : Int)) := shp14 HI1.out.1 hb14.out
  have hb0r2 : Below y1r1.heap.size y1r1 y1r1.drew := (Below.refl _ y1r1).drew
  refine anyC_begin (fun w' => w'.cell? ⟨w.heap.size, 0, none⟩ = some (.bool false) ∧ w'.cell? ⟨w.heap.size, 1, none⟩ = some (.slice (some ⟨b1, o1, none⟩) 2 sc1) ∧ w'.cell? ⟨w.heap.size, 2, none⟩ = some (.slice da1 N dc1) ∧ w'.cell? ⟨b1, o1, none⟩ = some (.int .i64 (n : Int))) 8 #[false, false, false, false, false, false, false, false] (by kernel_rfl) rfl rfl ?_
  refine anyC_put 0 22 ?rv8 #[true, false, false, false, false, false, false, false] rfl rfl rfl (by kernel_rfl) (by kernel_rfl) (by kernel_rfl) (fun _ _ _ h => h) ?ry8 (⟨(B13.out.go hb0r2).c0, (B13.out.go hb0r2).c1, (B13.out.go hb0r2).c2, (hb0r2.cell (p := ⟨b1, o1, none⟩) (Nat.lt_of_lt_of_le hqr21 hb14.out.size)).trans hsr21⟩) ?rm8
  case ry8 => first | exact Or.inl ⟨by rfl, by intro w'; go_simp; first | done | rfl⟩
  case rm8 =>
  simp only [Act.put, List.setIfInBounds_toArray, List.set_cons_zero, List.set_cons_succ]
  refine anyC_take 1 23 ?rv9 #[true, true, false, false, false, false, false, false] rfl rfl rfl (by kernel_rfl) (by kernel_rfl) (by kernel_rfl) (fun _ _ _ h => h) ?ry9 (⟨(B13.out.go hb0r2).c0, (B13.out.go hb0r2).c1, (B13.out.go hb0r2).c2, (hb0r2.cell (p := ⟨b1, o1, none⟩) (Nat.lt_of_lt_of_le hqr21 hb14.out.size)).trans hsr21⟩) ?rm9
  case ry9 => first | exact Or.inl ⟨by rfl, by intro w' hw'; (try dsimp only at hw'); go_simp; first | done | rfl⟩
  case rm9 =>
  simp only [Act.put, List.setIfInBounds_toArray, List.set_cons_zero, List.set_cons_succ]
  refine anyC_put 2 24 ?rv10 #[true, true, true, false, false, false, false, false] rfl rfl rfl (by kernel_rfl) (by kernel_rfl) (by kernel_rfl) (fun _ _ _ h => h) ?ry10 (⟨(B13.out.go hb0r2).c0, (B13.out.go hb0r2).c1, (B13.out.go hb0r2).c2, (hb0r2.cell (p := ⟨b1, o1, none⟩) (Nat.lt_of_lt_of_le hqr21 hb14.out.size)).trans hsr21⟩) ?rm10
  case ry10 => first | exact Or.inl ⟨by rfl, by intro w'; go_simp; first | done | rfl⟩
  case rm10 =>
  simp only [Act.put, List.setIfInBounds_toArray, List.set_cons_zero, List.set_cons_succ]
  refine anyC_take 3 25 ?rv11 #[true, true, true, true, false, false, false, false] rfl rfl rfl (by kernel_rfl) (by kernel_rfl) (by kernel_rfl) (fun _ _ _ h => h) ?ry11 (⟨(B13.out.go hb0r2).c0, (B13.out.go hb0r2).c1, (B13.out.go hb0r2).c2, (hb0r2.cell (p := ⟨b1, o1, none⟩) (Nat.lt_of_lt_of_le hqr21 hb14.out.size)).trans hsr21⟩) ?rm11
  case ry11 => first | exact Or.inl ⟨by rfl, by intro w' hw'; (try dsimp only at hw'); go_simp; first | done | rfl⟩
  case rm11 =>
  simp only [Act.put, List.setIfInBounds_toArray, List.set_cons_zero, List.set_cons_succ]
  refine anyC_put 4 26 ?rv12 #[true, true, true, true, true, false, false, false] rfl rfl rfl (by kernel_rfl) (by kernel_rfl) (by kernel_rfl) (fun _ _ _ h => h) ?ry12 (⟨(B13.out.go hb0r2).c0, (B13.out.go hb0r2).c1, (B13.out.go hb0r2).c2, (hb0r2.cell (p := ⟨b1, o1, none⟩) (Nat.lt_of_lt_of_le hqr21 hb14.out.size)).trans hsr21⟩) ?rm12
  case ry12 => first | exact Or.inl ⟨by rfl, by intro w'; go_simp; first | done | rfl⟩
  case rm12 =>
  simp only [Act.put, List.setIfInBounds_toArray, List.set_cons_zero, List.set_cons_succ]
  refine anyC_take 5 27 ?rv13 #[true, true, true, true, true, true, false, false] rfl rfl rfl (by kernel_rfl) (by kernel_rfl) (by kernel_rfl) (fun _ _ _ h => h) ?ry13 (⟨(B13.out.go hb0r2).c0, (B13.out.go hb0r2).c1, (B13.out.go hb0r2).c2, (hb0r2.cell (p := ⟨b1, o1, none⟩) (Nat.lt_of_lt_of_le hqr21 hb14.out.size)).trans hsr21⟩) ?rm13
  case ry13 => first | exact Or.inl ⟨by rfl, by intro w' hw'; (try dsimp only at hw'); go_simp; first | done | rfl⟩
  case rm13 =>
  simp only [Act.put, List.setIfInBounds_toArray, List.set_cons_zero, List.set_cons_succ]
  refine anyC_one 6 #[true, true, true, true, true, true, true, false] (by kernel_rfl) rfl rfl (fun K hK => ?_)
  go_simp
  go_wp2_with (go_at_call 9; refine (HCh.out _ ((HI1.out.2.1.below (hb14.out.trans (hb0r2.mono hb14.out.size))).mono (hb14.out.trans (hb0r2.mono hb14.out.size)).size).1).mono ?_; rintro e y1r2 ⟨gr, gc, rfl, hGr, hBy1r2⟩)
  have hby1r2 : Below y1r1.heap.size y1r1 y1r2 := hb0r2.trans (hBy1r2.mono hb0r2.size)
  refine hK.out _ _ (⟨(B13.out.go hby1r2).c0, (B13.out.go hby1r2).c1, (B13.out.go hby1r2).c2, (hby1r2.cell (p := ⟨b1, o1, none⟩) (Nat.lt_of_lt_of_le hqr21 hb14.out.size)).trans hsr21⟩) ?_
  clear hK K
  refine anyC_put 7 5 ?rv15 #[true, true, true, true, true, true, true, true] rfl rfl rfl (by kernel_rfl) (by kernel_rfl) (by kernel_rfl) (fun _ _ _ h => h) ?ry15 (⟨(B13.out.go hby1r2).c0, (B13.out.go hby1r2).c1, (B13.out.go hby1r2).c2, (hby1r2.cell (p := ⟨b1, o1, none⟩) (Nat.lt_of_lt_of_le hqr21 hb14.out.size)).trans hsr21⟩) ?rm15
  case ry15 => first | exact Or.inl ⟨by rfl, by intro w'; go_simp; first | done | rfl⟩
  case rm15 =>
  simp only [Act.put, List.setIfInBounds_toArray, List.set_cons_zero, List.set_cons_succ]
  refine anyC_done (by kernel_rfl) ?_
  have hB := hby1r2
  have z15 : y1r1.heap.size ≤ y1r2.heap.size := hB.size
  have B16 : Hid (Abx y1r2 (w.heap.size) (.bool false) (.slice (some ⟨b1, o1, none⟩) 2 sc1) (.slice da1 N dc1)) := B13.out.go hB
  have hb17 : Hid (Below w.heap.size w y1r2) := hb14.out.trans (hB.mono hb14.out.size)
  clear hB hb14 B13
  have LG : Hid (MidC (w.heap.size) (y1r2.heap.size) y1r2 (gr) (chR n (rdg n dz1)) (gc)) := ⟨hGr.midc.1.low (by have : y1r1.drew.heap.size = y1r1.heap.size := rfl; omega), hGr.2⟩
  clear hGr
  have l18 := (B16.out).c0
  have l19 := (B16.out).c1
  have l20 := (B16.out).c2
  go_wp2_with fail
  clear l18 l19 l20
  refine (mdet_ok n hn (some ⟨b1, o1, none⟩) sc1 da1 dc1 dz1 N HN.out.2 HL1.out _ ((HI1.out.1.below hb17.out).mono hb17.out.size).1 ((HI1.out.2.1.below hb17.out).mono hb17.out.size).1).mono ?_
  rintro e v2 ⟨rfl, hB⟩
  have z21 : y1r2.heap.size ≤ v2.heap.size := hB.size
  have B22 : Hid (Abx v2 (w.heap.size) (.bool false) (.slice (some ⟨b1, o1, none⟩) 2 sc1) (.slice da1 N dc1)) := B16.out.go hB
  have L23 : Hid (MidC (w.heap.size) (y1r2.heap.size) v2 (gr) (chR n (rdg n dz1)) (gc)) := LG.out.go (by omega) hB
  have hb24 : Hid (Below w.heap.size w v2) := hb17.out.trans (hB.mono hb17.out.size)
  clear hB hb17 B16 LG
  rw [HD.out]
  go_wp2_with fail
  refine (err_ok14 _ (HG.out.go hb24.out)).mono ?_
  rintro e v3 ⟨rfl, hB⟩
  have z25 : v2.heap.size ≤ v3.heap.size := hB.size
  have B26 : Hid (Abx v3 (w.heap.size) (.bool false) (.slice (some ⟨b1, o1, none⟩) 2 sc1) (.slice da1 N dc1)) := B22.out.go hB
  have L27 : Hid (MidC (w.heap.size) (y1r2.heap.size) v3 (gr) (chR n (rdg n dz1)) (gc)) := L23.out.go (by omega) hB
  have hb28 : Hid (Below w.heap.size w v3) := hb24.out.trans (hB.mono hb24.out.size)
  clear hB hb24 B22 L23
  have l29 := (B26.out).c0
  have l30 := (B26.out).c1
  have l31 := (B26.out).c2
  go_wp2_with fail
  clear l29 l30 l31
  refine (mchr_m14 n hn (some ⟨b1, o1, none⟩) sc1 da1 dc1 dz1 N HN.out.2 HL1.out M1 HM1.out _ ((HI1.out.1.below hb28.out).mono hb28.out.size).1 ((HI1.out.2.1.below hb28.out).mono hb28.out.size).1).mono ?_
  rintro e v4 ⟨xa3, rfl, hX3, hB⟩
  have z32 : v3.heap.size ≤ v4.heap.size := hB.size
  have B33 : Hid (Abx v4 (w.heap.size) (.bool false) (.slice (some ⟨b1, o1, none⟩) 2 sc1) (.slice da1 N dc1)) := B26.out.go hB
  have L34 : Hid (MidC (w.heap.size) (y1r2.heap.size) v4 (gr) (chR n (rdg n dz1)) (gc)) := L27.out.go (by omega) hB
  have hb35 : Hid (Below w.heap.size w v4) := hb28.out.trans (hB.mono hb28.out.size)
  have L36 : Hid (MidC (v3.heap.size) (v4.heap.size) v4 (xa3) (chR n (rdg n dz1)) (M1)) := hX3.midc
  clear hB hb28 B26 L27 hX3
  go_wp2_with fail
  refine (ints_ok14 (chR n (rdg n dz1)) M1 (by rw [chR_len, HM1.out]) M7 xa3 M1 gr gc _ (HG.out.go hb35.out) (L36.out.is (by omega)).1 (L34.out.is (by omega)).1).mono ?_
  rintro e v5 ⟨rfl, hB⟩
  have z37 : v4.heap.size ≤ v5.heap.size := hB.size
  have B38 : Hid (Abx v5 (w.heap.size) (.bool false) (.slice (some ⟨b1, o1, none⟩) 2 sc1) (.slice da1 N dc1)) := B33.out.go hB
  have L39 : Hid (MidC (w.heap.size) (y1r2.heap.size) v5 (gr) (chR n (rdg n dz1)) (gc)) := L34.out.go (by omega) hB
  have L40 : Hid (MidC (v3.heap.size) (v4.heap.size) v5 (xa3) (chR n (rdg n dz1)) (M1)) := L36.out.go (by omega) hB
  have hb41 : Hid (Below w.heap.size w v5) := hb35.out.trans (hB.mono hb35.out.size)
  clear hB hb35 B33 L34 L36
  go_wp2_with fail
  go_ret
  exact ⟨rfl, hb41.out⟩
theorem mdets_walk (c1 : Bool) (sa1 : Option Addr) (sc1 : Nat) (sz1 : List Int) (da1 : Option Addr) (dc1 : Nat) (dz1 : List Int) (w : World) (hg : HasErr w) (w8 : IsArrD w sa1 sz1 sc1 da1 dz1 dc1) :
    Calls Tryd.prog 3 #[.agg #[.bool c1, .slice sa1 sz1.length sc1, .slice da1 dz1.length dc1]] w fun e w' => e = .returned (.bool true) ∧ Below w.heap.size w w' := by
  by_cases h1 : mxE c1 sz1 dz1 = 0
  · obtain ⟨n, hn, rfl, hl1, rfl⟩ := mx_is h1
    obtain ⟨b1, o1, rfl⟩ := opn14 w8.2.2.1
    exact dets_ok n hn b1 o1 sc1 da1 dc1 dz1 hl1 w ⟨w8.2.2.1, w8.2.2.2.1, w8.2.2.2.2.2⟩ hg
  · exact dets_no c1 sa1 sc1 sz1 da1 dc1 dz1 w hg w8 h1
end Go.Proofs.YtjaabemlpiafaaaDoor
