/-
  The walk of the statement MatrixInverses, given what the program tells.
-/
import Derived.Test.YtjaabemlpiafaaaDoorRsq
import Derived.Test.YtjaabemlpiafaaaDoorRod
import Derived.Test.YtjaabemlpiafaaaDoorMidc
import Derived.Test.YtjaabemlpiafaaaDoorMta
import Derived.Test.YtjaabemlpiafaaaDoorCutq
namespace Go.Proofs.YtjaabemlpiafaaaDoor
open Go.RowKit
set_option linter.unusedVariables false

theorem shp14 {w v : World} {b o n sc : Nat} (h : IsC w.heap.size w (some ⟨b, o, none⟩) [(n : Int), (n : Int)] sc) (hB : Below w.heap.size w v) : b < w.heap.size ∧ v.cell? ⟨b, o, none⟩ = some (.int .i64 (n : Int)) := by
  obtain ⟨b', o', e, hb, hc⟩ := (h.1.below hB).at (q := 0) (by simp)
  cases e
  have h0 := hc 0 (by simp)
  rw [Nat.add_zero] at h0
  exact ⟨hb, h0⟩
theorem opn14 {w : World} {sa : Option Addr} {n sc : Nat} (h : IsC w.heap.size w sa [(n : Int), (n : Int)] sc) : ∃ b o, sa = some ⟨b, o, none⟩ := by
  obtain ⟨b, o, e, _, _⟩ := h.1.at (q := 0) (by simp)
  exact ⟨b, o, e⟩
set_option maxRecDepth 100000 in
set_option maxHeartbeats 2000000 in
theorem invs_no (c1 : Bool) (sa1 : Option Addr) (sc1 : Nat) (sz1 : List Int) (da1 : Option Addr) (dc1 : Nat) (dz1 : List Int) (w : World) (hg : HasErr w) (w8 : IsArrD w sa1 sz1 sc1 da1 dz1 dc1) (h0 : mxE c1 sz1 dz1 ≠ 0) :
    Calls Tryd.prog 6 #[.agg #[.bool c1, .slice sa1 sz1.length sc1, .slice da1 dz1.length dc1]] w fun e w' => e = .returned (.bool true) ∧ Below w.heap.size w w' := by
  have HI1 : Hid (IsC w.heap.size w sa1 sz1 sc1 ∧ IsC w.heap.size w da1 dz1 dc1) := ⟨w8.2.2.1, w8.2.2.2.1⟩
  have HG : Hid (HasErr w) := hg
  obtain ⟨E, hE⟩ : ∃ E, mxE c1 sz1 dz1 = E := ⟨_, rfl⟩
  have HE : Hid (mxE c1 sz1 dz1 = E) := hE
  have HNe : Hid (mxE c1 sz1 dz1 ≠ 0) := h0
  have tE : (E == 0) = false := by rw [← hE]; simpa using h0
  clear hE h0 hg
  have n1 := Abx.new w (.bool c1) (.slice sa1 sz1.length sc1) (.slice da1 dz1.length dc1)
  have l2 := (n1).c0
  have l3 := (n1).c1
  have l4 := (n1).c2
  go_enter Tryd.func6, Tryd.ntmps6
  go_wp2_with fail
  obtain ⟨wo5, hwo5⟩ : ∃ wo5, wo5 = (w.alloc (.cells #[.bool c1, .slice sa1 sz1.length sc1, .slice da1 dz1.length dc1] 24)) := ⟨_, rfl⟩
  rw [← hwo5]
  have z6 : w.heap.size + 1 ≤ wo5.heap.size := by rw [hwo5]; simp only [World.size_alloc]; omega
  have B7 : Hid (Abx wo5 (w.heap.size) (.bool c1) (.slice sa1 sz1.length sc1) (.slice da1 dz1.length dc1)) := by rw [hwo5]; exact n1
  have hb8 : Hid (Below w.heap.size w wo5) := by rw [hwo5]; exact ((Below.refl w.heap.size w).alloc (by omega) (.cells #[.bool c1, .slice sa1 sz1.length sc1, .slice da1 dz1.length dc1] 24))
  have zwo5 : w.heap.size ≤ wo5.heap.size := hb8.out.size
  clear hwo5 n1 l2 l3 l4
  refine (sfault_no c1 sa1 sc1 sz1 da1 dc1 dz1 E HE.out _ w8.1 w8.2.1 ((HI1.out.1.below hb8.out).mono hb8.out.size).1 ((HI1.out.2.below hb8.out).mono hb8.out.size).1).mono ?_
  rintro e v1 ⟨rfl, hB⟩
  have z9 : wo5.heap.size ≤ v1.heap.size := hB.size
  have B10 : Hid (Abx v1 (w.heap.size) (.bool c1) (.slice sa1 sz1.length sc1) (.slice da1 dz1.length dc1)) := B7.out.go hB
  have hb11 : Hid (Below w.heap.size w v1) := hb8.out.trans (hB.mono hb8.out.size)
  clear hB hb8 B7
  go_wp2_with fail
  have hb0r1 : Below v1.heap.size v1 v1.drew := (Below.refl _ v1).drew
  refine anyC_begin (fun w' => True) 13 #[false, false, false, false, false, false, false, false, false, false, false, false, false] (by kernel_rfl) rfl rfl ?_
  refine anyC_put 0 9 ?rv0 #[true, false, false, false, false, false, false, false, false, false, false, false, false] rfl rfl rfl (by kernel_rfl) (by kernel_rfl) (by kernel_rfl) (fun _ _ _ h => h) ?ry0 (trivial) ?rm0
  case ry0 => first | exact Or.inl ⟨by rfl, by intro w'; go_simp; first | done | rfl⟩
  case rm0 =>
  simp only [Act.put, List.setIfInBounds_toArray, List.set_cons_zero, List.set_cons_succ]
  refine anyC_put 1 10 ?rv1 #[true, true, false, false, false, false, false, false, false, false, false, false, false] rfl rfl rfl (by kernel_rfl) (by kernel_rfl) (by kernel_rfl) (fun _ _ _ h => h) ?ry1 (trivial) ?rm1
  case ry1 => first | exact Or.inl ⟨by rfl, by intro w'; go_simp; first | done | rfl⟩
  case rm1 =>
  simp only [Act.put, List.setIfInBounds_toArray, List.set_cons_zero, List.set_cons_succ]
  refine anyC_put 2 11 ?rv2 #[true, true, true, false, false, false, false, false, false, false, false, false, false] rfl rfl rfl (by kernel_rfl) (by kernel_rfl) (by kernel_rfl) (fun _ _ _ h => h) ?ry2 (trivial) ?rm2
  case ry2 => first | exact Or.inl ⟨by rfl, by intro w'; go_simp; first | done | rfl⟩
  case rm2 =>
  simp only [Act.put, List.setIfInBounds_toArray, List.set_cons_zero, List.set_cons_succ]
  refine anyC_put 3 12 ?rv3 #[true, true, true, true, false, false, false, false, false, false, false, false, false] rfl rfl rfl (by kernel_rfl) (by kernel_rfl) (by kernel_rfl) (fun _ _ _ h => h) ?ry3 (trivial) ?rm3
  case ry3 => first | exact Or.inl ⟨by rfl, by intro w'; go_simp; first | done | rfl⟩ | exact Or.inr ⟨by rfl, rfl⟩ | exact Or.inr ⟨by rfl, by rfl⟩
  case rm3 =>
  simp only [Act.put, List.setIfInBounds_toArray, List.set_cons_zero, List.set_cons_succ]
  refine anyC_take 4 13 ?rv4 #[true, true, true, true, true, false, false, false, false, false, false, false, false] rfl rfl rfl (by kernel_rfl) (by kernel_rfl) (by kernel_rfl) (fun _ _ _ h => h) ?ry4 (trivial) ?rm4
  case ry4 => first | exact Or.inl ⟨by rfl, by intro w' hw'; (try dsimp only at hw'); go_simp; first | done | rfl⟩ | exact Or.inr ⟨by rfl, rfl⟩ | exact Or.inr ⟨by rfl, by rfl⟩
  case rm4 =>
  simp only [Act.put, List.setIfInBounds_toArray, List.set_cons_zero, List.set_cons_succ]
  refine anyC_put 5 14 ?rv5 #[true, true, true, true, true, true, false, false, false, false, false, false, false] rfl rfl rfl (by kernel_rfl) (by kernel_rfl) (by kernel_rfl) (fun _ _ _ h => h) ?ry5 (trivial) ?rm5
  case ry5 => first | exact Or.inl ⟨by rfl, by intro w'; go_simp; first | done | rfl⟩ | exact Or.inr ⟨by rfl, rfl⟩ | exact Or.inr ⟨by rfl, by rfl⟩
  case rm5 =>
  simp only [Act.put, List.setIfInBounds_toArray, List.set_cons_zero, List.set_cons_succ]
  refine anyC_take 6 15 ?rv6 #[true, true, true, true, true, true, true, false, false, false, false, false, false] rfl rfl rfl (by kernel_rfl) (by kernel_rfl) (by kernel_rfl) (fun _ _ _ h => h) ?ry6 (trivial) ?rm6
  case ry6 => first | exact Or.inl ⟨by rfl, by intro w' hw'; (try dsimp only at hw'); go_simp; first | done | rfl⟩ | exact Or.inr ⟨by rfl, rfl⟩ | exact Or.inr ⟨by rfl, by rfl⟩
  case rm6 =>
  simp only [Act.put, List.setIfInBounds_toArray, List.set_cons_zero, List.set_cons_succ]
  refine anyC_put 7 16 ?rv7 #[true, true, true, true, true, true, true, true, false, false, false, false, false] rfl rfl rfl (by kernel_rfl) (by kernel_rfl) (by kernel_rfl) (fun _ _ _ h => h) ?ry7 (trivial) ?rm7
  case ry7 => first | exact Or.inl ⟨by rfl, by intro w'; go_simp; first | done | rfl⟩ | exact Or.inr ⟨by rfl, rfl⟩ | exact Or.inr ⟨by rfl, by rfl⟩
  case rm7 =>
  simp only [Act.put, List.setIfInBounds_toArray, List.set_cons_zero, List.set_cons_succ]
  refine anyC_take 8 17 ?rv8 #[true, true, true, true, true, true, true, true, true, false, false, false, false] rfl rfl rfl (by kernel_rfl) (by kernel_rfl) (by kernel_rfl) (fun _ _ _ h => h) ?ry8 (trivial) ?rm8
  case ry8 => first | exact Or.inl ⟨by rfl, by intro w' hw'; (try dsimp only at hw'); go_simp; first | done | rfl⟩ | exact Or.inr ⟨by rfl, rfl⟩ | exact Or.inr ⟨by rfl, by rfl⟩
  case rm8 =>
  simp only [Act.put, List.setIfInBounds_toArray, List.set_cons_zero, List.set_cons_succ]
  refine anyC_one 9 #[true, true, true, true, true, true, true, true, true, true, false, false, false] (by kernel_rfl) rfl rfl (fun K hK => ?_)
  go_simp
  refine hK.out _ _ (trivial) ?_
  clear hK K
  refine anyC_put 10 19 ?rv10 #[true, true, true, true, true, true, true, true, true, true, true, false, false] rfl rfl rfl (by kernel_rfl) (by kernel_rfl) (by kernel_rfl) (fun _ _ _ h => h) ?ry10 (trivial) ?rm10
  case ry10 => first | exact Or.inl ⟨by rfl, by intro w'; go_simp; first | done | rfl⟩ | exact Or.inr ⟨by rfl, rfl⟩ | exact Or.inr ⟨by rfl, by rfl⟩
  case rm10 =>
  simp only [Act.put, List.setIfInBounds_toArray, List.set_cons_zero, List.set_cons_succ]
  refine anyC_put 11 20 ?rv11 #[true, true, true, true, true, true, true, true, true, true, true, true, false] rfl rfl rfl (by kernel_rfl) (by kernel_rfl) (by kernel_rfl) (fun _ _ _ h => h) ?ry11 (trivial) ?rm11
  case ry11 => first | exact Or.inl ⟨by rfl, by intro w'; go_simp; first | done | rfl⟩ | exact Or.inr ⟨by rfl, rfl⟩ | exact Or.inr ⟨by rfl, by rfl⟩
  case rm11 =>
  simp only [Act.put, List.setIfInBounds_toArray, List.set_cons_zero, List.set_cons_succ]
  refine anyC_put 12 21 ?rv12 #[true, true, true, true, true, true, true, true, true, true, true, true, true] rfl rfl rfl (by kernel_rfl) (by kernel_rfl) (by kernel_rfl) (fun _ _ _ h => h) ?ry12 (trivial) ?rm12
  case ry12 => first | exact Or.inl ⟨by rfl, by intro w'; go_simp; first | done | rfl⟩
  case rm12 =>
  simp only [Act.put, List.setIfInBounds_toArray, List.set_cons_zero, List.set_cons_succ]
  refine anyC_done (by kernel_rfl) ?_
  have hB := hb0r1
  have z12 : v1.heap.size ≤ v1.drew.heap.size := hB.size
  have B13 : Hid (Abx v1.drew (w.heap.size) (.bool c1) (.slice sa1 sz1.length sc1) (.slice da1 dz1.length dc1)) := B10.out.go hB
  have hb14 : Hid (Below w.heap.size w v1.drew) := hb11.out.trans (hB.mono hb11.out.size)
  clear hB hb11 B10
  generalize v1.drew = wdr1 at *
  have n15 := Abx.new wdr1 (.bool false) (.slice none 0 0) (.slice none 0 0)
  have l16 := ((B13.out.al (.cells #[.bool false, .slice none 0 0, .slice none 0 0] 24))).c0
  have l17 := ((B13.out.al (.cells #[.bool false, .slice none 0 0, .slice none 0 0] 24))).c1
  have l18 := ((B13.out.al (.cells #[.bool false, .slice none 0 0, .slice none 0 0] 24))).c2
  go_wp2_with fail
  obtain ⟨wo19, hwo19⟩ : ∃ wo19, wo19 = (wdr1.alloc (.cells #[.bool false, .slice none 0 0, .slice none 0 0] 24)) := ⟨_, rfl⟩
  rw [← hwo19]
  have z20 : wdr1.heap.size + 1 ≤ wo19.heap.size := by rw [hwo19]; simp only [World.size_alloc]; omega
  have B21 : Hid (Abx wo19 (w.heap.size) (.bool c1) (.slice sa1 sz1.length sc1) (.slice da1 dz1.length dc1)) := by rw [hwo19]; exact (B13.out.al (.cells #[.bool false, .slice none 0 0, .slice none 0 0] 24))
  have B22 : Hid (Abx wo19 (wdr1.heap.size) (.bool false) (.slice none 0 0) (.slice none 0 0)) := by rw [hwo19]; exact n15
  have hb23 : Hid (Below w.heap.size w wo19) := by rw [hwo19]; exact (hb14.out.alloc (by omega) (.cells #[.bool false, .slice none 0 0, .slice none 0 0] 24))
  have zwo19 : w.heap.size ≤ wo19.heap.size := hb23.out.size
  clear hwo19 n15 l16 l17 l18 hb14 B13
  refine (minv_no c1 sa1 sc1 sz1 da1 dc1 dz1 _ w8.1 w8.2.1 ((HI1.out.1.below hb23.out).mono hb23.out.size).1 ((HI1.out.2.below hb23.out).mono hb23.out.size).1 HNe.out).mono ?_
  rintro e v2 ⟨rfl, hB⟩
  have z24 : wo19.heap.size ≤ v2.heap.size := hB.size
  have B25 : Hid (Abx v2 (w.heap.size) (.bool c1) (.slice sa1 sz1.length sc1) (.slice da1 dz1.length dc1)) := B21.out.go hB
  have B26 : Hid (Abx v2 (wdr1.heap.size) (.bool false) (.slice none 0 0) (.slice none 0 0)) := B22.out.go hB
  have hb27 : Hid (Below w.heap.size w v2) := hb23.out.trans (hB.mono hb23.out.size)
  clear hB hb23 B21 B22
  rw [HE.out]
  have n28 := Abx.new v2 (.bool false) (.slice none 0 0) (.slice none 0 0)
  have l29 := (n28).c0
  have l30 := (n28).c1
  have l31 := (n28).c2
  have l32 := ((B26.out.al (.cells #[.bool false, .slice none 0 0, .slice none 0 0] 24))).c0
  have l33 := ((B26.out.al (.cells #[.bool false, .slice none 0 0, .slice none 0 0] 24))).c1
  have l34 := ((B26.out.al (.cells #[.bool false, .slice none 0 0, .slice none 0 0] 24))).c2
  go_wp2_with fail
  obtain ⟨wo35, hwo35⟩ : ∃ wo35, wo35 = (v2.alloc (.cells #[.bool false, .slice none 0 0, .slice none 0 0] 24)) := ⟨_, rfl⟩
  rw [← hwo35]
  have z36 : v2.heap.size + 1 ≤ wo35.heap.size := by rw [hwo35]; simp only [World.size_alloc]; omega
  have B37 : Hid (Abx wo35 (w.heap.size) (.bool c1) (.slice sa1 sz1.length sc1) (.slice da1 dz1.length dc1)) := by rw [hwo35]; exact (B25.out.al (.cells #[.bool false, .slice none 0 0, .slice none 0 0] 24))
  have B38 : Hid (Abx wo35 (wdr1.heap.size) (.bool false) (.slice none 0 0) (.slice none 0 0)) := by rw [hwo35]; exact (B26.out.al (.cells #[.bool false, .slice none 0 0, .slice none 0 0] 24))
  have B39 : Hid (Abx wo35 (v2.heap.size) (.bool false) (.slice none 0 0) (.slice none 0 0)) := by rw [hwo35]; exact n28
  have hb40 : Hid (Below w.heap.size w wo35) := by rw [hwo35]; exact (hb27.out.alloc (by omega) (.cells #[.bool false, .slice none 0 0, .slice none 0 0] 24))
  have zwo35 : w.heap.size ≤ wo35.heap.size := hb40.out.size
  clear hwo35 n28 l29 l30 l31 l32 l33 l34 hb27 B25 B26
  refine (is_no14 E (by rw [← HE.out]; exact HNe.out) _ (HG.out.go hb40.out)).mono ?_
  rintro e v3 ⟨rfl, hB⟩
  have z41 : wo35.heap.size ≤ v3.heap.size := hB.size
  have B42 : Hid (Abx v3 (w.heap.size) (.bool c1) (.slice sa1 sz1.length sc1) (.slice da1 dz1.length dc1)) := B37.out.go hB
  have B43 : Hid (Abx v3 (wdr1.heap.size) (.bool false) (.slice none 0 0) (.slice none 0 0)) := B38.out.go hB
  have B44 : Hid (Abx v3 (v2.heap.size) (.bool false) (.slice none 0 0) (.slice none 0 0)) := B39.out.go hB
  have hb45 : Hid (Below w.heap.size w v3) := hb40.out.trans (hB.mono hb40.out.size)
  clear hB hb40 B37 B38 B39
  go_wp2_with fail
  go_ret
  exact ⟨rfl, hb45.out⟩
set_option maxRecDepth 100000 in
set_option maxHeartbeats 2000000 in
theorem invs_e (n : Nat) (hn : n ≤ 6) (b1 o1 sc1 : Nat) (da1 : Option Addr) (dc1 : Nat) (dz1 : List Int) (HL1 : Hid (dz1.length = n * n)) (w : World) (HI1 : Hid (IsC w.heap.size w (some ⟨b1, o1, none⟩) [(n : Int), (n : Int)] sc1 ∧ IsC w.heap.size w da1 dz1 dc1 ∧ ∀ j, In64 (nth dz1 j))) (hg : HasErr w) (hod : wrap64 (dt n (rdg n dz1)) % 2 = 0) :
    Calls Tryd.prog 6 #[.agg #[.bool false, .slice (some ⟨b1, o1, none⟩) 2 sc1, .slice da1 dz1.length dc1]] w fun e w' => e = .returned (.bool true) ∧ Below w.heap.size w w' := by
  have HG : Hid (HasErr w) := hg
  obtain ⟨N, hN⟩ : ∃ N, N = n * n := ⟨_, rfl⟩
  have N36 : N ≤ 36 := by have : n * n ≤ 6 * 6 := Nat.mul_le_mul hn hn; omega
  have HN : Hid (N = n * n ∧ dz1.length = N) := ⟨hN, by rw [HL1.out, hN]⟩
  clear hN
  obtain ⟨d, hd⟩ : ∃ d, wrap64 (dt n (rdg n dz1)) = d := ⟨_, rfl⟩
  have HDt : Hid (∀ v, IsInts v.heap.size v da1 dz1 → Calls Tryd.prog 8 #[.int .i64 (n : Nat), .slice da1 N dc1] v fun e w' => e = .returned (.int .i64 d) ∧ Below v.heap.size v w') := fun v hv => by
    rw [← hd]
    exact det_ref n hn N HN.out.1 da1 dc1 dz1 HN.out.2 v hv
  have HE : Hid (wrap64 (dt n (rdg n dz1)) % 2 = 0) := hod
  have hr : d.tmod 2 = 0 := Int.tmod_eq_zero_of_dvd (by have := HE.out; rw [hd] at this; omega)
  clear hod hd
  clear hg
  rw [HN.out.2]
  have n1 := Abx.new w (.bool false) (.slice (some ⟨b1, o1, none⟩) 2 sc1) (.slice da1 N dc1)
  have l2 := (n1).c0
  have l3 := (n1).c1
  have l4 := (n1).c2
  go_enter Tryd.func6, Tryd.ntmps6
  go_wp2_with fail
  obtain ⟨wo5, hwo5⟩ : ∃ wo5, wo5 = (w.alloc (.cells #[.bool false, .slice (some ⟨b1, o1, none⟩) 2 sc1, .slice da1 N dc1] 24)) := ⟨_, rfl⟩
  rw [← hwo5]
  have z6 : w.heap.size + 1 ≤ wo5.heap.size := by rw [hwo5]; simp only [World.size_alloc]; omega
  have B7 : Hid (Abx wo5 (w.heap.size) (.bool false) (.slice (some ⟨b1, o1, none⟩) 2 sc1) (.slice da1 N dc1)) := by rw [hwo5]; exact n1
  have hb8 : Hid (Below w.heap.size w wo5) := by rw [hwo5]; exact ((Below.refl w.heap.size w).alloc (by omega) (.cells #[.bool false, .slice (some ⟨b1, o1, none⟩) 2 sc1, .slice da1 N dc1] 24))
  have zwo5 : w.heap.size ≤ wo5.heap.size := hb8.out.size
  clear hwo5 n1 l2 l3 l4
  refine (sfault_ok n hn (some ⟨b1, o1, none⟩) sc1 da1 dc1 dz1 N HN.out.2 HL1.out _ ((HI1.out.1.below hb8.out).mono hb8.out.size).1 ((HI1.out.2.1.below hb8.out).mono hb8.out.size).1).mono ?_
  rintro e v1 ⟨rfl, hB⟩
  have z9 : wo5.heap.size ≤ v1.heap.size := hB.size
  have B10 : Hid (Abx v1 (w.heap.size) (.bool false) (.slice (some ⟨b1, o1, none⟩) 2 sc1) (.slice da1 N dc1)) := B7.out.go hB
  have hb11 : Hid (Below w.heap.size w v1) := hb8.out.trans (hB.mono hb8.out.size)
  clear hB hb8 B7
  go_wp2_with fail
  obtain ⟨hqr21, hsr21⟩ : b1 < w.heap.size ∧ v1.cell? ⟨b1, o1, none⟩ = some (.int .i64 (n : Int)) := shp14 HI1.out.1 hb11.out
  have hb0r2 : Below v1.heap.size v1 v1.drew := (Below.refl _ v1).drew
  refine anyC_begin (fun w' => w'.cell? ⟨w.heap.size, 0, none⟩ = some (.bool false) ∧ w'.cell? ⟨w.heap.size, 1, none⟩ = some (.slice (some ⟨b1, o1, none⟩) 2 sc1) ∧ w'.cell? ⟨w.heap.size, 2, none⟩ = some (.slice da1 N dc1) ∧ w'.cell? ⟨b1, o1, none⟩ = some (.int .i64 (n : Int))) 13 #[false, false, false, false, false, false, false, false, false, false, false, false, false] (by kernel_rfl) rfl rfl ?_
  refine anyC_put 0 9 ?rv13 #[true, false, false, false, false, false, false, false, false, false, false, false, false] rfl rfl rfl (by kernel_rfl) (by kernel_rfl) (by kernel_rfl) (fun _ _ _ h => h) ?ry13 (⟨(B10.out.go hb0r2).c0, (B10.out.go hb0r2).c1, (B10.out.go hb0r2).c2, (hb0r2.cell (p := ⟨b1, o1, none⟩) (Nat.lt_of_lt_of_le hqr21 hb11.out.size)).trans hsr21⟩) ?rm13
  case ry13 => first | exact Or.inl ⟨by rfl, by intro w'; go_simp; first | done | rfl⟩
  case rm13 =>
  simp only [Act.put, List.setIfInBounds_toArray, List.set_cons_zero, List.set_cons_succ]
  refine anyC_put 1 10 ?rv14 #[true, true, false, false, false, false, false, false, false, false, false, false, false] rfl rfl rfl (by kernel_rfl) (by kernel_rfl) (by kernel_rfl) (fun _ _ _ h => h) ?ry14 (⟨(B10.out.go hb0r2).c0, (B10.out.go hb0r2).c1, (B10.out.go hb0r2).c2, (hb0r2.cell (p := ⟨b1, o1, none⟩) (Nat.lt_of_lt_of_le hqr21 hb11.out.size)).trans hsr21⟩) ?rm14
  case ry14 => first | exact Or.inl ⟨by rfl, by intro w'; go_simp; first | done | rfl⟩
  case rm14 =>
  simp only [Act.put, List.setIfInBounds_toArray, List.set_cons_zero, List.set_cons_succ]
  refine anyC_put 2 11 ?rv15 #[true, true, true, false, false, false, false, false, false, false, false, false, false] rfl rfl rfl (by kernel_rfl) (by kernel_rfl) (by kernel_rfl) (fun _ _ _ h => h) ?ry15 (⟨(B10.out.go hb0r2).c0, (B10.out.go hb0r2).c1, (B10.out.go hb0r2).c2, (hb0r2.cell (p := ⟨b1, o1, none⟩) (Nat.lt_of_lt_of_le hqr21 hb11.out.size)).trans hsr21⟩) ?rm15
  case ry15 => first | exact Or.inl ⟨by rfl, by intro w'; go_simp; first | done | rfl⟩
  case rm15 =>
  simp only [Act.put, List.setIfInBounds_toArray, List.set_cons_zero, List.set_cons_succ]
  refine anyC_put 3 12 ?rv16 #[true, true, true, true, false, false, false, false, false, false, false, false, false] rfl rfl rfl (by kernel_rfl) (by kernel_rfl) (by kernel_rfl) (fun _ _ _ h => h) ?ry16 (⟨(B10.out.go hb0r2).c0, (B10.out.go hb0r2).c1, (B10.out.go hb0r2).c2, (hb0r2.cell (p := ⟨b1, o1, none⟩) (Nat.lt_of_lt_of_le hqr21 hb11.out.size)).trans hsr21⟩) ?rm16
  case ry16 => first | exact Or.inl ⟨by rfl, by intro w'; go_simp; first | done | rfl⟩ | exact Or.inr ⟨by rfl, rfl⟩ | exact Or.inr ⟨by rfl, by rfl⟩
  case rm16 =>
  simp only [Act.put, List.setIfInBounds_toArray, List.set_cons_zero, List.set_cons_succ]
  refine anyC_take 4 13 ?rv17 #[true, true, true, true, true, false, false, false, false, false, false, false, false] rfl rfl rfl (by kernel_rfl) (by kernel_rfl) (by kernel_rfl) (fun _ _ _ h => h) ?ry17 (⟨(B10.out.go hb0r2).c0, (B10.out.go hb0r2).c1, (B10.out.go hb0r2).c2, (hb0r2.cell (p := ⟨b1, o1, none⟩) (Nat.lt_of_lt_of_le hqr21 hb11.out.size)).trans hsr21⟩) ?rm17
  case ry17 => first | exact Or.inl ⟨by rfl, by intro w' hw'; (try dsimp only at hw'); go_simp; first | done | rfl⟩ | exact Or.inr ⟨by rfl, rfl⟩ | exact Or.inr ⟨by rfl, by rfl⟩
  case rm17 =>
  simp only [Act.put, List.setIfInBounds_toArray, List.set_cons_zero, List.set_cons_succ]
  refine anyC_put 5 14 ?rv18 #[true, true, true, true, true, true, false, false, false, false, false, false, false] rfl rfl rfl (by kernel_rfl) (by kernel_rfl) (by kernel_rfl) (fun _ _ _ h => h) ?ry18 (⟨(B10.out.go hb0r2).c0, (B10.out.go hb0r2).c1, (B10.out.go hb0r2).c2, (hb0r2.cell (p := ⟨b1, o1, none⟩) (Nat.lt_of_lt_of_le hqr21 hb11.out.size)).trans hsr21⟩) ?rm18
  case ry18 => first | exact Or.inl ⟨by rfl, by intro w'; go_simp; first | done | rfl⟩ | exact Or.inr ⟨by rfl, rfl⟩ | exact Or.inr ⟨by rfl, by rfl⟩
  case rm18 =>
  simp only [Act.put, List.setIfInBounds_toArray, List.set_cons_zero, List.set_cons_succ]
  refine anyC_take 6 15 ?rv19 #[true, true, true, true, true, true, true, false, false, false, false, false, false] rfl rfl rfl (by kernel_rfl) (by kernel_rfl) (by kernel_rfl) (fun _ _ _ h => h) ?ry19 (⟨(B10.out.go hb0r2).c0, (B10.out.go hb0r2).c1, (B10.out.go hb0r2).c2, (hb0r2.cell (p := ⟨b1, o1, none⟩) (Nat.lt_of_lt_of_le hqr21 hb11.out.size)).trans hsr21⟩) ?rm19
  case ry19 => first | exact Or.inl ⟨by rfl, by intro w' hw'; (try dsimp only at hw'); go_simp; first | done | rfl⟩ | exact Or.inr ⟨by rfl, rfl⟩ | exact Or.inr ⟨by rfl, by rfl⟩
  case rm19 =>
  simp only [Act.put, List.setIfInBounds_toArray, List.set_cons_zero, List.set_cons_succ]
  refine anyC_put 7 16 ?rv20 #[true, true, true, true, true, true, true, true, false, false, false, false, false] rfl rfl rfl (by kernel_rfl) (by kernel_rfl) (by kernel_rfl) (fun _ _ _ h => h) ?ry20 (⟨(B10.out.go hb0r2).c0, (B10.out.go hb0r2).c1, (B10.out.go hb0r2).c2, (hb0r2.cell (p := ⟨b1, o1, none⟩) (Nat.lt_of_lt_of_le hqr21 hb11.out.size)).trans hsr21⟩) ?rm20
  case ry20 => first | exact Or.inl ⟨by rfl, by intro w'; go_simp; first | done | rfl⟩ | exact Or.inr ⟨by rfl, rfl⟩ | exact Or.inr ⟨by rfl, by rfl⟩
  case rm20 =>
  simp only [Act.put, List.setIfInBounds_toArray, List.set_cons_zero, List.set_cons_succ]
  refine anyC_take 8 17 ?rv21 #[true, true, true, true, true, true, true, true, true, false, false, false, false] rfl rfl rfl (by kernel_rfl) (by kernel_rfl) (by kernel_rfl) (fun _ _ _ h => h) ?ry21 (⟨(B10.out.go hb0r2).c0, (B10.out.go hb0r2).c1, (B10.out.go hb0r2).c2, (hb0r2.cell (p := ⟨b1, o1, none⟩) (Nat.lt_of_lt_of_le hqr21 hb11.out.size)).trans hsr21⟩) ?rm21
  case ry21 => first | exact Or.inl ⟨by rfl, by intro w' hw'; (try dsimp only at hw'); go_simp; first | done | rfl⟩ | exact Or.inr ⟨by rfl, rfl⟩ | exact Or.inr ⟨by rfl, by rfl⟩
  case rm21 =>
  simp only [Act.put, List.setIfInBounds_toArray, List.set_cons_zero, List.set_cons_succ]
  refine anyC_one 9 #[true, true, true, true, true, true, true, true, true, true, false, false, false] (by kernel_rfl) rfl rfl (fun K hK => ?_)
  go_simp
  go_wp2_with (go_at_call 8; refine (HDt.out _ ((HI1.out.2.1.below (hb11.out.trans (hb0r2.mono hb11.out.size))).mono (hb11.out.trans (hb0r2.mono hb11.out.size)).size).1).mono ?_; rintro e y1r2 ⟨rfl, hBy1r2⟩)
  have hby1r2 : Below v1.heap.size v1 y1r2 := hb0r2.trans (hBy1r2.mono hb0r2.size)
  refine hK.out _ _ (⟨(B10.out.go hby1r2).c0, (B10.out.go hby1r2).c1, (B10.out.go hby1r2).c2, (hby1r2.cell (p := ⟨b1, o1, none⟩) (Nat.lt_of_lt_of_le hqr21 hb11.out.size)).trans hsr21⟩) ?_
  clear hK K
  refine anyC_put 10 19 ?rv23 #[true, true, true, true, true, true, true, true, true, true, true, false, false] rfl rfl rfl (by kernel_rfl) (by kernel_rfl) (by kernel_rfl) (fun _ _ _ h => h) ?ry23 (⟨(B10.out.go hby1r2).c0, (B10.out.go hby1r2).c1, (B10.out.go hby1r2).c2, (hby1r2.cell (p := ⟨b1, o1, none⟩) (Nat.lt_of_lt_of_le hqr21 hb11.out.size)).trans hsr21⟩) ?rm23
  case ry23 => first | exact Or.inl ⟨by rfl, by intro w'; go_simp; first | done | rfl⟩ | exact Or.inr ⟨by rfl, rfl⟩ | exact Or.inr ⟨by rfl, by rfl⟩
  case rm23 =>
  simp only [Act.put, List.setIfInBounds_toArray, List.set_cons_zero, List.set_cons_succ]
  refine anyC_put 11 20 ?rv24 #[true, true, true, true, true, true, true, true, true, true, true, true, false] rfl rfl rfl (by kernel_rfl) (by kernel_rfl) (by kernel_rfl) (fun _ _ _ h => h) ?ry24 (⟨(B10.out.go hby1r2).c0, (B10.out.go hby1r2).c1, (B10.out.go hby1r2).c2, (hby1r2.cell (p := ⟨b1, o1, none⟩) (Nat.lt_of_lt_of_le hqr21 hb11.out.size)).trans hsr21⟩) ?rm24
  case ry24 => first | exact Or.inl ⟨by rfl, by intro w'; go_simp; first | done | rfl⟩ | exact Or.inr ⟨by rfl, rfl⟩ | exact Or.inr ⟨by rfl, by rfl⟩
  case rm24 =>
  simp only [Act.put, List.setIfInBounds_toArray, List.set_cons_zero, List.set_cons_succ]
  refine anyC_put 12 21 ?rv25 #[true, true, true, true, true, true, true, true, true, true, true, true, true] rfl rfl rfl (by kernel_rfl) (by kernel_rfl) (by kernel_rfl) (fun _ _ _ h => h) ?ry25 (⟨(B10.out.go hby1r2).c0, (B10.out.go hby1r2).c1, (B10.out.go hby1r2).c2, (hby1r2.cell (p := ⟨b1, o1, none⟩) (Nat.lt_of_lt_of_le hqr21 hb11.out.size)).trans hsr21⟩) ?rm25
  case ry25 => first | exact Or.inl ⟨by rfl, by intro w'; go_simp; first | done | rfl⟩
  case rm25 =>
  simp only [Act.put, List.setIfInBounds_toArray, List.set_cons_zero, List.set_cons_succ]
  refine anyC_done (by kernel_rfl) ?_
  have hB := hby1r2
  have z12 : v1.heap.size ≤ y1r2.heap.size := hB.size
  have B13 : Hid (Abx y1r2 (w.heap.size) (.bool false) (.slice (some ⟨b1, o1, none⟩) 2 sc1) (.slice da1 N dc1)) := B10.out.go hB
  have hb14 : Hid (Below w.heap.size w y1r2) := hb11.out.trans (hB.mono hb11.out.size)
  clear hB hb11 B10
  have n15 := Abx.new y1r2 (.bool false) (.slice none 0 0) (.slice none 0 0)
  have l16 := ((B13.out.al (.cells #[.bool false, .slice none 0 0, .slice none 0 0] 24))).c0
  have l17 := ((B13.out.al (.cells #[.bool false, .slice none 0 0, .slice none 0 0] 24))).c1
  have l18 := ((B13.out.al (.cells #[.bool false, .slice none 0 0, .slice none 0 0] 24))).c2
  go_wp2_with fail
  obtain ⟨wo19, hwo19⟩ : ∃ wo19, wo19 = (y1r2.alloc (.cells #[.bool false, .slice none 0 0, .slice none 0 0] 24)) := ⟨_, rfl⟩
  rw [← hwo19]
  have z20 : y1r2.heap.size + 1 ≤ wo19.heap.size := by rw [hwo19]; simp only [World.size_alloc]; omega
  have B21 : Hid (Abx wo19 (w.heap.size) (.bool false) (.slice (some ⟨b1, o1, none⟩) 2 sc1) (.slice da1 N dc1)) := by rw [hwo19]; exact (B13.out.al (.cells #[.bool false, .slice none 0 0, .slice none 0 0] 24))
  have B22 : Hid (Abx wo19 (y1r2.heap.size) (.bool false) (.slice none 0 0) (.slice none 0 0)) := by rw [hwo19]; exact n15
  have hb23 : Hid (Below w.heap.size w wo19) := by rw [hwo19]; exact (hb14.out.alloc (by omega) (.cells #[.bool false, .slice none 0 0, .slice none 0 0] 24))
  have zwo19 : w.heap.size ≤ wo19.heap.size := hb23.out.size
  clear hwo19 n15 l16 l17 l18 hb14 B13
  refine (minv_even n hn (some ⟨b1, o1, none⟩) sc1 da1 dc1 dz1 N HN.out.2 HL1.out _ ((HI1.out.1.below hb23.out).mono hb23.out.size).1 ((HI1.out.2.1.below hb23.out).mono hb23.out.size).1 HE.out).mono ?_
  rintro e v2 ⟨rfl, hB⟩
  have z24 : wo19.heap.size ≤ v2.heap.size := hB.size
  have B25 : Hid (Abx v2 (w.heap.size) (.bool false) (.slice (some ⟨b1, o1, none⟩) 2 sc1) (.slice da1 N dc1)) := B21.out.go hB
  have B26 : Hid (Abx v2 (y1r2.heap.size) (.bool false) (.slice none 0 0) (.slice none 0 0)) := B22.out.go hB
  have hb27 : Hid (Below w.heap.size w v2) := hb23.out.trans (hB.mono hb23.out.size)
  clear hB hb23 B21 B22
  have n28 := Abx.new v2 (.bool false) (.slice none 0 0) (.slice none 0 0)
  have l29 := (n28).c0
  have l30 := (n28).c1
  have l31 := (n28).c2
  have l32 := ((B26.out.al (.cells #[.bool false, .slice none 0 0, .slice none 0 0] 24))).c0
  have l33 := ((B26.out.al (.cells #[.bool false, .slice none 0 0, .slice none 0 0] 24))).c1
  have l34 := ((B26.out.al (.cells #[.bool false, .slice none 0 0, .slice none 0 0] 24))).c2
  go_wp2_with fail
  obtain ⟨wo35, hwo35⟩ : ∃ wo35, wo35 = (v2.alloc (.cells #[.bool false, .slice none 0 0, .slice none 0 0] 24)) := ⟨_, rfl⟩
  rw [← hwo35]
  have z36 : v2.heap.size + 1 ≤ wo35.heap.size := by rw [hwo35]; simp only [World.size_alloc]; omega
  have B37 : Hid (Abx wo35 (w.heap.size) (.bool false) (.slice (some ⟨b1, o1, none⟩) 2 sc1) (.slice da1 N dc1)) := by rw [hwo35]; exact (B25.out.al (.cells #[.bool false, .slice none 0 0, .slice none 0 0] 24))
  have B38 : Hid (Abx wo35 (y1r2.heap.size) (.bool false) (.slice none 0 0) (.slice none 0 0)) := by rw [hwo35]; exact (B26.out.al (.cells #[.bool false, .slice none 0 0, .slice none 0 0] 24))
  have B39 : Hid (Abx wo35 (v2.heap.size) (.bool false) (.slice none 0 0) (.slice none 0 0)) := by rw [hwo35]; exact n28
  have hb40 : Hid (Below w.heap.size w wo35) := by rw [hwo35]; exact (hb27.out.alloc (by omega) (.cells #[.bool false, .slice none 0 0, .slice none 0 0] 24))
  have zwo35 : w.heap.size ≤ wo35.heap.size := hb40.out.size
  clear hwo35 n28 l29 l30 l31 l32 l33 l34 hb27 B25 B26
  refine (is_no14 6 (by decide) _ (HG.out.go hb40.out)).mono ?_
  rintro e v3 ⟨rfl, hB⟩
  have z41 : wo35.heap.size ≤ v3.heap.size := hB.size
  have B42 : Hid (Abx v3 (w.heap.size) (.bool false) (.slice (some ⟨b1, o1, none⟩) 2 sc1) (.slice da1 N dc1)) := B37.out.go hB
  have B43 : Hid (Abx v3 (y1r2.heap.size) (.bool false) (.slice none 0 0) (.slice none 0 0)) := B38.out.go hB
  have B44 : Hid (Abx v3 (v2.heap.size) (.bool false) (.slice none 0 0) (.slice none 0 0)) := B39.out.go hB
  have hb45 : Hid (Below w.heap.size w v3) := hb40.out.trans (hB.mono hb40.out.size)
  clear hB hb40 B37 B38 B39
  go_wp2_with fail
  go_ret
  exact ⟨rfl, hb45.out⟩
set_option maxRecDepth 100000 in
set_option maxHeartbeats 2000000 in
theorem invs_o (n : Nat) (hn : n ≤ 6) (b1 o1 sc1 : Nat) (da1 : Option Addr) (dc1 : Nat) (dz1 : List Int) (HL1 : Hid (dz1.length = n * n)) (w : World) (HI1 : Hid (IsC w.heap.size w (some ⟨b1, o1, none⟩) [(n : Int), (n : Int)] sc1 ∧ IsC w.heap.size w da1 dz1 dc1 ∧ ∀ j, In64 (nth dz1 j))) (hg : HasErr w) (hod : wrap64 (dt n (rdg n dz1)) % 2 = 1) :
    Calls Tryd.prog 6 #[.agg #[.bool false, .slice (some ⟨b1, o1, none⟩) 2 sc1, .slice da1 dz1.length dc1]] w fun e w' => e = .returned (.bool true) ∧ Below w.heap.size w w' := by
  have HG : Hid (HasErr w) := hg
  obtain ⟨N, hN⟩ : ∃ N, N = n * n := ⟨_, rfl⟩
  have N36 : N ≤ 36 := by have : n * n ≤ 6 * 6 := Nat.mul_le_mul hn hn; omega
  have HN : Hid (N = n * n ∧ dz1.length = N) := ⟨hN, by rw [HL1.out, hN]⟩
  clear hN
  obtain ⟨d, hd⟩ : ∃ d, wrap64 (dt n (rdg n dz1)) = d := ⟨_, rfl⟩
  have HDt : Hid (∀ v, IsInts v.heap.size v da1 dz1 → Calls Tryd.prog 8 #[.int .i64 (n : Nat), .slice da1 N dc1] v fun e w' => e = .returned (.int .i64 d) ∧ Below v.heap.size v w') := fun v hv => by
    rw [← hd]
    exact det_ref n hn N HN.out.1 da1 dc1 dz1 HN.out.2 v hv
  have HE : Hid (wrap64 (dt n (rdg n dz1)) % 2 = 1) := hod
  have hr : (d.tmod 2 == 0) = false := by
    refine beq_false_of_ne fun e => ?_
    have h := Int.dvd_of_tmod_eq_zero e
    have := HE.out
    rw [hd] at this
    omega
  clear hod hd
  have HLp : Hid ((vI n dz1).length = N) := by show _ = _; rw [vI_len, HN.out.1]
  clear hg
  rw [HN.out.2]
  have n1 := Abx.new w (.bool false) (.slice (some ⟨b1, o1, none⟩) 2 sc1) (.slice da1 N dc1)
  have l2 := (n1).c0
  have l3 := (n1).c1
  have l4 := (n1).c2
  go_enter Tryd.func6, Tryd.ntmps6
  go_wp2_with fail
  obtain ⟨wo5, hwo5⟩ : ∃ wo5, wo5 = (w.alloc (.cells #[.bool false, .slice (some ⟨b1, o1, none⟩) 2 sc1, .slice da1 N dc1] 24)) := ⟨_, rfl⟩
  rw [← hwo5]
  have z6 : w.heap.size + 1 ≤ wo5.heap.size := by rw [hwo5]; simp only [World.size_alloc]; omega
  have B7 : Hid (Abx wo5 (w.heap.size) (.bool false) (.slice (some ⟨b1, o1, none⟩) 2 sc1) (.slice da1 N dc1)) := by rw [hwo5]; exact n1
  have hb8 : Hid (Below w.heap.size w wo5) := by rw [hwo5]; exact ((Below.refl w.heap.size w).alloc (by omega) (.cells #[.bool false, .slice (some ⟨b1, o1, none⟩) 2 sc1, .slice da1 N dc1] 24))
  have zwo5 : w.heap.size ≤ wo5.heap.size := hb8.out.size
  clear hwo5 n1 l2 l3 l4
  refine (sfault_ok n hn (some ⟨b1, o1, none⟩) sc1 da1 dc1 dz1 N HN.out.2 HL1.out _ ((HI1.out.1.below hb8.out).mono hb8.out.size).1 ((HI1.out.2.1.below hb8.out).mono hb8.out.size).1).mono ?_
  rintro e v1 ⟨rfl, hB⟩
  have z9 : wo5.heap.size ≤ v1.heap.size := hB.size
  have B10 : Hid (Abx v1 (w.heap.size) (.bool false) (.slice (some ⟨b1, o1, none⟩) 2 sc1) (.slice da1 N dc1)) := B7.out.go hB
  have hb11 : Hid (Below w.heap.size w v1) := hb8.out.trans (hB.mono hb8.out.size)
  clear hB hb8 B7
  go_wp2_with fail
  obtain ⟨hqr31, hsr31⟩ : b1 < w.heap.size ∧ v1.cell? ⟨b1, o1, none⟩ = some (.int .i64 (n : Int)) := shp14 HI1.out.1 hb11.out
  have hb0r3 : Below v1.heap.size v1 v1.drew := (Below.refl _ v1).drew
  refine anyC_begin (fun w' => w'.cell? ⟨w.heap.size, 0, none⟩ = some (.bool false) ∧ w'.cell? ⟨w.heap.size, 1, none⟩ = some (.slice (some ⟨b1, o1, none⟩) 2 sc1) ∧ w'.cell? ⟨w.heap.size, 2, none⟩ = some (.slice da1 N dc1) ∧ w'.cell? ⟨b1, o1, none⟩ = some (.int .i64 (n : Int))) 13 #[false, false, false, false, false, false, false, false, false, false, false, false, false] (by kernel_rfl) rfl rfl ?_
  refine anyC_put 0 9 ?rv26 #[true, false, false, false, false, false, false, false, false, false, false, false, false] rfl rfl rfl (by kernel_rfl) (by kernel_rfl) (by kernel_rfl) (fun _ _ _ h => h) ?ry26 (⟨(B10.out.go hb0r3).c0, (B10.out.go hb0r3).c1, (B10.out.go hb0r3).c2, (hb0r3.cell (p := ⟨b1, o1, none⟩) (Nat.lt_of_lt_of_le hqr31 hb11.out.size)).trans hsr31⟩) ?rm26
  case ry26 => first | exact Or.inl ⟨by rfl, by intro w'; go_simp; first | done | rfl⟩
  case rm26 =>
  simp only [Act.put, List.setIfInBounds_toArray, List.set_cons_zero, List.set_cons_succ]
  refine anyC_put 1 10 ?rv27 #[true, true, false, false, false, false, false, false, false, false, false, false, false] rfl rfl rfl (by kernel_rfl) (by kernel_rfl) (by kernel_rfl) (fun _ _ _ h => h) ?ry27 (⟨(B10.out.go hb0r3).c0, (B10.out.go hb0r3).c1, (B10.out.go hb0r3).c2, (hb0r3.cell (p := ⟨b1, o1, none⟩) (Nat.lt_of_lt_of_le hqr31 hb11.out.size)).trans hsr31⟩) ?rm27
  case ry27 => first | exact Or.inl ⟨by rfl, by intro w'; go_simp; first | done | rfl⟩
  case rm27 =>
  simp only [Act.put, List.setIfInBounds_toArray, List.set_cons_zero, List.set_cons_succ]
  refine anyC_put 2 11 ?rv28 #[true, true, true, false, false, false, false, false, false, false, false, false, false] rfl rfl rfl (by kernel_rfl) (by kernel_rfl) (by kernel_rfl) (fun _ _ _ h => h) ?ry28 (⟨(B10.out.go hb0r3).c0, (B10.out.go hb0r3).c1, (B10.out.go hb0r3).c2, (hb0r3.cell (p := ⟨b1, o1, none⟩) (Nat.lt_of_lt_of_le hqr31 hb11.out.size)).trans hsr31⟩) ?rm28
  case ry28 => first | exact Or.inl ⟨by rfl, by intro w'; go_simp; first | done | rfl⟩
  case rm28 =>
  simp only [Act.put, List.setIfInBounds_toArray, List.set_cons_zero, List.set_cons_succ]
  refine anyC_put 3 12 ?rv29 #[true, true, true, true, false, false, false, false, false, false, false, false, false] rfl rfl rfl (by kernel_rfl) (by kernel_rfl) (by kernel_rfl) (fun _ _ _ h => h) ?ry29 (⟨(B10.out.go hb0r3).c0, (B10.out.go hb0r3).c1, (B10.out.go hb0r3).c2, (hb0r3.cell (p := ⟨b1, o1, none⟩) (Nat.lt_of_lt_of_le hqr31 hb11.out.size)).trans hsr31⟩) ?rm29
  case ry29 => first | exact Or.inl ⟨by rfl, by intro w'; go_simp; first | done | rfl⟩ | exact Or.inr ⟨by rfl, rfl⟩ | exact Or.inr ⟨by rfl, by rfl⟩
  case rm29 =>
  simp only [Act.put, List.setIfInBounds_toArray, List.set_cons_zero, List.set_cons_succ]
  refine anyC_take 4 13 ?rv30 #[true, true, true, true, true, false, false, false, false, false, false, false, false] rfl rfl rfl (by kernel_rfl) (by kernel_rfl) (by kernel_rfl) (fun _ _ _ h => h) ?ry30 (⟨(B10.out.go hb0r3).c0, (B10.out.go hb0r3).c1, (B10.out.go hb0r3).c2, (hb0r3.cell (p := ⟨b1, o1, none⟩) (Nat.lt_of_lt_of_le hqr31 hb11.out.size)).trans hsr31⟩) ?rm30
  case ry30 => first | exact Or.inl ⟨by rfl, by intro w' hw'; (try dsimp only at hw'); go_simp; first | done | rfl⟩ | exact Or.inr ⟨by rfl, rfl⟩ | exact Or.inr ⟨by rfl, by rfl⟩
  case rm30 =>
  simp only [Act.put, List.setIfInBounds_toArray, List.set_cons_zero, List.set_cons_succ]
  refine anyC_put 5 14 ?rv31 #[true, true, true, true, true, true, false, false, false, false, false, false, false] rfl rfl rfl (by kernel_rfl) (by kernel_rfl) (by kernel_rfl) (fun _ _ _ h => h) ?ry31 (⟨(B10.out.go hb0r3).c0, (B10.out.go hb0r3).c1, (B10.out.go hb0r3).c2, (hb0r3.cell (p := ⟨b1, o1, none⟩) (Nat.lt_of_lt_of_le hqr31 hb11.out.size)).trans hsr31⟩) ?rm31
  case ry31 => first | exact Or.inl ⟨by rfl, by intro w'; go_simp; first | done | rfl⟩ | exact Or.inr ⟨by rfl, rfl⟩ | exact Or.inr ⟨by rfl, by rfl⟩
  case rm31 =>
  simp only [Act.put, List.setIfInBounds_toArray, List.set_cons_zero, List.set_cons_succ]
  refine anyC_take 6 15 ?rv32 #[true, true, true, true, true, true, true, false, false, false, false, false, false] rfl rfl rfl (by kernel_rfl) (by kernel_rfl) (by kernel_rfl) (fun _ _ _ h => h) ?ry32 (⟨(B10.out.go hb0r3).c0, (B10.out.go hb0r3).c1, (B10.out.go hb0r3).c2, (hb0r3.cell (p := ⟨b1, o1, none⟩) (Nat.lt_of_lt_of_le hqr31 hb11.out.size)).trans hsr31⟩) ?rm32
  case ry32 => first | exact Or.inl ⟨by rfl, by intro w' hw'; (try dsimp only at hw'); go_simp; first | done | rfl⟩ | exact Or.inr ⟨by rfl, rfl⟩ | exact Or.inr ⟨by rfl, by rfl⟩
  case rm32 =>
  simp only [Act.put, List.setIfInBounds_toArray, List.set_cons_zero, List.set_cons_succ]
  refine anyC_put 7 16 ?rv33 #[true, true, true, true, true, true, true, true, false, false, false, false, false] rfl rfl rfl (by kernel_rfl) (by kernel_rfl) (by kernel_rfl) (fun _ _ _ h => h) ?ry33 (⟨(B10.out.go hb0r3).c0, (B10.out.go hb0r3).c1, (B10.out.go hb0r3).c2, (hb0r3.cell (p := ⟨b1, o1, none⟩) (Nat.lt_of_lt_of_le hqr31 hb11.out.size)).trans hsr31⟩) ?rm33
  case ry33 => first | exact Or.inl ⟨by rfl, by intro w'; go_simp; first | done | rfl⟩ | exact Or.inr ⟨by rfl, rfl⟩ | exact Or.inr ⟨by rfl, by rfl⟩
  case rm33 =>
  simp only [Act.put, List.setIfInBounds_toArray, List.set_cons_zero, List.set_cons_succ]
  refine anyC_take 8 17 ?rv34 #[true, true, true, true, true, true, true, true, true, false, false, false, false] rfl rfl rfl (by kernel_rfl) (by kernel_rfl) (by kernel_rfl) (fun _ _ _ h => h) ?ry34 (⟨(B10.out.go hb0r3).c0, (B10.out.go hb0r3).c1, (B10.out.go hb0r3).c2, (hb0r3.cell (p := ⟨b1, o1, none⟩) (Nat.lt_of_lt_of_le hqr31 hb11.out.size)).trans hsr31⟩) ?rm34
  case ry34 => first | exact Or.inl ⟨by rfl, by intro w' hw'; (try dsimp only at hw'); go_simp; first | done | rfl⟩ | exact Or.inr ⟨by rfl, rfl⟩ | exact Or.inr ⟨by rfl, by rfl⟩
  case rm34 =>
  simp only [Act.put, List.setIfInBounds_toArray, List.set_cons_zero, List.set_cons_succ]
  refine anyC_one 9 #[true, true, true, true, true, true, true, true, true, true, false, false, false] (by kernel_rfl) rfl rfl (fun K hK => ?_)
  go_simp
  go_wp2_with (go_at_call 8; refine (HDt.out _ ((HI1.out.2.1.below (hb11.out.trans (hb0r3.mono hb11.out.size))).mono (hb11.out.trans (hb0r3.mono hb11.out.size)).size).1).mono ?_; rintro e y1r3 ⟨rfl, hBy1r3⟩)
  have hby1r3 : Below v1.heap.size v1 y1r3 := hb0r3.trans (hBy1r3.mono hb0r3.size)
  refine hK.out _ _ (⟨(B10.out.go hby1r3).c0, (B10.out.go hby1r3).c1, (B10.out.go hby1r3).c2, (hby1r3.cell (p := ⟨b1, o1, none⟩) (Nat.lt_of_lt_of_le hqr31 hb11.out.size)).trans hsr31⟩) ?_
  clear hK K
  refine anyC_put 10 19 ?rv36 #[true, true, true, true, true, true, true, true, true, true, true, false, false] rfl rfl rfl (by kernel_rfl) (by kernel_rfl) (by kernel_rfl) (fun _ _ _ h => h) ?ry36 (⟨(B10.out.go hby1r3).c0, (B10.out.go hby1r3).c1, (B10.out.go hby1r3).c2, (hby1r3.cell (p := ⟨b1, o1, none⟩) (Nat.lt_of_lt_of_le hqr31 hb11.out.size)).trans hsr31⟩) ?rm36
  case ry36 => first | exact Or.inl ⟨by rfl, by intro w'; go_simp; first | done | rfl⟩ | exact Or.inr ⟨by rfl, rfl⟩ | exact Or.inr ⟨by rfl, by rfl⟩
  case rm36 =>
  simp only [Act.put, List.setIfInBounds_toArray, List.set_cons_zero, List.set_cons_succ]
  refine anyC_put 11 20 ?rv37 #[true, true, true, true, true, true, true, true, true, true, true, true, false] rfl rfl rfl (by kernel_rfl) (by kernel_rfl) (by kernel_rfl) (fun _ _ _ h => h) ?ry37 (⟨(B10.out.go hby1r3).c0, (B10.out.go hby1r3).c1, (B10.out.go hby1r3).c2, (hby1r3.cell (p := ⟨b1, o1, none⟩) (Nat.lt_of_lt_of_le hqr31 hb11.out.size)).trans hsr31⟩) ?rm37
  case ry37 => first | exact Or.inl ⟨by rfl, by intro w'; go_simp; first | done | rfl⟩ | exact Or.inr ⟨by rfl, rfl⟩ | exact Or.inr ⟨by rfl, by rfl⟩
  case rm37 =>
  simp only [Act.put, List.setIfInBounds_toArray, List.set_cons_zero, List.set_cons_succ]
  refine anyC_put 12 21 ?rv38 #[true, true, true, true, true, true, true, true, true, true, true, true, true] rfl rfl rfl (by kernel_rfl) (by kernel_rfl) (by kernel_rfl) (fun _ _ _ h => h) ?ry38 (⟨(B10.out.go hby1r3).c0, (B10.out.go hby1r3).c1, (B10.out.go hby1r3).c2, (hby1r3.cell (p := ⟨b1, o1, none⟩) (Nat.lt_of_lt_of_le hqr31 hb11.out.size)).trans hsr31⟩) ?rm38
  case ry38 => first | exact Or.inl ⟨by rfl, by intro w'; go_simp; first | done | rfl⟩
  case rm38 =>
  simp only [Act.put, List.setIfInBounds_toArray, List.set_cons_zero, List.set_cons_succ]
  refine anyC_done (by kernel_rfl) ?_
  have hB := hby1r3
  have z12 : v1.heap.size ≤ y1r3.heap.size := hB.size
  have B13 : Hid (Abx y1r3 (w.heap.size) (.bool false) (.slice (some ⟨b1, o1, none⟩) 2 sc1) (.slice da1 N dc1)) := B10.out.go hB
  have hb14 : Hid (Below w.heap.size w y1r3) := hb11.out.trans (hB.mono hb11.out.size)
  clear hB hb11 B10
  have n15 := Abx.new y1r3 (.bool false) (.slice none 0 0) (.slice none 0 0)
  go_wp2_with fail
  obtain ⟨wo16, hwo16⟩ : ∃ wo16, wo16 = (y1r3.alloc (.cells #[.bool false, .slice none 0 0, .slice none 0 0] 24)) := ⟨_, rfl⟩
  rw [← hwo16]
  have z17 : y1r3.heap.size + 1 ≤ wo16.heap.size := by rw [hwo16]; simp only [World.size_alloc]; omega
  have B18 : Hid (Abx wo16 (w.heap.size) (.bool false) (.slice (some ⟨b1, o1, none⟩) 2 sc1) (.slice da1 N dc1)) := by rw [hwo16]; exact (B13.out.al (.cells #[.bool false, .slice none 0 0, .slice none 0 0] 24))
  have B19 : Hid (Abx wo16 (y1r3.heap.size) (.bool false) (.slice none 0 0) (.slice none 0 0)) := by rw [hwo16]; exact n15
  have hb20 : Hid (Below w.heap.size w wo16) := by rw [hwo16]; exact (hb14.out.alloc (by omega) (.cells #[.bool false, .slice none 0 0, .slice none 0 0] 24))
  have zwo16 : w.heap.size ≤ wo16.heap.size := hb20.out.size
  clear hwo16 n15 hb14 B13
  obtain ⟨hqr4, hsr4⟩ : b1 < w.heap.size ∧ wo16.cell? ⟨b1, o1, none⟩ = some (.int .i64 (n : Int)) := shp14 HI1.out.1 hb20.out
  have hb0r4 : Below wo16.heap.size wo16 wo16.drew := (Below.refl _ wo16).drew
  refine anyT_begin 12 (fun w' => w'.cell? ⟨w.heap.size, 0, none⟩ = some (.bool false) ∧ w'.cell? ⟨w.heap.size, 1, none⟩ = some (.slice (some ⟨b1, o1, none⟩) 2 sc1) ∧ w'.cell? ⟨w.heap.size, 2, none⟩ = some (.slice da1 N dc1) ∧ w'.cell? ⟨b1, o1, none⟩ = some (.int .i64 (n : Int))) 13 #[false, false, false, false, false, false, false, false, false, false, false, false, false] (by kernel_rfl) rfl rfl ?_
  refine anyT_put 0 24 ?rv39 #[true, false, false, false, false, false, false, false, false, false, false, false, false] rfl rfl rfl (by kernel_rfl) (by kernel_rfl) (by kernel_rfl) (fun _ _ _ h => h) (by decide) ?ry39 (fun _ => ⟨(B18.out.go hb0r4).c0, (B18.out.go hb0r4).c1, (B18.out.go hb0r4).c2, (hb0r4.cell (p := ⟨b1, o1, none⟩) (Nat.lt_of_lt_of_le hqr4 hb20.out.size)).trans hsr4⟩) ?rm39
  case ry39 => first | exact Or.inl ⟨by rfl, by intro w'; go_simp; first | done | rfl⟩
  case rm39 =>
  simp only [Act.put, List.setIfInBounds_toArray, List.set_cons_zero, List.set_cons_succ]
  refine anyT_take 1 25 ?rv40 #[true, true, false, false, false, false, false, false, false, false, false, false, false] rfl rfl rfl (by kernel_rfl) (by kernel_rfl) (by kernel_rfl) (fun _ _ _ h => h) (by kernel_rfl) (by decide) (by kernel_rfl) ?ry40 (⟨(B18.out.go hb0r4).c0, (B18.out.go hb0r4).c1, (B18.out.go hb0r4).c2, (hb0r4.cell (p := ⟨b1, o1, none⟩) (Nat.lt_of_lt_of_le hqr4 hb20.out.size)).trans hsr4⟩) ?rm40
  case ry40 => first | exact Or.inl ⟨by rfl, by intro w' hw'; (try dsimp only at hw'); go_simp; first | done | rfl⟩
  case rm40 =>
  simp only [Act.put, List.setIfInBounds_toArray, List.set_cons_zero, List.set_cons_succ]
  refine anyT_put 2 26 ?rv41 #[true, true, true, false, false, false, false, false, false, false, false, false, false] rfl rfl rfl (by kernel_rfl) (by kernel_rfl) (by kernel_rfl) (fun _ _ _ h => h) (by decide) ?ry41 (fun _ => ⟨(B18.out.go hb0r4).c0, (B18.out.go hb0r4).c1, (B18.out.go hb0r4).c2, (hb0r4.cell (p := ⟨b1, o1, none⟩) (Nat.lt_of_lt_of_le hqr4 hb20.out.size)).trans hsr4⟩) ?rm41
  case ry41 => first | exact Or.inl ⟨by rfl, by intro w'; go_simp; first | done | rfl⟩
  case rm41 =>
  simp only [Act.put, List.setIfInBounds_toArray, List.set_cons_zero, List.set_cons_succ]
  refine anyT_take 3 27 ?rv42 #[true, true, true, true, false, false, false, false, false, false, false, false, false] rfl rfl rfl (by kernel_rfl) (by kernel_rfl) (by kernel_rfl) (fun _ _ _ h => h) (by kernel_rfl) (by decide) (by kernel_rfl) ?ry42 (⟨(B18.out.go hb0r4).c0, (B18.out.go hb0r4).c1, (B18.out.go hb0r4).c2, (hb0r4.cell (p := ⟨b1, o1, none⟩) (Nat.lt_of_lt_of_le hqr4 hb20.out.size)).trans hsr4⟩) ?rm42
  case ry42 => first | exact Or.inl ⟨by rfl, by intro w' hw'; (try dsimp only at hw'); go_simp; first | done | rfl⟩
  case rm42 =>
  simp only [Act.put, List.setIfInBounds_toArray, List.set_cons_zero, List.set_cons_succ]
  refine anyT_put 4 28 ?rv43 #[true, true, true, true, true, false, false, false, false, false, false, false, false] rfl rfl rfl (by kernel_rfl) (by kernel_rfl) (by kernel_rfl) (fun _ _ _ h => h) (by decide) ?ry43 (fun _ => ⟨(B18.out.go hb0r4).c0, (B18.out.go hb0r4).c1, (B18.out.go hb0r4).c2, (hb0r4.cell (p := ⟨b1, o1, none⟩) (Nat.lt_of_lt_of_le hqr4 hb20.out.size)).trans hsr4⟩) ?rm43
  case ry43 => first | exact Or.inl ⟨by rfl, by intro w'; go_simp; first | done | rfl⟩
  case rm43 =>
  simp only [Act.put, List.setIfInBounds_toArray, List.set_cons_zero, List.set_cons_succ]
  refine anyT_take 5 29 ?rv44 #[true, true, true, true, true, true, false, false, false, false, false, false, false] rfl rfl rfl (by kernel_rfl) (by kernel_rfl) (by kernel_rfl) (fun _ _ _ h => h) (by kernel_rfl) (by decide) (by kernel_rfl) ?ry44 (⟨(B18.out.go hb0r4).c0, (B18.out.go hb0r4).c1, (B18.out.go hb0r4).c2, (hb0r4.cell (p := ⟨b1, o1, none⟩) (Nat.lt_of_lt_of_le hqr4 hb20.out.size)).trans hsr4⟩) ?rm44
  case ry44 => first | exact Or.inl ⟨by rfl, by intro w' hw'; (try dsimp only at hw'); go_simp; first | done | rfl⟩
  case rm44 =>
  simp only [Act.put, List.setIfInBounds_toArray, List.set_cons_zero, List.set_cons_succ]
  refine anyT_put 6 30 ?rv45 #[true, true, true, true, true, true, true, false, false, false, false, false, false] rfl rfl rfl (by kernel_rfl) (by kernel_rfl) (by kernel_rfl) (fun _ _ _ h => h) (by decide) ?ry45 (fun _ => ⟨(B18.out.go hb0r4).c0, (B18.out.go hb0r4).c1, (B18.out.go hb0r4).c2, (hb0r4.cell (p := ⟨b1, o1, none⟩) (Nat.lt_of_lt_of_le hqr4 hb20.out.size)).trans hsr4⟩) ?rm45
  case ry45 => first | exact Or.inl ⟨by rfl, by intro w'; go_simp; first | done | rfl⟩
  case rm45 =>
  simp only [Act.put, List.setIfInBounds_toArray, List.set_cons_zero, List.set_cons_succ]
  refine anyT_take 7 31 ?rv46 #[true, true, true, true, true, true, true, true, false, false, false, false, false] rfl rfl rfl (by kernel_rfl) (by kernel_rfl) (by kernel_rfl) (fun _ _ _ h => h) (by kernel_rfl) (by decide) (by kernel_rfl) ?ry46 (⟨(B18.out.go hb0r4).c0, (B18.out.go hb0r4).c1, (B18.out.go hb0r4).c2, (hb0r4.cell (p := ⟨b1, o1, none⟩) (Nat.lt_of_lt_of_le hqr4 hb20.out.size)).trans hsr4⟩) ?rm46
  case ry46 => first | exact Or.inl ⟨by rfl, by intro w' hw'; (try dsimp only at hw'); go_simp; first | done | rfl⟩
  case rm46 =>
  simp only [Act.put, List.setIfInBounds_toArray, List.set_cons_zero, List.set_cons_succ]
  refine anyT_put 8 32 ?rv47 #[true, true, true, true, true, true, true, true, true, false, false, false, false] rfl rfl rfl (by kernel_rfl) (by kernel_rfl) (by kernel_rfl) (fun _ _ _ h => h) (by decide) ?ry47 (fun _ => ⟨(B18.out.go hb0r4).c0, (B18.out.go hb0r4).c1, (B18.out.go hb0r4).c2, (hb0r4.cell (p := ⟨b1, o1, none⟩) (Nat.lt_of_lt_of_le hqr4 hb20.out.size)).trans hsr4⟩) ?rm47
  case ry47 => first | exact Or.inl ⟨by rfl, by intro w'; go_simp; first | done | rfl⟩
  case rm47 =>
  simp only [Act.put, List.setIfInBounds_toArray, List.set_cons_zero, List.set_cons_succ]
  refine anyT_take 9 33 ?rv48 #[true, true, true, true, true, true, true, true, true, true, false, false, false] rfl rfl rfl (by kernel_rfl) (by kernel_rfl) (by kernel_rfl) (fun _ _ _ h => h) (by kernel_rfl) (by decide) (by kernel_rfl) ?ry48 (⟨(B18.out.go hb0r4).c0, (B18.out.go hb0r4).c1, (B18.out.go hb0r4).c2, (hb0r4.cell (p := ⟨b1, o1, none⟩) (Nat.lt_of_lt_of_le hqr4 hb20.out.size)).trans hsr4⟩) ?rm48
  case ry48 => first | exact Or.inl ⟨by rfl, by intro w' hw'; (try dsimp only at hw'); go_simp; first | done | rfl⟩
  case rm48 =>
  simp only [Act.put, List.setIfInBounds_toArray, List.set_cons_zero, List.set_cons_succ]
  refine anyT_one 10 #[true, true, true, true, true, true, true, true, true, true, true, false, false] (by kernel_rfl) rfl rfl (fun K hK => ?_)
  go_simp
  go_wp2_with (go_at_call 20; refine (inver_ref n hn N HN.out.1 da1 dc1 dz1 HN.out.2 HE.out _ ((HI1.out.2.1.below (hb20.out.trans (hb0r4.mono hb20.out.size))).mono (hb20.out.trans (hb0r4.mono hb20.out.size)).size).1).mono ?_; rintro e y1r4 ⟨gr, gc, rfl, hGr, hBy1r4⟩)
  have hby1r4 : Below wo16.heap.size wo16 y1r4 := hb0r4.trans (hBy1r4.mono hb0r4.size)
  refine hK.out _ _ (fun _ => ⟨(B18.out.go hby1r4).c0, (B18.out.go hby1r4).c1, (B18.out.go hby1r4).c2, (hby1r4.cell (p := ⟨b1, o1, none⟩) (Nat.lt_of_lt_of_le hqr4 hb20.out.size)).trans hsr4⟩) ?_
  clear hK K
  refine anyT_one 11 #[true, true, true, true, true, true, true, true, true, true, true, true, false] (by kernel_rfl) rfl rfl (fun K hK => ?_)
  go_simp
  go_wp2_with (go_at_call 14; refine (sqr_any n gr N gc _).mono ?_; rintro e y2r4 ⟨xsr4, rfl, hSr4, hBy2r4⟩)
  have hby2r4 : Below wo16.heap.size wo16 y2r4 := hby1r4.trans (hBy2r4.mono hby1r4.size)
  have bx := B19.out.go hby2r4
  have f0 := bx.fr 0
  have r0 := bx.c0
  have f1 := bx.fr 1
  have r1 := bx.c1
  have f2 := bx.fr 2
  have r2 := bx.c2
  refine hK.out _ _ (fun _ => ⟨(B18.out.go hby2r4).c0, (B18.out.go hby2r4).c1, (B18.out.go hby2r4).c2, (hby2r4.cell (p := ⟨b1, o1, none⟩) (Nat.lt_of_lt_of_le hqr4 hb20.out.size)).trans hsr4⟩) ?_
  clear hK K
  refine anyT_one 12 #[true, true, true, true, true, true, true, true, true, true, true, true, true] (by kernel_rfl) rfl rfl (fun K hK => ?_)
  go_simp
  refine hK.out _ _ (fun h => absurd h (by decide)) ?_
  clear hK K
  refine anyT_done (by kernel_rfl) ?_
  obtain ⟨wr4, HWr4⟩ : ∃ x, Hid (x = (((y2r4.setCell ⟨y1r3.heap.size, 0, none⟩ (.bool false)).setCell ⟨y1r3.heap.size, 1, none⟩ (.slice xsr4 2 2)).setCell ⟨y1r3.heap.size, 2, none⟩ (.slice gr N gc))) := ⟨_, rfl⟩
  rw [← HWr4.out]
  have hltr4 : y1r3.heap.size < wo16.heap.size := B19.out.lt
  have zz1r4 : wo16.heap.size ≤ y1r4.heap.size := hBy1r4.size
  have zz2r4 : y1r4.heap.size ≤ y2r4.heap.size := hBy2r4.size
  have zdr4 : wo16.drew.heap.size = wo16.heap.size := rfl
  have B1r4 : Hid (Abx wr4 (w.heap.size) (.bool false) (.slice (some ⟨b1, o1, none⟩) 2 sc1) (.slice da1 N dc1)) := by rw [HWr4.out]; exact abx_o3 (B18.out.go hby2r4) (B := y1r3.heap.size) (by omega) (.bool false) (.slice xsr4 2 2) (.slice gr N gc)
  have B2r4 : Hid (Abx wr4 (y1r3.heap.size) (.bool false) (.slice xsr4 2 2) (.slice gr N gc)) := by rw [HWr4.out]; exact bx.set3 (.bool false) (.slice xsr4 2 2) (.slice gr N gc)
  have L1r4 : Hid (MidC (y1r4.heap.size) (y2r4.heap.size) wr4 (xsr4) [(n : Int), (n : Int)] 2) := by rw [HWr4.out]; exact (hSr4.midc).s3 (b := y1r3.heap.size) (by omega) (.bool false) (.slice xsr4 2 2) (.slice gr N gc)
  have L2r4 : Hid (MidC (wo16.heap.size) (y1r4.heap.size) wr4 (gr) (vI n dz1) (gc)) := by rw [HWr4.out]; exact ((hGr.midc).go (by omega) hBy2r4).s3 (b := y1r3.heap.size) (by omega) (.bool false) (.slice xsr4 2 2) (.slice gr N gc)
  have hbr4 : Hid (Below w.heap.size w wr4) := by rw [HWr4.out]; exact bel_s3 (hb20.out.trans (hby2r4.mono hb20.out.size)) (B := y1r3.heap.size) (by omega) (.bool false) (.slice xsr4 2 2) (.slice gr N gc)
  have zwr4 : y2r4.heap.size ≤ wr4.heap.size := by rw [HWr4.out]; simp
  clear zdr4 HWr4 B18 B19 hb20 bx f0 f1 f2 r0 r1 r2
  have l21 := (B1r4.out).c0
  have l22 := (B1r4.out).c1
  have l23 := (B1r4.out).c2
  go_wp2_with fail
  clear l21 l22 l23
  refine (minv_v n hn (some ⟨b1, o1, none⟩) sc1 da1 dc1 dz1 N HN.out.2 HL1.out _ ((HI1.out.1.below hbr4.out).mono hbr4.out.size).1 ((HI1.out.2.1.below hbr4.out).mono hbr4.out.size).1 HE.out).mono ?_
  rintro e v2 ⟨xa3, xc3, ya3, yc3, rfl, hX3, hY3, hB⟩
  have z24 : wr4.heap.size ≤ v2.heap.size := hB.size
  have B25 : Hid (Abx v2 (w.heap.size) (.bool false) (.slice (some ⟨b1, o1, none⟩) 2 sc1) (.slice da1 N dc1)) := B1r4.out.go hB
  have B26 : Hid (Abx v2 (y1r3.heap.size) (.bool false) (.slice xsr4 2 2) (.slice gr N gc)) := B2r4.out.go hB
  have L27 : Hid (MidC (y1r4.heap.size) (y2r4.heap.size) v2 (xsr4) ([(n : Int), (n : Int)]) (2)) := L1r4.out.go (by omega) hB
  have L28 : Hid (MidC (wo16.heap.size) (y1r4.heap.size) v2 (gr) (vI n dz1) (gc)) := L2r4.out.go (by omega) hB
  have hb29 : Hid (Below w.heap.size w v2) := hbr4.out.trans (hB.mono hbr4.out.size)
  have L30 : Hid (MidC (wr4.heap.size) (v2.heap.size) v2 (xa3) ([(n : Int), (n : Int)]) (xc3)) := hX3.midc
  have L31 : Hid (MidC (wr4.heap.size) (v2.heap.size) v2 (ya3) (vI n dz1) (yc3)) := hY3.midc
  clear hB hbr4 B1r4 B2r4 L1r4 L2r4 hX3 hY3
  rw [HLp.out]
  have n32 := Abx.new v2 (.bool false) (.slice (xa3) 2 (xc3)) (.slice (ya3) (N) (yc3))
  have l33 := (n32).c0
  have l34 := (n32).c1
  have l35 := (n32).c2
  have l36 := ((B26.out.al (.cells #[.bool false, .slice (xa3) 2 (xc3), .slice (ya3) (N) (yc3)] 24))).c0
  have l37 := ((B26.out.al (.cells #[.bool false, .slice (xa3) 2 (xc3), .slice (ya3) (N) (yc3)] 24))).c1
  have l38 := ((B26.out.al (.cells #[.bool false, .slice (xa3) 2 (xc3), .slice (ya3) (N) (yc3)] 24))).c2
  go_wp2_with fail
  obtain ⟨wo39, hwo39⟩ : ∃ wo39, wo39 = (v2.alloc (.cells #[.bool false, .slice (xa3) 2 (xc3), .slice (ya3) (N) (yc3)] 24)) := ⟨_, rfl⟩
  rw [← hwo39]
  have z40 : v2.heap.size + 1 ≤ wo39.heap.size := by rw [hwo39]; simp only [World.size_alloc]; omega
  have B41 : Hid (Abx wo39 (w.heap.size) (.bool false) (.slice (some ⟨b1, o1, none⟩) 2 sc1) (.slice da1 N dc1)) := by rw [hwo39]; exact (B25.out.al (.cells #[.bool false, .slice (xa3) 2 (xc3), .slice (ya3) (N) (yc3)] 24))
  have B42 : Hid (Abx wo39 (y1r3.heap.size) (.bool false) (.slice xsr4 2 2) (.slice gr N gc)) := by rw [hwo39]; exact (B26.out.al (.cells #[.bool false, .slice (xa3) 2 (xc3), .slice (ya3) (N) (yc3)] 24))
  have B43 : Hid (Abx wo39 (v2.heap.size) (.bool false) (.slice (xa3) 2 (xc3)) (.slice (ya3) (N) (yc3))) := by rw [hwo39]; exact n32
  have L44 : Hid (MidC (y1r4.heap.size) (y2r4.heap.size) wo39 (xsr4) ([(n : Int), (n : Int)]) (2)) := by rw [hwo39]; exact (L27.out.al (by omega) (.cells #[.bool false, .slice (xa3) 2 (xc3), .slice (ya3) (N) (yc3)] 24))
  have L45 : Hid (MidC (wo16.heap.size) (y1r4.heap.size) wo39 (gr) (vI n dz1) (gc)) := by rw [hwo39]; exact (L28.out.al (by omega) (.cells #[.bool false, .slice (xa3) 2 (xc3), .slice (ya3) (N) (yc3)] 24))
  have L46 : Hid (MidC (wr4.heap.size) (v2.heap.size) wo39 (xa3) ([(n : Int), (n : Int)]) (xc3)) := by rw [hwo39]; exact (L30.out.al (by omega) (.cells #[.bool false, .slice (xa3) 2 (xc3), .slice (ya3) (N) (yc3)] 24))
  have L47 : Hid (MidC (wr4.heap.size) (v2.heap.size) wo39 (ya3) (vI n dz1) (yc3)) := by rw [hwo39]; exact (L31.out.al (by omega) (.cells #[.bool false, .slice (xa3) 2 (xc3), .slice (ya3) (N) (yc3)] 24))
  have hb48 : Hid (Below w.heap.size w wo39) := by rw [hwo39]; exact (hb29.out.alloc (by omega) (.cells #[.bool false, .slice (xa3) 2 (xc3), .slice (ya3) (N) (yc3)] 24))
  have zwo39 : w.heap.size ≤ wo39.heap.size := hb48.out.size
  clear hwo39 n32 l33 l34 l35 l36 l37 l38 hb29 B25 B26 L27 L28 L30 L31
  refine (is_ok14 n N (vI n dz1) HLp.out N36 (xa3) (xc3) (ya3) (yc3) (xsr4) 2 (gr) (gc) _ (HG.out.go hb48.out) (L46.out.is (by omega)).1 (L47.out.is (by omega)).1 (L44.out.is (by omega)).1 (L45.out.is (by omega)).1).mono ?_
  rintro e v3 ⟨rfl, hB⟩
  have z49 : wo39.heap.size ≤ v3.heap.size := hB.size
  have B50 : Hid (Abx v3 (w.heap.size) (.bool false) (.slice (some ⟨b1, o1, none⟩) 2 sc1) (.slice da1 N dc1)) := B41.out.go hB
  have B51 : Hid (Abx v3 (y1r3.heap.size) (.bool false) (.slice xsr4 2 2) (.slice gr N gc)) := B42.out.go hB
  have B52 : Hid (Abx v3 (v2.heap.size) (.bool false) (.slice (xa3) 2 (xc3)) (.slice (ya3) (N) (yc3))) := B43.out.go hB
  have L53 : Hid (MidC (y1r4.heap.size) (y2r4.heap.size) v3 (xsr4) ([(n : Int), (n : Int)]) (2)) := L44.out.go (by omega) hB
  have L54 : Hid (MidC (wo16.heap.size) (y1r4.heap.size) v3 (gr) (vI n dz1) (gc)) := L45.out.go (by omega) hB
  have L55 : Hid (MidC (wr4.heap.size) (v2.heap.size) v3 (xa3) ([(n : Int), (n : Int)]) (xc3)) := L46.out.go (by omega) hB
  have L56 : Hid (MidC (wr4.heap.size) (v2.heap.size) v3 (ya3) (vI n dz1) (yc3)) := L47.out.go (by omega) hB
  have hb57 : Hid (Below w.heap.size w v3) := hb48.out.trans (hB.mono hb48.out.size)
  clear hB hb48 B41 B42 B43 L44 L45 L46 L47
  go_wp2_with fail
  go_ret
  exact ⟨rfl, hb57.out⟩
theorem minvs_walk (c1 : Bool) (sa1 : Option Addr) (sc1 : Nat) (sz1 : List Int) (da1 : Option Addr) (dc1 : Nat) (dz1 : List Int) (w : World) (hg : HasErr w) (w8 : IsArrD w sa1 sz1 sc1 da1 dz1 dc1) :
    Calls Tryd.prog 6 #[.agg #[.bool c1, .slice sa1 sz1.length sc1, .slice da1 dz1.length dc1]] w fun e w' => e = .returned (.bool true) ∧ Below w.heap.size w w' := by
  by_cases h1 : mxE c1 sz1 dz1 = 0
  · obtain ⟨n, hn, rfl, hl1, rfl⟩ := mx_is h1
    obtain ⟨b1, o1, rfl⟩ := opn14 w8.2.2.1
    have h2 : wrap64 (dt n (rdg n dz1)) % 2 = 0 ∨ wrap64 (dt n (rdg n dz1)) % 2 = 1 := by omega
    rcases h2 with h2 | h2
    · exact invs_e n hn b1 o1 sc1 da1 dc1 dz1 hl1 w ⟨w8.2.2.1, w8.2.2.2.1, w8.2.2.2.2.2⟩ hg h2
    · exact invs_o n hn b1 o1 sc1 da1 dc1 dz1 hl1 w ⟨w8.2.2.1, w8.2.2.2.1, w8.2.2.2.2.2⟩ hg h2
  · exact invs_no c1 sa1 sc1 sz1 da1 dc1 dz1 w hg w8 h1
end Go.Proofs.YtjaabemlpiafaaaDoor
