/-
  The walk of the statement ReachOrders, given what the program tells.
-/
import Derived.Test.YtgaelbgeoobgiaaDoorHold
import Derived.Test.YtgaelbgeoobgiaaDoorRsx
import Derived.Test.YtgaelbgeoobgiaaDoorRro
import Derived.Test.YtgaelbgeoobgiaaDoorRgo
import Derived.Test.YtgaelbgeoobgiaaDoorMidc
import Derived.Test.YtgaelbgeoobgiaaDoorCutq
namespace Go.Proofs.YtgaelbgeoobgiaaDoor
open Go.RowKit
set_option linter.unusedVariables false

theorem shp14 {w v : World} {b o n sc : Nat} (h : IsC w.heap.size w (some ⟨b, o, none⟩) [(n : Int), (n : Int)] sc) (hB : Below w.heap.size w v) : b < w.heap.size ∧ v.cell? ⟨b, o, none⟩ = some (.int .i64 (n : Int)) := by
  obtain ⟨b', o', e, hb, hc⟩ := (h.1.below hB).at (q := 0) (by simp)
  cases e
  have h0 := hc 0 (by simp)
  rw [Nat.add_zero] at h0
  exact ⟨hb, h0⟩
theorem opn14 {w : World} {sa : Option Addr} {n sc : Nat} (h : IsC w.heap.size w sa [(n : Int), (n : Int)] sc) : ∃ b o, sa = some ⟨b, o, none⟩ := by
  obtain ⟨b, o, e, _, _⟩ := h.1.at (q := 0) (by simp)
  exact ⟨b, o, e⟩
set_option maxRecDepth 100000 in
set_option maxHeartbeats 2000000 in
theorem ords_no (c1 : Bool) (sa1 : Option Addr) (sc1 : Nat) (sz1 : List Int) (da1 : Option Addr) (dc1 : Nat) (dz1 : List Int) (w : World) (hg : HasErr w) (w8 : IsArrD w sa1 sz1 sc1 da1 dz1 dc1) (h0 : rlE c1 sz1 dz1 ≠ 0) :
    Calls Tryd.prog 4 #[.agg #[.bool c1, .slice sa1 sz1.length sc1, .slice da1 dz1.length dc1]] w fun e w' => e = .returned (.bool true) ∧ Below w.heap.size w w' := by
  have HI1 : Hid (IsC w.heap.size w sa1 sz1 sc1 ∧ IsC w.heap.size w da1 dz1 dc1) := ⟨w8.2.2.1, w8.2.2.2.1⟩
  have HG : Hid (HasErr w) := hg
  obtain ⟨E, hE⟩ : ∃ E, rlE c1 sz1 dz1 = E := ⟨_, rfl⟩
  have HE : Hid (rlE c1 sz1 dz1 = E) := hE
  have HNe : Hid (rlE c1 sz1 dz1 ≠ 0) := h0
  have tE : (E == 0) = false := by rw [← hE]; simpa using h0
  clear hE h0 hg
  have n1 := Abx.new w (.bool c1) (.slice sa1 sz1.length sc1) (.slice da1 dz1.length dc1)
  have l2 := (n1).c0
  have l3 := (n1).c1
  have l4 := (n1).c2
  go_enter Tryd.func4, Tryd.ntmps4
  go_wp2_with fail
  obtain ⟨wo5, hwo5⟩ : ∃ wo5, wo5 = (w.alloc (.cells #[.bool c1, .slice sa1 sz1.length sc1, .slice da1 dz1.length dc1] 24)) := ⟨_, rfl⟩
  rw [← hwo5]
  have z6 : w.heap.size + 1 ≤ wo5.heap.size := by rw [hwo5]; simp only [World.size_alloc]; omega
  have B7 : Hid (Abx wo5 (w.heap.size) (.bool c1) (.slice sa1 sz1.length sc1) (.slice da1 dz1.length dc1)) := by rw [hwo5]; exact n1
  have hb8 : Hid (Below w.heap.size w wo5) := by rw [hwo5]; exact ((Below.refl w.heap.size w).alloc (by omega) (.cells #[.bool c1, .slice sa1 sz1.length sc1, .slice da1 dz1.length dc1] 24))
  have zwo5 : w.heap.size ≤ wo5.heap.size := hb8.out.size
  clear hwo5 n1 l2 l3 l4
  refine (rfault_no c1 sa1 sc1 sz1 da1 dc1 dz1 E HE.out _ w8.1 w8.2.1 ((HI1.out.1.below hb8.out).mono hb8.out.size).1 ((HI1.out.2.below hb8.out).mono hb8.out.size).1).mono ?_
  rintro e v1 ⟨rfl, hB⟩
  have z9 : wo5.heap.size ≤ v1.heap.size := hB.size
  have B10 : Hid (Abx v1 (w.heap.size) (.bool c1) (.slice sa1 sz1.length sc1) (.slice da1 dz1.length dc1)) := B7.out.go hB
  have hb11 : Hid (Below w.heap.size w v1) := hb8.out.trans (hB.mono hb8.out.size)
  clear hB hb8 B7
  have l12 := (B10.out).c0
  have l13 := (B10.out).c1
  have l14 := (B10.out).c2
  go_wp2_with fail
  clear l12 l13 l14
  refine (ord_no c1 sa1 sc1 sz1 da1 dc1 dz1 _ w8.1 w8.2.1 ((HI1.out.1.below hb11.out).mono hb11.out.size).1 ((HI1.out.2.below hb11.out).mono hb11.out.size).1 HNe.out).mono ?_
  rintro e v2 ⟨rfl, hB⟩
  have z15 : v1.heap.size ≤ v2.heap.size := hB.size
  have B16 : Hid (Abx v2 (w.heap.size) (.bool c1) (.slice sa1 sz1.length sc1) (.slice da1 dz1.length dc1)) := B10.out.go hB
  have hb17 : Hid (Below w.heap.size w v2) := hb11.out.trans (hB.mono hb11.out.size)
  clear hB hb11 B10
  rw [HE.out]
  go_wp2_with fail
  refine (ints_no15 E (by rw [← HE.out]; exact HNe.out) _ (HG.out.go hb17.out)).mono ?_
  rintro e v3 ⟨rfl, hB⟩
  have z18 : v2.heap.size ≤ v3.heap.size := hB.size
  have B19 : Hid (Abx v3 (w.heap.size) (.bool c1) (.slice sa1 sz1.length sc1) (.slice da1 dz1.length dc1)) := B16.out.go hB
  have hb20 : Hid (Below w.heap.size w v3) := hb17.out.trans (hB.mono hb17.out.size)
  clear hB hb17 B16
  go_wp2_with fail
  go_ret
  exact ⟨rfl, hb20.out⟩
set_option maxRecDepth 100000 in
set_option maxHeartbeats 2000000 in
theorem ords_none (n : Nat) (hn : n ≤ 24) (b1 o1 sc1 : Nat) (da1 : Option Addr) (dc1 : Nat) (dz1 : List Int) (HL1 : Hid (dz1.length = n * n)) (w : World) (HI1 : Hid (IsC w.heap.size w (some ⟨b1, o1, none⟩) [(n : Int), (n : Int)] sc1 ∧ IsC w.heap.size w da1 dz1 dc1 ∧ ∀ j, In64 (nth dz1 j))) (hg : HasErr w) (hk1 : mskB dz1 = true) (ho : tp (rdR n dz1) n n [] = none) :
    Calls Tryd.prog 4 #[.agg #[.bool false, .slice (some ⟨b1, o1, none⟩) 2 sc1, .slice da1 dz1.length dc1]] w fun e w' => e = .returned (.bool true) ∧ Below w.heap.size w w' := by
  have HG : Hid (HasErr w) := hg
  have HK1 : Hid (mskB dz1 = true) := hk1
  obtain ⟨N, hN⟩ : ∃ N, N = n * n := ⟨_, rfl⟩
  have N576 : N ≤ 576 := by have : n * n ≤ 24 * 24 := Nat.mul_le_mul hn hn; omega
  have HN : Hid (N = n * n ∧ dz1.length = N) := ⟨hN, by rw [HL1.out, hN]⟩
  clear hN
  have HO : Hid (tp (rdR n dz1) n n [] = none) := ho
  clear ho
  have HR : Hid (∀ v, IsInts v.heap.size v da1 dz1 → Calls Tryd.prog 14 #[.int .i64 (n : Nat), .slice da1 N dc1] v fun e w' => e = .returned (.tuple #[.slice none 0 0, .bool false]) ∧ Below v.heap.size v w') := fun v hv => by
    have h := ordered_ref n hn da1 dc1 dz1 N HN.out.2 HL1.out v hv
    rw [HO.out] at h
    exact h
  have HP : Hid (∀ v, IsInts v.heap.size v (some ⟨b1, o1, none⟩) [(n : Int), (n : Int)] → IsInts v.heap.size v da1 dz1 → Calls Tryd.prog 15 #[.agg #[.bool false, .slice (some ⟨b1, o1, none⟩) 2 sc1, .slice da1 N dc1]] v fun e w' => e = .returned (.tuple #[.slice none 0 0, .iface 25 (.int .i64 9)]) ∧ Below v.heap.size v w') := fun v hs hv => by
    have h := ord_ok n hn (some ⟨b1, o1, none⟩) sc1 da1 dc1 dz1 N HN.out.2 HL1.out HK1.out v hs hv
    rw [HO.out] at h
    exact h
  clear hg hk1
  rw [HN.out.2]
  have n1 := Abx.new w (.bool false) (.slice (some ⟨b1, o1, none⟩) 2 sc1) (.slice da1 N dc1)
  have l2 := (n1).c0
  have l3 := (n1).c1
  have l4 := (n1).c2
  go_enter Tryd.func4, Tryd.ntmps4
  go_wp2_with fail
  obtain ⟨wo5, hwo5⟩ : ∃ wo5, wo5 = (w.alloc (.cells #[.bool false, .slice (some ⟨b1, o1, none⟩) 2 sc1, .slice da1 N dc1] 24)) := ⟨_, rfl⟩
  rw [← hwo5]
  have z6 : w.heap.size + 1 ≤ wo5.heap.size := by rw [hwo5]; simp only [World.size_alloc]; omega
  have B7 : Hid (Abx wo5 (w.heap.size) (.bool false) (.slice (some ⟨b1, o1, none⟩) 2 sc1) (.slice da1 N dc1)) := by rw [hwo5]; exact n1
  have hb8 : Hid (Below w.heap.size w wo5) := by rw [hwo5]; exact ((Below.refl w.heap.size w).alloc (by omega) (.cells #[.bool false, .slice (some ⟨b1, o1, none⟩) 2 sc1, .slice da1 N dc1] 24))
  have zwo5 : w.heap.size ≤ wo5.heap.size := hb8.out.size
  clear hwo5 n1 l2 l3 l4
  refine (rfault_ok n hn (some ⟨b1, o1, none⟩) sc1 da1 dc1 dz1 N HN.out.2 HL1.out HK1.out _ ((HI1.out.1.below hb8.out).mono hb8.out.size).1 ((HI1.out.2.1.below hb8.out).mono hb8.out.size).1).mono ?_
  rintro e v1 ⟨rfl, hB⟩
  have z9 : wo5.heap.size ≤ v1.heap.size := hB.size
  have B10 : Hid (Abx v1 (w.heap.size) (.bool false) (.slice (some ⟨b1, o1, none⟩) 2 sc1) (.slice da1 N dc1)) := B7.out.go hB
  have hb11 : Hid (Below w.heap.size w v1) := hb8.out.trans (hB.mono hb8.out.size)
  clear hB hb8 B7
  go_wp2_with fail
  obtain ⟨hqr41, hsr41⟩ : b1 < w.heap.size ∧ v1.cell? ⟨b1, o1, none⟩ = some (.int .i64 (n : Int)) := shp14 HI1.out.1 hb11.out
  have hb0r4 : Below v1.heap.size v1 v1.drew := (Below.refl _ v1).drew
  refine anyC_begin (fun w' => w'.cell? ⟨w.heap.size, 0, none⟩ = some (.bool false) ∧ w'.cell? ⟨w.heap.size, 1, none⟩ = some (.slice (some ⟨b1, o1, none⟩) 2 sc1) ∧ w'.cell? ⟨w.heap.size, 2, none⟩ = some (.slice da1 N dc1) ∧ w'.cell? ⟨b1, o1, none⟩ = some (.int .i64 (n : Int))) 12 #[false, false, false, false, false, false, false, false, false, false, false, false] (by kernel_rfl) rfl rfl ?_
  refine anyC_put 0 14 ?rv0 #[true, false, false, false, false, false, false, false, false, false, false, false] rfl rfl rfl (by kernel_rfl) (by kernel_rfl) (by kernel_rfl) (fun _ _ _ h => h) ?ry0 (⟨(B10.out.go hb0r4).c0, (B10.out.go hb0r4).c1, (B10.out.go hb0r4).c2, (hb0r4.cell (p := ⟨b1, o1, none⟩) (Nat.lt_of_lt_of_le hqr41 hb11.out.size)).trans hsr41⟩) ?rm0
  case ry0 => first | exact Or.inl ⟨by rfl, by intro w'; go_simp; first | done | rfl⟩
  case rm0 =>
  simp only [Act.put, List.setIfInBounds_toArray, List.set_cons_zero, List.set_cons_succ]
  refine anyC_take 1 15 ?rv1 #[true, true, false, false, false, false, false, false, false, false, false, false] rfl rfl rfl (by kernel_rfl) (by kernel_rfl) (by kernel_rfl) (fun _ _ _ h => h) ?ry1 (⟨(B10.out.go hb0r4).c0, (B10.out.go hb0r4).c1, (B10.out.go hb0r4).c2, (hb0r4.cell (p := ⟨b1, o1, none⟩) (Nat.lt_of_lt_of_le hqr41 hb11.out.size)).trans hsr41⟩) ?rm1
  case ry1 => first | exact Or.inl ⟨by rfl, by intro w' hw'; (try dsimp only at hw'); go_simp; first | done | rfl⟩
  case rm1 =>
  simp only [Act.put, List.setIfInBounds_toArray, List.set_cons_zero, List.set_cons_succ]
  refine anyC_put 2 16 ?rv2 #[true, true, true, false, false, false, false, false, false, false, false, false] rfl rfl rfl (by kernel_rfl) (by kernel_rfl) (by kernel_rfl) (fun _ _ _ h => h) ?ry2 (⟨(B10.out.go hb0r4).c0, (B10.out.go hb0r4).c1, (B10.out.go hb0r4).c2, (hb0r4.cell (p := ⟨b1, o1, none⟩) (Nat.lt_of_lt_of_le hqr41 hb11.out.size)).trans hsr41⟩) ?rm2
  case ry2 => first | exact Or.inl ⟨by rfl, by intro w'; go_simp; first | done | rfl⟩
  case rm2 =>
  simp only [Act.put, List.setIfInBounds_toArray, List.set_cons_zero, List.set_cons_succ]
  refine anyC_take 3 17 ?rv3 #[true, true, true, true, false, false, false, false, false, false, false, false] rfl rfl rfl (by kernel_rfl) (by kernel_rfl) (by kernel_rfl) (fun _ _ _ h => h) ?ry3 (⟨(B10.out.go hb0r4).c0, (B10.out.go hb0r4).c1, (B10.out.go hb0r4).c2, (hb0r4.cell (p := ⟨b1, o1, none⟩) (Nat.lt_of_lt_of_le hqr41 hb11.out.size)).trans hsr41⟩) ?rm3
  case ry3 => first | exact Or.inl ⟨by rfl, by intro w' hw'; (try dsimp only at hw'); go_simp; first | done | rfl⟩
  case rm3 =>
  simp only [Act.put, List.setIfInBounds_toArray, List.set_cons_zero, List.set_cons_succ]
  refine anyC_put 4 18 ?rv4 #[true, true, true, true, true, false, false, false, false, false, false, false] rfl rfl rfl (by kernel_rfl) (by kernel_rfl) (by kernel_rfl) (fun _ _ _ h => h) ?ry4 (⟨(B10.out.go hb0r4).c0, (B10.out.go hb0r4).c1, (B10.out.go hb0r4).c2, (hb0r4.cell (p := ⟨b1, o1, none⟩) (Nat.lt_of_lt_of_le hqr41 hb11.out.size)).trans hsr41⟩) ?rm4
  case ry4 => first | exact Or.inl ⟨by rfl, by intro w'; go_simp; first | done | rfl⟩
  case rm4 =>
  simp only [Act.put, List.setIfInBounds_toArray, List.set_cons_zero, List.set_cons_succ]
  refine anyC_take 5 19 ?rv5 #[true, true, true, true, true, true, false, false, false, false, false, false] rfl rfl rfl (by kernel_rfl) (by kernel_rfl) (by kernel_rfl) (fun _ _ _ h => h) ?ry5 (⟨(B10.out.go hb0r4).c0, (B10.out.go hb0r4).c1, (B10.out.go hb0r4).c2, (hb0r4.cell (p := ⟨b1, o1, none⟩) (Nat.lt_of_lt_of_le hqr41 hb11.out.size)).trans hsr41⟩) ?rm5
  case ry5 => first | exact Or.inl ⟨by rfl, by intro w' hw'; (try dsimp only at hw'); go_simp; first | done | rfl⟩
  case rm5 =>
  simp only [Act.put, List.setIfInBounds_toArray, List.set_cons_zero, List.set_cons_succ]
  refine anyC_one 6 #[true, true, true, true, true, true, true, false, false, false, false, false] (by kernel_rfl) rfl rfl (fun K hK => ?_)
  go_simp
  go_wp2_with (go_at_call 14; refine (HR.out _ ((HI1.out.2.1.below (hb11.out.trans (hb0r4.mono hb11.out.size))).mono (hb11.out.trans (hb0r4.mono hb11.out.size)).size).1).mono ?_; rintro e y1r4 ⟨rfl, hBy1r4⟩)
  have hby1r4 : Below v1.heap.size v1 y1r4 := hb0r4.trans (hBy1r4.mono hb0r4.size)
  refine hK.out _ _ (⟨(B10.out.go hby1r4).c0, (B10.out.go hby1r4).c1, (B10.out.go hby1r4).c2, (hby1r4.cell (p := ⟨b1, o1, none⟩) (Nat.lt_of_lt_of_le hqr41 hb11.out.size)).trans hsr41⟩) ?_
  clear hK K
  refine anyC_put 7 13 ?rv7 #[true, true, true, true, true, true, true, true, false, false, false, false] rfl rfl rfl (by kernel_rfl) (by kernel_rfl) (by kernel_rfl) (fun _ _ _ h => h) ?ry7 (⟨(B10.out.go hby1r4).c0, (B10.out.go hby1r4).c1, (B10.out.go hby1r4).c2, (hby1r4.cell (p := ⟨b1, o1, none⟩) (Nat.lt_of_lt_of_le hqr41 hb11.out.size)).trans hsr41⟩) ?rm7
  case ry7 => first | exact Or.inl ⟨by rfl, by intro w'; go_simp; first | done | rfl⟩
  case rm7 =>
  simp only [Act.put, List.setIfInBounds_toArray, List.set_cons_zero, List.set_cons_succ]
  refine anyC_put 8 21 ?rv8 #[true, true, true, true, true, true, true, true, true, false, false, false] rfl rfl rfl (by kernel_rfl) (by kernel_rfl) (by kernel_rfl) (fun _ _ _ h => h) ?ry8 (⟨(B10.out.go hby1r4).c0, (B10.out.go hby1r4).c1, (B10.out.go hby1r4).c2, (hby1r4.cell (p := ⟨b1, o1, none⟩) (Nat.lt_of_lt_of_le hqr41 hb11.out.size)).trans hsr41⟩) ?rm8
  case ry8 => first | exact Or.inl ⟨by rfl, by intro w'; go_simp; first | done | rfl⟩
  case rm8 =>
  simp only [Act.put, List.setIfInBounds_toArray, List.set_cons_zero, List.set_cons_succ]
  refine anyC_put 9 22 ?rv9 #[true, true, true, true, true, true, true, true, true, true, false, false] rfl rfl rfl (by kernel_rfl) (by kernel_rfl) (by kernel_rfl) (fun _ _ _ h => h) ?ry9 (⟨(B10.out.go hby1r4).c0, (B10.out.go hby1r4).c1, (B10.out.go hby1r4).c2, (hby1r4.cell (p := ⟨b1, o1, none⟩) (Nat.lt_of_lt_of_le hqr41 hb11.out.size)).trans hsr41⟩) ?rm9
  case ry9 => first | exact Or.inl ⟨by rfl, by intro w'; go_simp; first | done | rfl⟩
  case rm9 =>
  simp only [Act.put, List.setIfInBounds_toArray, List.set_cons_zero, List.set_cons_succ]
  refine anyC_put 10 5 ?rv10 #[true, true, true, true, true, true, true, true, true, true, true, false] rfl rfl rfl (by kernel_rfl) (by kernel_rfl) (by kernel_rfl) (fun _ _ _ h => h) ?ry10 (⟨(B10.out.go hby1r4).c0, (B10.out.go hby1r4).c1, (B10.out.go hby1r4).c2, (hby1r4.cell (p := ⟨b1, o1, none⟩) (Nat.lt_of_lt_of_le hqr41 hb11.out.size)).trans hsr41⟩) ?rm10
  case ry10 => first | exact Or.inl ⟨by rfl, by intro w'; go_simp; first | done | rfl⟩
  case rm10 =>
  simp only [Act.put, List.setIfInBounds_toArray, List.set_cons_zero, List.set_cons_succ]
  refine anyC_put 11 6 ?rv11 #[true, true, true, true, true, true, true, true, true, true, true, true] rfl rfl rfl (by kernel_rfl) (by kernel_rfl) (by kernel_rfl) (fun _ _ _ h => h) ?ry11 (⟨(B10.out.go hby1r4).c0, (B10.out.go hby1r4).c1, (B10.out.go hby1r4).c2, (hby1r4.cell (p := ⟨b1, o1, none⟩) (Nat.lt_of_lt_of_le hqr41 hb11.out.size)).trans hsr41⟩) ?rm11
  case ry11 => first | exact Or.inl ⟨by rfl, by intro w'; go_simp; first | done | rfl⟩
  case rm11 =>
  simp only [Act.put, List.setIfInBounds_toArray, List.set_cons_zero, List.set_cons_succ]
  refine anyC_done (by kernel_rfl) ?_
  have hB := hby1r4
  have z12 : v1.heap.size ≤ y1r4.heap.size := hB.size
  have B13 : Hid (Abx y1r4 (w.heap.size) (.bool false) (.slice (some ⟨b1, o1, none⟩) 2 sc1) (.slice da1 N dc1)) := B10.out.go hB
  have hb14 : Hid (Below w.heap.size w y1r4) := hb11.out.trans (hB.mono hb11.out.size)
  clear hB hb11 B10
  have l15 := (B13.out).c0
  have l16 := (B13.out).c1
  have l17 := (B13.out).c2
  go_wp2_with fail
  clear l15 l16 l17
  refine (HP.out _ ((HI1.out.1.below hb14.out).mono hb14.out.size).1 ((HI1.out.2.1.below hb14.out).mono hb14.out.size).1).mono ?_
  rintro e v2 ⟨rfl, hB⟩
  have z18 : y1r4.heap.size ≤ v2.heap.size := hB.size
  have B19 : Hid (Abx v2 (w.heap.size) (.bool false) (.slice (some ⟨b1, o1, none⟩) 2 sc1) (.slice da1 N dc1)) := B13.out.go hB
  have hb20 : Hid (Below w.heap.size w v2) := hb14.out.trans (hB.mono hb14.out.size)
  clear hB hb14 B13
  go_wp2_with fail
  refine (ints_no15 9 (by decide) _ (HG.out.go hb20.out)).mono ?_
  rintro e v3 ⟨rfl, hB⟩
  have z21 : v2.heap.size ≤ v3.heap.size := hB.size
  have B22 : Hid (Abx v3 (w.heap.size) (.bool false) (.slice (some ⟨b1, o1, none⟩) 2 sc1) (.slice da1 N dc1)) := B19.out.go hB
  have hb23 : Hid (Below w.heap.size w v3) := hb20.out.trans (hB.mono hb20.out.size)
  clear hB hb20 B19
  go_wp2_with fail
  go_ret
  exact ⟨rfl, hb23.out⟩
set_option maxRecDepth 100000 in
set_option maxHeartbeats 2000000 in
theorem ords_some (p : List Nat) (n : Nat) (hn : n ≤ 24) (b1 o1 sc1 : Nat) (da1 : Option Addr) (dc1 : Nat) (dz1 : List Int) (HL1 : Hid (dz1.length = n * n)) (w : World) (HI1 : Hid (IsC w.heap.size w (some ⟨b1, o1, none⟩) [(n : Int), (n : Int)] sc1 ∧ IsC w.heap.size w da1 dz1 dc1 ∧ ∀ j, In64 (nth dz1 j))) (hg : HasErr w) (hk1 : mskB dz1 = true) (ho : tp (rdR n dz1) n n [] = some p) :
    Calls Tryd.prog 4 #[.agg #[.bool false, .slice (some ⟨b1, o1, none⟩) 2 sc1, .slice da1 dz1.length dc1]] w fun e w' => e = .returned (.bool true) ∧ Below w.heap.size w w' := by
  have HG : Hid (HasErr w) := hg
  have HK1 : Hid (mskB dz1 = true) := hk1
  obtain ⟨N, hN⟩ : ∃ N, N = n * n := ⟨_, rfl⟩
  have N576 : N ≤ 576 := by have : n * n ≤ 24 * 24 := Nat.mul_le_mul hn hn; omega
  have HN : Hid (N = n * n ∧ dz1.length = N) := ⟨hN, by rw [HL1.out, hN]⟩
  clear hN
  have HO : Hid (tp (rdR n dz1) n n [] = some p) := ho
  have HPl : Hid (p.length = n) := by have := (tp_some (Ahd.nil (R := rdR n dz1) (n := n)) ho).2; show _ = _; simpa using this
  clear ho
  have HR : Hid (∀ v, IsInts v.heap.size v da1 dz1 → Calls Tryd.prog 14 #[.int .i64 (n : Nat), .slice da1 N dc1] v fun e w' => ∃ xa xc, e = .returned (.tuple #[.slice xa n xc, .bool true]) ∧ NewC v.heap.size w' xa (inL p) xc ∧ Below v.heap.size v w') := fun v hv => by
    have h := ordered_ref n hn da1 dc1 dz1 N HN.out.2 HL1.out v hv
    rw [HO.out] at h
    exact h
  have HP : Hid (∀ v, IsInts v.heap.size v (some ⟨b1, o1, none⟩) [(n : Int), (n : Int)] → IsInts v.heap.size v da1 dz1 → Calls Tryd.prog 15 #[.agg #[.bool false, .slice (some ⟨b1, o1, none⟩) 2 sc1, .slice da1 N dc1]] v fun e w' => ∃ xa, e = .returned (.tuple #[.slice xa n n, .nilIface]) ∧ NewC v.heap.size w' xa (inL p) n ∧ Below v.heap.size v w') := fun v hs hv => by
    have h := ord_ok n hn (some ⟨b1, o1, none⟩) sc1 da1 dc1 dz1 N HN.out.2 HL1.out HK1.out v hs hv
    rw [HO.out] at h
    exact h
  clear hg hk1
  rw [HN.out.2]
  have n1 := Abx.new w (.bool false) (.slice (some ⟨b1, o1, none⟩) 2 sc1) (.slice da1 N dc1)
  have l2 := (n1).c0
  have l3 := (n1).c1
  have l4 := (n1).c2
  go_enter Tryd.func4, Tryd.ntmps4
  go_wp2_with fail
  obtain ⟨wo5, hwo5⟩ : ∃ wo5, wo5 = (w.alloc (.cells #[.bool false, .slice (some ⟨b1, o1, none⟩) 2 sc1, .slice da1 N dc1] 24)) := ⟨_, rfl⟩
  rw [← hwo5]
  have z6 : w.heap.size + 1 ≤ wo5.heap.size := by rw [hwo5]; simp only [World.size_alloc]; omega
  have B7 : Hid (Abx wo5 (w.heap.size) (.bool false) (.slice (some ⟨b1, o1, none⟩) 2 sc1) (.slice da1 N dc1)) := by rw [hwo5]; exact n1
  have hb8 : Hid (Below w.heap.size w wo5) := by rw [hwo5]; exact ((Below.refl w.heap.size w).alloc (by omega) (.cells #[.bool false, .slice (some ⟨b1, o1, none⟩) 2 sc1, .slice da1 N dc1] 24))
  have zwo5 : w.heap.size ≤ wo5.heap.size := hb8.out.size
  clear hwo5 n1 l2 l3 l4
  refine (rfault_ok n hn (some ⟨b1, o1, none⟩) sc1 da1 dc1 dz1 N HN.out.2 HL1.out HK1.out _ ((HI1.out.1.below hb8.out).mono hb8.out.size).1 ((HI1.out.2.1.below hb8.out).mono hb8.out.size).1).mono ?_
  rintro e v1 ⟨rfl, hB⟩
  have z9 : wo5.heap.size ≤ v1.heap.size := hB.size
  have B10 : Hid (Abx v1 (w.heap.size) (.bool false) (.slice (some ⟨b1, o1, none⟩) 2 sc1) (.slice da1 N dc1)) := B7.out.go hB
  have hb11 : Hid (Below w.heap.size w v1) := hb8.out.trans (hB.mono hb8.out.size)
  clear hB hb8 B7
  go_wp2_with fail
  obtain ⟨hqr51, hsr51⟩ : b1 < w.heap.size ∧ v1.cell? ⟨b1, o1, none⟩ = some (.int .i64 (n : Int)) := shp14 HI1.out.1 hb11.out
  have hb0r5 : Below v1.heap.size v1 v1.drew := (Below.refl _ v1).drew
  refine anyC_begin (fun w' => w'.cell? ⟨w.heap.size, 0, none⟩ = some (.bool false) ∧ w'.cell? ⟨w.heap.size, 1, none⟩ = some (.slice (some ⟨b1, o1, none⟩) 2 sc1) ∧ w'.cell? ⟨w.heap.size, 2, none⟩ = some (.slice da1 N dc1) ∧ w'.cell? ⟨b1, o1, none⟩ = some (.int .i64 (n : Int))) 12 #[false, false, false, false, false, false, false, false, false, false, false, false] (by kernel_rfl) rfl rfl ?_
  refine anyC_put 0 14 ?rv12 #[true, false, false, false, false, false, false, false, false, false, false, false] rfl rfl rfl (by kernel_rfl) (by kernel_rfl) (by kernel_rfl) (fun _ _ _ h => h) ?ry12 (⟨(B10.out.go hb0r5).c0, (B10.out.go hb0r5).c1, (B10.out.go hb0r5).c2, (hb0r5.cell (p := ⟨b1, o1, none⟩) (Nat.lt_of_lt_of_le hqr51 hb11.out.size)).trans hsr51⟩) ?rm12
  case ry12 => first | exact Or.inl ⟨by rfl, by intro w'; go_simp; first | done | rfl⟩
  case rm12 =>
  simp only [Act.put, List.setIfInBounds_toArray, List.set_cons_zero, List.set_cons_succ]
  refine anyC_take 1 15 ?rv13 #[true, true, false, false, false, false, false, false, false, false, false, false] rfl rfl rfl (by kernel_rfl) (by kernel_rfl) (by kernel_rfl) (fun _ _ _ h => h) ?ry13 (⟨(B10.out.go hb0r5).c0, (B10.out.go hb0r5).c1, (B10.out.go hb0r5).c2, (hb0r5.cell (p := ⟨b1, o1, none⟩) (Nat.lt_of_lt_of_le hqr51 hb11.out.size)).trans hsr51⟩) ?rm13
  case ry13 => first | exact Or.inl ⟨by rfl, by intro w' hw'; (try dsimp only at hw'); go_simp; first | done | rfl⟩
  case rm13 =>
  simp only [Act.put, List.setIfInBounds_toArray, List.set_cons_zero, List.set_cons_succ]
  refine anyC_put 2 16 ?rv14 #[true, true, true, false, false, false, false, false, false, false, false, false] rfl rfl rfl (by kernel_rfl) (by kernel_rfl) (by kernel_rfl) (fun _ _ _ h => h) ?ry14 (⟨(B10.out.go hb0r5).c0, (B10.out.go hb0r5).c1, (B10.out.go hb0r5).c2, (hb0r5.cell (p := ⟨b1, o1, none⟩) (Nat.lt_of_lt_of_le hqr51 hb11.out.size)).trans hsr51⟩) ?rm14
  case ry14 => first | exact Or.inl ⟨by rfl, by intro w'; go_simp; first | done | rfl⟩
  case rm14 =>
  simp only [Act.put, List.setIfInBounds_toArray, List.set_cons_zero, List.set_cons_succ]
  refine anyC_take 3 17 ?rv15 #[true, true, true, true, false, false, false, false, false, false, false, false] rfl rfl rfl (by kernel_rfl) (by kernel_rfl) (by kernel_rfl) (fun _ _ _ h => h) ?ry15 (⟨(B10.out.go hb0r5).c0, (B10.out.go hb0r5).c1, (B10.out.go hb0r5).c2, (hb0r5.cell (p := ⟨b1, o1, none⟩) (Nat.lt_of_lt_of_le hqr51 hb11.out.size)).trans hsr51⟩) ?rm15
  case ry15 => first | exact Or.inl ⟨by rfl, by intro w' hw'; (try dsimp only at hw'); go_simp; first | done | rfl⟩
  case rm15 =>
  simp only [Act.put, List.setIfInBounds_toArray, List.set_cons_zero, List.set_cons_succ]
  refine anyC_put 4 18 ?rv16 #[true, true, true, true, true, false, false, false, false, false, false, false] rfl rfl rfl (by kernel_rfl) (by kernel_rfl) (by kernel_rfl) (fun _ _ _ h => h) ?ry16 (⟨(B10.out.go hb0r5).c0, (B10.out.go hb0r5).c1, (B10.out.go hb0r5).c2, (hb0r5.cell (p := ⟨b1, o1, none⟩) (Nat.lt_of_lt_of_le hqr51 hb11.out.size)).trans hsr51⟩) ?rm16
  case ry16 => first | exact Or.inl ⟨by rfl, by intro w'; go_simp; first | done | rfl⟩
  case rm16 =>
  simp only [Act.put, List.setIfInBounds_toArray, List.set_cons_zero, List.set_cons_succ]
  refine anyC_take 5 19 ?rv17 #[true, true, true, true, true, true, false, false, false, false, false, false] rfl rfl rfl (by kernel_rfl) (by kernel_rfl) (by kernel_rfl) (fun _ _ _ h => h) ?ry17 (⟨(B10.out.go hb0r5).c0, (B10.out.go hb0r5).c1, (B10.out.go hb0r5).c2, (hb0r5.cell (p := ⟨b1, o1, none⟩) (Nat.lt_of_lt_of_le hqr51 hb11.out.size)).trans hsr51⟩) ?rm17
  case ry17 => first | exact Or.inl ⟨by rfl, by intro w' hw'; (try dsimp only at hw'); go_simp; first | done | rfl⟩
  case rm17 =>
  simp only [Act.put, List.setIfInBounds_toArray, List.set_cons_zero, List.set_cons_succ]
  refine anyC_one 6 #[true, true, true, true, true, true, true, false, false, false, false, false] (by kernel_rfl) rfl rfl (fun K hK => ?_)
  go_simp
  go_wp2_with (go_at_call 14; refine (HR.out _ ((HI1.out.2.1.below (hb11.out.trans (hb0r5.mono hb11.out.size))).mono (hb11.out.trans (hb0r5.mono hb11.out.size)).size).1).mono ?_; rintro e y1r5 ⟨grCL, gcCL, rfl, hGCL, hBy1r5⟩)
  have hby1r5 : Below v1.heap.size v1 y1r5 := hb0r5.trans (hBy1r5.mono hb0r5.size)
  refine hK.out _ _ (⟨(B10.out.go hby1r5).c0, (B10.out.go hby1r5).c1, (B10.out.go hby1r5).c2, (hby1r5.cell (p := ⟨b1, o1, none⟩) (Nat.lt_of_lt_of_le hqr51 hb11.out.size)).trans hsr51⟩) ?_
  clear hK K
  refine anyC_put 7 13 ?rv19 #[true, true, true, true, true, true, true, true, false, false, false, false] rfl rfl rfl (by kernel_rfl) (by kernel_rfl) (by kernel_rfl) (fun _ _ _ h => h) ?ry19 (⟨(B10.out.go hby1r5).c0, (B10.out.go hby1r5).c1, (B10.out.go hby1r5).c2, (hby1r5.cell (p := ⟨b1, o1, none⟩) (Nat.lt_of_lt_of_le hqr51 hb11.out.size)).trans hsr51⟩) ?rm19
  case ry19 => first | exact Or.inl ⟨by rfl, by intro w'; go_simp; first | done | rfl⟩
  case rm19 =>
  simp only [Act.put, List.setIfInBounds_toArray, List.set_cons_zero, List.set_cons_succ]
  refine anyC_put 8 21 ?rv20 #[true, true, true, true, true, true, true, true, true, false, false, false] rfl rfl rfl (by kernel_rfl) (by kernel_rfl) (by kernel_rfl) (fun _ _ _ h => h) ?ry20 (⟨(B10.out.go hby1r5).c0, (B10.out.go hby1r5).c1, (B10.out.go hby1r5).c2, (hby1r5.cell (p := ⟨b1, o1, none⟩) (Nat.lt_of_lt_of_le hqr51 hb11.out.size)).trans hsr51⟩) ?rm20
  case ry20 => first | exact Or.inl ⟨by rfl, by intro w'; go_simp; first | done | rfl⟩
  case rm20 =>
  simp only [Act.put, List.setIfInBounds_toArray, List.set_cons_zero, List.set_cons_succ]
  refine anyC_put 9 22 ?rv21 #[true, true, true, true, true, true, true, true, true, true, false, false] rfl rfl rfl (by kernel_rfl) (by kernel_rfl) (by kernel_rfl) (fun _ _ _ h => h) ?ry21 (⟨(B10.out.go hby1r5).c0, (B10.out.go hby1r5).c1, (B10.out.go hby1r5).c2, (hby1r5.cell (p := ⟨b1, o1, none⟩) (Nat.lt_of_lt_of_le hqr51 hb11.out.size)).trans hsr51⟩) ?rm21
  case ry21 => first | exact Or.inl ⟨by rfl, by intro w'; go_simp; first | done | rfl⟩
  case rm21 =>
  simp only [Act.put, List.setIfInBounds_toArray, List.set_cons_zero, List.set_cons_succ]
  refine anyC_put 10 5 ?rv22 #[true, true, true, true, true, true, true, true, true, true, true, false] rfl rfl rfl (by kernel_rfl) (by kernel_rfl) (by kernel_rfl) (fun _ _ _ h => h) ?ry22 (⟨(B10.out.go hby1r5).c0, (B10.out.go hby1r5).c1, (B10.out.go hby1r5).c2, (hby1r5.cell (p := ⟨b1, o1, none⟩) (Nat.lt_of_lt_of_le hqr51 hb11.out.size)).trans hsr51⟩) ?rm22
  case ry22 => first | exact Or.inl ⟨by rfl, by intro w'; go_simp; first | done | rfl⟩
  case rm22 =>
  simp only [Act.put, List.setIfInBounds_toArray, List.set_cons_zero, List.set_cons_succ]
  refine anyC_put 11 6 ?rv23 #[true, true, true, true, true, true, true, true, true, true, true, true] rfl rfl rfl (by kernel_rfl) (by kernel_rfl) (by kernel_rfl) (fun _ _ _ h => h) ?ry23 (⟨(B10.out.go hby1r5).c0, (B10.out.go hby1r5).c1, (B10.out.go hby1r5).c2, (hby1r5.cell (p := ⟨b1, o1, none⟩) (Nat.lt_of_lt_of_le hqr51 hb11.out.size)).trans hsr51⟩) ?rm23
  case ry23 => first | exact Or.inl ⟨by rfl, by intro w'; go_simp; first | done | rfl⟩
  case rm23 =>
  simp only [Act.put, List.setIfInBounds_toArray, List.set_cons_zero, List.set_cons_succ]
  refine anyC_done (by kernel_rfl) ?_
  have hB := hby1r5
  have z12 : v1.heap.size ≤ y1r5.heap.size := hB.size
  have B13 : Hid (Abx y1r5 (w.heap.size) (.bool false) (.slice (some ⟨b1, o1, none⟩) 2 sc1) (.slice da1 N dc1)) := B10.out.go hB
  have hb14 : Hid (Below w.heap.size w y1r5) := hb11.out.trans (hB.mono hb11.out.size)
  clear hB hb11 B10
  have LCL : Hid (MidC (w.heap.size) (y1r5.heap.size) y1r5 (grCL) (inL p) (gcCL)) := ⟨hGCL.midc.1.low (by have : v1.drew.heap.size = v1.heap.size := rfl; omega), hGCL.2⟩
  clear hGCL
  have l15 := (B13.out).c0
  have l16 := (B13.out).c1
  have l17 := (B13.out).c2
  go_wp2_with fail
  clear l15 l16 l17
  refine (HP.out _ ((HI1.out.1.below hb14.out).mono hb14.out.size).1 ((HI1.out.2.1.below hb14.out).mono hb14.out.size).1).mono ?_
  rintro e v2 ⟨xa4, rfl, hX4, hB⟩
  have z18 : y1r5.heap.size ≤ v2.heap.size := hB.size
  have B19 : Hid (Abx v2 (w.heap.size) (.bool false) (.slice (some ⟨b1, o1, none⟩) 2 sc1) (.slice da1 N dc1)) := B13.out.go hB
  have L20 : Hid (MidC (w.heap.size) (y1r5.heap.size) v2 (grCL) (inL p) (gcCL)) := LCL.out.go (by omega) hB
  have hb21 : Hid (Below w.heap.size w v2) := hb14.out.trans (hB.mono hb14.out.size)
  have L22 : Hid (MidC (y1r5.heap.size) (v2.heap.size) v2 (xa4) (inL p) (n)) := hX4.midc
  clear hB hb14 B13 LCL hX4
  go_wp2_with fail
  refine (ints_ok15 (inL p) n (by rw [inL_len, HPl.out]) (by omega) xa4 n grCL gcCL _ (HG.out.go hb21.out) (L22.out.is (by omega)).1 (L20.out.is (by omega)).1).mono ?_
  rintro e v3 ⟨rfl, hB⟩
  have z23 : v2.heap.size ≤ v3.heap.size := hB.size
  have B24 : Hid (Abx v3 (w.heap.size) (.bool false) (.slice (some ⟨b1, o1, none⟩) 2 sc1) (.slice da1 N dc1)) := B19.out.go hB
  have L25 : Hid (MidC (w.heap.size) (y1r5.heap.size) v3 (grCL) (inL p) (gcCL)) := L20.out.go (by omega) hB
  have L26 : Hid (MidC (y1r5.heap.size) (v2.heap.size) v3 (xa4) (inL p) (n)) := L22.out.go (by omega) hB
  have hb27 : Hid (Below w.heap.size w v3) := hb21.out.trans (hB.mono hb21.out.size)
  clear hB hb21 B19 L20 L22
  go_wp2_with fail
  go_ret
  exact ⟨rfl, hb27.out⟩
theorem rords_walk (c1 : Bool) (sa1 : Option Addr) (sc1 : Nat) (sz1 : List Int) (da1 : Option Addr) (dc1 : Nat) (dz1 : List Int) (w : World) (hg : HasErr w) (w8 : IsArrD w sa1 sz1 sc1 da1 dz1 dc1) :
    Calls Tryd.prog 4 #[.agg #[.bool c1, .slice sa1 sz1.length sc1, .slice da1 dz1.length dc1]] w fun e w' => e = .returned (.bool true) ∧ Below w.heap.size w w' := by
  by_cases h1 : rlE c1 sz1 dz1 = 0
  · obtain ⟨n, hn, rfl, hl1, rfl, hk1⟩ := rl_is h1
    obtain ⟨b1, o1, rfl⟩ := opn14 w8.2.2.1
    rcases ho : tp (rdR n dz1) n n [] with _ | p
    · exact ords_none n hn b1 o1 sc1 da1 dc1 dz1 hl1 w ⟨w8.2.2.1, w8.2.2.2.1, w8.2.2.2.2.2⟩ hg hk1 ho
    · exact ords_some p n hn b1 o1 sc1 da1 dc1 dz1 hl1 w ⟨w8.2.2.1, w8.2.2.2.1, w8.2.2.2.2.2⟩ hg hk1 ho
  · exact ords_no c1 sa1 sc1 sz1 da1 dc1 dz1 w hg w8 h1
end Go.Proofs.YtgaelbgeoobgiaaDoor
