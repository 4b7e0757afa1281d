/-
  The program's digits: Value, split, Digits.
-/
import Derived.Test.YtigichhcoflaiaaRdq
import Derived.OwnWalk
import Derived.Test.YtigichhcoflaiaaTwos
namespace Go.Proofs.Ytigichhcoflaiaa
open Go.RowKit
set_option linter.unusedVariables false

theorem ret3_11 {a b c d : Int} {u v : Value} (h : a = b) (h2 : c = d) (h3 : u = v) : Ending.returned (.tuple #[.int .i64 a, .int .i64 c, u]) = .returned (.tuple #[.int .i64 b, .int .i64 d, v]) := by rw [h, h2, h3]
theorem two_res (b n : Int) (hb : In64 b) (hn : In64 n) (w : World) : Calls Try.prog 16 #[.int .i64 5, .int .i64 b, .int .i64 n] w fun e w' => e = .returned (.tuple #[.int .i64 (n.fmod b), .nilIface]) ∧ Below w.heap.size w w' :=
  (two_5 b n hb hn w).mono fun e w' ⟨h1, h2⟩ => ⟨by rw [h1, tv5, te0 (by decide) (by decide) (fun h => absurd h (by decide)) (fun h => absurd h (by decide))]; rfl, h2⟩
theorem two_div (n b : Int) (h0 : b ≠ 0) (w : World) : Calls Try.prog 16 #[.int .i64 4, .int .i64 n, .int .i64 b] w fun e w' => e = .returned (.tuple #[.int .i64 (divV n b), .nilIface]) ∧ Below w.heap.size w w' :=
  (two_4 n b w).mono fun e w' ⟨h1, h2⟩ => ⟨by rw [h1, tv4 _ _ h0, te0 (by decide) (by decide) (fun _ => h0) (fun h => absurd h (by decide))]; rfl, h2⟩
set_option maxRecDepth 100000 in
set_option maxHeartbeats 1000000 in
theorem split_any (b n : Int) (hb : In64 b) (hn : In64 n) (w : World) : Calls Try.prog 15 #[.int .i64 b, .int .i64 n] w fun e w' => e = .returned (.tuple #[.int .i64 (dd b n), .int .i64 (qt b n), .nilIface]) ∧ Below w.heap.size w w' := by
  by_cases h0 : b = 0
  · subst h0
    have HD : Hid (n = dd 0 n ∧ 0 = qt 0 n) := ⟨(dd_zero n).symm, (qt_zero n).symm⟩
    generalize dd 0 n = D at *
    generalize qt 0 n = Q at *
    go_enter Try.func15, Try.ntmps15
    go_wp2_with fail
    go_ret3
    exact ⟨ret3_11 HD.out.1 HD.out.2 rfl, Below.refl _ _⟩
  · have hC := two_res b n hb hn w
    have HC2 : Hid (∀ w1, Calls Try.prog 16 #[.int .i64 4, .int .i64 n, .int .i64 b] w1 fun e w' => e = .returned (.tuple #[.int .i64 (divV n b), .nilIface]) ∧ Below w1.heap.size w1 w') := fun w1 => two_div n b h0 w1
    have hz : (b == 0) = false := by simp [h0]
    rw [dd_else h0, qt_else h0]
    clear h0
    generalize n.fmod b = D at *
    generalize divV n b = Q at *
    go_enter Try.func15, Try.ntmps15
    go_wp2_with fail
    refine hC.mono ?_
    rintro e w1 ⟨rfl, hB⟩
    clear hC
    go_wp2_with fail
    refine (HC2.out w1).mono ?_
    rintro e w2 ⟨rfl, hB2⟩
    go_wp2_with fail
    go_ret3
    exact ⟨rfl, hB.trans (hB2.mono hB.size)⟩
set_option maxRecDepth 100000 in
set_option maxHeartbeats 2000000 in
theorem va_holds : CVa := by
  intro a cap b a' cap' d w h1 h2 hI hI'
  by_cases hl : 4096 < b.length
  · have HE : Hid (vaE b d = 7) := by show _ = _; unfold vaE; rw [if_pos hl]
    go_enter Try.func6, Try.ntmps6
    go_wp2_with fail
    go_ret2
    exact UZ.mkno HE.out (by decide) (Below.refl _ _)
  · by_cases hd : d.length = b.length
    · have HE : Hid (vaE b d = 0) := vaE_zero.2 ⟨by omega, hd⟩
      have hne : ((d.length : Int) != (b.length : Int)) = false := by rw [hd]; simp
      have HI : Hid (IsInts w.heap.size w a b ∧ IsInts w.heap.size w a' d) := ⟨hI, hI'⟩
      have HD : Hid (d.length = b.length) := hd
      clear hI hI' hd
      go_enter Try.func6, Try.ntmps6
      go_wp2_with fail
      go_loopw [6, 21] (fun v i wr => ∃ k : Nat, k ≤ d.length ∧ i = .int .i64 k ∧ v = .int .i64 (wrap64 (hv b d k)) ∧ wr = w) (fun _ i _ => d.length - (intOf i).toNat)
      case atStart => exact ⟨0, Nat.zero_le _, rfl, by simp [hv, wrap64], rfl⟩
      case round =>
        obtain ⟨k, hk, rfl, rfl, hw⟩ := hrel
        obtain rfl := hw.symm
        clear hw
        by_cases hlt : k < d.length
        · have hlt' : k < b.length := by rw [← HD.out]; exact hlt
          obtain ⟨bb, off, rfl, hb, hcell⟩ := HI.out.1.at hlt'
          obtain ⟨b', off', rfl, hb', hcell'⟩ := HI.out.2.at hlt
          have hc := hcell k hlt'
          have hc' := hcell' k hlt
          have HN : Hid (wrap64 (wrap64 (wrap64 (hv b d k) * nth b k) + nth d k) = wrap64 (hv b d (k + 1))) := hv_step b d k
          clear hcell hcell'
          go_wp2_with fail
          exact ⟨⟨k + 1, by omega, by go_num, by rw [HN.out], by first | rfl | trivial⟩, by simp [intOf]; omega⟩
        · obtain rfl : k = d.length := by omega
          have HV : Hid (wrap64 (hv b d d.length) = vaV b d) := by show _ = _; rw [HD.out]; rfl
          rw [HV.out]
          go_wp2_with fail
          go_ret2
          exact UZ.mkok HE.out (Below.refl _ _)
    · have HE : Hid (vaE b d = 4) := by show _ = _; unfold vaE; rw [if_neg hl, if_pos hd]
      have hne : ((d.length : Int) != (b.length : Int)) = true := by rw [bne_iff_ne]; omega
      clear hI hI' hd
      go_enter Try.func6, Try.ntmps6
      go_wp2_with fail
      go_ret2
      exact UZ.mkno HE.out (by decide) (Below.refl _ _)
/-- A list from a place on. -/
def dnl (D : List Int) (k : Nat) : List Int := List.replicate k 0 ++ D.drop k
theorem dnl_length (D : List Int) {k : Nat} (h : k ≤ D.length) : (dnl D k).length = D.length := by simp [dnl]; omega
theorem dnl_zero (D : List Int) : dnl D 0 = D := by simp [dnl]
theorem dnl_all (D : List Int) : dnl D D.length = List.replicate D.length 0 := by simp [dnl]
theorem dnl_nth (D : List Int) (k j : Nat) : nth (dnl D k) j = if j < k then 0 else nth D j := by
  unfold dnl nth
  simp only [List.getD_eq_getElem?_getD]
  by_cases h1 : j < k
  · rw [if_pos h1, List.getElem?_append_left (by simp; omega), List.getElem?_replicate, if_pos h1]; rfl
  · rw [if_neg h1, List.getElem?_append_right (by simp; omega), List.length_replicate, List.getElem?_drop]
    congr 2
    omega
theorem dnl_next (D : List Int) {k : Nat} (h : k < D.length) : (dnl D (k + 1)).set k (nth D k) = dnl D k := by
  refine nth_ext (by rw [List.length_set, dnl_length D (by omega), dnl_length D (by omega)]) fun j hj => ?_
  rw [nth_set _ _ _ _ (by rw [dnl_length D (by omega)]; exact h), dnl_nth, dnl_nth]
  by_cases e : j = k
  · rw [if_pos e, if_neg (by omega), e]
  · rw [if_neg e]
    by_cases h1 : j < k
    · rw [if_pos h1, if_pos (by omega)]
    · rw [if_neg h1, if_neg (by omega)]
theorem row_list11 {wr : World} {B : Nat} {t : TypeId} {n : Nat} {xs : List Int} (h : wr.rowIs B t n (fun j => .int .i64 (nth xs j))) (hx : xs.length = n) {lo : Nat} (hlo : lo ≤ B) : NewC lo wr (some ⟨B, 0, none⟩) xs n :=
  ⟨.inr ⟨B, 0, rfl, hlo, h.lt, fun j hj => by rw [Nat.zero_add]; exact h.cell (by omega), fun j => h.frozen _⟩, by omega⟩
theorem row_put11 {wr : World} {B : Nat} {t : TypeId} {n : Nat} {xs : List Int} (h : wr.rowIs B t n (fun j => .int .i64 (nth xs j))) (hx : xs.length = n) {i : Nat} (hi : i < n) (v : Int) : (wr.setCell ⟨B, i, none⟩ (.int .i64 v)).rowIs B t n (fun j => .int .i64 (nth (xs.set i v) j)) := by
  refine (h.set i _).congr fun j hj => ?_
  rw [nth_set _ _ _ _ (by omega)]
  by_cases e : j = i
  · rw [if_pos e, if_pos e]
  · rw [if_neg e, if_neg e]
set_option maxRecDepth 100000 in
set_option maxHeartbeats 4000000 in
theorem dg_holds : CDg := by
  intro a cap b n w h1 hI h64 hn
  by_cases hl : 4096 < b.length
  · have HE : Hid (dgE b = 7) := by show _ = _; unfold dgE; rw [if_pos hl]
    go_enter Try.func8, Try.ntmps8
    go_wp2_with fail
    go_ret2
    exact UL.mkno HE.out (by decide) (Below.refl _ _)
  · have HE : Hid (dgE b = 0) := dgE_zero.2 (by omega)
    have HI : Hid (IsInts w.heap.size w a b) := hI
    have H64 : Hid ((∀ j, In64 (nth b j)) ∧ In64 n) := ⟨h64, hn⟩
    have hl4 : b.length ≤ 4096 := by omega
    obtain ⟨D, hD⟩ : ∃ D, D = dgV b n := ⟨_, rfl⟩
    rw [← hD]
    have HD : Hid (D.length = b.length ∧ ∀ m, m < b.length → nth D m = dd (nth b m) (rs b b.length n (b.length - 1 - m))) := ⟨by rw [hD]; exact dgV_length b n, fun m hm => by rw [hD]; exact dgL_nth b b.length n m hm⟩
    clear hI h64 hn hl hD
    have hmk := run_make_row' (P := Try.prog) 22 3 (.int .i64 0) 8 Try.underlying22 Try.infoInt rfl .i64 .i64 b.length (by omega) (by omega)
    have HB1 : Hid (Below w.heap.size w (w.alloc (.cells (madeCells #[.int .i64 0] b.length) 3))) := (Below.refl _ w).alloc (Nat.le_refl _) _
    have HR0 : Hid ((w.alloc (.cells (madeCells #[.int .i64 0] b.length) 3)).rowIs w.heap.size 3 b.length (fun _ => .int .i64 0)) := World.rowIs_made w (.int .i64 0) b.length 3
    go_enter Try.func8, Try.ntmps8
    go_wp2_with fail
    clear hmk
    go_loopw [1, 7] (fun x i wr => ∃ k : Nat, k ≤ b.length ∧ i = .int .i64 ((k : Int) - 1) ∧ x = .int .i64 (rs b b.length n (b.length - k)) ∧ wr.rowIs w.heap.size 3 b.length (fun j => .int .i64 (nth (dnl D k) j)) ∧ Below w.heap.size w wr) (fun _ i _ => (intOf i + 1).toNat)
    case atStart => exact ⟨b.length, Nat.le_refl _, by go_num, by rw [Nat.sub_self]; rfl, HR0.out.congr (fun j _ => by rw [← HD.out.1, dnl_all, nth_replicate]), HB1.out⟩
    case round =>
      obtain ⟨k, hk, rfl, rfl, hrow, hB⟩ := hrel
      by_cases hlt : 0 < k
      · obtain ⟨m, rfl⟩ : ∃ m, k = m + 1 := ⟨k - 1, by omega⟩
        have em : (((m + 1 : Nat) : Int) - 1) = (m : Int) := by omega
        rw [em]
        have hm : m < b.length := by omega
        obtain ⟨bb, off, rfl, hb, hcell⟩ := (HI.out.below hB).at hm
        have hc := hcell m hm
        have hct := hrow.cell hm
        have hft := hrow.frozen m
        obtain ⟨X, hX⟩ : ∃ X, X = rs b b.length n (b.length - (m + 1)) := ⟨_, rfl⟩
        have HX : Hid (In64 X ∧ dd (nth b m) X = nth D m ∧ qt (nth b m) X = rs b b.length n (b.length - m)) := by
          refine ⟨by rw [hX]; exact rs_in H64.out.2 _, ?_, ?_⟩
          · rw [hX, HD.out.2 m hm]; congr 2; omega
          · rw [hX, show b.length - m = (b.length - (m + 1)) + 1 by omega, rs]; congr 2; omega
        have hC := split_any (nth b m) X (H64.out.1 m) HX.out.1 wr
        rw [HX.out.2.1, HX.out.2.2] at hC
        rw [← hX]
        clear hX
        have HN : Hid ((dnl D (m + 1)).set m (nth D m) = dnl D m ∧ (dnl D (m + 1)).length = b.length) := ⟨dnl_next D (by rw [HD.out.1]; exact hm), by rw [dnl_length D (by rw [HD.out.1]; exact hk), HD.out.1]⟩
        have HRow : Hid (wr.rowIs w.heap.size 3 b.length (fun j => .int .i64 (nth (dnl D (m + 1)) j))) := hrow
        clear hcell hrow hct hft
        go_wp2_with fail
        refine hC.mono ?_
        rintro e w1 ⟨rfl, hB1⟩
        clear hC
        have hrow := HRow.out.of_block (hB1.block w.heap.size HRow.out.lt)
        have hct := hrow.cell hm
        have hft := hrow.frozen m
        have hBB : Below w.heap.size w w1 := hB.trans (hB1.mono hB.size)
        clear hB hB1 hc
        go_wp2_with fail
        refine ⟨⟨m, by omega, by go_num, rfl, ?_, hBB.setCell (p := ⟨w.heap.size, m, none⟩) (Nat.le_refl _) _⟩, by simp [intOf]⟩
        rw [← HN.out.1]
        exact row_put11 hrow HN.out.2 hm _
      · obtain rfl : k = 0 := by omega
        rw [dnl_zero] at hrow
        have HN : Hid (NewC w.heap.size wr (some ⟨w.heap.size, 0, none⟩) D b.length) := row_list11 hrow HD.out.1 (Nat.le_refl _)
        clear hrow
        go_wp2_with fail
        go_ret2
        have := UL.mkok (L := D) HE.out HN.out hB
        rw [HD.out.1] at this
        exact this
end Go.Proofs.Ytigichhcoflaiaa
