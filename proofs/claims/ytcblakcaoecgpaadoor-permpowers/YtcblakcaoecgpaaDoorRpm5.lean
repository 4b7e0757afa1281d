/-
  The document's answers on orders: so many times.
-/
import Derived.Test.YtcblakcaoecgpaaDoorRpm1
namespace Go.Proofs.YtcblakcaoecgpaaDoor
open Go.RowKit
set_option linter.unusedVariables false

theorem ord_in {p q : List Int} (hq : IsOrd q) (h : q.length = p.length) : ∀ j, j < q.length → 0 ≤ nth q j ∧ nth q j < p.length := fun j hj => by have := hq.1 j hj; omega
theorem half_is (k : Int) : k = 2 * k.tdiv 2 + k.tmod 2 ∧ (k.tmod 2 = 1 ∨ k.tmod 2 = -1 ∨ k.tmod 2 = 0) ∧ (0 ≤ k → 0 ≤ k.tmod 2) ∧ (k ≤ 0 → k.tmod 2 ≤ 0) := by
  rcases Int.le_total 0 k with h | h
  · rw [Int.tdiv_eq_ediv_of_nonneg h, Int.tmod_eq_emod_of_nonneg h]
    omega
  · obtain ⟨j, rfl⟩ : ∃ j, k = -j := ⟨-k, by omega⟩
    rw [Int.neg_tdiv, Int.neg_tmod, Int.tdiv_eq_ediv_of_nonneg (by omega), Int.tmod_eq_emod_of_nonneg (by omega)]
    omega
set_option maxRecDepth 100000 in
set_option maxHeartbeats 4000000 in
theorem powered_any (p : List Int) (hp : IsOrd p) (h1 : p.length ≤ 4096) (a : Option Addr) (cap : Nat) : ∀ (n : Nat) (k : Int), k.natAbs ≤ n → In64 k → ∀ w : World, IsInts w.heap.size w a p →
    Calls Tryd.prog 16 #[.slice a p.length cap, .int .i64 k] w (LsP (pwI p k) w) := by
  intro n
  induction n using Nat.strongRecOn with
  | _ n ih =>
    intro k hn hk w hI
    have HI : Hid (IsInts w.heap.size w a p) := hI
    have HP : Hid (IsOrd p) := hp
    clear hI
    by_cases hz : k = 0
    · subst hz
      obtain ⟨D, hD⟩ : ∃ D, D = idn p.length := ⟨_, rfl⟩
      have HD : Hid (D.length = p.length ∧ ∀ j, j < p.length → nth D j = (j : Int)) := ⟨by rw [hD]; exact idn_length _, fun j hj => by rw [hD]; exact idn_nth hj⟩
      rw [pwI_zero, ← hD]
      clear hD ih hp hn hk
      go_enter Tryd.func16, Tryd.ntmps16
      go_wp2_with fail
      go_loopw [5, 6] (fun v i wr => ∃ t : Nat, t ≤ p.length ∧ i = .int .i64 t ∧ wr.ownsRow w.heap.size 3 1 v (D.take t).length ((D.take t).map (Value.int .i64)) ∧ Below w.heap.size w wr) (fun _ i _ => p.length - (intOf i).toNat)
      case atStart => exact ⟨0, Nat.zero_le _, rfl, World.ownsRow_nil _ _ _ _, Below.refl _ _⟩
      case round =>
        obtain ⟨t, ht, rfl, hown, hB⟩ := hrel
        by_cases hlt : t < p.length
        · have HS : Hid (D.take (t + 1) = D.take t ++ [(t : Int)]) := by
            show _ = _
            rw [take_snoc D t (by rw [HD.out.1]; exact hlt), HD.out.2 t hlt]
          have hzz := hB.size
          have HB : Hid (Below w.heap.size w wr) := hB
          have HL : Hid ((D.take t).length ≤ 4096) := by show _ ≤ _; rw [List.length_take]; omega
          have HW : Hid (wr.ownsRow w.heap.size 3 1 u5 (D.take t).length ((D.take t).map (Value.int .i64))) := hown
          clear hB hown
          generalize D.take t = L at *
          go_wp2_with (at_builtin; refine app_list rfl _ _ rfl _ w.heap.size wr.heap.size u5 L (t : Int) rfl rfl (HW.out.alloc _) (heap_alloc_new wr _) (by have := HL.out; omega) (by simp; omega) ?_; intro g1 gc1 w3 hown1 hB3)
          refine ⟨⟨t + 1, by omega, by go_num, ?_, HB.out.trans (((Below.refl _ wr).alloc hzz _).trans hB3)⟩, by simp [intOf]; omega⟩
          rw [HS.out, List.length_append]
          exact hown1
        · obtain rfl : t = p.length := by omega
          rw [List.take_of_length_le (by rw [HD.out.1]; exact Nat.le_refl _)] at hown
          obtain ⟨g, gc, rfl, hN⟩ := own_cap hown
          clear hown
          go_wp2_with fail
          go_ret
          exact ⟨g, gc, rfl, hN, hB⟩
    · obtain ⟨hf1, hf2, hf3, hf4⟩ := half_is k
      have hq64 : In64 (k.tdiv 2) := by unfold In64 at hk ⊢; omega
      have hab : (k.tdiv 2).natAbs < n := by omega
      have HC : Hid (∀ w : World, IsInts w.heap.size w a p → Calls Tryd.prog 16 #[.slice a p.length cap, .int .i64 (k.tdiv 2)] w (LsP (pwI p (k.tdiv 2)) w)) := fun w hI => ih _ hab (k.tdiv 2) (Nat.le_refl _) hq64 w hI
      obtain ⟨H1, hH1⟩ : ∃ H, H = pwI p (k.tdiv 2) := ⟨_, rfl⟩
      obtain ⟨H2, hH2⟩ : ∃ H, H = aft H1 H1 := ⟨_, rfl⟩
      obtain ⟨J, hJ⟩ : ∃ J, J = tnd p := ⟨_, rfl⟩
      obtain ⟨R, hR⟩ : ∃ R, R = pwI p k := ⟨_, rfl⟩
      have o1 : IsOrd H1 := by rw [hH1]; exact pwI_ord hp _
      have l1 : H1.length = p.length := by rw [hH1]; exact pwI_length _
      have o2 : IsOrd H2 := by rw [hH2]; exact aft_ord o1 o1 rfl
      have l2 : H2.length = p.length := by rw [hH2, aft_length]; exact l1
      have HR : Hid (R = if k.tmod 2 = 1 then aft p H2 else if k.tmod 2 = -1 then aft J H2 else H2) := by
        show _ = _
        rw [hR, hH2, hH1, hJ]
        exact pwI_half hp k
      have HH : Hid (IsOrd H1 ∧ H1.length = p.length ∧ IsOrd H2 ∧ H2.length = p.length ∧ H2 = aft H1 H1 ∧ J = tnd p ∧ J.length = p.length) := ⟨o1, l1, o2, l2, hH2, hJ, by rw [hJ]; exact tnd_length⟩
      rw [← hH1] at HC
      rw [← hR]
      have hz2 : (k == 0) = false := by simp [hz]
      have hw1 : wrap64 (k.tdiv 2) = k.tdiv 2 := w_small (by unfold In64 at hq64; omega) (by unfold In64 at hq64; omega)
      clear ih hp hn hz hab hH1 hH2 hJ hR o1 l1 o2 l2 hq64
      obtain ⟨m, hm⟩ : ∃ m, m = k.tmod 2 := ⟨_, rfl⟩
      have hm3 : m = 1 ∨ m = -1 ∨ m = 0 := by rw [hm]; exact hf2
      have HM : Hid (m = k.tmod 2) := hm
      rw [← hm] at HR
      clear hm hf1 hf2 hf3 hf4
      go_enter Tryd.func16, Tryd.ntmps16
      go_wp2_with fail
      refine (HC.out w HI.out).mono ?_
      rintro e v1 ⟨g1, gc1, rfl, hN1, hB1⟩
      have HN1 : Hid (NewC w.heap.size v1 g1 H1 gc1) := hN1
      have HB1 : Hid (Below w.heap.size w v1) := hB1
      clear hN1 hB1
      go_wp2_with fail
      refine (behind_any g1 gc1 H1 H1.length rfl g1 gc1 H1 H1.length rfl (ord_in HH.out.1 rfl) (by have := HH.out.2.1; omega) (by have := HH.out.2.1; omega) v1 (HN1.out.ints).1 (HN1.out.ints).1).mono ?_
      rintro e v2 ⟨g2, gc2, rfl, hN2, hB2⟩
      rw [← HH.out.2.2.2.2.1] at hN2 ⊢
      have HN2 : Hid (NewC v1.heap.size v2 g2 H2 gc2) := hN2
      have HB2 : Hid (Below w.heap.size w v2) := HB1.out.trans (hB2.mono HB1.out.size)
      have hz12 : v1.heap.size ≤ v2.heap.size := hB2.size
      clear hN2 hB2
      rcases hm3 with e1 | e1 | e1
      · have ht : k.tmod 2 = 1 := by rw [← HM.out]; exact e1
        have HRR : Hid (R = aft p H2) := by show _ = _; rw [HR.out, if_pos e1]
        clear e1
        go_wp2_with fail
        refine (behind_any a cap p p.length rfl g2 gc2 H2 H2.length rfl (ord_in HH.out.2.2.1 HH.out.2.2.2.1) h1 (by have := HH.out.2.2.2.1; omega) v2 ((HI.out.below HB2.out).mono HB2.out.size) (HN2.out.ints).1).mono ?_
        rintro e v3 ⟨g3, gc3, rfl, hN3, hB3⟩
        rw [← HRR.out] at hN3 ⊢
        have HN3 : Hid (NewC v2.heap.size v3 g3 R gc3) := hN3
        have HB3 : Hid (Below w.heap.size w v3) := HB2.out.trans (hB3.mono HB2.out.size)
        clear hN3 hB3
        go_wp2_with fail
        go_ret
        exact ⟨g3, gc3, rfl, HN3.out.low HB2.out.size, HB3.out⟩
      · have ht : k.tmod 2 = -1 := by rw [← HM.out]; exact e1
        have HRR : Hid (R = aft J H2) := by show _ = _; rw [HR.out, if_neg (by rw [e1]; decide), if_pos e1]
        clear e1
        go_wp2_with fail
        refine (turned_any a cap p HP.out h1 v2 ((HI.out.below HB2.out).mono HB2.out.size)).mono ?_
        rintro e v3 ⟨g3, gc3, rfl, hN3, hB3⟩
        rw [← HH.out.2.2.2.2.2.1] at hN3 ⊢
        have HN3 : Hid (NewC v2.heap.size v3 g3 J gc3) := hN3
        have HB3 : Hid (Below w.heap.size w v3) := HB2.out.trans (hB3.mono HB2.out.size)
        have HN23 : Hid (NewC v1.heap.size v3 g2 H2 gc2) := HN2.out.go hB3
        clear hN3 hB3
        go_wp2_with fail
        refine (behind_any g3 gc3 J J.length rfl g2 gc2 H2 H2.length rfl (ord_in HH.out.2.2.1 (by have := HH.out.2.2.2.1; have := HH.out.2.2.2.2.2.2; omega)) (by have := HH.out.2.2.2.2.2.2; omega) (by have := HH.out.2.2.2.1; omega) v3 (HN3.out.ints).1 (HN23.out.ints).1).mono ?_
        rintro e v4 ⟨g4, gc4, rfl, hN4, hB4⟩
        rw [← HRR.out] at hN4 ⊢
        have HN4 : Hid (NewC v3.heap.size v4 g4 R gc4) := hN4
        have HB4 : Hid (Below w.heap.size w v4) := HB3.out.trans (hB4.mono HB3.out.size)
        clear hN4 hB4
        go_wp2_with fail
        go_ret
        exact ⟨g4, gc4, rfl, HN4.out.low HB3.out.size, HB4.out⟩
      · have ht : k.tmod 2 = 0 := by rw [← HM.out]; exact e1
        have HRR : Hid (R = H2) := by show _ = _; rw [HR.out, if_neg (by rw [e1]; decide), if_neg (by rw [e1]; decide)]
        clear e1
        go_wp2_with fail
        go_ret
        rw [HRR.out]
        exact ⟨g2, gc2, rfl, HN2.out.low HB1.out.size, HB2.out⟩
end Go.Proofs.YtcblakcaoecgpaaDoor
