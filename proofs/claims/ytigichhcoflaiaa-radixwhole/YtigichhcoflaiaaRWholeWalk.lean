/-
  The walk of the statement RadixWhole, given what the program tells.
-/
import Derived.Test.YtigichhcoflaiaaRdh
namespace Go.Proofs.Ytigichhcoflaiaa
open Go.RowKit
set_option linter.unusedVariables false

theorem fact_whole : dgV [0, 10, 10] 1234 = [12, 3, 4] := by
  show [dd 0 (qt 10 (qt 10 1234)), dd 10 (qt 10 1234), dd 10 1234] = [12, 3, 4]
  have e1 : qt 10 1234 = 123 := by rw [qt_else (by decide)]; unfold divV; rw [show Int.fdiv 1234 10 = 123 by decide]; exact w_small (by omega) (by omega)
  have e2 : qt 10 123 = 12 := by rw [qt_else (by decide)]; unfold divV; rw [show Int.fdiv 123 10 = 12 by decide]; exact w_small (by omega) (by omega)
  rw [e1, e2, dd_zero, dd_else (by decide), dd_else (by decide)]
  decide
theorem Sm.four {b : List Int} (h : Sm b 4 1000) : b.length ≤ 4 ∧ ∀ i, i < b.length → (nth b i).natAbs ≤ 1000 := ⟨by have := h.1; omega, fun i hi => by have := h.2 i hi; omega⟩
set_option maxRecDepth 100000 in
set_option maxHeartbeats 8000000 in
theorem rwhole_walk (HV : CVa) (HG : CDg) (a1 : Option Addr) (c1 : Nat) (b : List Int) (x1 : b.length ≤ 9223372036854775807) (T1 : ∀ j, In64 (nth b j)) (n : Int) (hn : In64 n) (w : World) (w1 : IsInts w.heap.size w a1 b) :
    Calls Try.prog 4 #[.slice a1 b.length c1, .int .i64 n] w fun e w' => e = .returned (.bool true) ∧ Below w.heap.size w w' := by
  have HI : Hid (IsInts w.heap.size w a1 b ∧ (∀ j, In64 (nth b j)) ∧ In64 n) := ⟨w1, T1, hn⟩
  clear w1 T1 hn
  have n1 := lit_mid w 3 [0, 10, 10] 3 rfl
  simp only [List.map_cons, List.map_nil] at n1
  have HN : Hid (MidC w.heap.size (w.heap.size + 1) (w.alloc (.cells #[.int .i64 0, .int .i64 10, .int .i64 10] 3)) (some ⟨w.heap.size, 0, none⟩) [0, 10, 10] 3) := n1
  have HB0 : Hid (Below w.heap.size w (w.alloc (.cells #[.int .i64 0, .int .i64 10, .int .i64 10] 3))) := (Below.refl _ w).alloc (Nat.le_refl _) _
  clear n1
  go_enter Try.func4, Try.ntmps4
  go_wp2_with fail
  obtain ⟨u, hu⟩ : ∃ u, u = (w.alloc (.cells #[.int .i64 0, .int .i64 10, .int .i64 10] 3)) := ⟨_, rfl⟩
  have hz : u.heap.size = w.heap.size + 1 := by rw [hu]; simp
  rw [← hu] at HN HB0 ⊢
  clear hu
  refine (dg_ok (some ⟨w.heap.size, 0, none⟩) 3 [0, 10, 10] 3 rfl 1234 u (by decide) (HN.out.is (by omega)).1 (lit_all11 (by decide)) (by unfold In64; decide) [12, 3, 4] HG fact_whole).mono ?_
  rintro e v1 ⟨g, gc, rfl, hN, hB⟩
  have hb : Below w.heap.size w v1 := HB0.out.trans (hB.mono HB0.out.size)
  have n2 := lit_mid v1 3 [12, 3, 4] 3 rfl
  have n3 := hN.al (.cells #[.int .i64 12, .int .i64 3, .int .i64 4] 3)
  simp only [List.map_cons, List.map_nil] at n2
  have HN2 : Hid (_ ∧ _) := ⟨n2, n3⟩
  have HB1 : Hid (Below w.heap.size w (v1.alloc (.cells #[.int .i64 12, .int .i64 3, .int .i64 4] 3))) := hb.alloc hb.size _
  clear hB HB0 HN hz hb hN n2 n3
  go_wp2_with fail
  obtain ⟨u2, hu2⟩ : ∃ u2, u2 = (v1.alloc (.cells #[.int .i64 12, .int .i64 3, .int .i64 4] 3)) := ⟨_, rfl⟩
  have hz : u2.heap.size = v1.heap.size + 1 := by rw [hu2]; simp
  rw [← hu2] at HN2 HB1 ⊢
  clear hu2
  refine (ints_any g gc [12, 3, 4] (some ⟨v1.heap.size, 0, none⟩) 3 [12, 3, 4] (by simp) _ u2 HN2.out.2.ints.1 (HN2.out.1.is (by omega)).1).mono ?_
  rintro e v2 ⟨rfl, hB⟩
  have hb : Below w.heap.size w v2 := HB1.out.trans (hB.mono HB1.out.size)
  clear hB HB1 HN2 hz
  rw [eqB_true rfl]
  by_cases hf : 4096 < b.length
  · go_wp2_with fail
    go_ret
    exact ⟨rfl, hb⟩
  obtain ⟨D, hD⟩ : ∃ D, D = dgV b n := ⟨_, rfl⟩
  have HD : Hid (dgV b n = D ∧ D.length = b.length) := ⟨hD.symm, by rw [hD]; exact dgV_length b n⟩
  obtain ⟨V, hV⟩ : ∃ V, V = vaV b D := ⟨_, rfl⟩
  have HZ : Hid (wrap64 (pk b b.length) = 0 → V = n) := fun h => by
    rw [hV, hD]
    exact whole_zero HI.out.2.2 h
  have HT : Hid (Wi n (-1099511627776) 1099511627776 → Sm b 4 1000 → (∀ i, i < b.length → nth b i ≠ 0) → (wrap64 (n - V)).tmod (wrap64 (pk b b.length)) = 0) := fun h1 h2 h3 => by
    rw [hV, hD]
    exact whole_tmod h2.four.1 (fun i hi => ⟨h3 i hi, h2.four.2 i hi⟩) (by have := h1.1; have := h1.2; omega)
  have HVV : Hid (vaV b D = V) := hV.symm
  clear hD hV
  go_wp2_with fail
  refine (dg_ok a1 c1 b b.length rfl n v2 (by omega) ((HI.out.1.below hb).mono hb.size) HI.out.2.1 HI.out.2.2 D HG HD.out.1).mono ?_
  rintro e v3 ⟨g1, gc1, rfl, hN, hB⟩
  replace hb := hb.trans (hB.mono hb.size)
  have HN : Hid (IsInts v3.heap.size v3 g1 D) := hN.ints.1
  clear hB hN
  go_wp2_with fail
  refine (va_ok a1 c1 b b.length rfl g1 gc1 D D.length rfl v3 (by omega) HD.out.2 ((HI.out.1.below hb).mono hb.size) HN.out V HV HVV.out).mono ?_
  rintro e v4 ⟨rfl, hB⟩
  replace hb := hb.trans (hB.mono hb.size)
  clear hB HN
  have HB : Hid (Below w.heap.size w v4) := hb
  clear hb
  go_wp2_with fail
  go_loopw [12, 13] (fun x i wr => ∃ k : Nat, k ≤ b.length ∧ i = .int .i64 k ∧ x = .int .i64 (wrap64 (pk b k)) ∧ Hid (∀ j, j < k → nth b j ≠ 0) ∧ wr = v4) (fun _ i _ => b.length - (intOf i).toNat)
  case atStart => exact ⟨0, Nat.zero_le _, rfl, by simp [pk, wrap64], fun j hj => by omega, rfl⟩
  case round =>
    obtain ⟨k, hk, rfl, rfl, HK, hw⟩ := hrel
    obtain rfl := hw.symm
    clear hw
    by_cases hlt : k < b.length
    · obtain ⟨bb, off, rfl, hbb, hcell⟩ := ((HI.out.1.below HB.out).mono HB.out.size).at hlt
      have hc := hcell k hlt
      clear hcell
      by_cases h0 : nth b k = 0
      · have hE : V = n := HZ.out (by rw [pk_zero h0 hlt]; exact w_small (by omega) (by omega))
        subst hE
        rw [h0] at hc
        clear h0
        generalize wrap64 (pk b k) = P at *
        go_wp2_with fail
        go_ret
        exact ⟨ret_bool11 (by simp), HB.out⟩
      · have hne : (nth b k == 0) = false := by rw [beq_eq_false_iff_ne]; exact h0
        have HN : Hid (∀ j, j < k + 1 → nth b j ≠ 0) := fun j hj => by
          by_cases e : j = k
          · subst e; exact h0
          · exact HK.out j (by omega)
        have HS : Hid (wrap64 (wrap64 (pk b k) * nth b k) = wrap64 (pk b (k + 1))) := pk_step b k
        clear h0
        go_wp2_with fail
        exact ⟨⟨k + 1, by omega, by go_num, by rw [HS.out], HN, by first | rfl | trivial⟩, by simp [intOf]; omega⟩
    · obtain rfl : k = b.length := by omega
      generalize wrap64 (pk b b.length) = P at *
      by_cases hP : P = 0
      · have hE : V = n := HZ.out hP
        subst hE hP
        go_wp2_with fail
        go_ret
        exact ⟨ret_bool11 (by simp), HB.out⟩
      have hne : (P == 0) = false := by rw [beq_eq_false_iff_ne]; exact hP
      by_cases hT : (wrap64 (n - V)).tmod P = 0
      · have hTT : ((wrap64 (n - V)).tmod P == 0) = true := by rw [beq_iff_eq]; exact hT
        clear hT
        go_wp2_with fail
        go_ret
        exact ⟨rfl, HB.out⟩
      have hTT : ((wrap64 (n - V)).tmod P == 0) = false := by rw [beq_eq_false_iff_ne]; exact hT
      have HF : Hid (Wi n (-1099511627776) 1099511627776 → ¬ Sm b 4 1000) := fun h1 h2 => hT (HT.out h1 h2 HK.out)
      clear hT
      go_wp2_with fail
      refine (within11 n _ _ v4).mono ?_
      rintro e v5 ⟨t, rfl, ht, hB⟩
      have hb : Below w.heap.size w v5 := HB.out.trans (hB.mono HB.out.size)
      clear hB
      cases t
      · clear ht
        go_wp2_with fail
        go_ret
        exact ⟨rfl, hb⟩
      have HF2 : Hid (¬ Sm b 4 1000) := HF.out (ht.1 rfl)
      clear ht HF
      go_wp2_with fail
      refine (small_any a1 c1 b x1 v5 ((HI.out.1.below hb).mono hb.size)).mono ?_
      rintro e v6 ⟨t, rfl, ht, hB⟩
      replace hb := hb.trans (hB.mono hb.size)
      clear hB
      cases t
      · clear ht
        go_wp2_with fail
        go_ret
        exact ⟨rfl, hb⟩
      · exact absurd (ht.1 rfl) HF2.out
end Go.Proofs.Ytigichhcoflaiaa
