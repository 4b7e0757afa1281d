/-
  The walk of the statement RadixBack, given what the program tells.
-/
import Derived.Test.YtigichhcoflaiaaRdh
import Derived.Test.YtigichhcoflaiaaRcmp
namespace Go.Proofs.Ytigichhcoflaiaa
open Go.RowKit
set_option linter.unusedVariables false

theorem fact_back : vaV [24, 60, 60] [1, 2, 3] = 3723 := by
  show wrap64 (((0 * 24 + 1) * 60 + 2) * 60 + 3) = 3723
  rw [w_small (by omega) (by omega)]
  rfl
/-- What digits below their bases are worth. -/
theorem Pr.val {b d : List Int} (h : Pr b d) : vaV b d = hv b d b.length ∧ 0 ≤ vaV b d := by
  have hb := h.2.2.1.bd
  have h4 := h.2.2.2
  have e : vaV b d = hv b d b.length := by unfold vaV; exact w_small (by omega) (by omega)
  exact ⟨e, by rw [e]; exact hb.1⟩
theorem Pr.back {b d : List Int} (h : Pr b d) : dgV b (vaV b d) = d := by
  unfold dgV
  rw [h.val.1, Go.Proofs.Ytigichhcoflaiaa.back h.2.2.1 h.2.2.2 (by rw [h.1]; exact Nat.le_refl _), ← h.1, List.take_length]
theorem Pr.less {b d e : List Int} (h : Pr b d) (h' : Pr b e) : vaV b d < vaV b e ↔ cmpL d e < 0 := by
  rw [h.val.1, h'.val.1]
  exact hv_cmp h.2.2.1 h.1 h'.2.2.1 h'.1
set_option maxRecDepth 100000 in
set_option maxHeartbeats 8000000 in
theorem rback_walk (HV : CVa) (HG : CDg) (a1 : Option Addr) (c1 : Nat) (b : List Int) (x1 : b.length ≤ 9223372036854775807) (T1 : ∀ j, In64 (nth b j)) (a2 : Option Addr) (c2 : Nat) (d : List Int) (x2 : d.length ≤ 9223372036854775807) (a3 : Option Addr) (c3 : Nat) (f : List Int) (x3 : f.length ≤ 9223372036854775807) (w : World) (w1 : IsInts w.heap.size w a1 b) (w2 : IsInts w.heap.size w a2 d) (w3 : IsInts w.heap.size w a3 f) :
    Calls Try.prog 3 #[.slice a1 b.length c1, .slice a2 d.length c2, .slice a3 f.length c3] w fun e w' => e = .returned (.bool true) ∧ Below w.heap.size w w' := by
  have HI : Hid (IsInts w.heap.size w a1 b ∧ IsInts w.heap.size w a2 d ∧ IsInts w.heap.size w a3 f ∧ ∀ j, In64 (nth b j)) := ⟨w1, w2, w3, T1⟩
  clear w1 w2 w3 T1
  have n1 := lit_mid w 3 [24, 60, 60] 3 rfl
  have n2 := lit_mid (w.alloc (.cells #[.int .i64 24, .int .i64 60, .int .i64 60] 3)) 3 [1, 2, 3] 3 rfl
  have n3 := n1.al (by simp) (.cells #[.int .i64 1, .int .i64 2, .int .i64 3] 3)
  simp only [List.map_cons, List.map_nil, World.size_alloc] at n1 n2 n3
  have HN : Hid (_ ∧ _) := ⟨n3, n2⟩
  have hB0 : Below w.heap.size w ((w.alloc (.cells #[.int .i64 24, .int .i64 60, .int .i64 60] 3)).alloc (.cells #[.int .i64 1, .int .i64 2, .int .i64 3] 3)) := ((Below.refl _ w).alloc (Nat.le_refl _) _).alloc (by simp) _
  have HB0 : Hid (_ ) := hB0
  clear n1 n2 n3 hB0
  go_enter Try.func3, Try.ntmps3
  go_wp2_with fail
  obtain ⟨u, hu⟩ : ∃ u, u = ((w.alloc (.cells #[.int .i64 24, .int .i64 60, .int .i64 60] 3)).alloc (.cells #[.int .i64 1, .int .i64 2, .int .i64 3] 3)) := ⟨_, rfl⟩
  have hz : u.heap.size = w.heap.size + 2 := by rw [hu]; simp
  rw [← hu] at HN HB0 ⊢
  clear hu
  refine (va_ok (some ⟨w.heap.size, 0, none⟩) 3 [24, 60, 60] 3 rfl (some ⟨w.heap.size + 1, 0, none⟩) 3 [1, 2, 3] 3 rfl u (by decide) rfl (HN.out.1.is (by omega)).1 (HN.out.2.is (by omega)).1 3723 HV fact_back).mono ?_
  rintro e v1 ⟨rfl, hB⟩
  have hb : Below w.heap.size w v1 := HB0.out.trans (hB.mono HB0.out.size)
  clear hB HB0 HN hz
  go_wp2_with fail
  refine (proper_any a1 c1 b a2 c2 d x1 x2 v1 ((HI.out.1.below hb).mono hb.size) ((HI.out.2.1.below hb).mono hb.size)).mono ?_
  rintro e v2 ⟨t, rfl, ht, hB⟩
  replace hb := hb.trans (hB.mono hb.size)
  clear hB
  cases t
  · clear ht
    go_wp2_with fail
    go_ret
    exact ⟨rfl, hb⟩
  have HP : Hid (Pr b d) := ht.1 rfl
  clear ht
  have hl62 : b.length ≤ 62 := HP.out.2.1
  obtain ⟨V, hV⟩ : ∃ V, V = vaV b d := ⟨_, rfl⟩
  have HVV : Hid (vaV b d = V ∧ In64 V ∧ dgV b V = d) := ⟨hV.symm, by rw [hV]; exact vaV_in b d, by rw [hV]; exact HP.out.back⟩
  have hV0 : ¬ V < 0 := by have := HP.out.val.2; omega
  clear hV
  go_wp2_with fail
  refine (va_ok a1 c1 b b.length rfl a2 c2 d d.length rfl v2 (by omega) HP.out.1 ((HI.out.1.below hb).mono hb.size) ((HI.out.2.1.below hb).mono hb.size) V HV HVV.out.1).mono ?_
  rintro e v3 ⟨rfl, hB⟩
  replace hb := hb.trans (hB.mono hb.size)
  clear hB
  go_wp2_with fail
  refine (dg_ok a1 c1 b b.length rfl V v3 (by omega) ((HI.out.1.below hb).mono hb.size) HI.out.2.2.2 HVV.out.2.1 d HG HVV.out.2.2).mono ?_
  rintro e v4 ⟨g, gc, rfl, hN, hB⟩
  replace hb := hb.trans (hB.mono hb.size)
  have HX : Hid (IsInts v4.heap.size v4 g d) := hN.ints.1
  clear hB hN
  go_wp2_with fail
  refine (list_eq g gc d d.length rfl a2 c2 d.length rfl v4 x2 HX.out ((HI.out.2.1.below hb).mono hb.size)).mono ?_
  rintro e v5 ⟨rfl, hB⟩
  replace hb := hb.trans (hB.mono hb.size)
  clear hB HX
  go_wp2_with fail
  refine (proper_any a1 c1 b a3 c3 f x1 x3 v5 ((HI.out.1.below hb).mono hb.size) ((HI.out.2.2.1.below hb).mono hb.size)).mono ?_
  rintro e v6 ⟨t, rfl, ht, hB⟩
  replace hb := hb.trans (hB.mono hb.size)
  clear hB
  cases t
  · clear ht
    go_wp2_with fail
    go_ret
    exact ⟨rfl, hb⟩
  have HP2 : Hid (Pr b f) := ht.1 rfl
  clear ht
  obtain ⟨V2, hV2⟩ : ∃ V, V = vaV b f := ⟨_, rfl⟩
  obtain ⟨C, hC⟩ : ∃ C, C = cmpL d f := ⟨_, rfl⟩
  have HC : Hid (vaV b f = V2 ∧ cmpL d f = C) := ⟨hV2.symm, hC.symm⟩
  have hcc : decide (V < V2) = decide (C < 0) := by
    rw [hV2, hC, ← HVV.out.1]
    exact decide_eq_decide.2 (HP.out.less HP2.out)
  have HCC : Hid ((decide (V < V2) == decide (C < 0)) = true) := by show _ = _; rw [hcc]; simp
  clear hV2 hC hcc
  go_wp2_with fail
  refine (va_ok a1 c1 b b.length rfl a3 c3 f f.length rfl v6 (by omega) HP2.out.1 ((HI.out.1.below hb).mono hb.size) ((HI.out.2.2.1.below hb).mono hb.size) V2 HV HC.out.1).mono ?_
  rintro e v7 ⟨rfl, hB⟩
  replace hb := hb.trans (hB.mono hb.size)
  clear hB
  go_wp2_with fail
  refine (cmp_any a2 c2 d a3 c3 f (by rw [HP.out.1, HP2.out.1]) x2 _ v7 ((HI.out.2.1.below hb).mono hb.size) ((HI.out.2.2.1.below hb).mono hb.size)).mono ?_
  rintro e v8 ⟨rfl, hB⟩
  replace hb := hb.trans (hB.mono hb.size)
  clear hB
  rw [HC.out.2]
  go_wp2_with fail
  go_ret
  exact ⟨ret_bool11 HCC.out, hb⟩
end Go.Proofs.Ytigichhcoflaiaa
