/-
  What package cut's Take tells.
-/
import Derived.Test.YtldjgacnjogbnabCutb
import Derived.Test.YtldjgacnjogbnabApps
import Derived.Deep.QuietTactic
import Derived.BigQuiet
import Derived.WalkSmall
namespace Go.Proofs.Ytldjgacnjogbnab
open Go.RowKit
set_option linter.unusedVariables false

theorem heap_newTake (w : World) (o : Obj) : (w.alloc o).heap[w.heap.size]? = some o := World.alloc_heap_new w o
theorem tkE_num {n : List Int} {c : Bool} {s dz : List Int} (h : drE n c s dz ≠ 0) : tkE n c s dz = drE n c s dz := by
  unfold tkE drE at *
  by_cases h1 : flawE c s dz = 0 <;> by_cases h2 : n.length = s.length <;> simp_all
theorem tkE_big {n : List Int} {c : Bool} {s dz : List Int} (h : drE n c s dz = 0) {k : Nat} (hk : k < n.length) (hb : 4096 < nth n k ∨ nth n k < -4096) : tkE n c s dz = 7 := by
  obtain ⟨h1, h2⟩ := drE_zero.1 h
  have hB : tkBig n = true := by
    unfold tkBig
    rw [List.any_eq_true]
    exact ⟨nth n k, nth_mem n k hk, by simpa using hb⟩
  unfold tkE
  rw [if_neg (by simpa using h1), if_neg (by simpa using h2), if_pos hB]
theorem tkE_fit {n : List Int} {c : Bool} {s dz : List Int} (h : drE n c s dz = 0) (hb : ∀ k, k < n.length → -4096 ≤ nth n k ∧ nth n k ≤ 4096) : tkE n c s dz = errOf (tkS n) := by
  obtain ⟨h1, h2⟩ := drE_zero.1 h
  have hB : tkBig n = false := by
    cases hc : tkBig n
    · rfl
    · unfold tkBig at hc
      rw [List.any_eq_true] at hc
      obtain ⟨y, hy, hb'⟩ := hc
      obtain ⟨j, hj, rfl⟩ := List.mem_iff_getElem.1 hy
      rw [← nth_get n j hj] at hb'
      have := hb j hj
      simp at hb'
      omega
  unfold tkE
  rw [if_neg (by simpa using h1), if_neg (by simpa using h2), if_neg (by rw [hB]; decide)]
set_option maxRecDepth 100000 in
set_option maxHeartbeats 4000000 in
theorem tk_holds : CTk := by
  intro na nc n c sa sc sz da dc dz w h0 T0 h1 h2 hn hs hd T
  have HI : Hid (IsC w.heap.size w sa sz sc ∧ IsC w.heap.size w da dz dc ∧ IsC w.heap.size w na n nc) := ⟨hs, hd, hn⟩
  clear hs hd hn T
  have HB0 : Hid (Below w.heap.size w ((w.alloc (.cells #[.bool c, .slice sa sz.length sc, .slice da dz.length dc] 24)).alloc (.cells #[.bool false, .slice none 0 0, .slice none 0 0] 24))) := ((Below.refl _ w).alloc (Nat.le_refl _) _).alloc (by simp) _
  have pa := (Abx.new w (.bool c) (.slice sa sz.length sc) (.slice da dz.length dc)).al (.cells #[.bool false, .slice none 0 0, .slice none 0 0] 24)
  have pr := Abx.new1 w (.cells #[.bool c, .slice sa sz.length sc, .slice da dz.length dc] 24) (.bool false) (.slice none 0 0) (.slice none 0 0)
  have p0 := pa.c0
  have p1 := pa.c1
  have p2 := pa.c2
  by_cases h3 : drE n c sz dz = 0
  · have H3 : Hid (drE n c sz dz = 0) := h3
    clear h3
    go_enter Try.func13, Try.ntmps13
    go_wp2_with fail
    refine (num_ok na nc n c sa sc sz da dc dz h1 h2 _ ((HI.out.1.1.below HB0.out).mono HB0.out.size) ((HI.out.2.1.1.below HB0.out).mono HB0.out.size) H3.out).mono ?_
    rintro e v1 ⟨rfl, hC⟩
    have HB1 : Hid (Below w.heap.size w v1) := HB0.out.trans (hC.mono HB0.out.size)
    have HP : Hid (Abx v1 w.heap.size (.bool c) (.slice sa sz.length sc) (.slice da dz.length dc)) := pa.go hC
    have HR : Hid (Abx v1 (w.heap.size + 1) (.bool false) (.slice none 0 0) (.slice none 0 0)) := pr.go hC
    clear hC pa pr p0 p1 p2 HB0
    go_wp2_with fail
    go_loopw [18] (fun i wr => ∃ k : Nat, k ≤ n.length ∧ i = .int .i64 k ∧ Hid (∀ j, j < k → -4096 ≤ nth n j ∧ nth n j ≤ 4096) ∧ wr = v1) (fun i _ => n.length - (intOf i).toNat)
    case atStart => exact ⟨0, Nat.zero_le _, rfl, fun j hj => absurd hj (Nat.not_lt_zero j), rfl⟩
    case round =>
      obtain ⟨k, hk, rfl, HA, hv⟩ := hrel
      obtain rfl := hv.symm
      by_cases hlt : k < n.length
      · obtain ⟨bn, on, rfl, hbn, hcN⟩ := (HI.out.2.2.1.below HB1.out).at hlt
        have cn := hcN k hlt
        have t64 := T0 k
        clear hcN
        by_cases hb : 4096 < nth n k
        · have HE : Hid (tkE n c sz dz = 7) := tkE_big H3.out hlt (.inl hb)
          have r0 := HR.out.c0
          have r1 := HR.out.c1
          have r2 := HR.out.c2
          have f0 := HR.out.fr 0
          have f1 := HR.out.fr 1
          have f2 := HR.out.fr 2
          go_wp2_with fail
          have F := HR.out.set3 (.bool false) (.slice none 0 0) (.slice none 0 0)
          have q0 := F.c0
          have q1 := F.c1
          have q2 := F.c2
          exact bodyPost_ret (v := .tuple #[.agg #[.bool false, .slice none 0 0, .slice none 0 0], .iface 51 (.int .i64 7)]) (by simp [results, Try.results13, go_sem, q0, q1, q2]) rfl (UB.mkno HE.out (by decide) (bel_set3 HB1.out (by omega) _ _ _))
        · by_cases hb2 : nth n k < -4096
          · have HE : Hid (tkE n c sz dz = 7) := tkE_big H3.out hlt (.inr hb2)
            have r0 := HR.out.c0
            have r1 := HR.out.c1
            have r2 := HR.out.c2
            have f0 := HR.out.fr 0
            have f1 := HR.out.fr 1
            have f2 := HR.out.fr 2
            go_wp2_with fail
            have F := HR.out.set3 (.bool false) (.slice none 0 0) (.slice none 0 0)
            have q0 := F.c0
            have q1 := F.c1
            have q2 := F.c2
            exact bodyPost_ret (v := .tuple #[.agg #[.bool false, .slice none 0 0, .slice none 0 0], .iface 51 (.int .i64 7)]) (by simp [results, Try.results13, go_sem, q0, q1, q2]) rfl (UB.mkno HE.out (by decide) (bel_set3 HB1.out (by omega) _ _ _))
          · have HA2 : Hid (∀ j, j < k + 1 → -4096 ≤ nth n j ∧ nth n j ≤ 4096) := fun j hj => by
              by_cases e : j = k
              · subst e; exact ⟨by omega, by omega⟩
              · exact HA.out j (by omega)
            go_wp2_with fail
            exact ⟨⟨k + 1, by omega, by go_num, HA2, by first | rfl | trivial⟩, by simp [intOf]; omega⟩
      · obtain rfl : k = n.length := by omega
        have HE : Hid (tkE n c sz dz = errOf (tkS n)) := tkE_fit H3.out HA.out
        have HD : Hid (flawE c sz dz = 0 ∧ n.length = sz.length) := drE_zero.1 H3.out
        have a0 := HP.out.c0
        have a1 := HP.out.c1
        have a2 := HP.out.c2
        go_wp2_with fail
        refine (ends_n na nc n sz n.length HD.out.2 c sa sc da dc dz HD.out.1 HD.out.2 HA.out v1 ((HI.out.2.2.1.below HB1.out).mono HB1.out.size) ((HI.out.1.below HB1.out).mono HB1.out.size) ((HI.out.2.1.below HB1.out).mono HB1.out.size)).mono ?_
        clear a0 a1 a2
        rintro e w3 ⟨xa, xc, ya, yc, rfl, hX, hY, hB⟩
        have HX : Hid (NewC v1.heap.size w3 xa (onl (errOf (tkS n)) (tkS n)) xc ∧ NewC v1.heap.size w3 ya (onl (errOf (tkS n)) (tkD n c sz dz)) yc ∧ Below v1.heap.size v1 w3) := ⟨hX, hY, hB⟩
        have HG6 : Hid (tkE n c sz dz = errOf (tkS n) ∧ onc (tkE n c sz dz) c = onc (errOf (tkS n)) c ∧ tkS6 n c sz dz = onl (errOf (tkS n)) (tkS n) ∧ tkD6 n c sz dz = onl (errOf (tkS n)) (tkD n c sz dz)) := by unfold tkS6 tkD6; rw [HE.out]; exact ⟨rfl, rfl, rfl, rfl⟩
        have R3 := HR.out.go hB
        have hwr : w.heap.size + 1 < v1.heap.size := HR.out.lt
        clear hX hY hB HE
        generalize onl (errOf (tkS n)) (tkS n) = S' at *
        generalize onl (errOf (tkS n)) (tkD n c sz dz) = D' at *
        generalize onc (errOf (tkS n)) c = C' at *
        generalize errOf (tkS n) = E' at *
        have r0 := R3.c0
        have r1 := R3.c1
        have r2 := R3.c2
        have f0 := R3.fr 0
        have f1 := R3.fr 1
        have f2 := R3.fr 2
        go_wp2_with fail
        have F := R3.set3 (.bool C') (.slice xa S'.length xc) (.slice ya D'.length yc)
        have q0 := F.c0
        have q1 := F.c1
        have q2 := F.c2
        have k1 := HX.out.1
        have k2 := HX.out.2.1
        have k3 := HX.out.2.2
        have hX1 := (k1.set3 (b := w.heap.size + 1) (by omega) (.bool C') (.slice xa S'.length xc) (.slice ya D'.length yc)).low (lo' := w.heap.size) (by omega)
        have hX2 := (k2.set3 (b := w.heap.size + 1) (by omega) (.bool C') (.slice xa S'.length xc) (.slice ya D'.length yc)).low (lo' := w.heap.size) (by omega)
        have hX3 := bel_set3 (HB1.out.trans (k3.mono HB1.out.size)) (b := w.heap.size + 1) (by omega) (.bool C') (.slice xa S'.length xc) (.slice ya D'.length yc)
        exact bodyPost_ret (v := .tuple #[.agg #[.bool C', .slice xa S'.length xc, .slice ya D'.length yc], errV E']) (by simp [results, Try.results13, go_sem, q0, q1, q2]) rfl (by rw [HG6.out.2.2.1, HG6.out.2.2.2, HG6.out.2.1, HG6.out.1]; exact ⟨xa, xc, ya, yc, rfl, hX1, hX2, hX3⟩)
  · have H3 : Hid (drE n c sz dz ≠ 0) := h3
    have HE : Hid (tkE n c sz dz = drE n c sz dz) := tkE_num h3
    clear h3
    go_enter Try.func13, Try.ntmps13
    go_wp2_with fail
    refine (num_no na nc n c sa sc sz da dc dz h0 h1 h2 _ ((HI.out.1.1.below HB0.out).mono HB0.out.size) ((HI.out.2.1.1.below HB0.out).mono HB0.out.size) H3.out).mono ?_
    rintro e v1 ⟨rfl, hC⟩
    have HB1 : Hid (Below w.heap.size w v1) := HB0.out.trans (hC.mono HB0.out.size)
    have HP : Hid (Abx v1 w.heap.size (.bool c) (.slice sa sz.length sc) (.slice da dz.length dc)) := pa.go hC
    have HR : Hid (Abx v1 (w.heap.size + 1) (.bool false) (.slice none 0 0) (.slice none 0 0)) := pr.go hC
    clear hC pa pr p0 p1 p2 HB0
    have r0 := HR.out.c0
    have r1 := HR.out.c1
    have r2 := HR.out.c2
    have f0 := HR.out.fr 0
    have f1 := HR.out.fr 1
    have f2 := HR.out.fr 2
    go_wp2_with fail
    have F := HR.out.set3 (.bool false) (.slice none 0 0) (.slice none 0 0)
    have q0 := F.c0
    have q1 := F.c1
    have q2 := F.c2
    exact bodyPost_ret (v := .tuple #[.agg #[.bool false, .slice none 0 0, .slice none 0 0], .iface 51 (.int .i64 (drE n c sz dz))]) (by simp [results, Try.results13, go_sem, q0, q1, q2]) rfl (UB.mkno HE.out H3.out (bel_set3 HB1.out (by omega) _ _ _))
end Go.Proofs.Ytldjgacnjogbnab
