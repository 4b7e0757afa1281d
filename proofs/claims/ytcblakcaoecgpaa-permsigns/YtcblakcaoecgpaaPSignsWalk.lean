/-
  The walk of the statement PermSigns, given what the program tells.
-/
import Derived.Test.YtcblakcaoecgpaaPrmv
import Derived.Test.YtcblakcaoecgpaaJoinc
namespace Go.Proofs.Ytcblakcaoecgpaa
open Go.RowKit
set_option linter.unusedVariables false

theorem lit_all {xs : List Int} (h : xs.all (fun x => decide (-9223372036854775808 ≤ x ∧ x ≤ 9223372036854775807)) = true) : ∀ j, In64 (nth xs j) := fun j => by
  by_cases hj : j < xs.length
  · have : nth xs j ∈ xs := by simp [nth, hj]
    exact of_decide_eq_true (p := -9223372036854775808 ≤ nth xs j ∧ nth xs j ≤ 9223372036854775807) (List.all_eq_true.1 h _ this)
  · have : nth xs j = 0 := by simp [nth, List.getElem?_eq_none (Nat.le_of_not_lt hj)]
    rw [this]; unfold In64; decide
set_option maxRecDepth 100000 in
set_option maxHeartbeats 8000000 in
theorem signs_no (HA : CPa) (HV : CPi) (HS : CPs) (a1 : Option Addr) (c1 : Nat) (p1 : List Int) (x1 : p1.length ≤ 9223372036854775807) (T1 : ∀ j, In64 (nth p1 j)) (a2 : Option Addr) (c2 : Nat) (p2 : List Int) (x2 : p2.length ≤ 9223372036854775807) (T2 : ∀ j, In64 (nth p2 j)) (i j : Int) (hi64 : In64 i) (hj64 : In64 j) (w : World) (w1 : IsInts w.heap.size w a1 p1) (w2 : IsInts w.heap.size w a2 p2) (F1 : Hid (afE p1 p2 ≠ 0)) :
    Calls Try.prog 4 #[.slice a1 p1.length c1, .slice a2 p2.length c2, .int .i64 i, .int .i64 j] w fun e w' => e = .returned (.bool true) ∧ Below w.heap.size w w' := by
  have HI1 : Hid (IsInts w.heap.size w a1 p1 ∧ ∀ j, In64 (nth p1 j)) := ⟨w1, T1⟩
  have HI2 : Hid (IsInts w.heap.size w a2 p2 ∧ ∀ j, In64 (nth p2 j)) := ⟨w2, T2⟩
  clear w1 T1 w2 T2
  have n1 := lit_mid w 3 [1, 0, 2] 3 rfl
  simp only [List.map_cons, List.map_nil] at n1
  go_enter Try.func4, Try.ntmps4
  go_wp2_with fail
  obtain ⟨wo2, hwo2⟩ : ∃ wo2, wo2 = (w.alloc (.cells #[.int .i64 1, .int .i64 0, .int .i64 2] 3)) := ⟨_, rfl⟩
  rw [← hwo2]
  have z3 : w.heap.size + 1 ≤ wo2.heap.size := by rw [hwo2]; simp only [World.size_alloc]; omega
  have L4 : Hid (MidC (w.heap.size) (w.heap.size + 1) wo2 (some ⟨w.heap.size, 0, none⟩) ([1, 0, 2]) (3)) := by rw [hwo2]; exact n1
  have hb5 : Hid (Below w.heap.size w wo2) := by rw [hwo2]; exact ((Below.refl w.heap.size w).alloc (by omega) (.cells #[.int .i64 1, .int .i64 0, .int .i64 2] 3))
  have zwo2 : w.heap.size ≤ wo2.heap.size := hb5.out.size
  clear hwo2 n1
  refine (sg_ok (some ⟨w.heap.size, 0, none⟩) 3 [1, 0, 2] 3 rfl _ (by decide) (L4.out.is (by omega)).1 (lit_all (by decide)) (-1) HS (by decide)).mono ?_
  rintro e v1 ⟨rfl, hB⟩
  have z6 : wo2.heap.size ≤ v1.heap.size := hB.size
  have L7 : Hid (MidC (w.heap.size) (w.heap.size + 1) v1 (some ⟨w.heap.size, 0, none⟩) ([1, 0, 2]) (3)) := L4.out.go (by omega) hB
  have hb8 : Hid (Below w.heap.size w v1) := hb5.out.trans (hB.mono hb5.out.size)
  clear hB hb5 L4
  clear L7
  go_wp2_with fail
  refine (af_no a1 c1 p1 p1.length rfl a2 c2 p2 p2.length rfl _ x1 x2 ((HI1.out.1.below hb8.out).mono hb8.out.size) ((HI2.out.1.below hb8.out).mono hb8.out.size) HI1.out.2 HI2.out.2 HA F1.out).mono ?_
  rintro e v2 ⟨g1, gc1, rfl, hN1, hB⟩
  have z9 : v1.heap.size ≤ v2.heap.size := hB.size
  have hb10 : Hid (Below w.heap.size w v2) := hb8.out.trans (hB.mono hb8.out.size)
  have L11 : Hid (MidC (v1.heap.size) (v2.heap.size) v2 (g1) ([]) (gc1)) := hN1.midc
  clear hB hb8 hN1
  go_wp2_with fail
  go_ret
  exact ⟨rfl, hb10.out⟩
set_option maxRecDepth 100000 in
set_option maxHeartbeats 8000000 in
theorem signs_p (HA : CPa) (HV : CPi) (HS : CPs) (a1 : Option Addr) (c1 : Nat) (p1 : List Int) (x1 : p1.length ≤ 9223372036854775807) (T1 : ∀ j, In64 (nth p1 j)) (a2 : Option Addr) (c2 : Nat) (p2 : List Int) (x2 : p2.length ≤ 9223372036854775807) (T2 : ∀ j, In64 (nth p2 j)) (i j : Int) (hi64 : In64 i) (hj64 : In64 j) (w : World) (w1 : IsInts w.heap.size w a1 p1) (w2 : IsInts w.heap.size w a2 p2) (F1 : Hid (afE p1 p2 = 0)) (F2 : Hid (sgV p1 = 1)) :
    Calls Try.prog 4 #[.slice a1 p1.length c1, .slice a2 p2.length c2, .int .i64 i, .int .i64 j] w fun e w' => e = .returned (.bool true) ∧ Below w.heap.size w w' := by
  have HI1 : Hid (IsInts w.heap.size w a1 p1 ∧ ∀ j, In64 (nth p1 j)) := ⟨w1, T1⟩
  have HI2 : Hid (IsInts w.heap.size w a2 p2 ∧ ∀ j, In64 (nth p2 j)) := ⟨w2, T2⟩
  clear w1 T1 w2 T2
  obtain ⟨X, hX⟩ : ∃ X, X = aft p1 p2 := ⟨_, rfl⟩
  obtain ⟨J1, hJ1⟩ : ∃ x, x = tnd p1 := ⟨_, rfl⟩
  obtain ⟨sB, hsB⟩ : ∃ x, x = sgV p2 := ⟨_, rfl⟩
  obtain ⟨sC, hsC⟩ : ∃ x, x = sgV X := ⟨_, rfl⟩
  obtain ⟨e1, e2, e3⟩ := afE_zero.1 F1.out
  obtain ⟨l1, o1⟩ := orE_zero.1 e1
  obtain ⟨l2, o2⟩ := orE_zero.1 e2
  have oX : IsOrd X := by rw [hX]; exact aft_ord o1 o2 e3
  have lX : X.length = p2.length := by rw [hX]; exact aft_length
  have oJ1 : IsOrd J1 := by rw [hJ1]; exact tnd_ord o1
  have lJ1 : J1.length = p1.length := by rw [hJ1]; exact tnd_length
  have HX : Hid (afE p1 p2 = 0 ∧ aft p1 p2 = X) := ⟨F1.out, hX.symm⟩
  have HJ : Hid (orE p1 = 0 ∧ tnd p1 = J1) := ⟨e1, hJ1.symm⟩
  have HSA : Hid (orE p1 = 0 ∧ sgV p1 = 1) := ⟨e1, F2.out⟩
  have HSB : Hid (orE p2 = 0 ∧ sgV p2 = sB) := ⟨e2, hsB.symm⟩
  have HSC : Hid (orE X = 0 ∧ sgV X = sC) := ⟨orE_of oX (by omega), hsC.symm⟩
  have HSD : Hid (orE J1 = 0 ∧ sgV J1 = 1) := ⟨orE_of oJ1 (by omega), by rw [hJ1, sg_tnd o1]; exact F2.out⟩
  have HT : Hid ((∀ j, In64 (nth X j)) ∧ ∀ j, In64 (nth J1 j)) := ⟨ord_64 oX (by omega), ord_64 oJ1 (by omega)⟩
  have HLL : Hid (X.length ≤ 4096 ∧ J1.length ≤ 4096 ∧ p1.length ≤ 4096) := ⟨by omega, by omega, l1⟩
  have HO1 : Hid (IsOrd p1 ∧ sgV p1 = 1) := ⟨o1, F2.out⟩
  have HAB : Hid (sC = 1 * sB ∧ (sB = 1 ∨ sB = -1)) := ⟨by rw [hsC, hX, sg_after o1 o2 e3, F2.out, hsB], by rw [hsB]; exact sg_one⟩
  clear hX hJ1 hsB hsC e1 e2 e3 l1 l2 o1 o2 oX lX oJ1 lJ1
  have n1 := lit_mid w 3 [1, 0, 2] 3 rfl
  simp only [List.map_cons, List.map_nil] at n1
  go_enter Try.func4, Try.ntmps4
  go_wp2_with fail
  obtain ⟨wo2, hwo2⟩ : ∃ wo2, wo2 = (w.alloc (.cells #[.int .i64 1, .int .i64 0, .int .i64 2] 3)) := ⟨_, rfl⟩
  rw [← hwo2]
  have z3 : w.heap.size + 1 ≤ wo2.heap.size := by rw [hwo2]; simp only [World.size_alloc]; omega
  have L4 : Hid (MidC (w.heap.size) (w.heap.size + 1) wo2 (some ⟨w.heap.size, 0, none⟩) ([1, 0, 2]) (3)) := by rw [hwo2]; exact n1
  have hb5 : Hid (Below w.heap.size w wo2) := by rw [hwo2]; exact ((Below.refl w.heap.size w).alloc (by omega) (.cells #[.int .i64 1, .int .i64 0, .int .i64 2] 3))
  have zwo2 : w.heap.size ≤ wo2.heap.size := hb5.out.size
  clear hwo2 n1
  refine (sg_ok (some ⟨w.heap.size, 0, none⟩) 3 [1, 0, 2] 3 rfl _ (by decide) (L4.out.is (by omega)).1 (lit_all (by decide)) (-1) HS (by decide)).mono ?_
  rintro e v1 ⟨rfl, hB⟩
  have z6 : wo2.heap.size ≤ v1.heap.size := hB.size
  have L7 : Hid (MidC (w.heap.size) (w.heap.size + 1) v1 (some ⟨w.heap.size, 0, none⟩) ([1, 0, 2]) (3)) := L4.out.go (by omega) hB
  have hb8 : Hid (Below w.heap.size w v1) := hb5.out.trans (hB.mono hb5.out.size)
  clear hB hb5 L4
  clear L7
  go_wp2_with fail
  refine (af_ok a1 c1 p1 p1.length rfl a2 c2 p2 p2.length rfl _ x1 x2 ((HI1.out.1.below hb8.out).mono hb8.out.size) ((HI2.out.1.below hb8.out).mono hb8.out.size) HI1.out.2 HI2.out.2 X HA HX.out).mono ?_
  rintro e v2 ⟨g1, gc1, rfl, hN1, hB⟩
  have z9 : v1.heap.size ≤ v2.heap.size := hB.size
  have hb10 : Hid (Below w.heap.size w v2) := hb8.out.trans (hB.mono hb8.out.size)
  have L11 : Hid (MidC (v1.heap.size) (v2.heap.size) v2 (g1) (X) (gc1)) := hN1.midc
  clear hB hb8 hN1
  go_wp2_with fail
  refine (sg_ok a1 c1 p1 p1.length rfl _ x1 ((HI1.out.1.below hb10.out).mono hb10.out.size) HI1.out.2 1 HS HSA.out).mono ?_
  rintro e v3 ⟨rfl, hB⟩
  have z12 : v2.heap.size ≤ v3.heap.size := hB.size
  have L13 : Hid (MidC (v1.heap.size) (v2.heap.size) v3 (g1) (X) (gc1)) := L11.out.go (by omega) hB
  have hb14 : Hid (Below w.heap.size w v3) := hb10.out.trans (hB.mono hb10.out.size)
  clear hB hb10 L11
  go_wp2_with fail
  refine (sg_ok a2 c2 p2 p2.length rfl _ x2 ((HI2.out.1.below hb14.out).mono hb14.out.size) HI2.out.2 sB HS HSB.out).mono ?_
  rintro e v4 ⟨rfl, hB⟩
  have z15 : v3.heap.size ≤ v4.heap.size := hB.size
  have L16 : Hid (MidC (v1.heap.size) (v2.heap.size) v4 (g1) (X) (gc1)) := L13.out.go (by omega) hB
  have hb17 : Hid (Below w.heap.size w v4) := hb14.out.trans (hB.mono hb14.out.size)
  clear hB hb14 L13
  go_wp2_with fail
  refine (sg_ok g1 gc1 X X.length rfl _ (by have := HLL.out; omega) (L16.out.is (by omega)).1 HT.out.1 sC HS HSC.out).mono ?_
  rintro e v5 ⟨rfl, hB⟩
  have z18 : v4.heap.size ≤ v5.heap.size := hB.size
  have L19 : Hid (MidC (v1.heap.size) (v2.heap.size) v5 (g1) (X) (gc1)) := L16.out.go (by omega) hB
  have hb20 : Hid (Below w.heap.size w v5) := hb17.out.trans (hB.mono hb17.out.size)
  clear hB hb17 L16
  clear L19
  go_wp2_with fail
  refine (iv_ok a1 c1 p1 p1.length rfl _ x1 ((HI1.out.1.below hb20.out).mono hb20.out.size) HI1.out.2 J1 HV HJ.out).mono ?_
  rintro e v6 ⟨g2, gc2, rfl, hN2, hB⟩
  have z21 : v5.heap.size ≤ v6.heap.size := hB.size
  have hb22 : Hid (Below w.heap.size w v6) := hb20.out.trans (hB.mono hb20.out.size)
  have L23 : Hid (MidC (v5.heap.size) (v6.heap.size) v6 (g2) (J1) (gc2)) := hN2.midc
  clear hB hb20 hN2
  go_wp2_with fail
  refine (sg_ok g2 gc2 J1 J1.length rfl _ (by have := HLL.out; omega) (L23.out.is (by omega)).1 HT.out.2 1 HS HSD.out).mono ?_
  rintro e v7 ⟨rfl, hB⟩
  have z24 : v6.heap.size ≤ v7.heap.size := hB.size
  have L25 : Hid (MidC (v5.heap.size) (v6.heap.size) v7 (g2) (J1) (gc2)) := L23.out.go (by omega) hB
  have hb26 : Hid (Below w.heap.size w v7) := hb22.out.trans (hB.mono hb22.out.size)
  clear hB hb22 L23
  clear L25
  have hAB : wrap64 (sB) = sC := by rw [HAB.out.1]; rcases HAB.out.2 with e | e <;> rw [e] <;> exact w_small (by decide) (by decide)
  by_cases hi0 : i < 0
  · go_wp2_with fail
    go_ret
    exact ⟨rfl, hb26.out⟩
  by_cases hj0 : j < 0
  · go_wp2_with fail
    go_ret
    exact ⟨rfl, hb26.out⟩
  by_cases hi1 : (p1.length : Int) ≤ i
  · go_wp2_with fail
    go_ret
    exact ⟨rfl, hb26.out⟩
  by_cases hj1 : (p1.length : Int) ≤ j
  · go_wp2_with fail
    go_ret
    exact ⟨rfl, hb26.out⟩
  by_cases hij : i = j
  · have hij2 : (i == j) = true := by simp [hij]
    clear hij
    go_wp2_with fail
    go_ret
    exact ⟨rfl, hb26.out⟩
  have hij2 : (i == j) = false := by simp [hij]
  obtain ⟨In, hIn⟩ : ∃ n : Nat, i = n := ⟨i.toNat, by omega⟩
  obtain ⟨Jn, hJn⟩ : ∃ n : Nat, j = n := ⟨j.toNat, by omega⟩
  subst hIn hJn
  have hIl : In < p1.length := by omega
  have hJl : Jn < p1.length := by omega
  obtain ⟨Z, hZ⟩ : ∃ Z, Z = (p1.set In (nth p1 Jn)).set Jn (nth p1 In) := ⟨_, rfl⟩
  have HZ : Hid (Z = (p1.set In (nth p1 Jn)).set Jn (nth p1 In) ∧ orE Z = 0 ∧ sgV Z = -1 ∧ Z.length = p1.length ∧ ∀ j, In64 (nth Z j)) := by
    have hs := sg_swap HO1.out.1 hIl hJl (by omega)
    rw [← hZ, HO1.out.2] at hs
    have hl : Z.length = p1.length := by rw [hZ]; simp
    exact ⟨hZ, orE_of hs.1 (by rw [hl]; exact HLL.out.2.2), hs.2.trans (by decide), hl, ord_64 hs.1 (by rw [hl]; exact HLL.out.2.2)⟩
  clear hZ hij hi0 hj0 hi1 hj1
  go_wp2_with fail
  refine (copy_c a1 c1 p1 (by have := HLL.out; omega) _ ((HI1.out.1.below hb26.out).mono hb26.out.size)).mono ?_
  rintro e v8 ⟨g3, gc3, rfl, hN3, hB⟩
  have z27 : v7.heap.size ≤ v8.heap.size := hB.size
  have hb28 : Hid (Below w.heap.size w v8) := hb26.out.trans (hB.mono hb26.out.size)
  have L29 : Hid (MidC (v7.heap.size) (v8.heap.size) v8 (g3) (p1) (gc3)) := hN3.midc
  clear hB hb26 hN3
  obtain ⟨pb, po, pe, hpb, hpc⟩ := HI1.out.1.at hIl
  subst pe
  have HCJ : Hid (∀ V, Below w.heap.size w V → V.cell? ⟨pb, po + Jn, none⟩ = some (.int .i64 (nth p1 Jn))) := fun V hV => (hV.cell (p := ⟨pb, po + Jn, none⟩) hpb).trans (hpc Jn hJl)
  have HCI : Hid (∀ V, Below w.heap.size w V → V.cell? ⟨pb, po + In, none⟩ = some (.int .i64 (nth p1 In))) := fun V hV => (hV.cell (p := ⟨pb, po + In, none⟩) hpb).trans (hpc In hIl)
  clear hpc
  obtain ⟨sb, so, se, hsb0, hsb1, _, _⟩ := L29.out.at (i := In) hIl
  subst se
  have hsl2 : Jn < (p1.set In (nth p1 Jn)).length := by simpa using hJl
  have l30 := HCJ.out _ hb28.out
  obtain ⟨l31b, l31o, l31e, _, _, l31, l31f⟩ := (L29.out).at (i := In) hIl
  cases l31e
  have l32 := HCI.out _ (hb28.out.setCell (p := ⟨sb, so + In, none⟩) (by show w.heap.size ≤ sb; omega) (.int .i64 (nth p1 Jn)))
  obtain ⟨l33b, l33o, l33e, _, _, l33, l33f⟩ := ((L29.out.put hIl (nth p1 Jn))).at (i := Jn) hsl2
  cases l33e
  go_wp2_with fail
  obtain ⟨wo34, hwo34⟩ : ∃ wo34, wo34 = ((v8.setCell ⟨sb, so + In, none⟩ (.int .i64 (nth p1 Jn))).setCell ⟨sb, so + Jn, none⟩ (.int .i64 (nth p1 In))) := ⟨_, rfl⟩
  rw [← hwo34]
  have z35 : v8.heap.size ≤ wo34.heap.size := by rw [hwo34]; simp only [World.size_setCell]; omega
  have L36 : Hid (MidC (v7.heap.size) (v8.heap.size) wo34 (some ⟨sb, so, none⟩) ((p1.set In (nth p1 Jn)).set Jn (nth p1 In)) (gc3)) := by rw [hwo34]; exact ((L29.out.put hIl (nth p1 Jn)).put hsl2 (nth p1 In))
  have hb37 : Hid (Below w.heap.size w wo34) := by rw [hwo34]; exact ((hb28.out.setCell (p := ⟨sb, so + In, none⟩) (by show w.heap.size ≤ sb; omega) (.int .i64 (nth p1 Jn))).setCell (p := ⟨sb, so + Jn, none⟩) (by show w.heap.size ≤ sb; omega) (.int .i64 (nth p1 In)))
  have zwo34 : w.heap.size ≤ wo34.heap.size := hb37.out.size
  clear hwo34 l30 l31 l31f l32 l33 l33f hb28 L29
  have HLZ : Hid (MidC (v7.heap.size) (v8.heap.size) wo34 (some ⟨sb, so, none⟩) Z gc3) := by show MidC _ _ _ _ _ _; rw [HZ.out.1]; exact L36.out
  refine (sg_ok (some ⟨sb, so, none⟩) gc3 Z p1.length HZ.out.2.2.2.1 _ x1 (HLZ.out.is (by omega)).1 HZ.out.2.2.2.2 (-1) HS ⟨HZ.out.2.1, HZ.out.2.2.1⟩).mono ?_
  rintro e v9 ⟨rfl, hB⟩
  have z38 : wo34.heap.size ≤ v9.heap.size := hB.size
  have L39 : Hid (MidC (v7.heap.size) (v8.heap.size) v9 (some ⟨sb, so, none⟩) ((p1.set In (nth p1 Jn)).set Jn (nth p1 In)) (gc3)) := L36.out.go (by omega) hB
  have hb40 : Hid (Below w.heap.size w v9) := hb37.out.trans (hB.mono hb37.out.size)
  clear hB hb37 L36
  clear L39
  go_wp2_with fail
  go_ret
  exact ⟨rfl, hb40.out⟩
set_option maxRecDepth 100000 in
set_option maxHeartbeats 8000000 in
theorem signs_m (HA : CPa) (HV : CPi) (HS : CPs) (a1 : Option Addr) (c1 : Nat) (p1 : List Int) (x1 : p1.length ≤ 9223372036854775807) (T1 : ∀ j, In64 (nth p1 j)) (a2 : Option Addr) (c2 : Nat) (p2 : List Int) (x2 : p2.length ≤ 9223372036854775807) (T2 : ∀ j, In64 (nth p2 j)) (i j : Int) (hi64 : In64 i) (hj64 : In64 j) (w : World) (w1 : IsInts w.heap.size w a1 p1) (w2 : IsInts w.heap.size w a2 p2) (F1 : Hid (afE p1 p2 = 0)) (F2 : Hid (sgV p1 = (-1))) :
    Calls Try.prog 4 #[.slice a1 p1.length c1, .slice a2 p2.length c2, .int .i64 i, .int .i64 j] w fun e w' => e = .returned (.bool true) ∧ Below w.heap.size w w' := by
  have HI1 : Hid (IsInts w.heap.size w a1 p1 ∧ ∀ j, In64 (nth p1 j)) := ⟨w1, T1⟩
  have HI2 : Hid (IsInts w.heap.size w a2 p2 ∧ ∀ j, In64 (nth p2 j)) := ⟨w2, T2⟩
  clear w1 T1 w2 T2
  obtain ⟨X, hX⟩ : ∃ X, X = aft p1 p2 := ⟨_, rfl⟩
  obtain ⟨J1, hJ1⟩ : ∃ x, x = tnd p1 := ⟨_, rfl⟩
  obtain ⟨sB, hsB⟩ : ∃ x, x = sgV p2 := ⟨_, rfl⟩
  obtain ⟨sC, hsC⟩ : ∃ x, x = sgV X := ⟨_, rfl⟩
  obtain ⟨e1, e2, e3⟩ := afE_zero.1 F1.out
  obtain ⟨l1, o1⟩ := orE_zero.1 e1
  obtain ⟨l2, o2⟩ := orE_zero.1 e2
  have oX : IsOrd X := by rw [hX]; exact aft_ord o1 o2 e3
  have lX : X.length = p2.length := by rw [hX]; exact aft_length
  have oJ1 : IsOrd J1 := by rw [hJ1]; exact tnd_ord o1
  have lJ1 : J1.length = p1.length := by rw [hJ1]; exact tnd_length
  have HX : Hid (afE p1 p2 = 0 ∧ aft p1 p2 = X) := ⟨F1.out, hX.symm⟩
  have HJ : Hid (orE p1 = 0 ∧ tnd p1 = J1) := ⟨e1, hJ1.symm⟩
  have HSA : Hid (orE p1 = 0 ∧ sgV p1 = (-1)) := ⟨e1, F2.out⟩
  have HSB : Hid (orE p2 = 0 ∧ sgV p2 = sB) := ⟨e2, hsB.symm⟩
  have HSC : Hid (orE X = 0 ∧ sgV X = sC) := ⟨orE_of oX (by omega), hsC.symm⟩
  have HSD : Hid (orE J1 = 0 ∧ sgV J1 = (-1)) := ⟨orE_of oJ1 (by omega), by rw [hJ1, sg_tnd o1]; exact F2.out⟩
  have HT : Hid ((∀ j, In64 (nth X j)) ∧ ∀ j, In64 (nth J1 j)) := ⟨ord_64 oX (by omega), ord_64 oJ1 (by omega)⟩
  have HLL : Hid (X.length ≤ 4096 ∧ J1.length ≤ 4096 ∧ p1.length ≤ 4096) := ⟨by omega, by omega, l1⟩
  have HO1 : Hid (IsOrd p1 ∧ sgV p1 = (-1)) := ⟨o1, F2.out⟩
  have HAB : Hid (sC = (-1) * sB ∧ (sB = 1 ∨ sB = -1)) := ⟨by rw [hsC, hX, sg_after o1 o2 e3, F2.out, hsB], by rw [hsB]; exact sg_one⟩
  clear hX hJ1 hsB hsC e1 e2 e3 l1 l2 o1 o2 oX lX oJ1 lJ1
  have n1 := lit_mid w 3 [1, 0, 2] 3 rfl
  simp only [List.map_cons, List.map_nil] at n1
  go_enter Try.func4, Try.ntmps4
  go_wp2_with fail
  obtain ⟨wo2, hwo2⟩ : ∃ wo2, wo2 = (w.alloc (.cells #[.int .i64 1, .int .i64 0, .int .i64 2] 3)) := ⟨_, rfl⟩
  rw [← hwo2]
  have z3 : w.heap.size + 1 ≤ wo2.heap.size := by rw [hwo2]; simp only [World.size_alloc]; omega
  have L4 : Hid (MidC (w.heap.size) (w.heap.size + 1) wo2 (some ⟨w.heap.size, 0, none⟩) ([1, 0, 2]) (3)) := by rw [hwo2]; exact n1
  have hb5 : Hid (Below w.heap.size w wo2) := by rw [hwo2]; exact ((Below.refl w.heap.size w).alloc (by omega) (.cells #[.int .i64 1, .int .i64 0, .int .i64 2] 3))
  have zwo2 : w.heap.size ≤ wo2.heap.size := hb5.out.size
  clear hwo2 n1
  refine (sg_ok (some ⟨w.heap.size, 0, none⟩) 3 [1, 0, 2] 3 rfl _ (by decide) (L4.out.is (by omega)).1 (lit_all (by decide)) (-1) HS (by decide)).mono ?_
  rintro e v1 ⟨rfl, hB⟩
  have z6 : wo2.heap.size ≤ v1.heap.size := hB.size
  have L7 : Hid (MidC (w.heap.size) (w.heap.size + 1) v1 (some ⟨w.heap.size, 0, none⟩) ([1, 0, 2]) (3)) := L4.out.go (by omega) hB
  have hb8 : Hid (Below w.heap.size w v1) := hb5.out.trans (hB.mono hb5.out.size)
  clear hB hb5 L4
  clear L7
  go_wp2_with fail
  refine (af_ok a1 c1 p1 p1.length rfl a2 c2 p2 p2.length rfl _ x1 x2 ((HI1.out.1.below hb8.out).mono hb8.out.size) ((HI2.out.1.below hb8.out).mono hb8.out.size) HI1.out.2 HI2.out.2 X HA HX.out).mono ?_
  rintro e v2 ⟨g1, gc1, rfl, hN1, hB⟩
  have z9 : v1.heap.size ≤ v2.heap.size := hB.size
  have hb10 : Hid (Below w.heap.size w v2) := hb8.out.trans (hB.mono hb8.out.size)
  have L11 : Hid (MidC (v1.heap.size) (v2.heap.size) v2 (g1) (X) (gc1)) := hN1.midc
  clear hB hb8 hN1
  go_wp2_with fail
  refine (sg_ok a1 c1 p1 p1.length rfl _ x1 ((HI1.out.1.below hb10.out).mono hb10.out.size) HI1.out.2 (-1) HS HSA.out).mono ?_
  rintro e v3 ⟨rfl, hB⟩
  have z12 : v2.heap.size ≤ v3.heap.size := hB.size
  have L13 : Hid (MidC (v1.heap.size) (v2.heap.size) v3 (g1) (X) (gc1)) := L11.out.go (by omega) hB
  have hb14 : Hid (Below w.heap.size w v3) := hb10.out.trans (hB.mono hb10.out.size)
  clear hB hb10 L11
  go_wp2_with fail
  refine (sg_ok a2 c2 p2 p2.length rfl _ x2 ((HI2.out.1.below hb14.out).mono hb14.out.size) HI2.out.2 sB HS HSB.out).mono ?_
  rintro e v4 ⟨rfl, hB⟩
  have z15 : v3.heap.size ≤ v4.heap.size := hB.size
  have L16 : Hid (MidC (v1.heap.size) (v2.heap.size) v4 (g1) (X) (gc1)) := L13.out.go (by omega) hB
  have hb17 : Hid (Below w.heap.size w v4) := hb14.out.trans (hB.mono hb14.out.size)
  clear hB hb14 L13
  go_wp2_with fail
  refine (sg_ok g1 gc1 X X.length rfl _ (by have := HLL.out; omega) (L16.out.is (by omega)).1 HT.out.1 sC HS HSC.out).mono ?_
  rintro e v5 ⟨rfl, hB⟩
  have z18 : v4.heap.size ≤ v5.heap.size := hB.size
  have L19 : Hid (MidC (v1.heap.size) (v2.heap.size) v5 (g1) (X) (gc1)) := L16.out.go (by omega) hB
  have hb20 : Hid (Below w.heap.size w v5) := hb17.out.trans (hB.mono hb17.out.size)
  clear hB hb17 L16
  clear L19
  go_wp2_with fail
  refine (iv_ok a1 c1 p1 p1.length rfl _ x1 ((HI1.out.1.below hb20.out).mono hb20.out.size) HI1.out.2 J1 HV HJ.out).mono ?_
  rintro e v6 ⟨g2, gc2, rfl, hN2, hB⟩
  have z21 : v5.heap.size ≤ v6.heap.size := hB.size
  have hb22 : Hid (Below w.heap.size w v6) := hb20.out.trans (hB.mono hb20.out.size)
  have L23 : Hid (MidC (v5.heap.size) (v6.heap.size) v6 (g2) (J1) (gc2)) := hN2.midc
  clear hB hb20 hN2
  go_wp2_with fail
  refine (sg_ok g2 gc2 J1 J1.length rfl _ (by have := HLL.out; omega) (L23.out.is (by omega)).1 HT.out.2 (-1) HS HSD.out).mono ?_
  rintro e v7 ⟨rfl, hB⟩
  have z24 : v6.heap.size ≤ v7.heap.size := hB.size
  have L25 : Hid (MidC (v5.heap.size) (v6.heap.size) v7 (g2) (J1) (gc2)) := L23.out.go (by omega) hB
  have hb26 : Hid (Below w.heap.size w v7) := hb22.out.trans (hB.mono hb22.out.size)
  clear hB hb22 L23
  clear L25
  have hAB : wrap64 (-sB) = sC := by rw [HAB.out.1]; rcases HAB.out.2 with e | e <;> rw [e] <;> exact w_small (by decide) (by decide)
  by_cases hi0 : i < 0
  · go_wp2_with fail
    go_ret
    exact ⟨rfl, hb26.out⟩
  by_cases hj0 : j < 0
  · go_wp2_with fail
    go_ret
    exact ⟨rfl, hb26.out⟩
  by_cases hi1 : (p1.length : Int) ≤ i
  · go_wp2_with fail
    go_ret
    exact ⟨rfl, hb26.out⟩
  by_cases hj1 : (p1.length : Int) ≤ j
  · go_wp2_with fail
    go_ret
    exact ⟨rfl, hb26.out⟩
  by_cases hij : i = j
  · have hij2 : (i == j) = true := by simp [hij]
    clear hij
    go_wp2_with fail
    go_ret
    exact ⟨rfl, hb26.out⟩
  have hij2 : (i == j) = false := by simp [hij]
  obtain ⟨In, hIn⟩ : ∃ n : Nat, i = n := ⟨i.toNat, by omega⟩
  obtain ⟨Jn, hJn⟩ : ∃ n : Nat, j = n := ⟨j.toNat, by omega⟩
  subst hIn hJn
  have hIl : In < p1.length := by omega
  have hJl : Jn < p1.length := by omega
  obtain ⟨Z, hZ⟩ : ∃ Z, Z = (p1.set In (nth p1 Jn)).set Jn (nth p1 In) := ⟨_, rfl⟩
  have HZ : Hid (Z = (p1.set In (nth p1 Jn)).set Jn (nth p1 In) ∧ orE Z = 0 ∧ sgV Z = 1 ∧ Z.length = p1.length ∧ ∀ j, In64 (nth Z j)) := by
    have hs := sg_swap HO1.out.1 hIl hJl (by omega)
    rw [← hZ, HO1.out.2] at hs
    have hl : Z.length = p1.length := by rw [hZ]; simp
    exact ⟨hZ, orE_of hs.1 (by rw [hl]; exact HLL.out.2.2), hs.2.trans (by decide), hl, ord_64 hs.1 (by rw [hl]; exact HLL.out.2.2)⟩
  clear hZ hij hi0 hj0 hi1 hj1
  go_wp2_with fail
  refine (copy_c a1 c1 p1 (by have := HLL.out; omega) _ ((HI1.out.1.below hb26.out).mono hb26.out.size)).mono ?_
  rintro e v8 ⟨g3, gc3, rfl, hN3, hB⟩
  have z27 : v7.heap.size ≤ v8.heap.size := hB.size
  have hb28 : Hid (Below w.heap.size w v8) := hb26.out.trans (hB.mono hb26.out.size)
  have L29 : Hid (MidC (v7.heap.size) (v8.heap.size) v8 (g3) (p1) (gc3)) := hN3.midc
  clear hB hb26 hN3
  obtain ⟨pb, po, pe, hpb, hpc⟩ := HI1.out.1.at hIl
  subst pe
  have HCJ : Hid (∀ V, Below w.heap.size w V → V.cell? ⟨pb, po + Jn, none⟩ = some (.int .i64 (nth p1 Jn))) := fun V hV => (hV.cell (p := ⟨pb, po + Jn, none⟩) hpb).trans (hpc Jn hJl)
  have HCI : Hid (∀ V, Below w.heap.size w V → V.cell? ⟨pb, po + In, none⟩ = some (.int .i64 (nth p1 In))) := fun V hV => (hV.cell (p := ⟨pb, po + In, none⟩) hpb).trans (hpc In hIl)
  clear hpc
  obtain ⟨sb, so, se, hsb0, hsb1, _, _⟩ := L29.out.at (i := In) hIl
  subst se
  have hsl2 : Jn < (p1.set In (nth p1 Jn)).length := by simpa using hJl
  have l30 := HCJ.out _ hb28.out
  obtain ⟨l31b, l31o, l31e, _, _, l31, l31f⟩ := (L29.out).at (i := In) hIl
  cases l31e
  have l32 := HCI.out _ (hb28.out.setCell (p := ⟨sb, so + In, none⟩) (by show w.heap.size ≤ sb; omega) (.int .i64 (nth p1 Jn)))
  obtain ⟨l33b, l33o, l33e, _, _, l33, l33f⟩ := ((L29.out.put hIl (nth p1 Jn))).at (i := Jn) hsl2
  cases l33e
  go_wp2_with fail
  obtain ⟨wo34, hwo34⟩ : ∃ wo34, wo34 = ((v8.setCell ⟨sb, so + In, none⟩ (.int .i64 (nth p1 Jn))).setCell ⟨sb, so + Jn, none⟩ (.int .i64 (nth p1 In))) := ⟨_, rfl⟩
  rw [← hwo34]
  have z35 : v8.heap.size ≤ wo34.heap.size := by rw [hwo34]; simp only [World.size_setCell]; omega
  have L36 : Hid (MidC (v7.heap.size) (v8.heap.size) wo34 (some ⟨sb, so, none⟩) ((p1.set In (nth p1 Jn)).set Jn (nth p1 In)) (gc3)) := by rw [hwo34]; exact ((L29.out.put hIl (nth p1 Jn)).put hsl2 (nth p1 In))
  have hb37 : Hid (Below w.heap.size w wo34) := by rw [hwo34]; exact ((hb28.out.setCell (p := ⟨sb, so + In, none⟩) (by show w.heap.size ≤ sb; omega) (.int .i64 (nth p1 Jn))).setCell (p := ⟨sb, so + Jn, none⟩) (by show w.heap.size ≤ sb; omega) (.int .i64 (nth p1 In)))
  have zwo34 : w.heap.size ≤ wo34.heap.size := hb37.out.size
  clear hwo34 l30 l31 l31f l32 l33 l33f hb28 L29
  have HLZ : Hid (MidC (v7.heap.size) (v8.heap.size) wo34 (some ⟨sb, so, none⟩) Z gc3) := by show MidC _ _ _ _ _ _; rw [HZ.out.1]; exact L36.out
  refine (sg_ok (some ⟨sb, so, none⟩) gc3 Z p1.length HZ.out.2.2.2.1 _ x1 (HLZ.out.is (by omega)).1 HZ.out.2.2.2.2 (1) HS ⟨HZ.out.2.1, HZ.out.2.2.1⟩).mono ?_
  rintro e v9 ⟨rfl, hB⟩
  have z38 : wo34.heap.size ≤ v9.heap.size := hB.size
  have L39 : Hid (MidC (v7.heap.size) (v8.heap.size) v9 (some ⟨sb, so, none⟩) ((p1.set In (nth p1 Jn)).set Jn (nth p1 In)) (gc3)) := L36.out.go (by omega) hB
  have hb40 : Hid (Below w.heap.size w v9) := hb37.out.trans (hB.mono hb37.out.size)
  clear hB hb37 L36
  clear L39
  go_wp2_with fail
  go_ret
  exact ⟨rfl, hb40.out⟩
theorem psigns_walk (HA : CPa) (HV : CPi) (HS : CPs) (a1 : Option Addr) (c1 : Nat) (p1 : List Int) (x1 : p1.length ≤ 9223372036854775807) (T1 : ∀ j, In64 (nth p1 j)) (a2 : Option Addr) (c2 : Nat) (p2 : List Int) (x2 : p2.length ≤ 9223372036854775807) (T2 : ∀ j, In64 (nth p2 j)) (i j : Int) (hi64 : In64 i) (hj64 : In64 j) (w : World) (w1 : IsInts w.heap.size w a1 p1) (w2 : IsInts w.heap.size w a2 p2) :
    Calls Try.prog 4 #[.slice a1 p1.length c1, .slice a2 p2.length c2, .int .i64 i, .int .i64 j] w fun e w' => e = .returned (.bool true) ∧ Below w.heap.size w w' := by
  by_cases h1 : afE p1 p2 = 0
  · rcases sg_one (p := p1) with h2 | h2
    · exact signs_p HA HV HS a1 c1 p1 x1 T1 a2 c2 p2 x2 T2 i j hi64 hj64 w w1 w2 h1 h2
    · exact signs_m HA HV HS a1 c1 p1 x1 T1 a2 c2 p2 x2 T2 i j hi64 hj64 w w1 w2 h1 h2
  · exact signs_no HA HV HS a1 c1 p1 x1 T1 a2 c2 p2 x2 T2 i j hi64 hj64 w w1 w2 h1
end Go.Proofs.Ytcblakcaoecgpaa
