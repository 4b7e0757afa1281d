/-
  The walk of the statement PermTurns, given what the program tells.
-/
import Derived.Test.YtcblakcaoecgpaaDoorRpm7
namespace Go.Proofs.YtcblakcaoecgpaaDoor
open Go.RowKit
set_option linter.unusedVariables false

theorem ls_name {L M : List Int} {f : Nat} {args : Array Value} {w : World} (h : L = M) (H : Calls Tryd.prog f args w (LsP L w)) : Calls Tryd.prog f args w (LsP M w) := by subst h; exact H
set_option maxRecDepth 100000 in
set_option maxHeartbeats 8000000 in
theorem turns_no1 (HC : CPc) (HV : CPi) (HA : CPa) (a1 : Option Addr) (c1 : Nat) (p1 : List Int) (x1 : p1.length ≤ 9223372036854775807) (T1 : ∀ j, In64 (nth p1 j)) (a2 : Option Addr) (c2 : Nat) (p2 : List Int) (x2 : p2.length ≤ 9223372036854775807) (T2 : ∀ j, In64 (nth p2 j)) (w : World) (hg : HasErr w) (w1 : IsInts w.heap.size w a1 p1) (w2 : IsInts w.heap.size w a2 p2) (F1 : Hid (orE p1 ≠ 0)) :
    Calls Tryd.prog 3 #[.slice a1 p1.length c1, .slice a2 p2.length c2] w fun e w' => e = .returned (.bool true) ∧ Below w.heap.size w w' := by
  have HI1 : Hid (IsInts w.heap.size w a1 p1 ∧ ∀ j, In64 (nth p1 j)) := ⟨w1, T1⟩
  have HI2 : Hid (IsInts w.heap.size w a2 p2 ∧ ∀ j, In64 (nth p2 j)) := ⟨w2, T2⟩
  clear w1 T1 w2 T2
  have HG : Hid (HasErr w) := hg
  have hb0 : Hid (Below w.heap.size w w) := Below.refl _ _
  clear hg
  obtain ⟨E, hE⟩ : ∃ E, E = orE p1 := ⟨_, rfl⟩
  have HE : Hid (orE p1 = E ∧ afE p1 p2 = E ∧ E ≠ 0) := ⟨hE.symm, by unfold afE; rw [if_pos F1.out, hE], by rw [hE]; exact F1.out⟩
  have hE0 : (E == 0) = false := by rw [beq_eq_false_iff_ne]; exact HE.out.2.2
  clear hE
  go_enter Tryd.func3, Tryd.ntmps3
  go_wp2_with fail
  refine (ofault_E a1 c1 p1 E HE.out.1 x1 _ _ ((HI1.out.1.below hb0.out).mono hb0.out.size)).mono ?_
  rintro e v1 ⟨rfl, hB⟩
  have z1 : w.heap.size ≤ v1.heap.size := hB.size
  have hb2 : Hid (Below w.heap.size w v1) := hb0.out.trans (hB.mono hb0.out.size)
  clear hB hb0
  go_wp2_with fail
  refine (ck_no a1 c1 p1 E _ x1 ((HI1.out.1.below hb2.out).mono hb2.out.size) HI1.out.2 HC HE.out.1 HE.out.2.2).mono ?_
  rintro e v2 ⟨rfl, hB⟩
  have z3 : v1.heap.size ≤ v2.heap.size := hB.size
  have hb4 : Hid (Below w.heap.size w v2) := hb2.out.trans (hB.mono hb2.out.size)
  clear hB hb2
  go_wp2_with fail
  refine (err_no9 E HE.out.2.2 _ (HG.out.below hb4.out HG.out.pos)).mono ?_
  rintro e v3 ⟨rfl, hB⟩
  have z5 : v2.heap.size ≤ v3.heap.size := hB.size
  have hb6 : Hid (Below w.heap.size w v3) := hb4.out.trans (hB.mono hb4.out.size)
  clear hB hb4
  go_wp2_with fail
  refine (iv_noE a1 c1 p1 E _ x1 ((HI1.out.1.below hb6.out).mono hb6.out.size) HI1.out.2 HV HE.out.1 HE.out.2.2).mono ?_
  rintro e v4 ⟨g1, gc1, rfl, hN1, hB⟩
  have z7 : v3.heap.size ≤ v4.heap.size := hB.size
  have hb8 : Hid (Below w.heap.size w v4) := hb6.out.trans (hB.mono hb6.out.size)
  have L9 : Hid (MidC (v3.heap.size) (v4.heap.size) v4 (g1) ([]) (gc1)) := hN1.midc
  clear hB hb6 hN1
  go_wp2_with fail
  refine (ints_no9 E HE.out.2.2 g1 gc1 _ (HG.out.below hb8.out HG.out.pos)).mono ?_
  rintro e v5 ⟨rfl, hB⟩
  have z10 : v4.heap.size ≤ v5.heap.size := hB.size
  have L11 : Hid (MidC (v3.heap.size) (v4.heap.size) v5 (g1) ([]) (gc1)) := L9.out.go (by omega) hB
  have hb12 : Hid (Below w.heap.size w v5) := hb8.out.trans (hB.mono hb8.out.size)
  clear hB hb8 L9
  clear L11
  go_wp2_with fail
  refine (both_any a1 c1 p1 a2 c2 p2 E HE.out.2.1 x1 x2 _ ((HI1.out.1.below hb12.out).mono hb12.out.size) ((HI2.out.1.below hb12.out).mono hb12.out.size)).mono ?_
  rintro e v6 ⟨rfl, hB⟩
  have z13 : v5.heap.size ≤ v6.heap.size := hB.size
  have hb14 : Hid (Below w.heap.size w v6) := hb12.out.trans (hB.mono hb12.out.size)
  clear hB hb12
  go_wp2_with fail
  refine (af_noE a1 c1 p1 a2 c2 p2 E _ x1 x2 ((HI1.out.1.below hb14.out).mono hb14.out.size) ((HI2.out.1.below hb14.out).mono hb14.out.size) HI1.out.2 HI2.out.2 HA HE.out.2.1 HE.out.2.2).mono ?_
  rintro e v7 ⟨g2, gc2, rfl, hN2, hB⟩
  have z15 : v6.heap.size ≤ v7.heap.size := hB.size
  have hb16 : Hid (Below w.heap.size w v7) := hb14.out.trans (hB.mono hb14.out.size)
  have L17 : Hid (MidC (v6.heap.size) (v7.heap.size) v7 (g2) ([]) (gc2)) := hN2.midc
  clear hB hb14 hN2
  go_wp2_with fail
  refine (ints_no9 E HE.out.2.2 g2 gc2 _ (HG.out.below hb16.out HG.out.pos)).mono ?_
  rintro e v8 ⟨rfl, hB⟩
  have z18 : v7.heap.size ≤ v8.heap.size := hB.size
  have L19 : Hid (MidC (v6.heap.size) (v7.heap.size) v8 (g2) ([]) (gc2)) := L17.out.go (by omega) hB
  have hb20 : Hid (Below w.heap.size w v8) := hb16.out.trans (hB.mono hb16.out.size)
  clear hB hb16 L17
  clear L19
  go_wp2_with fail
  go_ret
  exact ⟨rfl, hb20.out⟩
set_option maxRecDepth 100000 in
set_option maxHeartbeats 8000000 in
theorem turns_no2 (HC : CPc) (HV : CPi) (HA : CPa) (a1 : Option Addr) (c1 : Nat) (p1 : List Int) (x1 : p1.length ≤ 9223372036854775807) (T1 : ∀ j, In64 (nth p1 j)) (a2 : Option Addr) (c2 : Nat) (p2 : List Int) (x2 : p2.length ≤ 9223372036854775807) (T2 : ∀ j, In64 (nth p2 j)) (w : World) (hg : HasErr w) (w1 : IsInts w.heap.size w a1 p1) (w2 : IsInts w.heap.size w a2 p2) (F1 : Hid (orE p1 = 0)) (F2 : Hid (afE p1 p2 ≠ 0)) :
    Calls Tryd.prog 3 #[.slice a1 p1.length c1, .slice a2 p2.length c2] w fun e w' => e = .returned (.bool true) ∧ Below w.heap.size w w' := by
  have HI1 : Hid (IsInts w.heap.size w a1 p1 ∧ ∀ j, In64 (nth p1 j)) := ⟨w1, T1⟩
  have HI2 : Hid (IsInts w.heap.size w a2 p2 ∧ ∀ j, In64 (nth p2 j)) := ⟨w2, T2⟩
  clear w1 T1 w2 T2
  have HG : Hid (HasErr w) := hg
  have hb0 : Hid (Below w.heap.size w w) := Below.refl _ _
  clear hg
  obtain ⟨l1, o1⟩ := orE_zero.1 F1.out
  obtain ⟨J1, hJ1⟩ : ∃ J, J = tnd p1 := ⟨_, rfl⟩
  have HP1 : Hid (IsOrd p1 ∧ p1.length ≤ 4096 ∧ J1.length ≤ 4096) := ⟨o1, l1, by rw [hJ1, tnd_length]; exact l1⟩
  have HJ : Hid (orE p1 = 0 ∧ tnd p1 = J1) := ⟨F1.out, hJ1.symm⟩
  obtain ⟨E, hE⟩ : ∃ E, E = afE p1 p2 := ⟨_, rfl⟩
  have HE : Hid (afE p1 p2 = E ∧ E ≠ 0) := ⟨hE.symm, by rw [hE]; exact F2.out⟩
  have hE0 : (E == 0) = false := by rw [beq_eq_false_iff_ne]; exact HE.out.2
  have HJ1 : Hid (tnd p1 = J1) := hJ1.symm
  clear hE l1 o1 hJ1
  go_enter Tryd.func3, Tryd.ntmps3
  go_wp2_with fail
  refine (ofault_E a1 c1 p1 0 F1.out x1 _ _ ((HI1.out.1.below hb0.out).mono hb0.out.size)).mono ?_
  rintro e v1 ⟨rfl, hB⟩
  have z1 : w.heap.size ≤ v1.heap.size := hB.size
  have hb2 : Hid (Below w.heap.size w v1) := hb0.out.trans (hB.mono hb0.out.size)
  clear hB hb0
  go_wp2_with fail
  refine (ck_ok a1 c1 p1 _ x1 ((HI1.out.1.below hb2.out).mono hb2.out.size) HI1.out.2 HC F1.out).mono ?_
  rintro e v2 ⟨rfl, hB⟩
  have z3 : v1.heap.size ≤ v2.heap.size := hB.size
  have hb4 : Hid (Below w.heap.size w v2) := hb2.out.trans (hB.mono hb2.out.size)
  clear hB hb2
  go_wp2_with fail
  refine (err_ok9 _ (HG.out.below hb4.out HG.out.pos)).mono ?_
  rintro e v3 ⟨rfl, hB⟩
  have z5 : v2.heap.size ≤ v3.heap.size := hB.size
  have hb6 : Hid (Below w.heap.size w v3) := hb4.out.trans (hB.mono hb4.out.size)
  clear hB hb4
  go_wp2_with fail
  refine (ls_name HJ.out.2 (turned_any a1 c1 p1 HP1.out.1 HP1.out.2.1 _ ((HI1.out.1.below hb6.out).mono hb6.out.size))).mono ?_
  rintro e v4 ⟨g1, gc1, rfl, hN1, hB⟩
  have z7 : v3.heap.size ≤ v4.heap.size := hB.size
  have hb8 : Hid (Below w.heap.size w v4) := hb6.out.trans (hB.mono hb6.out.size)
  have L9 : Hid (MidC (v3.heap.size) (v4.heap.size) v4 (g1) (J1) (gc1)) := hN1.midc
  clear hB hb6 hN1
  go_wp2_with fail
  refine (iv_ok a1 c1 p1 p1.length rfl _ x1 ((HI1.out.1.below hb8.out).mono hb8.out.size) HI1.out.2 J1 HV HJ.out).mono ?_
  rintro e v5 ⟨g2, gc2, rfl, hN2, hB⟩
  have z10 : v4.heap.size ≤ v5.heap.size := hB.size
  have L11 : Hid (MidC (v3.heap.size) (v4.heap.size) v5 (g1) (J1) (gc1)) := L9.out.go (by omega) hB
  have hb12 : Hid (Below w.heap.size w v5) := hb8.out.trans (hB.mono hb8.out.size)
  have L13 : Hid (MidC (v4.heap.size) (v5.heap.size) v5 (g2) (J1) (gc2)) := hN2.midc
  clear hB hb8 L9 hN2
  go_wp2_with fail
  refine (ints_ok9 g2 gc2 J1 J1.length rfl g1 gc1 J1.length rfl _ (HG.out.below hb12.out HG.out.pos) (by have := HP1.out.2.2; omega) (L13.out.is (by omega)).1 (L11.out.is (by omega)).1).mono ?_
  rintro e v6 ⟨rfl, hB⟩
  have z14 : v5.heap.size ≤ v6.heap.size := hB.size
  have L15 : Hid (MidC (v3.heap.size) (v4.heap.size) v6 (g1) (J1) (gc1)) := L11.out.go (by omega) hB
  have L16 : Hid (MidC (v4.heap.size) (v5.heap.size) v6 (g2) (J1) (gc2)) := L13.out.go (by omega) hB
  have hb17 : Hid (Below w.heap.size w v6) := hb12.out.trans (hB.mono hb12.out.size)
  clear hB hb12 L11 L13
  clear L15 L16
  go_wp2_with fail
  refine (both_any a1 c1 p1 a2 c2 p2 E HE.out.1 x1 x2 _ ((HI1.out.1.below hb17.out).mono hb17.out.size) ((HI2.out.1.below hb17.out).mono hb17.out.size)).mono ?_
  rintro e v7 ⟨rfl, hB⟩
  have z18 : v6.heap.size ≤ v7.heap.size := hB.size
  have hb19 : Hid (Below w.heap.size w v7) := hb17.out.trans (hB.mono hb17.out.size)
  clear hB hb17
  go_wp2_with fail
  refine (af_noE a1 c1 p1 a2 c2 p2 E _ x1 x2 ((HI1.out.1.below hb19.out).mono hb19.out.size) ((HI2.out.1.below hb19.out).mono hb19.out.size) HI1.out.2 HI2.out.2 HA HE.out.1 HE.out.2).mono ?_
  rintro e v8 ⟨g3, gc3, rfl, hN3, hB⟩
  have z20 : v7.heap.size ≤ v8.heap.size := hB.size
  have hb21 : Hid (Below w.heap.size w v8) := hb19.out.trans (hB.mono hb19.out.size)
  have L22 : Hid (MidC (v7.heap.size) (v8.heap.size) v8 (g3) ([]) (gc3)) := hN3.midc
  clear hB hb19 hN3
  go_wp2_with fail
  refine (ints_no9 E HE.out.2 g3 gc3 _ (HG.out.below hb21.out HG.out.pos)).mono ?_
  rintro e v9 ⟨rfl, hB⟩
  have z23 : v8.heap.size ≤ v9.heap.size := hB.size
  have L24 : Hid (MidC (v7.heap.size) (v8.heap.size) v9 (g3) ([]) (gc3)) := L22.out.go (by omega) hB
  have hb25 : Hid (Below w.heap.size w v9) := hb21.out.trans (hB.mono hb21.out.size)
  clear hB hb21 L22
  clear L24
  go_wp2_with fail
  go_ret
  exact ⟨rfl, hb25.out⟩
set_option maxRecDepth 100000 in
set_option maxHeartbeats 8000000 in
theorem turns_ok (HC : CPc) (HV : CPi) (HA : CPa) (a1 : Option Addr) (c1 : Nat) (p1 : List Int) (x1 : p1.length ≤ 9223372036854775807) (T1 : ∀ j, In64 (nth p1 j)) (a2 : Option Addr) (c2 : Nat) (p2 : List Int) (x2 : p2.length ≤ 9223372036854775807) (T2 : ∀ j, In64 (nth p2 j)) (w : World) (hg : HasErr w) (w1 : IsInts w.heap.size w a1 p1) (w2 : IsInts w.heap.size w a2 p2) (F1 : Hid (orE p1 = 0)) (F2 : Hid (afE p1 p2 = 0)) :
    Calls Tryd.prog 3 #[.slice a1 p1.length c1, .slice a2 p2.length c2] w fun e w' => e = .returned (.bool true) ∧ Below w.heap.size w w' := by
  have HI1 : Hid (IsInts w.heap.size w a1 p1 ∧ ∀ j, In64 (nth p1 j)) := ⟨w1, T1⟩
  have HI2 : Hid (IsInts w.heap.size w a2 p2 ∧ ∀ j, In64 (nth p2 j)) := ⟨w2, T2⟩
  clear w1 T1 w2 T2
  have HG : Hid (HasErr w) := hg
  have hb0 : Hid (Below w.heap.size w w) := Below.refl _ _
  clear hg
  obtain ⟨l1, o1⟩ := orE_zero.1 F1.out
  obtain ⟨J1, hJ1⟩ : ∃ J, J = tnd p1 := ⟨_, rfl⟩
  have HP1 : Hid (IsOrd p1 ∧ p1.length ≤ 4096 ∧ J1.length ≤ 4096) := ⟨o1, l1, by rw [hJ1, tnd_length]; exact l1⟩
  have HJ : Hid (orE p1 = 0 ∧ tnd p1 = J1) := ⟨F1.out, hJ1.symm⟩
  obtain ⟨_, e2, e3⟩ := afE_zero.1 F2.out
  obtain ⟨l2, o2⟩ := orE_zero.1 e2
  obtain ⟨X, hX⟩ : ∃ X, X = aft p1 p2 := ⟨_, rfl⟩
  have HX : Hid (afE p1 p2 = 0 ∧ aft p1 p2 = X) := ⟨F2.out, hX.symm⟩
  have HP2 : Hid ((∀ j, j < p2.length → 0 ≤ nth p2 j ∧ nth p2 j < p1.length) ∧ p2.length ≤ 4096 ∧ X.length ≤ 4096) := ⟨fun j hj => by have := o2.1 j hj; omega, l2, by rw [hX, aft_length]; exact l2⟩
  have HJ1 : Hid (tnd p1 = J1) := hJ1.symm
  clear l1 o1 hJ1 e2 e3 l2 o2 hX
  go_enter Tryd.func3, Tryd.ntmps3
  go_wp2_with fail
  refine (ofault_E a1 c1 p1 0 F1.out x1 _ _ ((HI1.out.1.below hb0.out).mono hb0.out.size)).mono ?_
  rintro e v1 ⟨rfl, hB⟩
  have z1 : w.heap.size ≤ v1.heap.size := hB.size
  have hb2 : Hid (Below w.heap.size w v1) := hb0.out.trans (hB.mono hb0.out.size)
  clear hB hb0
  go_wp2_with fail
  refine (ck_ok a1 c1 p1 _ x1 ((HI1.out.1.below hb2.out).mono hb2.out.size) HI1.out.2 HC F1.out).mono ?_
  rintro e v2 ⟨rfl, hB⟩
  have z3 : v1.heap.size ≤ v2.heap.size := hB.size
  have hb4 : Hid (Below w.heap.size w v2) := hb2.out.trans (hB.mono hb2.out.size)
  clear hB hb2
  go_wp2_with fail
  refine (err_ok9 _ (HG.out.below hb4.out HG.out.pos)).mono ?_
  rintro e v3 ⟨rfl, hB⟩
  have z5 : v2.heap.size ≤ v3.heap.size := hB.size
  have hb6 : Hid (Below w.heap.size w v3) := hb4.out.trans (hB.mono hb4.out.size)
  clear hB hb4
  go_wp2_with fail
  refine (ls_name HJ.out.2 (turned_any a1 c1 p1 HP1.out.1 HP1.out.2.1 _ ((HI1.out.1.below hb6.out).mono hb6.out.size))).mono ?_
  rintro e v4 ⟨g1, gc1, rfl, hN1, hB⟩
  have z7 : v3.heap.size ≤ v4.heap.size := hB.size
  have hb8 : Hid (Below w.heap.size w v4) := hb6.out.trans (hB.mono hb6.out.size)
  have L9 : Hid (MidC (v3.heap.size) (v4.heap.size) v4 (g1) (J1) (gc1)) := hN1.midc
  clear hB hb6 hN1
  go_wp2_with fail
  refine (iv_ok a1 c1 p1 p1.length rfl _ x1 ((HI1.out.1.below hb8.out).mono hb8.out.size) HI1.out.2 J1 HV HJ.out).mono ?_
  rintro e v5 ⟨g2, gc2, rfl, hN2, hB⟩
  have z10 : v4.heap.size ≤ v5.heap.size := hB.size
  have L11 : Hid (MidC (v3.heap.size) (v4.heap.size) v5 (g1) (J1) (gc1)) := L9.out.go (by omega) hB
  have hb12 : Hid (Below w.heap.size w v5) := hb8.out.trans (hB.mono hb8.out.size)
  have L13 : Hid (MidC (v4.heap.size) (v5.heap.size) v5 (g2) (J1) (gc2)) := hN2.midc
  clear hB hb8 L9 hN2
  go_wp2_with fail
  refine (ints_ok9 g2 gc2 J1 J1.length rfl g1 gc1 J1.length rfl _ (HG.out.below hb12.out HG.out.pos) (by have := HP1.out.2.2; omega) (L13.out.is (by omega)).1 (L11.out.is (by omega)).1).mono ?_
  rintro e v6 ⟨rfl, hB⟩
  have z14 : v5.heap.size ≤ v6.heap.size := hB.size
  have L15 : Hid (MidC (v3.heap.size) (v4.heap.size) v6 (g1) (J1) (gc1)) := L11.out.go (by omega) hB
  have L16 : Hid (MidC (v4.heap.size) (v5.heap.size) v6 (g2) (J1) (gc2)) := L13.out.go (by omega) hB
  have hb17 : Hid (Below w.heap.size w v6) := hb12.out.trans (hB.mono hb12.out.size)
  clear hB hb12 L11 L13
  clear L15 L16
  go_wp2_with fail
  refine (both_any a1 c1 p1 a2 c2 p2 0 F2.out x1 x2 _ ((HI1.out.1.below hb17.out).mono hb17.out.size) ((HI2.out.1.below hb17.out).mono hb17.out.size)).mono ?_
  rintro e v7 ⟨rfl, hB⟩
  have z18 : v6.heap.size ≤ v7.heap.size := hB.size
  have hb19 : Hid (Below w.heap.size w v7) := hb17.out.trans (hB.mono hb17.out.size)
  clear hB hb17
  go_wp2_with fail
  refine (ls_name HX.out.2 (behind_any a1 c1 p1 p1.length rfl a2 c2 p2 p2.length rfl HP2.out.1 HP1.out.2.1 HP2.out.2.1 _ ((HI1.out.1.below hb19.out).mono hb19.out.size) ((HI2.out.1.below hb19.out).mono hb19.out.size))).mono ?_
  rintro e v8 ⟨g3, gc3, rfl, hN3, hB⟩
  have z20 : v7.heap.size ≤ v8.heap.size := hB.size
  have hb21 : Hid (Below w.heap.size w v8) := hb19.out.trans (hB.mono hb19.out.size)
  have L22 : Hid (MidC (v7.heap.size) (v8.heap.size) v8 (g3) (X) (gc3)) := hN3.midc
  clear hB hb19 hN3
  go_wp2_with fail
  refine (af_ok a1 c1 p1 p1.length rfl a2 c2 p2 p2.length rfl _ x1 x2 ((HI1.out.1.below hb21.out).mono hb21.out.size) ((HI2.out.1.below hb21.out).mono hb21.out.size) HI1.out.2 HI2.out.2 X HA HX.out).mono ?_
  rintro e v9 ⟨g4, gc4, rfl, hN4, hB⟩
  have z23 : v8.heap.size ≤ v9.heap.size := hB.size
  have L24 : Hid (MidC (v7.heap.size) (v8.heap.size) v9 (g3) (X) (gc3)) := L22.out.go (by omega) hB
  have hb25 : Hid (Below w.heap.size w v9) := hb21.out.trans (hB.mono hb21.out.size)
  have L26 : Hid (MidC (v8.heap.size) (v9.heap.size) v9 (g4) (X) (gc4)) := hN4.midc
  clear hB hb21 L22 hN4
  go_wp2_with fail
  refine (ints_ok9 g4 gc4 X X.length rfl g3 gc3 X.length rfl _ (HG.out.below hb25.out HG.out.pos) (by have := HP2.out.2.2; omega) (L26.out.is (by omega)).1 (L24.out.is (by omega)).1).mono ?_
  rintro e v10 ⟨rfl, hB⟩
  have z27 : v9.heap.size ≤ v10.heap.size := hB.size
  have L28 : Hid (MidC (v7.heap.size) (v8.heap.size) v10 (g3) (X) (gc3)) := L24.out.go (by omega) hB
  have L29 : Hid (MidC (v8.heap.size) (v9.heap.size) v10 (g4) (X) (gc4)) := L26.out.go (by omega) hB
  have hb30 : Hid (Below w.heap.size w v10) := hb25.out.trans (hB.mono hb25.out.size)
  clear hB hb25 L24 L26
  clear L28 L29
  go_wp2_with fail
  go_ret
  exact ⟨rfl, hb30.out⟩
theorem pturns_walk (HC : CPc) (HV : CPi) (HA : CPa) (a1 : Option Addr) (c1 : Nat) (p1 : List Int) (x1 : p1.length ≤ 9223372036854775807) (T1 : ∀ j, In64 (nth p1 j)) (a2 : Option Addr) (c2 : Nat) (p2 : List Int) (x2 : p2.length ≤ 9223372036854775807) (T2 : ∀ j, In64 (nth p2 j)) (w : World) (hg : HasErr w) (w1 : IsInts w.heap.size w a1 p1) (w2 : IsInts w.heap.size w a2 p2) :
    Calls Tryd.prog 3 #[.slice a1 p1.length c1, .slice a2 p2.length c2] w fun e w' => e = .returned (.bool true) ∧ Below w.heap.size w w' := by
  by_cases h1 : orE p1 = 0
  · by_cases h2 : afE p1 p2 = 0
    · exact turns_ok HC HV HA a1 c1 p1 x1 T1 a2 c2 p2 x2 T2 w hg w1 w2 h1 h2
    · exact turns_no2 HC HV HA a1 c1 p1 x1 T1 a2 c2 p2 x2 T2 w hg w1 w2 h1 h2
  · exact turns_no1 HC HV HA a1 c1 p1 x1 T1 a2 c2 p2 x2 T2 w hg w1 w2 h1
end Go.Proofs.YtcblakcaoecgpaaDoor
