/-
  The walk of the statement PermPowers, given what the program tells.
-/
import Derived.Test.YtcblakcaoecgpaaDoorRpm7
import Derived.Test.YtcblakcaoecgpaaDoorRpm5
namespace Go.Proofs.YtcblakcaoecgpaaDoor
open Go.RowKit
set_option linter.unusedVariables false

theorem ls_namp {L M : List Int} {f : Nat} {args : Array Value} {w : World} (h : L = M) (H : Calls Tryd.prog f args w (LsP L w)) : Calls Tryd.prog f args w (LsP M w) := by subst h; exact H
set_option maxRecDepth 100000 in
set_option maxHeartbeats 8000000 in
theorem powers_no (HW : CPw) (a1 : Option Addr) (c1 : Nat) (p1 : List Int) (x1 : p1.length ≤ 9223372036854775807) (T1 : ∀ j, In64 (nth p1 j)) (k : Int) (hk64 : In64 k) (w : World) (hg : HasErr w) (w1 : IsInts w.heap.size w a1 p1) (F1 : Hid (orE p1 ≠ 0)) :
    Calls Tryd.prog 4 #[.slice a1 p1.length c1, .int .i64 k] w fun e w' => e = .returned (.bool true) ∧ Below w.heap.size w w' := by
  have HI1 : Hid (IsInts w.heap.size w a1 p1 ∧ ∀ j, In64 (nth p1 j)) := ⟨w1, T1⟩
  clear w1 T1
  have HG : Hid (HasErr w) := hg
  have hb0 : Hid (Below w.heap.size w w) := Below.refl _ _
  clear hg
  obtain ⟨E, hE⟩ : ∃ E, E = orE p1 := ⟨_, rfl⟩
  have HE : Hid (orE p1 = E ∧ E ≠ 0) := ⟨hE.symm, by rw [hE]; exact F1.out⟩
  have hE0 : (E == 0) = false := by rw [beq_eq_false_iff_ne]; exact HE.out.2
  clear hE
  go_enter Tryd.func4, Tryd.ntmps4
  go_wp2_with fail
  refine (ofault_E a1 c1 p1 E HE.out.1 x1 _ _ ((HI1.out.1.below hb0.out).mono hb0.out.size)).mono ?_
  rintro e v1 ⟨rfl, hB⟩
  have z1 : w.heap.size ≤ v1.heap.size := hB.size
  have hb2 : Hid (Below w.heap.size w v1) := hb0.out.trans (hB.mono hb0.out.size)
  clear hB hb0
  go_wp2_with fail
  refine (pw_noE a1 c1 p1 k E _ x1 ((HI1.out.1.below hb2.out).mono hb2.out.size) HI1.out.2 hk64 HW HE.out.1 HE.out.2).mono ?_
  rintro e v2 ⟨g1, gc1, rfl, hN1, hB⟩
  have z3 : v1.heap.size ≤ v2.heap.size := hB.size
  have hb4 : Hid (Below w.heap.size w v2) := hb2.out.trans (hB.mono hb2.out.size)
  have L5 : Hid (MidC (v1.heap.size) (v2.heap.size) v2 (g1) ([]) (gc1)) := hN1.midc
  clear hB hb2 hN1
  go_wp2_with fail
  refine (ints_no9 E HE.out.2 g1 gc1 _ (HG.out.below hb4.out HG.out.pos)).mono ?_
  rintro e v3 ⟨rfl, hB⟩
  have z6 : v2.heap.size ≤ v3.heap.size := hB.size
  have L7 : Hid (MidC (v1.heap.size) (v2.heap.size) v3 (g1) ([]) (gc1)) := L5.out.go (by omega) hB
  have hb8 : Hid (Below w.heap.size w v3) := hb4.out.trans (hB.mono hb4.out.size)
  clear hB hb4 L5
  clear L7
  go_wp2_with fail
  go_ret
  exact ⟨rfl, hb8.out⟩
set_option maxRecDepth 100000 in
set_option maxHeartbeats 8000000 in
theorem powers_ok (HW : CPw) (a1 : Option Addr) (c1 : Nat) (p1 : List Int) (x1 : p1.length ≤ 9223372036854775807) (T1 : ∀ j, In64 (nth p1 j)) (k : Int) (hk64 : In64 k) (w : World) (hg : HasErr w) (w1 : IsInts w.heap.size w a1 p1) (F1 : Hid (orE p1 = 0)) :
    Calls Tryd.prog 4 #[.slice a1 p1.length c1, .int .i64 k] w fun e w' => e = .returned (.bool true) ∧ Below w.heap.size w w' := by
  have HI1 : Hid (IsInts w.heap.size w a1 p1 ∧ ∀ j, In64 (nth p1 j)) := ⟨w1, T1⟩
  clear w1 T1
  have HG : Hid (HasErr w) := hg
  have hb0 : Hid (Below w.heap.size w w) := Below.refl _ _
  clear hg
  obtain ⟨l1, o1⟩ := orE_zero.1 F1.out
  obtain ⟨X, hX⟩ : ∃ X, X = pwI p1 k := ⟨_, rfl⟩
  have HX : Hid (orE p1 = 0 ∧ pwI p1 k = X) := ⟨F1.out, hX.symm⟩
  have HP1 : Hid (IsOrd p1 ∧ p1.length ≤ 4096 ∧ X.length ≤ 4096) := ⟨o1, l1, by rw [hX, pwI_length]; exact l1⟩
  clear l1 o1 hX
  go_enter Tryd.func4, Tryd.ntmps4
  go_wp2_with fail
  refine (ofault_E a1 c1 p1 0 F1.out x1 _ _ ((HI1.out.1.below hb0.out).mono hb0.out.size)).mono ?_
  rintro e v1 ⟨rfl, hB⟩
  have z1 : w.heap.size ≤ v1.heap.size := hB.size
  have hb2 : Hid (Below w.heap.size w v1) := hb0.out.trans (hB.mono hb0.out.size)
  clear hB hb0
  go_wp2_with fail
  refine (ls_namp HX.out.2 (powered_any p1 HP1.out.1 HP1.out.2.1 a1 c1 _ k (Nat.le_refl _) hk64 _ ((HI1.out.1.below hb2.out).mono hb2.out.size))).mono ?_
  rintro e v2 ⟨g1, gc1, rfl, hN1, hB⟩
  have z3 : v1.heap.size ≤ v2.heap.size := hB.size
  have hb4 : Hid (Below w.heap.size w v2) := hb2.out.trans (hB.mono hb2.out.size)
  have L5 : Hid (MidC (v1.heap.size) (v2.heap.size) v2 (g1) (X) (gc1)) := hN1.midc
  clear hB hb2 hN1
  go_wp2_with fail
  refine (pw_ok a1 c1 p1 p1.length rfl k _ x1 ((HI1.out.1.below hb4.out).mono hb4.out.size) HI1.out.2 hk64 X HW HX.out).mono ?_
  rintro e v3 ⟨g2, gc2, rfl, hN2, hB⟩
  have z6 : v2.heap.size ≤ v3.heap.size := hB.size
  have L7 : Hid (MidC (v1.heap.size) (v2.heap.size) v3 (g1) (X) (gc1)) := L5.out.go (by omega) hB
  have hb8 : Hid (Below w.heap.size w v3) := hb4.out.trans (hB.mono hb4.out.size)
  have L9 : Hid (MidC (v2.heap.size) (v3.heap.size) v3 (g2) (X) (gc2)) := hN2.midc
  clear hB hb4 L5 hN2
  go_wp2_with fail
  refine (ints_ok9 g2 gc2 X X.length rfl g1 gc1 X.length rfl _ (HG.out.below hb8.out HG.out.pos) (by have := HP1.out.2.2; omega) (L9.out.is (by omega)).1 (L7.out.is (by omega)).1).mono ?_
  rintro e v4 ⟨rfl, hB⟩
  have z10 : v3.heap.size ≤ v4.heap.size := hB.size
  have L11 : Hid (MidC (v1.heap.size) (v2.heap.size) v4 (g1) (X) (gc1)) := L7.out.go (by omega) hB
  have L12 : Hid (MidC (v2.heap.size) (v3.heap.size) v4 (g2) (X) (gc2)) := L9.out.go (by omega) hB
  have hb13 : Hid (Below w.heap.size w v4) := hb8.out.trans (hB.mono hb8.out.size)
  clear hB hb8 L7 L9
  clear L11 L12
  go_wp2_with fail
  go_ret
  exact ⟨rfl, hb13.out⟩
theorem ppowers_walk (HW : CPw) (a1 : Option Addr) (c1 : Nat) (p1 : List Int) (x1 : p1.length ≤ 9223372036854775807) (T1 : ∀ j, In64 (nth p1 j)) (k : Int) (hk64 : In64 k) (w : World) (hg : HasErr w) (w1 : IsInts w.heap.size w a1 p1) :
    Calls Tryd.prog 4 #[.slice a1 p1.length c1, .int .i64 k] w fun e w' => e = .returned (.bool true) ∧ Below w.heap.size w w' := by
  by_cases h1 : orE p1 = 0
  · exact powers_ok HW a1 c1 p1 x1 T1 k hk64 w hg w1 h1
  · exact powers_no HW a1 c1 p1 x1 T1 k hk64 w hg w1 h1
end Go.Proofs.YtcblakcaoecgpaaDoor
