/-
  The walk of the statement PermRanks, given what the program tells.
-/
import Derived.Test.YtcblakcaoecgpaaDoorRpm7
import Derived.Test.YtcblakcaoecgpaaDoorRpm4
namespace Go.Proofs.YtcblakcaoecgpaaDoor
open Go.RowKit
set_option linter.unusedVariables false

theorem ls_namr {L M : List Int} {f : Nat} {args : Array Value} {w : World} (h : L = M) (H : Calls Tryd.prog f args w (LsP L w)) : Calls Tryd.prog f args w (LsP M w) := by subst h; exact H
theorem fact_F (n F : Int) (hF : (fac n.toNat : Int) = F) (h0 : 0 ≤ n) (h1 : n ≤ 12) (w : World) : Calls Tryd.prog 25 #[.int .i64 n] w fun e w' => e = .returned (.int .i64 F) ∧ Below w.heap.size w w' :=
  (fact_any n h0 h1 w).mono fun e w' ⟨h2, h3⟩ => ⟨by rw [h2, ← hF], by rw [h3]; exact Below.refl _ _⟩
theorem ranked_R (a : Option Addr) (cap : Nat) (p : List Int) (R : Int) (hR : (rk p : Int) = R) (h1 : p.length ≤ 12) (n₀ : Nat) (w : World) (hI : IsInts n₀ w a p) :
    Calls Tryd.prog 23 #[.slice a p.length cap] w fun e w' => e = .returned (.int .i64 R) ∧ Below w.heap.size w w' :=
  (ranked_any a cap p h1 n₀ w hI).mono fun e w' ⟨h2, h3⟩ => ⟨by rw [h2, ← hR], h3⟩
set_option maxRecDepth 100000 in
set_option maxHeartbeats 8000000 in
theorem ranks_no1 (HR : CPr) (HU : CPu) (a1 : Option Addr) (c1 : Nat) (p1 : List Int) (x1 : p1.length ≤ 9223372036854775807) (T1 : ∀ j, In64 (nth p1 j)) (n k : Int) (hn64 : In64 n) (hk64 : In64 k) (w : World) (hg : HasErr w) (w1 : IsC w.heap.size w a1 p1 c1) (F1 : Hid (orE p1 ≠ 0)) :
    Calls Tryd.prog 6 #[.slice a1 p1.length c1, .int .i64 n, .int .i64 k] w fun e w' => e = .returned (.bool true) ∧ Below w.heap.size w w' := by
  have HI1 : Hid (IsC w.heap.size w a1 p1 c1 ∧ ∀ j, In64 (nth p1 j)) := ⟨w1, T1⟩
  clear w1 T1
  have HG : Hid (HasErr w) := hg
  have hb0 : Hid (Below w.heap.size w w) := Below.refl _ _
  clear hg
  obtain ⟨E, hE⟩ : ∃ E, E = orE p1 := ⟨_, rfl⟩
  have HE1 : Hid (orE p1 = E ∧ rkE p1 = E ∧ E ≠ 0) := ⟨hE.symm, by unfold rkE; rw [if_pos F1.out, hE], by rw [hE]; exact F1.out⟩
  have hE0 : (E == 0) = false := by rw [beq_eq_false_iff_ne]; exact HE1.out.2.2
  clear hE
  go_enter Tryd.func6, Tryd.ntmps6
  go_wp2_with fail
  refine (ofault_E a1 c1 p1 E HE1.out.1 x1 _ _ ((HI1.out.1.below hb0.out).mono hb0.out.size).1).mono ?_
  rintro e v1 ⟨rfl, hB⟩
  have z1 : w.heap.size ≤ v1.heap.size := hB.size
  have hb2 : Hid (Below w.heap.size w v1) := hb0.out.trans (hB.mono hb0.out.size)
  clear hB hb0
  go_wp2_with fail
  refine (rn_noE a1 c1 p1 E _ x1 ((HI1.out.1.below hb2.out).mono hb2.out.size) HI1.out.2 HR HE1.out.2.1 HE1.out.2.2).mono ?_
  rintro e v2 ⟨rfl, hB⟩
  have z3 : v1.heap.size ≤ v2.heap.size := hB.size
  have hb4 : Hid (Below w.heap.size w v2) := hb2.out.trans (hB.mono hb2.out.size)
  clear hB hb2
  go_wp2_with fail
  refine (err_no9 E HE1.out.2.2 _ (HG.out.below hb4.out HG.out.pos)).mono ?_
  rintro e v3 ⟨rfl, hB⟩
  have z5 : v2.heap.size ≤ v3.heap.size := hB.size
  have hb6 : Hid (Below w.heap.size w v3) := hb4.out.trans (hB.mono hb4.out.size)
  clear hB hb4
  by_cases hn0 : n < 0
  · have HE : Hid (urE n k = 6) := by show _ = _; unfold urE; rw [if_pos hn0]
    go_wp2_with fail
    refine (un_noE n k 6 _ hn64 hk64 HU HE.out (by decide)).mono ?_
    rintro e v4 ⟨g8, gc8, rfl, hN8, hB⟩
    have z7 : v3.heap.size ≤ v4.heap.size := hB.size
    have hb8 : Hid (Below w.heap.size w v4) := hb6.out.trans (hB.mono hb6.out.size)
    have L9 : Hid (MidC (v3.heap.size) (v4.heap.size) v4 (g8) ([]) (gc8)) := hN8.midc
    clear hB hb6 hN8
    go_wp2_with fail
    refine (ints_no9 6 (by decide) g8 gc8 _ (HG.out.below hb8.out HG.out.pos)).mono ?_
    rintro e v5 ⟨rfl, hB⟩
    have z10 : v4.heap.size ≤ v5.heap.size := hB.size
    have L11 : Hid (MidC (v3.heap.size) (v4.heap.size) v5 (g8) ([]) (gc8)) := L9.out.go (by omega) hB
    have hb12 : Hid (Below w.heap.size w v5) := hb8.out.trans (hB.mono hb8.out.size)
    clear hB hb8 L9
    clear L11
    go_wp2_with fail
    go_ret
    exact ⟨rfl, hb12.out⟩
  by_cases hn1 : 12 < n
  · have HE : Hid (urE n k = 7) := by show _ = _; unfold urE; rw [if_neg hn0, if_pos hn1]
    go_wp2_with fail
    refine (un_noE n k 7 _ hn64 hk64 HU HE.out (by decide)).mono ?_
    rintro e v4 ⟨g8, gc8, rfl, hN8, hB⟩
    have z7 : v3.heap.size ≤ v4.heap.size := hB.size
    have hb8 : Hid (Below w.heap.size w v4) := hb6.out.trans (hB.mono hb6.out.size)
    have L9 : Hid (MidC (v3.heap.size) (v4.heap.size) v4 (g8) ([]) (gc8)) := hN8.midc
    clear hB hb6 hN8
    go_wp2_with fail
    refine (ints_no9 7 (by decide) g8 gc8 _ (HG.out.below hb8.out HG.out.pos)).mono ?_
    rintro e v5 ⟨rfl, hB⟩
    have z10 : v4.heap.size ≤ v5.heap.size := hB.size
    have L11 : Hid (MidC (v3.heap.size) (v4.heap.size) v5 (g8) ([]) (gc8)) := L9.out.go (by omega) hB
    have hb12 : Hid (Below w.heap.size w v5) := hb8.out.trans (hB.mono hb8.out.size)
    clear hB hb8 L9
    clear L11
    go_wp2_with fail
    go_ret
    exact ⟨rfl, hb12.out⟩
  by_cases hk0 : k < 0
  · have HE : Hid (urE n k = 5) := by show _ = _; unfold urE; rw [if_neg hn0, if_neg hn1, if_pos (.inl hk0)]
    go_wp2_with fail
    refine (un_noE n k 5 _ hn64 hk64 HU HE.out (by decide)).mono ?_
    rintro e v4 ⟨g8, gc8, rfl, hN8, hB⟩
    have z7 : v3.heap.size ≤ v4.heap.size := hB.size
    have hb8 : Hid (Below w.heap.size w v4) := hb6.out.trans (hB.mono hb6.out.size)
    have L9 : Hid (MidC (v3.heap.size) (v4.heap.size) v4 (g8) ([]) (gc8)) := hN8.midc
    clear hB hb6 hN8
    go_wp2_with fail
    refine (ints_no9 5 (by decide) g8 gc8 _ (HG.out.below hb8.out HG.out.pos)).mono ?_
    rintro e v5 ⟨rfl, hB⟩
    have z10 : v4.heap.size ≤ v5.heap.size := hB.size
    have L11 : Hid (MidC (v3.heap.size) (v4.heap.size) v5 (g8) ([]) (gc8)) := L9.out.go (by omega) hB
    have hb12 : Hid (Below w.heap.size w v5) := hb8.out.trans (hB.mono hb8.out.size)
    clear hB hb8 L9
    clear L11
    go_wp2_with fail
    go_ret
    exact ⟨rfl, hb12.out⟩
  go_wp2_with fail
  obtain ⟨F, hF⟩ : ∃ F : Int, (fac n.toNat : Int) = F := ⟨_, rfl⟩
  have HF : Hid ((fac n.toNat : Int) = F) := hF
  have hn2 : 0 ≤ n ∧ n ≤ 12 ∧ 0 ≤ k := by omega
  refine (fact_F n F HF.out hn2.1 hn2.2.1 _).mono ?_
  rintro e v4 ⟨rfl, hB⟩
  have z7 : v3.heap.size ≤ v4.heap.size := hB.size
  have hb8 : Hid (Below w.heap.size w v4) := hb6.out.trans (hB.mono hb6.out.size)
  clear hB hb6
  by_cases hk1 : F ≤ k
  · have HE : Hid (urE n k = 5) := by show _ = _; unfold urE; rw [if_neg (show ¬ n < 0 by omega), if_neg (show ¬ 12 < n by omega), if_pos (.inr (by rw [hF]; exact hk1))]
    clear hF
    go_wp2_with fail
    refine (un_noE n k 5 _ hn64 hk64 HU HE.out (by decide)).mono ?_
    rintro e v5 ⟨g8, gc8, rfl, hN8, hB⟩
    have z9 : v4.heap.size ≤ v5.heap.size := hB.size
    have hb10 : Hid (Below w.heap.size w v5) := hb8.out.trans (hB.mono hb8.out.size)
    have L11 : Hid (MidC (v4.heap.size) (v5.heap.size) v5 (g8) ([]) (gc8)) := hN8.midc
    clear hB hb8 hN8
    go_wp2_with fail
    refine (ints_no9 5 (by decide) g8 gc8 _ (HG.out.below hb10.out HG.out.pos)).mono ?_
    rintro e v6 ⟨rfl, hB⟩
    have z12 : v5.heap.size ≤ v6.heap.size := hB.size
    have L13 : Hid (MidC (v4.heap.size) (v5.heap.size) v6 (g8) ([]) (gc8)) := L11.out.go (by omega) hB
    have hb14 : Hid (Below w.heap.size w v6) := hb10.out.trans (hB.mono hb10.out.size)
    clear hB hb10 L11
    clear L13
    go_wp2_with fail
    go_ret
    exact ⟨rfl, hb14.out⟩
  obtain ⟨X, hX⟩ : ∃ X, X = ur n.toNat (idn n.toNat) k.toNat := ⟨_, rfl⟩
  have HX : Hid (urE n k = 0 ∧ ur n.toNat (idn n.toNat) k.toNat = X) := ⟨urE_zero.2 ⟨hn2.1, hn2.2.1, hn2.2.2, by rw [hF]; omega⟩, hX.symm⟩
  have HLX : Hid (X.length ≤ 12) := by show _ ≤ _; rw [hX, ur_length]; omega
  have HKF : Hid (k < fac n.toNat) := by show _ < _; rw [hF]; omega
  clear hX hF
  go_wp2_with fail
  refine (ls_namr HX.out.2 (unranked_any n k hn2.1 hn2.2.1 hn2.2.2 HKF.out _)).mono ?_
  rintro e v5 ⟨g8, gc8, rfl, hN8, hB⟩
  have z9 : v4.heap.size ≤ v5.heap.size := hB.size
  have hb10 : Hid (Below w.heap.size w v5) := hb8.out.trans (hB.mono hb8.out.size)
  have L11 : Hid (MidC (v4.heap.size) (v5.heap.size) v5 (g8) (X) (gc8)) := hN8.midc
  clear hB hb8 hN8
  go_wp2_with fail
  refine (un_ok n k _ hn64 hk64 X HU HX.out).mono ?_
  rintro e v6 ⟨g9, gc9, rfl, hN9, hB⟩
  have z12 : v5.heap.size ≤ v6.heap.size := hB.size
  have L13 : Hid (MidC (v4.heap.size) (v5.heap.size) v6 (g8) (X) (gc8)) := L11.out.go (by omega) hB
  have hb14 : Hid (Below w.heap.size w v6) := hb10.out.trans (hB.mono hb10.out.size)
  have L15 : Hid (MidC (v5.heap.size) (v6.heap.size) v6 (g9) (X) (gc9)) := hN9.midc
  clear hB hb10 L11 hN9
  go_wp2_with fail
  refine (ints_ok9 g9 gc9 X X.length rfl g8 gc8 X.length rfl _ (HG.out.below hb14.out HG.out.pos) (by have := HLX.out; omega) (L15.out.is (by omega)).1 (L13.out.is (by omega)).1).mono ?_
  rintro e v7 ⟨rfl, hB⟩
  have z16 : v6.heap.size ≤ v7.heap.size := hB.size
  have L17 : Hid (MidC (v4.heap.size) (v5.heap.size) v7 (g8) (X) (gc8)) := L13.out.go (by omega) hB
  have L18 : Hid (MidC (v5.heap.size) (v6.heap.size) v7 (g9) (X) (gc9)) := L15.out.go (by omega) hB
  have hb19 : Hid (Below w.heap.size w v7) := hb14.out.trans (hB.mono hb14.out.size)
  clear hB hb14 L13 L15
  clear L17 L18
  go_wp2_with fail
  go_ret
  exact ⟨rfl, hb19.out⟩
set_option maxRecDepth 100000 in
set_option maxHeartbeats 8000000 in
theorem ranks_no2 (HR : CPr) (HU : CPu) (a1 : Option Addr) (c1 : Nat) (p1 : List Int) (x1 : p1.length ≤ 9223372036854775807) (T1 : ∀ j, In64 (nth p1 j)) (n k : Int) (hn64 : In64 n) (hk64 : In64 k) (w : World) (hg : HasErr w) (w1 : IsC w.heap.size w a1 p1 c1) (F1 : Hid (orE p1 = 0)) (F2 : Hid (12 < p1.length)) :
    Calls Tryd.prog 6 #[.slice a1 p1.length c1, .int .i64 n, .int .i64 k] w fun e w' => e = .returned (.bool true) ∧ Below w.heap.size w w' := by
  have HI1 : Hid (IsC w.heap.size w a1 p1 c1 ∧ ∀ j, In64 (nth p1 j)) := ⟨w1, T1⟩
  clear w1 T1
  have HG : Hid (HasErr w) := hg
  have hb0 : Hid (Below w.heap.size w w) := Below.refl _ _
  clear hg
  have HE1 : Hid (rkE p1 = 7) := by show _ = _; unfold rkE; rw [if_neg (not_not_intro F1.out), if_pos F2.out]
  have hl12 : (12 : Int) < (p1.length : Int) := by have := F2.out; omega
  go_enter Tryd.func6, Tryd.ntmps6
  go_wp2_with fail
  refine (ofault_E a1 c1 p1 0 F1.out x1 _ _ ((HI1.out.1.below hb0.out).mono hb0.out.size).1).mono ?_
  rintro e v1 ⟨rfl, hB⟩
  have z1 : w.heap.size ≤ v1.heap.size := hB.size
  have hb2 : Hid (Below w.heap.size w v1) := hb0.out.trans (hB.mono hb0.out.size)
  clear hB hb0
  go_wp2_with fail
  refine (rn_noE a1 c1 p1 7 _ x1 ((HI1.out.1.below hb2.out).mono hb2.out.size) HI1.out.2 HR HE1.out (by decide)).mono ?_
  rintro e v2 ⟨rfl, hB⟩
  have z3 : v1.heap.size ≤ v2.heap.size := hB.size
  have hb4 : Hid (Below w.heap.size w v2) := hb2.out.trans (hB.mono hb2.out.size)
  clear hB hb2
  go_wp2_with fail
  refine (err_no9 7 (by decide) _ (HG.out.below hb4.out HG.out.pos)).mono ?_
  rintro e v3 ⟨rfl, hB⟩
  have z5 : v2.heap.size ≤ v3.heap.size := hB.size
  have hb6 : Hid (Below w.heap.size w v3) := hb4.out.trans (hB.mono hb4.out.size)
  clear hB hb4
  by_cases hn0 : n < 0
  · have HE : Hid (urE n k = 6) := by show _ = _; unfold urE; rw [if_pos hn0]
    go_wp2_with fail
    refine (un_noE n k 6 _ hn64 hk64 HU HE.out (by decide)).mono ?_
    rintro e v4 ⟨g8, gc8, rfl, hN8, hB⟩
    have z7 : v3.heap.size ≤ v4.heap.size := hB.size
    have hb8 : Hid (Below w.heap.size w v4) := hb6.out.trans (hB.mono hb6.out.size)
    have L9 : Hid (MidC (v3.heap.size) (v4.heap.size) v4 (g8) ([]) (gc8)) := hN8.midc
    clear hB hb6 hN8
    go_wp2_with fail
    refine (ints_no9 6 (by decide) g8 gc8 _ (HG.out.below hb8.out HG.out.pos)).mono ?_
    rintro e v5 ⟨rfl, hB⟩
    have z10 : v4.heap.size ≤ v5.heap.size := hB.size
    have L11 : Hid (MidC (v3.heap.size) (v4.heap.size) v5 (g8) ([]) (gc8)) := L9.out.go (by omega) hB
    have hb12 : Hid (Below w.heap.size w v5) := hb8.out.trans (hB.mono hb8.out.size)
    clear hB hb8 L9
    clear L11
    go_wp2_with fail
    go_ret
    exact ⟨rfl, hb12.out⟩
  by_cases hn1 : 12 < n
  · have HE : Hid (urE n k = 7) := by show _ = _; unfold urE; rw [if_neg hn0, if_pos hn1]
    go_wp2_with fail
    refine (un_noE n k 7 _ hn64 hk64 HU HE.out (by decide)).mono ?_
    rintro e v4 ⟨g8, gc8, rfl, hN8, hB⟩
    have z7 : v3.heap.size ≤ v4.heap.size := hB.size
    have hb8 : Hid (Below w.heap.size w v4) := hb6.out.trans (hB.mono hb6.out.size)
    have L9 : Hid (MidC (v3.heap.size) (v4.heap.size) v4 (g8) ([]) (gc8)) := hN8.midc
    clear hB hb6 hN8
    go_wp2_with fail
    refine (ints_no9 7 (by decide) g8 gc8 _ (HG.out.below hb8.out HG.out.pos)).mono ?_
    rintro e v5 ⟨rfl, hB⟩
    have z10 : v4.heap.size ≤ v5.heap.size := hB.size
    have L11 : Hid (MidC (v3.heap.size) (v4.heap.size) v5 (g8) ([]) (gc8)) := L9.out.go (by omega) hB
    have hb12 : Hid (Below w.heap.size w v5) := hb8.out.trans (hB.mono hb8.out.size)
    clear hB hb8 L9
    clear L11
    go_wp2_with fail
    go_ret
    exact ⟨rfl, hb12.out⟩
  by_cases hk0 : k < 0
  · have HE : Hid (urE n k = 5) := by show _ = _; unfold urE; rw [if_neg hn0, if_neg hn1, if_pos (.inl hk0)]
    go_wp2_with fail
    refine (un_noE n k 5 _ hn64 hk64 HU HE.out (by decide)).mono ?_
    rintro e v4 ⟨g8, gc8, rfl, hN8, hB⟩
    have z7 : v3.heap.size ≤ v4.heap.size := hB.size
    have hb8 : Hid (Below w.heap.size w v4) := hb6.out.trans (hB.mono hb6.out.size)
    have L9 : Hid (MidC (v3.heap.size) (v4.heap.size) v4 (g8) ([]) (gc8)) := hN8.midc
    clear hB hb6 hN8
    go_wp2_with fail
    refine (ints_no9 5 (by decide) g8 gc8 _ (HG.out.below hb8.out HG.out.pos)).mono ?_
    rintro e v5 ⟨rfl, hB⟩
    have z10 : v4.heap.size ≤ v5.heap.size := hB.size
    have L11 : Hid (MidC (v3.heap.size) (v4.heap.size) v5 (g8) ([]) (gc8)) := L9.out.go (by omega) hB
    have hb12 : Hid (Below w.heap.size w v5) := hb8.out.trans (hB.mono hb8.out.size)
    clear hB hb8 L9
    clear L11
    go_wp2_with fail
    go_ret
    exact ⟨rfl, hb12.out⟩
  go_wp2_with fail
  obtain ⟨F, hF⟩ : ∃ F : Int, (fac n.toNat : Int) = F := ⟨_, rfl⟩
  have HF : Hid ((fac n.toNat : Int) = F) := hF
  have hn2 : 0 ≤ n ∧ n ≤ 12 ∧ 0 ≤ k := by omega
  refine (fact_F n F HF.out hn2.1 hn2.2.1 _).mono ?_
  rintro e v4 ⟨rfl, hB⟩
  have z7 : v3.heap.size ≤ v4.heap.size := hB.size
  have hb8 : Hid (Below w.heap.size w v4) := hb6.out.trans (hB.mono hb6.out.size)
  clear hB hb6
  by_cases hk1 : F ≤ k
  · have HE : Hid (urE n k = 5) := by show _ = _; unfold urE; rw [if_neg (show ¬ n < 0 by omega), if_neg (show ¬ 12 < n by omega), if_pos (.inr (by rw [hF]; exact hk1))]
    clear hF
    go_wp2_with fail
    refine (un_noE n k 5 _ hn64 hk64 HU HE.out (by decide)).mono ?_
    rintro e v5 ⟨g8, gc8, rfl, hN8, hB⟩
    have z9 : v4.heap.size ≤ v5.heap.size := hB.size
    have hb10 : Hid (Below w.heap.size w v5) := hb8.out.trans (hB.mono hb8.out.size)
    have L11 : Hid (MidC (v4.heap.size) (v5.heap.size) v5 (g8) ([]) (gc8)) := hN8.midc
    clear hB hb8 hN8
    go_wp2_with fail
    refine (ints_no9 5 (by decide) g8 gc8 _ (HG.out.below hb10.out HG.out.pos)).mono ?_
    rintro e v6 ⟨rfl, hB⟩
    have z12 : v5.heap.size ≤ v6.heap.size := hB.size
    have L13 : Hid (MidC (v4.heap.size) (v5.heap.size) v6 (g8) ([]) (gc8)) := L11.out.go (by omega) hB
    have hb14 : Hid (Below w.heap.size w v6) := hb10.out.trans (hB.mono hb10.out.size)
    clear hB hb10 L11
    clear L13
    go_wp2_with fail
    go_ret
    exact ⟨rfl, hb14.out⟩
  obtain ⟨X, hX⟩ : ∃ X, X = ur n.toNat (idn n.toNat) k.toNat := ⟨_, rfl⟩
  have HX : Hid (urE n k = 0 ∧ ur n.toNat (idn n.toNat) k.toNat = X) := ⟨urE_zero.2 ⟨hn2.1, hn2.2.1, hn2.2.2, by rw [hF]; omega⟩, hX.symm⟩
  have HLX : Hid (X.length ≤ 12) := by show _ ≤ _; rw [hX, ur_length]; omega
  have HKF : Hid (k < fac n.toNat) := by show _ < _; rw [hF]; omega
  clear hX hF
  go_wp2_with fail
  refine (ls_namr HX.out.2 (unranked_any n k hn2.1 hn2.2.1 hn2.2.2 HKF.out _)).mono ?_
  rintro e v5 ⟨g8, gc8, rfl, hN8, hB⟩
  have z9 : v4.heap.size ≤ v5.heap.size := hB.size
  have hb10 : Hid (Below w.heap.size w v5) := hb8.out.trans (hB.mono hb8.out.size)
  have L11 : Hid (MidC (v4.heap.size) (v5.heap.size) v5 (g8) (X) (gc8)) := hN8.midc
  clear hB hb8 hN8
  go_wp2_with fail
  refine (un_ok n k _ hn64 hk64 X HU HX.out).mono ?_
  rintro e v6 ⟨g9, gc9, rfl, hN9, hB⟩
  have z12 : v5.heap.size ≤ v6.heap.size := hB.size
  have L13 : Hid (MidC (v4.heap.size) (v5.heap.size) v6 (g8) (X) (gc8)) := L11.out.go (by omega) hB
  have hb14 : Hid (Below w.heap.size w v6) := hb10.out.trans (hB.mono hb10.out.size)
  have L15 : Hid (MidC (v5.heap.size) (v6.heap.size) v6 (g9) (X) (gc9)) := hN9.midc
  clear hB hb10 L11 hN9
  go_wp2_with fail
  refine (ints_ok9 g9 gc9 X X.length rfl g8 gc8 X.length rfl _ (HG.out.below hb14.out HG.out.pos) (by have := HLX.out; omega) (L15.out.is (by omega)).1 (L13.out.is (by omega)).1).mono ?_
  rintro e v7 ⟨rfl, hB⟩
  have z16 : v6.heap.size ≤ v7.heap.size := hB.size
  have L17 : Hid (MidC (v4.heap.size) (v5.heap.size) v7 (g8) (X) (gc8)) := L13.out.go (by omega) hB
  have L18 : Hid (MidC (v5.heap.size) (v6.heap.size) v7 (g9) (X) (gc9)) := L15.out.go (by omega) hB
  have hb19 : Hid (Below w.heap.size w v7) := hb14.out.trans (hB.mono hb14.out.size)
  clear hB hb14 L13 L15
  clear L17 L18
  go_wp2_with fail
  go_ret
  exact ⟨rfl, hb19.out⟩
set_option maxRecDepth 100000 in
set_option maxHeartbeats 8000000 in
theorem ranks_ok (HR : CPr) (HU : CPu) (a1 : Option Addr) (c1 : Nat) (p1 : List Int) (x1 : p1.length ≤ 9223372036854775807) (T1 : ∀ j, In64 (nth p1 j)) (n k : Int) (hn64 : In64 n) (hk64 : In64 k) (w : World) (hg : HasErr w) (w1 : IsC w.heap.size w a1 p1 c1) (F1 : Hid (orE p1 = 0)) (F2 : Hid (p1.length ≤ 12)) :
    Calls Tryd.prog 6 #[.slice a1 p1.length c1, .int .i64 n, .int .i64 k] w fun e w' => e = .returned (.bool true) ∧ Below w.heap.size w w' := by
  have HI1 : Hid (IsC w.heap.size w a1 p1 c1 ∧ ∀ j, In64 (nth p1 j)) := ⟨w1, T1⟩
  clear w1 T1
  have HG : Hid (HasErr w) := hg
  have hb0 : Hid (Below w.heap.size w w) := Below.refl _ _
  clear hg
  obtain ⟨R, hR⟩ : ∃ R : Int, (rk p1 : Int) = R := ⟨_, rfl⟩
  have HE1 : Hid (rkE p1 = 0 ∧ (rk p1 : Int) = R) := ⟨rkE_zero.2 ⟨F1.out, F2.out⟩, hR⟩
  have hl12 : ¬ (12 : Int) < (p1.length : Int) := by have := F2.out; omega
  clear hR
  go_enter Tryd.func6, Tryd.ntmps6
  go_wp2_with fail
  refine (ofault_E a1 c1 p1 0 F1.out x1 _ _ ((HI1.out.1.below hb0.out).mono hb0.out.size).1).mono ?_
  rintro e v1 ⟨rfl, hB⟩
  have z1 : w.heap.size ≤ v1.heap.size := hB.size
  have hb2 : Hid (Below w.heap.size w v1) := hb0.out.trans (hB.mono hb0.out.size)
  clear hB hb0
  go_wp2_with fail
  refine (ranked_R a1 c1 p1 R HE1.out.2 F2.out _ _ ((HI1.out.1.below hb2.out).mono hb2.out.size).1).mono ?_
  rintro e v2 ⟨rfl, hB⟩
  have z3 : v1.heap.size ≤ v2.heap.size := hB.size
  have hb4 : Hid (Below w.heap.size w v2) := hb2.out.trans (hB.mono hb2.out.size)
  clear hB hb2
  go_wp2_with fail
  refine (rn_ok a1 c1 p1 p1.length rfl _ x1 ((HI1.out.1.below hb4.out).mono hb4.out.size) HI1.out.2 R HR HE1.out).mono ?_
  rintro e v3 ⟨rfl, hB⟩
  have z5 : v2.heap.size ≤ v3.heap.size := hB.size
  have hb6 : Hid (Below w.heap.size w v3) := hb4.out.trans (hB.mono hb4.out.size)
  clear hB hb4
  go_wp2_with fail
  refine (err_ok9 _ (HG.out.below hb6.out HG.out.pos)).mono ?_
  rintro e v4 ⟨rfl, hB⟩
  have z7 : v3.heap.size ≤ v4.heap.size := hB.size
  have hb8 : Hid (Below w.heap.size w v4) := hb6.out.trans (hB.mono hb6.out.size)
  clear hB hb6
  by_cases hn0 : n < 0
  · have HE : Hid (urE n k = 6) := by show _ = _; unfold urE; rw [if_pos hn0]
    go_wp2_with fail
    refine (un_noE n k 6 _ hn64 hk64 HU HE.out (by decide)).mono ?_
    rintro e v5 ⟨g8, gc8, rfl, hN8, hB⟩
    have z9 : v4.heap.size ≤ v5.heap.size := hB.size
    have hb10 : Hid (Below w.heap.size w v5) := hb8.out.trans (hB.mono hb8.out.size)
    have L11 : Hid (MidC (v4.heap.size) (v5.heap.size) v5 (g8) ([]) (gc8)) := hN8.midc
    clear hB hb8 hN8
    go_wp2_with fail
    refine (ints_no9 6 (by decide) g8 gc8 _ (HG.out.below hb10.out HG.out.pos)).mono ?_
    rintro e v6 ⟨rfl, hB⟩
    have z12 : v5.heap.size ≤ v6.heap.size := hB.size
    have L13 : Hid (MidC (v4.heap.size) (v5.heap.size) v6 (g8) ([]) (gc8)) := L11.out.go (by omega) hB
    have hb14 : Hid (Below w.heap.size w v6) := hb10.out.trans (hB.mono hb10.out.size)
    clear hB hb10 L11
    clear L13
    go_wp2_with fail
    go_ret
    exact ⟨rfl, hb14.out⟩
  by_cases hn1 : 12 < n
  · have HE : Hid (urE n k = 7) := by show _ = _; unfold urE; rw [if_neg hn0, if_pos hn1]
    go_wp2_with fail
    refine (un_noE n k 7 _ hn64 hk64 HU HE.out (by decide)).mono ?_
    rintro e v5 ⟨g8, gc8, rfl, hN8, hB⟩
    have z9 : v4.heap.size ≤ v5.heap.size := hB.size
    have hb10 : Hid (Below w.heap.size w v5) := hb8.out.trans (hB.mono hb8.out.size)
    have L11 : Hid (MidC (v4.heap.size) (v5.heap.size) v5 (g8) ([]) (gc8)) := hN8.midc
    clear hB hb8 hN8
    go_wp2_with fail
    refine (ints_no9 7 (by decide) g8 gc8 _ (HG.out.below hb10.out HG.out.pos)).mono ?_
    rintro e v6 ⟨rfl, hB⟩
    have z12 : v5.heap.size ≤ v6.heap.size := hB.size
    have L13 : Hid (MidC (v4.heap.size) (v5.heap.size) v6 (g8) ([]) (gc8)) := L11.out.go (by omega) hB
    have hb14 : Hid (Below w.heap.size w v6) := hb10.out.trans (hB.mono hb10.out.size)
    clear hB hb10 L11
    clear L13
    go_wp2_with fail
    go_ret
    exact ⟨rfl, hb14.out⟩
  by_cases hk0 : k < 0
  · have HE : Hid (urE n k = 5) := by show _ = _; unfold urE; rw [if_neg hn0, if_neg hn1, if_pos (.inl hk0)]
    go_wp2_with fail
    refine (un_noE n k 5 _ hn64 hk64 HU HE.out (by decide)).mono ?_
    rintro e v5 ⟨g8, gc8, rfl, hN8, hB⟩
    have z9 : v4.heap.size ≤ v5.heap.size := hB.size
    have hb10 : Hid (Below w.heap.size w v5) := hb8.out.trans (hB.mono hb8.out.size)
    have L11 : Hid (MidC (v4.heap.size) (v5.heap.size) v5 (g8) ([]) (gc8)) := hN8.midc
    clear hB hb8 hN8
    go_wp2_with fail
    refine (ints_no9 5 (by decide) g8 gc8 _ (HG.out.below hb10.out HG.out.pos)).mono ?_
    rintro e v6 ⟨rfl, hB⟩
    have z12 : v5.heap.size ≤ v6.heap.size := hB.size
    have L13 : Hid (MidC (v4.heap.size) (v5.heap.size) v6 (g8) ([]) (gc8)) := L11.out.go (by omega) hB
    have hb14 : Hid (Below w.heap.size w v6) := hb10.out.trans (hB.mono hb10.out.size)
    clear hB hb10 L11
    clear L13
    go_wp2_with fail
    go_ret
    exact ⟨rfl, hb14.out⟩
  go_wp2_with fail
  obtain ⟨F, hF⟩ : ∃ F : Int, (fac n.toNat : Int) = F := ⟨_, rfl⟩
  have HF : Hid ((fac n.toNat : Int) = F) := hF
  have hn2 : 0 ≤ n ∧ n ≤ 12 ∧ 0 ≤ k := by omega
  refine (fact_F n F HF.out hn2.1 hn2.2.1 _).mono ?_
  rintro e v5 ⟨rfl, hB⟩
  have z9 : v4.heap.size ≤ v5.heap.size := hB.size
  have hb10 : Hid (Below w.heap.size w v5) := hb8.out.trans (hB.mono hb8.out.size)
  clear hB hb8
  by_cases hk1 : F ≤ k
  · have HE : Hid (urE n k = 5) := by show _ = _; unfold urE; rw [if_neg (show ¬ n < 0 by omega), if_neg (show ¬ 12 < n by omega), if_pos (.inr (by rw [hF]; exact hk1))]
    clear hF
    go_wp2_with fail
    refine (un_noE n k 5 _ hn64 hk64 HU HE.out (by decide)).mono ?_
    rintro e v6 ⟨g8, gc8, rfl, hN8, hB⟩
    have z11 : v5.heap.size ≤ v6.heap.size := hB.size
    have hb12 : Hid (Below w.heap.size w v6) := hb10.out.trans (hB.mono hb10.out.size)
    have L13 : Hid (MidC (v5.heap.size) (v6.heap.size) v6 (g8) ([]) (gc8)) := hN8.midc
    clear hB hb10 hN8
    go_wp2_with fail
    refine (ints_no9 5 (by decide) g8 gc8 _ (HG.out.below hb12.out HG.out.pos)).mono ?_
    rintro e v7 ⟨rfl, hB⟩
    have z14 : v6.heap.size ≤ v7.heap.size := hB.size
    have L15 : Hid (MidC (v5.heap.size) (v6.heap.size) v7 (g8) ([]) (gc8)) := L13.out.go (by omega) hB
    have hb16 : Hid (Below w.heap.size w v7) := hb12.out.trans (hB.mono hb12.out.size)
    clear hB hb12 L13
    clear L15
    go_wp2_with fail
    go_ret
    exact ⟨rfl, hb16.out⟩
  obtain ⟨X, hX⟩ : ∃ X, X = ur n.toNat (idn n.toNat) k.toNat := ⟨_, rfl⟩
  have HX : Hid (urE n k = 0 ∧ ur n.toNat (idn n.toNat) k.toNat = X) := ⟨urE_zero.2 ⟨hn2.1, hn2.2.1, hn2.2.2, by rw [hF]; omega⟩, hX.symm⟩
  have HLX : Hid (X.length ≤ 12) := by show _ ≤ _; rw [hX, ur_length]; omega
  have HKF : Hid (k < fac n.toNat) := by show _ < _; rw [hF]; omega
  clear hX hF
  go_wp2_with fail
  refine (ls_namr HX.out.2 (unranked_any n k hn2.1 hn2.2.1 hn2.2.2 HKF.out _)).mono ?_
  rintro e v6 ⟨g8, gc8, rfl, hN8, hB⟩
  have z11 : v5.heap.size ≤ v6.heap.size := hB.size
  have hb12 : Hid (Below w.heap.size w v6) := hb10.out.trans (hB.mono hb10.out.size)
  have L13 : Hid (MidC (v5.heap.size) (v6.heap.size) v6 (g8) (X) (gc8)) := hN8.midc
  clear hB hb10 hN8
  go_wp2_with fail
  refine (un_ok n k _ hn64 hk64 X HU HX.out).mono ?_
  rintro e v7 ⟨g9, gc9, rfl, hN9, hB⟩
  have z14 : v6.heap.size ≤ v7.heap.size := hB.size
  have L15 : Hid (MidC (v5.heap.size) (v6.heap.size) v7 (g8) (X) (gc8)) := L13.out.go (by omega) hB
  have hb16 : Hid (Below w.heap.size w v7) := hb12.out.trans (hB.mono hb12.out.size)
  have L17 : Hid (MidC (v6.heap.size) (v7.heap.size) v7 (g9) (X) (gc9)) := hN9.midc
  clear hB hb12 L13 hN9
  go_wp2_with fail
  refine (ints_ok9 g9 gc9 X X.length rfl g8 gc8 X.length rfl _ (HG.out.below hb16.out HG.out.pos) (by have := HLX.out; omega) (L17.out.is (by omega)).1 (L15.out.is (by omega)).1).mono ?_
  rintro e v8 ⟨rfl, hB⟩
  have z18 : v7.heap.size ≤ v8.heap.size := hB.size
  have L19 : Hid (MidC (v5.heap.size) (v6.heap.size) v8 (g8) (X) (gc8)) := L15.out.go (by omega) hB
  have L20 : Hid (MidC (v6.heap.size) (v7.heap.size) v8 (g9) (X) (gc9)) := L17.out.go (by omega) hB
  have hb21 : Hid (Below w.heap.size w v8) := hb16.out.trans (hB.mono hb16.out.size)
  clear hB hb16 L15 L17
  clear L19 L20
  go_wp2_with fail
  go_ret
  exact ⟨rfl, hb21.out⟩
theorem pranks_walk (HR : CPr) (HU : CPu) (a1 : Option Addr) (c1 : Nat) (p1 : List Int) (x1 : p1.length ≤ 9223372036854775807) (T1 : ∀ j, In64 (nth p1 j)) (n k : Int) (hn64 : In64 n) (hk64 : In64 k) (w : World) (hg : HasErr w) (w1 : IsC w.heap.size w a1 p1 c1) :
    Calls Tryd.prog 6 #[.slice a1 p1.length c1, .int .i64 n, .int .i64 k] w fun e w' => e = .returned (.bool true) ∧ Below w.heap.size w w' := by
  by_cases h1 : orE p1 = 0
  · by_cases h2 : p1.length ≤ 12
    · exact ranks_ok HR HU a1 c1 p1 x1 T1 n k hn64 hk64 w hg w1 h1 h2
    · exact ranks_no2 HR HU a1 c1 p1 x1 T1 n k hn64 hk64 w hg w1 h1 (show 12 < p1.length by omega)
  · exact ranks_no1 HR HU a1 c1 p1 x1 T1 n k hn64 hk64 w hg w1 h1
end Go.Proofs.YtcblakcaoecgpaaDoor
