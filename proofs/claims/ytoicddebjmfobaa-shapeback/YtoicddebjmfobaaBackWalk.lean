/-
  The walk of the statement that a place is its indices.
-/
import Derived.Deep.QuietTactic
import Derived.BigQuiet
import Derived.Test.YtoicddebjmfobaaTold
namespace Go.Proofs.Ytoicddebjmfobaa
open Go.RowKit
set_option linter.unusedVariables false

theorem place_fact (w : World) : Calls Try.prog 6 #[.slice (some ⟨w.heap.size, 0, none⟩) 2 2, .slice (some ⟨w.heap.size + 1, 0, none⟩) 2 2] ((w.alloc (.cells #[.int .i64 2, .int .i64 3] 3)).alloc (.cells #[.int .i64 1, .int .i64 2] 3)) fun e w' =>
    e = .returned (.tuple #[.int .i64 5, .nilIface]) ∧ Below w.heap.size w w' := by
  have h1 := ints_new2 w 3 2 3
  have h2 := ints_new2 (w.alloc (.cells #[.int .i64 2, .int .i64 3] 3)) 3 1 2
  have hB : Below (w.alloc (.cells #[.int .i64 2, .int .i64 3] 3)).heap.size (w.alloc (.cells #[.int .i64 2, .int .i64 3] 3)) ((w.alloc (.cells #[.int .i64 2, .int .i64 3] 3)).alloc (.cells #[.int .i64 1, .int .i64 2] 3)) := (Below.refl _ _).alloc (Nat.le_refl _) _
  have h := place_ok (some ⟨w.heap.size, 0, none⟩) 2 [2, 3] (some ⟨(w.alloc (.cells #[.int .i64 2, .int .i64 3] 3)).heap.size, 0, none⟩) 2 [1, 2] (by simp) (by simp) _ ((h1.below hB).mono hB.size) h2 (by decide)
  have hv : place [2, 3] [1, 2] = 5 := by decide
  rw [hv, World.size_alloc] at h
  refine Calls.mono h ?_
  rintro e w' ⟨rfl, hB'⟩
  exact ⟨rfl, (((Below.refl _ w).alloc (Nat.le_refl _) _).alloc (by simp) _).trans (hB'.mono (by simp; omega))⟩
theorem at_place (a : Option Addr) (cap : Nat) (zs ts : List Int) (hreach : zs.length ≤ 9223372036854775807) (w : World) (hI : IsInts w.heap.size w a zs) (h : plErr zs ts = 0) :
    Calls Try.prog 7 #[.slice a zs.length cap, .int .i64 (place zs ts)] w fun e w' => ∃ a' cap', e = .returned (.tuple #[.slice a' ts.length cap', .nilIface]) ∧ IsInts w'.heap.size w' a' ts ∧ Below w.heap.size w w' := by
  have hb := place_small h
  have hk := pl_back h
  have := at_ok a cap zs (place zs ts) (by omega) (by omega) hreach w hI hk.1
  rwa [hk.2.1] at this
theorem ints_same (a : Option Addr) (cap : Nat) (a' : Option Addr) (cap' : Nat) (us : List Int) (hreach : us.length ≤ 9223372036854775807) (n₀ : Nat) (w : World) (hI : IsInts n₀ w a us) (hI' : IsInts n₀ w a' us) :
    Calls Try.prog 8 #[.slice a us.length cap, .slice a' us.length cap'] w fun e w' => e = .returned (.bool true) ∧ Below w.heap.size w w' :=
  (ints_any a cap us a' cap' us hreach n₀ w hI hI').mono fun e w' ⟨h1, h2⟩ => ⟨by rw [h1, eqB_true rfl], h2⟩

set_option maxRecDepth 100000 in
set_option maxHeartbeats 4000000 in
theorem back_walk (a : Option Addr) (cap : Nat) (zs : List Int) (a' : Option Addr) (cap' : Nat) (ts : List Int) (p : Int) (hp1 : -9223372036854775808 ≤ p) (hp2 : p ≤ 9223372036854775807) (hreach : zs.length ≤ 9223372036854775807) (hreach' : ts.length ≤ 9223372036854775807) (w : World) (hI : IsInts w.heap.size w a zs) (hI' : IsInts w.heap.size w a' ts) :
    Calls Try.prog 3 #[.slice a zs.length cap, .slice a' ts.length cap', .int .i64 p] w fun e w' => e = .returned (.bool true) ∧ Below w.heap.size w w' := by
  go_enter Try.func3, Try.ntmps3
  go_wp2_with fail
  refine (place_fact w).mono ?_
  rintro e w1 ⟨rfl, hB1⟩
  by_cases h1 : atErr zs p = 0
  · have H1 : Hid (atErr zs p = 0) := h1
    clear h1
    go_wp2_with fail
    refine (at_ok a cap zs p hp1 hp2 hreach w1 ((hI.below hB1).mono hB1.size) H1.out).mono ?_
    rintro e w2 ⟨a2, k2, rfl, hX, hB2'⟩
    have hB2 : Below w.heap.size w w2 := hB1.trans (hB2'.mono hB1.size)
    have hlx := atVal_len H1.out
    have hrx : (atVal zs p).length ≤ 9223372036854775807 := by rw [hlx]; exact hreach
    obtain ⟨i1, q1⟩ := at_back H1.out
    have HX : Hid ((atVal zs p).length = zs.length) := hlx
    have HP : Hid (plErr zs (atVal zs p) = 0 ∧ place zs (atVal zs p) = p) := ⟨i1, q1⟩
    have hle : (((atVal zs p).length : Int) != (zs.length : Int)) = false := by rw [hlx]; simp
    clear hlx i1 q1
    generalize atVal zs p = xs at *
    go_wp2_with fail
    refine (place_ok a cap zs a2 k2 xs hreach hrx w2 ((hI.below hB2).mono hB2.size) hX HP.out.1).mono ?_
    rintro e w3 ⟨rfl, hB3'⟩
    have hB3 : Below w.heap.size w w3 := hB2.trans (hB3'.mono hB2.size)
    replace hX := hX.below hB3'
    have hI3 := hI.below hB3
    rw [HP.out.2]
    have hpp : (p != p) = false := by simp
    go_wp2_with fail
    clear hpp hle
    go_loopw [13] (fun i wr => ∃ k : Nat, k ≤ zs.length ∧ i = .int .i64 k ∧ ∃ m, wr = w3.drewN m) (fun i _ => zs.length - (intOf i).toNat)
    case atStart => exact ⟨0, Nat.zero_le _, rfl, 0, rfl⟩
    case round =>
      obtain ⟨k, hk, rfl, m, rfl⟩ := hrel
      by_cases hlt : k < zs.length
      · obtain ⟨b, off, rfl, hb, hcell⟩ := hI3.at hlt
        have hlt' : k < xs.length := by rw [HX.out]; exact hlt
        obtain ⟨b', off', rfl, hb', hcell'⟩ := hX.at hlt'
        have hc := hcell k hlt
        have hc' := hcell' k hlt'
        clear hcell hcell'
        have hin := (insB_iff HX.out).1 (plErr_zero.1 HP.out.1).2 k hlt
        have hd1 : decide (nth xs k < 0) = false := by simp; omega
        have hd2 : decide (nth zs k ≤ nth xs k) = false := by simp; omega
        go_wp2_with fail
        go_quiet (fail)
        go_wp2
        go_roundw
        case rel => exact ⟨k + 1, by omega, by go_num, _, rfl⟩
        case measure => simp [intOf]; omega
      · have hB4 := bel_drewN hB3 m
        clear hX hI3
        generalize w3.drewN m = w4 at *
        by_cases h3 : plErr zs ts = 0
        · have H3 : Hid (plErr zs ts = 0) := h3
          clear h3
          obtain ⟨hz1, hz2⟩ := place_small H3.out
          have hz3 := (pl_back H3.out).2.2.2
          go_wp2_with fail
          refine (place_ok a cap zs a' cap' ts hreach hreach' w4 ((hI.below hB4).mono hB4.size) ((hI'.below hB4).mono hB4.size) H3.out).mono ?_
          rintro e w5 ⟨rfl, hB5'⟩
          have hB5 : Below w.heap.size w w5 := hB4.trans (hB5'.mono hB4.size)
          go_wp2_with fail
          refine (at_place a cap zs ts hreach w5 ((hI.below hB5).mono hB5.size) H3.out).mono ?_
          rintro e w6 ⟨a6, k6, rfl, hX6, hB6'⟩
          have hB6 : Below w.heap.size w w6 := hB5.trans (hB6'.mono hB5.size)
          go_wp2_with fail
          refine (ints_same a6 k6 a' cap' ts hreach' w6.heap.size w6 hX6 ((hI'.below hB6).mono hB6.size)).mono ?_
          rintro e w7 ⟨rfl, hB7'⟩
          have hB7 : Below w.heap.size w w7 := hB6.trans (hB7'.mono hB6.size)
          go_wp2_with fail
          refine (count_ok a cap zs hreach w7 ((hI.below hB7).mono hB7.size) (plErr_zero.1 H3.out).1).mono ?_
          rintro e w8 ⟨rfl, hB8'⟩
          have hB8 : Below w.heap.size w w8 := hB7.trans (hB8'.mono hB7.size)
          go_wp2_with fail
          go_ret
          exact ⟨rfl, hB8⟩
        · have H3 : Hid (plErr zs ts ≠ 0) := h3
          clear h3
          go_wp2_with fail
          refine (place_no a cap zs a' cap' ts hreach hreach' w4 ((hI.below hB4).mono hB4.size) ((hI'.below hB4).mono hB4.size) H3.out).mono ?_
          rintro e w5 ⟨rfl, hB5'⟩
          have hB5 : Below w.heap.size w w5 := hB4.trans (hB5'.mono hB4.size)
          go_wp2_with fail
          go_ret
          exact ⟨rfl, hB5⟩
  · have H1 : Hid (atErr zs p ≠ 0) := h1
    clear h1
    go_wp2_with fail
    refine (at_no a cap zs p hp1 hp2 hreach w1 ((hI.below hB1).mono hB1.size) H1.out).mono ?_
    rintro e w2 ⟨a2, k2, rfl, hB2'⟩
    have hB2 : Below w.heap.size w w2 := hB1.trans (hB2'.mono hB1.size)
    by_cases h3 : plErr zs ts = 0
    · have H3 : Hid (plErr zs ts = 0) := h3
      clear h3
      obtain ⟨hz1, hz2⟩ := place_small H3.out
      have hz3 := (pl_back H3.out).2.2.2
      go_wp2_with fail
      refine (place_ok a cap zs a' cap' ts hreach hreach' w2 ((hI.below hB2).mono hB2.size) ((hI'.below hB2).mono hB2.size) H3.out).mono ?_
      rintro e w5 ⟨rfl, hB5'⟩
      have hB5 : Below w.heap.size w w5 := hB2.trans (hB5'.mono hB2.size)
      go_wp2_with fail
      refine (at_place a cap zs ts hreach w5 ((hI.below hB5).mono hB5.size) H3.out).mono ?_
      rintro e w6 ⟨a6, k6, rfl, hX6, hB6'⟩
      have hB6 : Below w.heap.size w w6 := hB5.trans (hB6'.mono hB5.size)
      go_wp2_with fail
      refine (ints_same a6 k6 a' cap' ts hreach' w6.heap.size w6 hX6 ((hI'.below hB6).mono hB6.size)).mono ?_
      rintro e w7 ⟨rfl, hB7'⟩
      have hB7 : Below w.heap.size w w7 := hB6.trans (hB7'.mono hB6.size)
      go_wp2_with fail
      refine (count_ok a cap zs hreach w7 ((hI.below hB7).mono hB7.size) (plErr_zero.1 H3.out).1).mono ?_
      rintro e w8 ⟨rfl, hB8'⟩
      have hB8 : Below w.heap.size w w8 := hB7.trans (hB8'.mono hB7.size)
      go_wp2_with fail
      go_ret
      exact ⟨rfl, hB8⟩
    · have H3 : Hid (plErr zs ts ≠ 0) := h3
      clear h3
      go_wp2_with fail
      refine (place_no a cap zs a' cap' ts hreach hreach' w2 ((hI.below hB2).mono hB2.size) ((hI'.below hB2).mono hB2.size) H3.out).mono ?_
      rintro e w5 ⟨rfl, hB5'⟩
      have hB5 : Below w.heap.size w w5 := hB2.trans (hB5'.mono hB2.size)
      go_wp2_with fail
      go_ret
      exact ⟨rfl, hB5⟩
end Go.Proofs.Ytoicddebjmfobaa
