/-
  The walk of the statement on places and indices.
-/
import Derived.Test.YtoicddebjmfobaaDoorErr
import Derived.Test.YtoicddebjmfobaaDoorFault
import Derived.Test.YtoicddebjmfobaaDoorCounted
import Derived.Test.YtoicddebjmfobaaDoorAt
import Derived.Test.YtoicddebjmfobaaDoorRowi
namespace Go.Proofs.YtoicddebjmfobaaDoor
open Go.RowKit
set_option linter.unusedVariables false

theorem ints_same (a : Option Addr) (cap : Nat) (a' : Option Addr) (cap' : Nat) (us : List Int) (hreach : us.length ≤ 9223372036854775807) (n₀ : Nat) (w : World) (hI : IsInts n₀ w a us) (hI' : IsInts n₀ w a' us) :
    Calls Tryd.prog 15 #[.slice a us.length cap, .slice a' us.length cap'] w fun e w' => e = .returned (.bool true) ∧ Below w.heap.size w w' :=
  (ints_any a cap us a' cap' us hreach n₀ w hI hI').mono fun e w' ⟨h1, h2⟩ => ⟨by rw [h1, eqB_true rfl], h2⟩
theorem ints_nil (g : Option Addr) (c : Nat) (w : World) : Calls Tryd.prog 15 #[.slice g 0 c, .slice none 0 0] w fun e w' => e = .returned (.bool true) ∧ Below w.heap.size w w' :=
  ints_same g c none 0 [] (by simp) 0 w (.inl rfl) (.inl rfl)
theorem error_zero (w : World) (hg : HasErr w) : Calls Tryd.prog 9 #[.nilIface, .int .i64 0] w fun e w' => e = .returned (.bool true) ∧ Below w.heap.size w w' := error_same 0 w hg
theorem at_bad (a : Option Addr) (cap : Nat) (zs : List Int) (p k : Int) (hp1 : -9223372036854775808 ≤ p) (hp2 : p ≤ 9223372036854775807) (hreach : zs.length ≤ 9223372036854775807) (w : World) (hI : IsInts w.heap.size w a zs) (h : atErr zs p = k) (hk : k ≠ 0) :
    Calls Tryd.prog 14 #[.slice a zs.length cap, .int .i64 p] w fun e w' => ∃ g c, e = .returned (.tuple #[.slice g 0 c, errV k]) ∧ Below w.heap.size w w' :=
  (at_any a cap zs p hp1 hp2 hreach w hI).mono fun e w' ⟨g, c, h1, _, h3⟩ => ⟨g, c, by rw [h1, atVal_bad (by rw [h]; exact hk), h]; rfl, h3⟩
theorem at_good (a : Option Addr) (cap : Nat) (zs : List Int) (P : Nat) (cc : List Int) (he : errOf zs = 0) (hP : (P : Int) < prod zs) (hcc : cr zs P = cc) (hreach : zs.length ≤ 9223372036854775807) (w : World) (hI : IsInts w.heap.size w a zs) :
    Calls Tryd.prog 14 #[.slice a zs.length cap, .int .i64 (P : Int)] w fun e w' => ∃ g c, e = .returned (.tuple #[.slice g cc.length c, .nilIface]) ∧ IsInts w'.heap.size w' g cc ∧ Below w.heap.size w w' := by
  have ha : atErr zs P = 0 := atErr_zero.2 ⟨he, by omega, hP⟩
  have hz := errOf_zero.1 he
  have hv : atVal zs P = cc := by rw [atVal_ok ha]; exact hcc
  have := at_any a cap zs P (by omega) (by omega) hreach w hI
  rwa [hv, ha] at this
theorem fault_told (a : Option Addr) (cap : Nat) (zs : List Int) (k : Int) (hreach : zs.length ≤ 9223372036854775807) (n₀ : Nat) (w : World) (hI : IsInts n₀ w a zs) (hk : errOf zs = k) :
    Calls Tryd.prog 6 #[.slice a zs.length cap] w fun e w' => e = .returned (.int .i64 k) ∧ w' = w := by
  have := fault_any a cap zs hreach n₀ w hI
  rwa [hk] at this
theorem place_told (a : Option Addr) (cap : Nat) (zs : List Int) (a' : Option Addr) (cap' : Nat) (ts : List Int) (v k : Int) (hreach : zs.length ≤ 9223372036854775807) (hreach' : ts.length ≤ 9223372036854775807) (w : World) (hI : IsInts w.heap.size w a zs) (hI' : IsInts w.heap.size w a' ts) (hv : plVal zs ts = v) (hk : plErr zs ts = k) :
    Calls Tryd.prog 12 #[.slice a zs.length cap, .slice a' ts.length cap'] w fun e w' => e = .returned (.tuple #[.int .i64 v, errV k]) ∧ Below w.heap.size w w' := by
  have := place_any a cap zs a' cap' ts hreach hreach' w hI hI'
  rwa [hv, hk] at this

set_option maxRecDepth 100000 in
set_option maxHeartbeats 4000000 in
theorem places_walk (a : Option Addr) (cap : Nat) (zs : List Int) (a' : Option Addr) (cap' : Nat) (ts : List Int) (p : Int) (hp1 : -9223372036854775808 ≤ p) (hp2 : p ≤ 9223372036854775807) (hreach : zs.length ≤ 9223372036854775807) (hreach' : ts.length ≤ 9223372036854775807) (w : World) (hg : HasErr w) (hI : IsInts w.heap.size w a zs) (hI' : IsInts w.heap.size w a' ts) :
    Calls Tryd.prog 4 #[.slice a zs.length cap, .slice a' ts.length cap', .int .i64 p] w fun e w' => e = .returned (.bool true) ∧ Below w.heap.size w w' := by
  have HG : Hid (HasErr w) := hg
  clear hg
  by_cases he : errOf zs = 0
  case neg =>
    have HE : Hid (errOf zs ≠ 0) := he
    have hb : (errOf zs == 0) = false := by simp [he]
    have E1 : Hid (plErr zs ts = errOf zs) := plErr_bad he
    have E2 : Hid (atErr zs p = errOf zs) := atErr_bad he
    obtain ⟨k, hk0⟩ : ∃ k, errOf zs = k := ⟨_, rfl⟩
    rw [hk0] at he hb HE E1 E2
    have E0 : Hid (errOf zs = k) := hk0
    clear he hk0
    go_enter Tryd.func4, Tryd.ntmps4
    go_wp2_with fail
    refine (fault_told a cap zs k hreach w.heap.size w hI E0.out).mono ?_
    rintro e w1 ⟨rfl, hw1⟩
    subst hw1
    go_wp2_with fail
    refine (place_told a cap zs a' cap' ts 0 k hreach hreach' w1 hI hI' (plVal_bad (by rw [E1.out]; exact HE.out)) E1.out).mono ?_
    rintro e w2 ⟨rfl, hB2⟩
    go_wp2_with fail
    refine (error_same k w2 (HG.out.below hB2 HG.out.pos)).mono ?_
    rintro e w3 ⟨rfl, hB3'⟩
    have hB3 : Below w1.heap.size w1 w3 := hB2.trans (hB3'.mono hB2.size)
    go_wp2_with fail
    refine (at_bad a cap zs p k hp1 hp2 hreach w3 ((hI.below hB3).mono hB3.size) E2.out HE.out).mono ?_
    rintro e w5 ⟨g5, c5, rfl, hB5'⟩
    have hB5 : Below w1.heap.size w1 w5 := hB3.trans (hB5'.mono hB3.size)
    go_wp2_with fail
    refine (error_same k w5 (HG.out.below hB5 HG.out.pos)).mono ?_
    rintro e w6 ⟨rfl, hB6'⟩
    have hB6 : Below w1.heap.size w1 w6 := hB5.trans (hB6'.mono hB5.size)
    go_wp2_with fail
    refine (ints_nil g5 c5 w6).mono ?_
    rintro e w7 ⟨rfl, hB7'⟩
    have hB7 : Below w1.heap.size w1 w7 := hB6.trans (hB7'.mono hB6.size)
    go_wp2_with fail
    go_ret
    exact ⟨rfl, hB7⟩
  have HE : Hid (errOf zs = 0) := he
  clear he
  by_cases hl : ts.length = zs.length
  case neg =>
    have hne : ((ts.length : Int) != (zs.length : Int)) = true := by simp; omega
    have E1 : Hid (plErr zs ts = 3) := plErr_rank HE.out hl
    go_enter Tryd.func4, Tryd.ntmps4
    go_wp2_with fail
    refine (fault_told a cap zs 0 hreach w.heap.size w hI HE.out).mono ?_
    rintro e w1 ⟨rfl, hw1⟩
    obtain rfl : w1 = w := hw1
    go_wp2_with fail
    refine (place_told a cap zs a' cap' ts 0 3 hreach hreach' w1 hI hI' (plVal_bad (by rw [E1.out]; decide)) E1.out).mono ?_
    rintro e w2 ⟨rfl, hB2⟩
    go_wp2_with fail
    refine (error_same 3 w2 (HG.out.below hB2 HG.out.pos)).mono ?_
    rintro e w3 ⟨rfl, hB3'⟩
    have hB3 : Below w1.heap.size w1 w3 := hB2.trans (hB3'.mono hB2.size)
    clear hne
    by_cases hpn : p < 0
    · have e5 : Hid (atErr zs p = 5) := atErr_index HE.out (.inl hpn)
      have hd1 : decide (p < 0) = true := by simpa using hpn
      go_wp2_with fail
      refine (at_bad a cap zs p 5 hp1 hp2 hreach w3 ((hI.below hB3).mono hB3.size) e5.out (by decide)).mono ?_
      rintro e w5 ⟨g5, c5, rfl, hB5'⟩
      have hB5 : Below w1.heap.size w1 w5 := hB3.trans (hB5'.mono hB3.size)
      go_wp2_with fail
      refine (error_same 5 w5 (HG.out.below hB5 HG.out.pos)).mono ?_
      rintro e w6 ⟨rfl, hB6'⟩
      have hB6 : Below w1.heap.size w1 w6 := hB5.trans (hB6'.mono hB5.size)
      go_wp2_with fail
      refine (ints_nil g5 c5 w6).mono ?_
      rintro e w7 ⟨rfl, hB7'⟩
      have hB7 : Below w1.heap.size w1 w7 := hB6.trans (hB7'.mono hB6.size)
      go_wp2_with fail
      go_ret
      exact ⟨rfl, hB7⟩
    · have hd1 : decide (p < 0) = false := by simpa using hpn
      by_cases hpc : prod zs ≤ p
      · have e5 : Hid (atErr zs p = 5) := atErr_index HE.out (.inr hpc)
        have hd2 : decide (prod zs ≤ p) = true := by simpa using hpc
        go_wp2_with fail
        refine (cells_any a cap zs hreach HE.out w1.heap.size w3 (hI.below hB3)).mono ?_
        rintro e w4 ⟨rfl, hw4⟩
        subst hw4
        go_wp2_with fail
        refine (at_bad a cap zs p 5 hp1 hp2 hreach _ ((hI.below hB3).mono hB3.size) e5.out (by decide)).mono ?_
        rintro e w5 ⟨g5, c5, rfl, hB5'⟩
        have hB5 : Below w1.heap.size w1 w5 := hB3.trans (hB5'.mono hB3.size)
        go_wp2_with fail
        refine (error_same 5 w5 (HG.out.below hB5 HG.out.pos)).mono ?_
        rintro e w6 ⟨rfl, hB6'⟩
        have hB6 : Below w1.heap.size w1 w6 := hB5.trans (hB6'.mono hB5.size)
        go_wp2_with fail
        refine (ints_nil g5 c5 w6).mono ?_
        rintro e w7 ⟨rfl, hB7'⟩
        have hB7 : Below w1.heap.size w1 w7 := hB6.trans (hB7'.mono hB6.size)
        go_wp2_with fail
        go_ret
        exact ⟨rfl, hB7⟩
      · have hd2 : decide (prod zs ≤ p) = false := by simpa using hpc
        obtain ⟨P, hP⟩ := Int.eq_ofNat_of_zero_le (Int.not_lt.1 hpn)
        subst hP
        have HPx : Hid ((P : Int) < prod zs) := Int.not_le.1 hpc
        clear hpn hpc
        go_wp2_with fail
        refine (cells_any a cap zs hreach HE.out w1.heap.size w3 (hI.below hB3)).mono ?_
        rintro e w4 ⟨rfl, hw4⟩
        subst hw4
        go_wp2_with fail
        refine (coords_any a cap zs P HE.out HPx.out _ ((hI.below hB3).mono hB3.size)).mono ?_
        rintro e w4 ⟨g4, c4, rfl, hX4, hB4'⟩
        have hB4 : Below w1.heap.size w1 w4 := hB3.trans (hB4'.mono hB3.size)
        have hcl : (cr zs P).length ≤ 9223372036854775807 := by rw [cr_length]; exact hreach
        generalize hcc : cr zs P = cc at *
        have HCC : Hid (cr zs P = cc) := hcc
        clear hcc
        go_wp2_with fail
        refine (at_good a cap zs P cc HE.out HPx.out HCC.out hreach w4 ((hI.below hB4).mono hB4.size)).mono ?_
        rintro e w5 ⟨g5, c5, rfl, hX5, hB5'⟩
        have hB5 : Below w1.heap.size w1 w5 := hB4.trans (hB5'.mono hB4.size)
        replace hX4 := (hX4.below hB5').mono hB5'.size
        go_wp2_with fail
        refine (error_zero w5 (HG.out.below hB5 HG.out.pos)).mono ?_
        rintro e w6 ⟨rfl, hB6'⟩
        have hB6 : Below w1.heap.size w1 w6 := hB5.trans (hB6'.mono hB5.size)
        replace hX4 := (hX4.below hB6').mono hB6'.size
        replace hX5 := (hX5.below hB6').mono hB6'.size
        go_wp2_with fail
        refine (ints_same g5 c5 g4 c4 cc hcl w6.heap.size w6 hX5 hX4).mono ?_
        rintro e w7 ⟨rfl, hB7'⟩
        have hB7 : Below w1.heap.size w1 w7 := hB6.trans (hB7'.mono hB6.size)
        go_wp2_with fail
        go_ret
        exact ⟨rfl, hB7⟩
  have hne : ((ts.length : Int) != (zs.length : Int)) = false := by simp [hl]
  have HL : Hid (ts.length = zs.length) := hl
  clear hl
  by_cases hins : insB zs ts = true
  case neg =>
    have E1 : Hid (plErr zs ts = 5) := by
      show _ = _
      simp [plErr, HE.out, HL.out, hins]
    have HI : Hid (insB zs ts = false) := by show _ = _; simpa using hins
    clear hins
    go_enter Tryd.func4, Tryd.ntmps4
    go_wp2_with fail
    refine (fault_told a cap zs 0 hreach w.heap.size w hI HE.out).mono ?_
    rintro e w1 ⟨rfl, hw1⟩
    obtain rfl : w1 = w := hw1
    go_wp2_with fail
    refine (inside_any a cap zs a' cap' ts hreach HL.out w1.heap.size w1 hI hI').mono ?_
    rintro e w2 ⟨rfl, hB2⟩
    rw [HI.out]
    go_wp2_with fail
    refine (place_told a cap zs a' cap' ts 0 5 hreach hreach' w2 ((hI.below hB2).mono hB2.size) ((hI'.below hB2).mono hB2.size) (plVal_bad (by rw [E1.out]; decide)) E1.out).mono ?_
    rintro e w3 ⟨rfl, hB3'⟩
    have hB3 : Below w1.heap.size w1 w3 := hB2.trans (hB3'.mono hB2.size)
    go_wp2_with fail
    refine (error_same 5 w3 (HG.out.below hB3 HG.out.pos)).mono ?_
    rintro e w9 ⟨rfl, hB9'⟩
    have hB9 : Below w1.heap.size w1 w9 := hB3.trans (hB9'.mono hB3.size)
    clear hne
    by_cases hpn : p < 0
    · have e5 : Hid (atErr zs p = 5) := atErr_index HE.out (.inl hpn)
      have hd1 : decide (p < 0) = true := by simpa using hpn
      go_wp2_with fail
      refine (at_bad a cap zs p 5 hp1 hp2 hreach w9 ((hI.below hB9).mono hB9.size) e5.out (by decide)).mono ?_
      rintro e w5 ⟨g5, c5, rfl, hB5'⟩
      have hB5 : Below w1.heap.size w1 w5 := hB9.trans (hB5'.mono hB9.size)
      go_wp2_with fail
      refine (error_same 5 w5 (HG.out.below hB5 HG.out.pos)).mono ?_
      rintro e w6 ⟨rfl, hB6'⟩
      have hB6 : Below w1.heap.size w1 w6 := hB5.trans (hB6'.mono hB5.size)
      go_wp2_with fail
      refine (ints_nil g5 c5 w6).mono ?_
      rintro e w7 ⟨rfl, hB7'⟩
      have hB7 : Below w1.heap.size w1 w7 := hB6.trans (hB7'.mono hB6.size)
      go_wp2_with fail
      go_ret
      exact ⟨rfl, hB7⟩
    · have hd1 : decide (p < 0) = false := by simpa using hpn
      by_cases hpc : prod zs ≤ p
      · have e5 : Hid (atErr zs p = 5) := atErr_index HE.out (.inr hpc)
        have hd2 : decide (prod zs ≤ p) = true := by simpa using hpc
        go_wp2_with fail
        refine (cells_any a cap zs hreach HE.out w1.heap.size w9 (hI.below hB9)).mono ?_
        rintro e w4 ⟨rfl, hw4⟩
        subst hw4
        go_wp2_with fail
        refine (at_bad a cap zs p 5 hp1 hp2 hreach _ ((hI.below hB9).mono hB9.size) e5.out (by decide)).mono ?_
        rintro e w5 ⟨g5, c5, rfl, hB5'⟩
        have hB5 : Below w1.heap.size w1 w5 := hB9.trans (hB5'.mono hB9.size)
        go_wp2_with fail
        refine (error_same 5 w5 (HG.out.below hB5 HG.out.pos)).mono ?_
        rintro e w6 ⟨rfl, hB6'⟩
        have hB6 : Below w1.heap.size w1 w6 := hB5.trans (hB6'.mono hB5.size)
        go_wp2_with fail
        refine (ints_nil g5 c5 w6).mono ?_
        rintro e w7 ⟨rfl, hB7'⟩
        have hB7 : Below w1.heap.size w1 w7 := hB6.trans (hB7'.mono hB6.size)
        go_wp2_with fail
        go_ret
        exact ⟨rfl, hB7⟩
      · have hd2 : decide (prod zs ≤ p) = false := by simpa using hpc
        obtain ⟨P, hP⟩ := Int.eq_ofNat_of_zero_le (Int.not_lt.1 hpn)
        subst hP
        have HPx : Hid ((P : Int) < prod zs) := Int.not_le.1 hpc
        clear hpn hpc
        go_wp2_with fail
        refine (cells_any a cap zs hreach HE.out w1.heap.size w9 (hI.below hB9)).mono ?_
        rintro e w4 ⟨rfl, hw4⟩
        subst hw4
        go_wp2_with fail
        refine (coords_any a cap zs P HE.out HPx.out _ ((hI.below hB9).mono hB9.size)).mono ?_
        rintro e w4 ⟨g4, c4, rfl, hX4, hB4'⟩
        have hB4 : Below w1.heap.size w1 w4 := hB9.trans (hB4'.mono hB9.size)
        have hcl : (cr zs P).length ≤ 9223372036854775807 := by rw [cr_length]; exact hreach
        generalize hcc : cr zs P = cc at *
        have HCC : Hid (cr zs P = cc) := hcc
        clear hcc
        go_wp2_with fail
        refine (at_good a cap zs P cc HE.out HPx.out HCC.out hreach w4 ((hI.below hB4).mono hB4.size)).mono ?_
        rintro e w5 ⟨g5, c5, rfl, hX5, hB5'⟩
        have hB5 : Below w1.heap.size w1 w5 := hB4.trans (hB5'.mono hB4.size)
        replace hX4 := (hX4.below hB5').mono hB5'.size
        go_wp2_with fail
        refine (error_zero w5 (HG.out.below hB5 HG.out.pos)).mono ?_
        rintro e w6 ⟨rfl, hB6'⟩
        have hB6 : Below w1.heap.size w1 w6 := hB5.trans (hB6'.mono hB5.size)
        replace hX4 := (hX4.below hB6').mono hB6'.size
        replace hX5 := (hX5.below hB6').mono hB6'.size
        go_wp2_with fail
        refine (ints_same g5 c5 g4 c4 cc hcl w6.heap.size w6 hX5 hX4).mono ?_
        rintro e w7 ⟨rfl, hB7'⟩
        have hB7 : Below w1.heap.size w1 w7 := hB6.trans (hB7'.mono hB6.size)
        go_wp2_with fail
        go_ret
        exact ⟨rfl, hB7⟩
  have HI : Hid (insB zs ts = true) := hins
  have E1 : Hid (plErr zs ts = 0) := plErr_zero.2 ⟨HE.out, hins⟩
  clear hins
  have hpp : (place zs ts != place zs ts) = false := by simp
  go_enter Tryd.func4, Tryd.ntmps4
  go_wp2_with fail
  refine (fault_told a cap zs 0 hreach w.heap.size w hI HE.out).mono ?_
  rintro e w1 ⟨rfl, hw1⟩
  obtain rfl : w1 = w := hw1
  go_wp2_with fail
  refine (inside_any a cap zs a' cap' ts hreach HL.out w1.heap.size w1 hI hI').mono ?_
  rintro e w2 ⟨rfl, hB2⟩
  rw [HI.out]
  go_wp2_with fail
  refine (where_any a cap zs a' cap' ts hreach HE.out HI.out w1.heap.size w2 (hI.below hB2) (hI'.below hB2)).mono ?_
  rintro e w8 ⟨rfl, hw8⟩
  obtain rfl : w8 = w2 := hw8
  go_wp2_with fail
  refine (place_told a cap zs a' cap' ts (place zs ts) 0 hreach hreach' w8 ((hI.below hB2).mono hB2.size) ((hI'.below hB2).mono hB2.size) (plVal_ok E1.out) E1.out).mono ?_
  rintro e w3 ⟨rfl, hB3'⟩
  have hB3 : Below w1.heap.size w1 w3 := hB2.trans (hB3'.mono hB2.size)
  go_wp2_with fail
  refine (error_same 0 w3 (HG.out.below hB3 HG.out.pos)).mono ?_
  rintro e w9 ⟨rfl, hB9'⟩
  have hB9 : Below w1.heap.size w1 w9 := hB3.trans (hB9'.mono hB3.size)
  clear hne
  by_cases hpn : p < 0
  · have e5 : Hid (atErr zs p = 5) := atErr_index HE.out (.inl hpn)
    have hd1 : decide (p < 0) = true := by simpa using hpn
    go_wp2_with fail
    refine (at_bad a cap zs p 5 hp1 hp2 hreach w9 ((hI.below hB9).mono hB9.size) e5.out (by decide)).mono ?_
    rintro e w5 ⟨g5, c5, rfl, hB5'⟩
    have hB5 : Below w1.heap.size w1 w5 := hB9.trans (hB5'.mono hB9.size)
    go_wp2_with fail
    refine (error_same 5 w5 (HG.out.below hB5 HG.out.pos)).mono ?_
    rintro e w6 ⟨rfl, hB6'⟩
    have hB6 : Below w1.heap.size w1 w6 := hB5.trans (hB6'.mono hB5.size)
    go_wp2_with fail
    refine (ints_nil g5 c5 w6).mono ?_
    rintro e w7 ⟨rfl, hB7'⟩
    have hB7 : Below w1.heap.size w1 w7 := hB6.trans (hB7'.mono hB6.size)
    go_wp2_with fail
    go_ret
    exact ⟨rfl, hB7⟩
  · have hd1 : decide (p < 0) = false := by simpa using hpn
    by_cases hpc : prod zs ≤ p
    · have e5 : Hid (atErr zs p = 5) := atErr_index HE.out (.inr hpc)
      have hd2 : decide (prod zs ≤ p) = true := by simpa using hpc
      go_wp2_with fail
      refine (cells_any a cap zs hreach HE.out w1.heap.size w9 (hI.below hB9)).mono ?_
      rintro e w4 ⟨rfl, hw4⟩
      subst hw4
      go_wp2_with fail
      refine (at_bad a cap zs p 5 hp1 hp2 hreach _ ((hI.below hB9).mono hB9.size) e5.out (by decide)).mono ?_
      rintro e w5 ⟨g5, c5, rfl, hB5'⟩
      have hB5 : Below w1.heap.size w1 w5 := hB9.trans (hB5'.mono hB9.size)
      go_wp2_with fail
      refine (error_same 5 w5 (HG.out.below hB5 HG.out.pos)).mono ?_
      rintro e w6 ⟨rfl, hB6'⟩
      have hB6 : Below w1.heap.size w1 w6 := hB5.trans (hB6'.mono hB5.size)
      go_wp2_with fail
      refine (ints_nil g5 c5 w6).mono ?_
      rintro e w7 ⟨rfl, hB7'⟩
      have hB7 : Below w1.heap.size w1 w7 := hB6.trans (hB7'.mono hB6.size)
      go_wp2_with fail
      go_ret
      exact ⟨rfl, hB7⟩
    · have hd2 : decide (prod zs ≤ p) = false := by simpa using hpc
      obtain ⟨P, hP⟩ := Int.eq_ofNat_of_zero_le (Int.not_lt.1 hpn)
      subst hP
      have HPx : Hid ((P : Int) < prod zs) := Int.not_le.1 hpc
      clear hpn hpc
      go_wp2_with fail
      refine (cells_any a cap zs hreach HE.out w1.heap.size w9 (hI.below hB9)).mono ?_
      rintro e w4 ⟨rfl, hw4⟩
      subst hw4
      go_wp2_with fail
      refine (coords_any a cap zs P HE.out HPx.out _ ((hI.below hB9).mono hB9.size)).mono ?_
      rintro e w4 ⟨g4, c4, rfl, hX4, hB4'⟩
      have hB4 : Below w1.heap.size w1 w4 := hB9.trans (hB4'.mono hB9.size)
      have hcl : (cr zs P).length ≤ 9223372036854775807 := by rw [cr_length]; exact hreach
      generalize hcc : cr zs P = cc at *
      have HCC : Hid (cr zs P = cc) := hcc
      clear hcc
      go_wp2_with fail
      refine (at_good a cap zs P cc HE.out HPx.out HCC.out hreach w4 ((hI.below hB4).mono hB4.size)).mono ?_
      rintro e w5 ⟨g5, c5, rfl, hX5, hB5'⟩
      have hB5 : Below w1.heap.size w1 w5 := hB4.trans (hB5'.mono hB4.size)
      replace hX4 := (hX4.below hB5').mono hB5'.size
      go_wp2_with fail
      refine (error_zero w5 (HG.out.below hB5 HG.out.pos)).mono ?_
      rintro e w6 ⟨rfl, hB6'⟩
      have hB6 : Below w1.heap.size w1 w6 := hB5.trans (hB6'.mono hB5.size)
      replace hX4 := (hX4.below hB6').mono hB6'.size
      replace hX5 := (hX5.below hB6').mono hB6'.size
      go_wp2_with fail
      refine (ints_same g5 c5 g4 c4 cc hcl w6.heap.size w6 hX5 hX4).mono ?_
      rintro e w7 ⟨rfl, hB7'⟩
      have hB7 : Below w1.heap.size w1 w7 := hB6.trans (hB7'.mono hB6.size)
      go_wp2_with fail
      go_ret
      exact ⟨rfl, hB7⟩
end Go.Proofs.YtoicddebjmfobaaDoor
