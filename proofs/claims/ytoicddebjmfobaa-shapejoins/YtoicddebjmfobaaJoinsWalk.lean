/-
  The walk of the statement on two shapes joined.
-/
import Derived.Test.YtoicddebjmfobaaJoined
namespace Go.Proofs.Ytoicddebjmfobaa
open Go.RowKit
set_option linter.unusedVariables false

theorem place_fact3 (w : World) : Calls Try.prog 6 #[.slice (some ⟨w.heap.size, 0, none⟩) 3 3, .slice (some ⟨w.heap.size + 1, 0, none⟩) 3 3] ((w.alloc (.cells #[.int .i64 2, .int .i64 3, .int .i64 4] 3)).alloc (.cells #[.int .i64 1, .int .i64 2, .int .i64 3] 3)) fun e w' =>
    e = .returned (.tuple #[.int .i64 23, .nilIface]) ∧ Below w.heap.size w w' := by
  have h1 := ints_new3 w 3 2 3 4
  have h2 := ints_new3 (w.alloc (.cells #[.int .i64 2, .int .i64 3, .int .i64 4] 3)) 3 1 2 3
  have hB : Below (w.alloc (.cells #[.int .i64 2, .int .i64 3, .int .i64 4] 3)).heap.size (w.alloc (.cells #[.int .i64 2, .int .i64 3, .int .i64 4] 3)) ((w.alloc (.cells #[.int .i64 2, .int .i64 3, .int .i64 4] 3)).alloc (.cells #[.int .i64 1, .int .i64 2, .int .i64 3] 3)) := (Below.refl _ _).alloc (Nat.le_refl _) _
  have h := place_ok (some ⟨w.heap.size, 0, none⟩) 3 [2, 3, 4] (some ⟨(w.alloc (.cells #[.int .i64 2, .int .i64 3, .int .i64 4] 3)).heap.size, 0, none⟩) 3 [1, 2, 3] (by simp) (by simp) _ ((h1.below hB).mono hB.size) h2 (by decide)
  have hv : place [2, 3, 4] [1, 2, 3] = 23 := by decide
  rw [hv, World.size_alloc] at h
  refine Calls.mono h ?_
  rintro e w' ⟨rfl, hB'⟩
  exact ⟨rfl, (((Below.refl _ w).alloc (Nat.le_refl _) _).alloc (by simp) _).trans (hB'.mono (by simp; omega))⟩

theorem joined_hid (a : Option Addr) (cap : Nat) (zs : List Int) (a' : Option Addr) (cap' : Nat) (us : List Int) (h1 : zs.length ≤ 6) (h2 : us.length ≤ 6) (w : World) (hI : IsInts w.heap.size w a zs) (hI' : IsInts w.heap.size w a' us) :
    Calls Try.prog 10 #[.slice a zs.length cap, .slice a' us.length cap'] w fun e w' => ∃ g c st, e = .returned (.slice g st.length c) ∧ Hid (st = zs ++ us) ∧ st.length ≤ 12 ∧ IsInts w'.heap.size w' g st ∧ Below w.heap.size w w' :=
  (joined_any a cap zs a' cap' us (by omega) (by omega) w hI hI').mono fun e w' ⟨g, c, h3, h4, h5⟩ => ⟨g, c, _, h3, rfl, by rw [List.length_append]; omega, h4, h5⟩

set_option maxRecDepth 100000 in
set_option maxHeartbeats 1000000 in
theorem joins_walk (a0 : Option Addr) (c0 : Nat) (s : List Int) (a1 : Option Addr) (c1 : Nat) (t : List Int) (a2 : Option Addr) (c2 : Nat) (x : List Int) (a3 : Option Addr) (c3 : Nat) (y : List Int) (hs : s.length ≤ 9223372036854775807) (ht : t.length ≤ 9223372036854775807) (hx : x.length ≤ 9223372036854775807) (hy : y.length ≤ 9223372036854775807) (w : World)
    (I0 : IsInts w.heap.size w a0 s) (I1 : IsInts w.heap.size w a1 t) (I2 : IsInts w.heap.size w a2 x) (I3 : IsInts w.heap.size w a3 y) :
    Calls Try.prog 5 #[.slice a0 s.length c0, .slice a1 t.length c1, .slice a2 x.length c2, .slice a3 y.length c3] w fun e w' => e = .returned (.bool true) ∧ Below w.heap.size w w' := by
  go_enter Try.func5, Try.ntmps5
  go_wp2_with fail
  refine (place_fact3 w).mono ?_
  rintro e w1 ⟨rfl, hB1⟩
  by_cases h1 : 6 < s.length
  · have d1 : decide ((6 : Int) < (s.length : Int)) = true := by simp; omega
    go_wp2_with fail
    go_ret
    exact ⟨rfl, hB1⟩
  by_cases h2 : 6 < t.length
  · have d1 : decide ((6 : Int) < (s.length : Int)) = false := by simp; omega
    have d2 : decide ((6 : Int) < (t.length : Int)) = true := by simp; omega
    go_wp2_with fail
    go_ret
    exact ⟨rfl, hB1⟩
  have d1 : decide ((6 : Int) < (s.length : Int)) = false := by simp; omega
  have d2 : decide ((6 : Int) < (t.length : Int)) = false := by simp; omega
  by_cases h3 : x.length = s.length
  case neg =>
    have d3 : ((x.length : Int) != (s.length : Int)) = true := by simp; omega
    go_wp2_with fail
    go_ret
    exact ⟨rfl, hB1⟩
  by_cases h4 : y.length = t.length
  case neg =>
    have d3 : ((x.length : Int) != (s.length : Int)) = false := by simp [h3]
    have d4 : ((y.length : Int) != (t.length : Int)) = true := by simp; omega
    have H3 : Hid (x.length = s.length) := h3
    clear h3
    go_wp2_with fail
    go_ret
    exact ⟨rfl, hB1⟩
  have d3 : ((x.length : Int) != (s.length : Int)) = false := by simp [h3]
  have d4 : ((y.length : Int) != (t.length : Int)) = false := by simp [h4]
  have H3 : Hid (x.length = s.length) := h3
  have H4 : Hid (y.length = t.length) := h4
  have lx : x.length ≤ 6 := by omega
  have ly : y.length ≤ 6 := by omega
  have ls : s.length ≤ 6 := by omega
  have lt : t.length ≤ 6 := by omega
  clear h1 h2 h3 h4
  go_wp2_with fail
  clear d1 d2 d3 d4
  refine (joined_hid a0 c0 s a1 c1 t ls lt w1 ((I0.below hB1).mono hB1.size) ((I1.below hB1).mono hB1.size)).mono ?_
  rintro e w2 ⟨g2, k2, st, rfl, ES, l2, J2, hB2'⟩
  have hB2 : Below w.heap.size w w2 := hB1.trans (hB2'.mono hB1.size)
  go_wp2_with fail
  refine (joined_hid a2 c2 x a3 c3 y lx ly w2 ((I2.below hB2).mono hB2.size) ((I3.below hB2).mono hB2.size)).mono ?_
  rintro e w3 ⟨g3, k3, xy, rfl, EX, l3, J3, hB3'⟩
  have hB3 : Below w.heap.size w w3 := hB2.trans (hB3'.mono hB2.size)
  replace J2 := (J2.below hB3').mono hB3'.size
  by_cases h5 : plErr st xy = 0
  case neg =>
    have H5 : Hid (plErr st xy ≠ 0) := h5
    clear h5
    go_wp2_with fail
    refine (place_no g2 k2 st g3 k3 xy (by omega) (by omega) w3 J2 J3 H5.out).mono ?_
    rintro e w4 ⟨rfl, hB4'⟩
    have hB4 : Below w.heap.size w w4 := hB3.trans (hB4'.mono hB3.size)
    go_wp2_with fail
    go_ret
    exact ⟨rfl, hB4⟩
  obtain ⟨f1, f2, f3, f4, f5, f6, f7⟩ := join_fact ls lt H3.out (ES.out ▸ EX.out ▸ h5)
  rw [← ES.out, ← EX.out] at f7
  rw [← ES.out] at f5 f6
  have F1 : Hid (plErr s x = 0) := f1
  have F2 : Hid (plErr t y = 0) := f2
  have F3 : Hid (errOf s = 0) := f3
  have F4 : Hid (errOf t = 0) := f4
  have F5 : Hid (errOf st = 0) := f5
  have F6 : Hid (prod st = prod s * prod t) := f6
  have F7 : Hid (place st xy = place s x * prod t + place t y) := f7
  have H5 : Hid (plErr st xy = 0) := h5
  have e6 : wrap64 (prod s * prod t) = prod s * prod t := by
    have q := (errOf_zero.1 f5)
    have q0 := prod_nonneg q.2.1
    exact wrap64_small (by omega) (by omega)
  have e7 : wrap64 (wrap64 (place s x * prod t) + place t y) = place s x * prod t + place t y := by
    have q1 := place_small h5
    have q2 := place_small f2
    have q3 := place_bd (plErr_zero.1 f1).2
    have q4 := place_bd (plErr_zero.1 f2).2
    have q5 : 0 ≤ place s x * prod t := Int.mul_nonneg q3.1 (by omega)
    rw [wrap64_small (n := place s x * prod t) (by omega) (by omega), wrap64_small (by omega) (by omega)]
  have E6 : Hid ((prod st == wrap64 (prod s * prod t)) = true) := by show _ = _; rw [e6, f6]; simp
  have E7 : Hid ((place st xy == wrap64 (wrap64 (place s x * prod t) + place t y)) = true) := by show _ = _; rw [e7, f7]; simp
  clear f1 f2 f3 f4 f5 f6 f7 h5 e6 e7
  go_wp2_with fail
  refine (place_ok g2 k2 st g3 k3 xy (by omega) (by omega) w3 J2 J3 H5.out).mono ?_
  rintro e w4 ⟨rfl, hB4'⟩
  have hB4 : Below w.heap.size w w4 := hB3.trans (hB4'.mono hB3.size)
  go_wp2_with fail
  refine (place_ok a0 c0 s a2 c2 x hs hx w4 ((I0.below hB4).mono hB4.size) ((I2.below hB4).mono hB4.size) F1.out).mono ?_
  rintro e w5 ⟨rfl, hB5'⟩
  have hB5 : Below w.heap.size w w5 := hB4.trans (hB5'.mono hB4.size)
  go_wp2_with fail
  refine (place_ok a1 c1 t a3 c3 y ht hy w5 ((I1.below hB5).mono hB5.size) ((I3.below hB5).mono hB5.size) F2.out).mono ?_
  rintro e w6 ⟨rfl, hB6'⟩
  have hB6 : Below w.heap.size w w6 := hB5.trans (hB6'.mono hB5.size)
  go_wp2_with fail
  refine (count_ok a0 c0 s hs w6 ((I0.below hB6).mono hB6.size) F3.out).mono ?_
  rintro e w7 ⟨rfl, hB7'⟩
  have hB7 : Below w.heap.size w w7 := hB6.trans (hB7'.mono hB6.size)
  go_wp2_with fail
  refine (count_ok a1 c1 t ht w7 ((I1.below hB7).mono hB7.size) F4.out).mono ?_
  rintro e w8 ⟨rfl, hB8'⟩
  have hB8 : Below w.heap.size w w8 := hB7.trans (hB8'.mono hB7.size)
  go_wp2_with fail
  refine (joined_hid a0 c0 s a1 c1 t ls lt w8 ((I0.below hB8).mono hB8.size) ((I1.below hB8).mono hB8.size)).mono ?_
  rintro e w9 ⟨g9, k9, st', rfl, ES', l9, J9, hB9'⟩
  have hB9 : Below w.heap.size w w9 := hB8.trans (hB9'.mono hB8.size)
  go_wp2_with fail
  have est : st' = st := ES'.out.trans ES.out.symm
  subst est
  refine (count_ok g9 k9 st' (by omega) w9 J9 F5.out).mono ?_
  rintro e w10 ⟨rfl, hB10'⟩
  have hB10 : Below w.heap.size w w10 := hB9.trans (hB10'.mono hB9.size)
  have e6 := E6.out
  have e7 := E7.out
  go_wp2_with fail
  go_ret
  exact ⟨rfl, hB10⟩
end Go.Proofs.Ytoicddebjmfobaa
