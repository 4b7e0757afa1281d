/-
  The walk of the statement on axes that go and come back.
-/
import Derived.Test.YtkadepneehdffaaAxes
import Derived.Test.YtkadepneehdffaaBk
import Derived.Test.YtkadepneehdffaaBase
namespace Go.Proofs.Ytkadepneehdffaa
open Go.RowKit
set_option linter.unusedVariables false

theorem axes_ok (a : Option Addr) (cap : Nat) (zs : List Int) (a' : Option Addr) (cap' : Nat) (ps : List Int) (hreach : zs.length ≤ 9223372036854775807) (hreach' : ps.length ≤ 9223372036854775807) (w : World) (hI : IsInts w.heap.size w a zs) (hI' : IsInts w.heap.size w a' ps) (h : axErr zs ps = 0) :
    Calls Try.prog 7 #[.slice a zs.length cap, .slice a' ps.length cap'] w fun e w' => ∃ g c t, e = .returned (.tuple #[.slice g t.length c, .nilIface]) ∧ Hid (t = axVal zs ps) ∧ IsInts w'.heap.size w' g t ∧ Below w.heap.size w w' :=
  (axes_any a cap zs a' cap' ps hreach hreach' w hI hI').mono fun e w' ⟨g, c, h1, h2, h3⟩ => ⟨g, c, _, by rw [h1, h]; rfl, rfl, h2, h3⟩
theorem axes_no (a : Option Addr) (cap : Nat) (zs : List Int) (a' : Option Addr) (cap' : Nat) (ps : List Int) (hreach : zs.length ≤ 9223372036854775807) (hreach' : ps.length ≤ 9223372036854775807) (w : World) (hI : IsInts w.heap.size w a zs) (hI' : IsInts w.heap.size w a' ps) (h : axErr zs ps ≠ 0) :
    Calls Try.prog 7 #[.slice a zs.length cap, .slice a' ps.length cap'] w fun e w' => ∃ g c n, e = .returned (.tuple #[.slice g n c, .iface 47 (.int .i64 (axErr zs ps))]) ∧ Below w.heap.size w w' :=
  (axes_any a cap zs a' cap' ps hreach hreach' w hI hI').mono fun e w' ⟨g, c, h1, _, h3⟩ => ⟨g, c, (axVal zs ps).length, by rw [h1, errV_pos h], h3⟩
theorem ints_new3 (w : World) (t : TypeId) (x y z : Int) : IsInts (w.alloc (.cells #[.int .i64 x, .int .i64 y, .int .i64 z] t)).heap.size (w.alloc (.cells #[.int .i64 x, .int .i64 y, .int .i64 z] t)) (some ⟨w.heap.size, 0, none⟩) [x, y, z] := by
  refine .inr ⟨w.heap.size, 0, rfl, by simp, fun j hj => ?_⟩
  have hb : (w.alloc (.cells #[.int .i64 x, .int .i64 y, .int .i64 z] t)).heap[w.heap.size]? = some (.cells #[.int .i64 x, .int .i64 y, .int .i64 z] t (0, 0)) := World.alloc_heap_new w _
  simp only [List.length_cons, List.length_nil] at hj
  rcases (by omega : j = 0 ∨ j = 1 ∨ j = 2) with rfl | rfl | rfl <;> (simp only [World.cell?, hb]; rfl)
theorem axes_fact (w : World) : Calls Try.prog 7 #[.slice (some ⟨w.heap.size, 0, none⟩) 3 3, .slice (some ⟨w.heap.size + 1, 0, none⟩) 3 3] ((w.alloc (.cells #[.int .i64 2, .int .i64 3, .int .i64 4] 3)).alloc (.cells #[.int .i64 1, .int .i64 2, .int .i64 0] 3)) fun e w' =>
    ∃ g c, e = .returned (.tuple #[.slice g 3 c, .nilIface]) ∧ IsInts w'.heap.size w' g [4, 2, 3] ∧ Below w.heap.size w w' := by
  have h1 := ints_new3 w 3 2 3 4
  have h2 := ints_new3 (w.alloc (.cells #[.int .i64 2, .int .i64 3, .int .i64 4] 3)) 3 1 2 0
  have hB : Below (w.alloc (.cells #[.int .i64 2, .int .i64 3, .int .i64 4] 3)).heap.size (w.alloc (.cells #[.int .i64 2, .int .i64 3, .int .i64 4] 3)) ((w.alloc (.cells #[.int .i64 2, .int .i64 3, .int .i64 4] 3)).alloc (.cells #[.int .i64 1, .int .i64 2, .int .i64 0] 3)) := (Below.refl _ _).alloc (Nat.le_refl _) _
  have h := axes_any (some ⟨w.heap.size, 0, none⟩) 3 [2, 3, 4] (some ⟨(w.alloc (.cells #[.int .i64 2, .int .i64 3, .int .i64 4] 3)).heap.size, 0, none⟩) 3 [1, 2, 0] (by simp) (by simp) _ ((h1.below hB).mono hB.size) h2
  have hv : axVal [2, 3, 4] [1, 2, 0] = [4, 2, 3] := by decide
  have he : axErr [2, 3, 4] [1, 2, 0] = 0 := by decide
  rw [hv, he, World.size_alloc] at h
  refine Calls.mono h ?_
  rintro e w' ⟨g, c, rfl, hX, hB'⟩
  exact ⟨g, c, rfl, hX, (((Below.refl _ w).alloc (Nat.le_refl _) _).alloc (by simp) _).trans (hB'.mono (by simp; omega))⟩
theorem ints_fact (g : Option Addr) (c : Nat) (w : World) (hX : IsInts w.heap.size w g [4, 2, 3]) : Calls Try.prog 8 #[.slice g 3 c, .slice (some ⟨w.heap.size, 0, none⟩) 3 3] (w.alloc (.cells #[.int .i64 4, .int .i64 2, .int .i64 3] 3)) fun e w' => e = .returned (.bool true) ∧ Below w.heap.size w w' := by
  have hB : Below w.heap.size w (w.alloc (.cells #[.int .i64 4, .int .i64 2, .int .i64 3] 3)) := (Below.refl _ _).alloc (Nat.le_refl _) _
  have h := ints_any g c [4, 2, 3] (some ⟨w.heap.size, 0, none⟩) 3 [4, 2, 3] (by simp) _ _ ((hX.below hB).mono hB.size) (ints_new3 w 3 4 2 3)
  refine Calls.mono h ?_
  rintro e w' ⟨rfl, hB'⟩
  exact ⟨by rw [eqB_true rfl], hB.trans (hB'.mono hB.size)⟩
theorem ints_same (a : Option Addr) (cap : Nat) (a' : Option Addr) (cap' : Nat) (us : List Int) (hreach : us.length ≤ 9223372036854775807) (n₀ : Nat) (w : World) (hI : IsInts n₀ w a us) (hI' : IsInts n₀ w a' us) :
    Calls Try.prog 8 #[.slice a us.length cap, .slice a' us.length cap'] w fun e w' => e = .returned (.bool true) ∧ Below w.heap.size w w' :=
  (ints_any a cap us a' cap' us hreach n₀ w hI hI').mono fun e w' ⟨h1, h2⟩ => ⟨by rw [h1, eqB_true rfl], h2⟩
/-- All that is wanted of a flip and the flip back. -/
theorem flip_facts {zs ps t q : List Int} (h : axErr zs ps = 0) (ht : t = axVal zs ps) (hq : q = bkl ps ps.length) : axErr t q = 0 ∧ axVal t q = zs ∧ errOf zs = 0 ∧ errOf t = 0 ∧ prod zs = prod t ∧ t.length ≤ 6 ∧ q.length ≤ 6 := by
  obtain ⟨h1, h2, h3⟩ := axErr_zero.1 h
  have hs := axVal_spec h
  rw [← ht] at hs
  have hb := bkl_spec h3
  rw [← hq] at hb
  have hp := hs.perm h3 h2
  have e1 := errOf_perm hp.symm h1
  have e2 : axErr t q = 0 := axErr_zero.2 ⟨e1, by rw [hb.1, hs.1, h2], hb.ord h3⟩
  have hz := (errOf_zero.1 h1).1
  exact ⟨e2, flip_back h3 h2 hs hb (axVal_spec e2), h1, e1, (prod_perm hp).symm, by rw [hs.1]; exact hz, by rw [hb.1, h2]; exact hz⟩

set_option maxRecDepth 100000 in
set_option maxHeartbeats 1000000 in
theorem flips_walk (a : Option Addr) (cap : Nat) (zs : List Int) (a' : Option Addr) (cap' : Nat) (ps : List Int) (hreach : zs.length ≤ 9223372036854775807) (hreach' : ps.length ≤ 9223372036854775807) (w : World) (hI : IsInts w.heap.size w a zs) (hI' : IsInts w.heap.size w a' ps) :
    Calls Try.prog 3 #[.slice a zs.length cap, .slice a' ps.length cap'] w fun e w' => e = .returned (.bool true) ∧ Below w.heap.size w w' := by
  go_enter Try.func3, Try.ntmps3
  go_wp2_with fail
  refine (axes_fact w).mono ?_
  rintro e w1 ⟨g1, k1, rfl, hX1, hB1⟩
  go_wp2_with fail
  refine (ints_fact g1 k1 w1 hX1).mono ?_
  rintro e w2 ⟨rfl, hB2'⟩
  have hB2 : Below w.heap.size w w2 := hB1.trans (hB2'.mono hB1.size)
  clear hX1
  by_cases h1 : axErr zs ps = 0
  case neg =>
    have H1 : Hid (axErr zs ps ≠ 0) := h1
    clear h1
    go_wp2_with fail
    refine (axes_no a cap zs a' cap' ps hreach hreach' w2 ((hI.below hB2).mono hB2.size) ((hI'.below hB2).mono hB2.size) H1.out).mono ?_
    rintro e w3 ⟨g3, k3, n3, rfl, hB3'⟩
    have hB3 : Below w.heap.size w w3 := hB2.trans (hB3'.mono hB2.size)
    go_wp2_with fail
    go_ret
    exact ⟨rfl, hB3⟩
  have H1 : Hid (axErr zs ps = 0) := h1
  clear h1
  go_wp2_with fail
  refine (axes_ok a cap zs a' cap' ps hreach hreach' w2 ((hI.below hB2).mono hB2.size) ((hI'.below hB2).mono hB2.size) H1.out).mono ?_
  rintro e w3 ⟨g3, k3, t, rfl, HT, hX3, hB3'⟩
  have hB3 : Below w.heap.size w w3 := hB2.trans (hB3'.mono hB2.size)
  have HO : Hid (IsOrd ps ∧ ps.length ≤ 6) := ⟨(axErr_zero.1 H1.out).2.2, by have := axErr_zero.1 H1.out; have := (errOf_zero.1 this.1).1; omega⟩
  go_wp2_with fail
  refine (bk_any a' cap' ps (by have := HO.out.2; omega) HO.out.1 w3 ((hI'.below hB3).mono hB3.size)).mono ?_
  rintro e w4 ⟨g4, k4, q, rfl, HQ, hX4, hB4'⟩
  have hB4 : Below w.heap.size w w4 := hB3.trans (hB4'.mono hB3.size)
  replace hX3 := (hX3.below hB4').mono hB4'.size
  obtain ⟨f1, f2, f3, f4, f5, f6, f7⟩ := flip_facts H1.out HT.out HQ.out
  have F1 : Hid (axErr t q = 0) := f1
  have F2 : Hid (axVal t q = zs) := f2
  have F3 : Hid (errOf zs = 0) := f3
  have F4 : Hid (errOf t = 0) := f4
  have F5 : Hid ((prod zs == prod t) = true) := by show _ = _; rw [f5]; simp
  clear f1 f2 f3 f4 f5
  go_wp2_with fail
  refine (axes_ok g3 k3 t g4 k4 q (by omega) (by omega) w4 hX3 hX4 F1.out).mono ?_
  rintro e w5 ⟨g5, k5, u, rfl, HU, hX5, hB5'⟩
  have hB5 : Below w.heap.size w w5 := hB4.trans (hB5'.mono hB4.size)
  have eu : u = zs := HU.out.trans F2.out
  subst eu
  go_wp2_with fail
  refine (count_ok a cap u hreach w5 ((hI.below hB5).mono hB5.size) F3.out).mono ?_
  rintro e w6 ⟨rfl, hB6'⟩
  have hB6 : Below w.heap.size w w6 := hB5.trans (hB6'.mono hB5.size)
  go_wp2_with fail
  refine (count_ok g3 k3 t (by omega) w6 (((hX3.below hB5').mono hB5'.size |>.below hB6').mono hB6'.size) F4.out).mono ?_
  rintro e w7 ⟨rfl, hB7'⟩
  have hB7 : Below w.heap.size w w7 := hB6.trans (hB7'.mono hB6.size)
  go_wp2_with fail
  refine (ints_same g5 k5 a cap u hreach w7.heap.size w7 ((((hX5.below hB6').mono hB6'.size).below hB7').mono hB7'.size) ((hI.below hB7).mono hB7.size)).mono ?_
  rintro e w8 ⟨rfl, hB8'⟩
  have hB8 : Below w.heap.size w w8 := hB7.trans (hB8'.mono hB7.size)
  have f5 := F5.out
  go_wp2_with fail
  go_ret
  exact ⟨rfl, hB8⟩
end Go.Proofs.Ytkadepneehdffaa
