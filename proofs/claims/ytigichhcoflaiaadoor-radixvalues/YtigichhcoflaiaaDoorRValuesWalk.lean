/-
  The walk of the statement RadixValues, given what the program tells.
-/
import Derived.Test.YtigichhcoflaiaaDoorRdr
import Derived.Test.YtigichhcoflaiaaDoorErr
import Derived.Test.YtigichhcoflaiaaDoorBas9
namespace Go.Proofs.YtigichhcoflaiaaDoor
open Go.RowKit
set_option linter.unusedVariables false

theorem err_ok11 (w : World) (hg : HasErr w) : Calls Tryd.prog 9 #[.nilIface, .int .i64 0] w fun e w' => e = .returned (.bool true) ∧ Below w.heap.size w w' := error_same 0 w hg
theorem err_no11 (E : Int) (hE : E ≠ 0) (w : World) (hg : HasErr w) : Calls Tryd.prog 9 #[.iface 23 (.int .i64 E), .int .i64 E] w fun e w' => e = .returned (.bool true) ∧ Below w.heap.size w w' := by
  have h := error_same E w hg
  rw [errV_pos hE] at h
  exact h
set_option maxRecDepth 100000 in
set_option maxHeartbeats 1000000 in
theorem ints_same11 (e : Int) (a : Option Addr) (cap : Nat) (zs : List Int) (b : Option Addr) (bap : Nat) (w : World) (hg : HasErr w) (h1 : zs.length ≤ 9223372036854775807) (hs : IsInts w.heap.size w a zs) (hd : IsInts w.heap.size w b zs) :
    Calls Tryd.prog 6 #[.slice a zs.length cap, errV e, .slice b zs.length bap, .int .i64 e] w fun r w' => r = .returned (.bool true) ∧ Below w.heap.size w w' := by
  have HI : Hid (IsInts w.heap.size w a zs ∧ IsInts w.heap.size w b zs) := ⟨hs, hd⟩
  clear hs hd
  go_enter Tryd.func6, Tryd.ntmps6
  go_wp2_with fail
  refine (error_same e w hg).mono ?_
  rintro r w1 ⟨rfl, hB⟩
  have HB : Hid (Below w.heap.size w w1) := hB
  clear hB hg
  go_wp2_with fail
  refine (ints_any a cap zs b bap zs h1 _ w1 ((HI.out.1.below HB.out).mono HB.out.size) ((HI.out.2.below HB.out).mono HB.out.size)).mono ?_
  rintro r w2 ⟨rfl, hB2⟩
  rw [eqB_true rfl]
  go_wp2_with fail
  go_ret
  exact ⟨rfl, HB.out.trans (hB2.mono HB.out.size)⟩
theorem ints_ok11 (a : Option Addr) (cap : Nat) (zs : List Int) (l : Nat) (hl : zs.length = l) (b : Option Addr) (bap : Nat) (l' : Nat) (hl' : zs.length = l') (w : World) (hg : HasErr w) (h1 : l ≤ 9223372036854775807) (hs : IsInts w.heap.size w a zs) (hd : IsInts w.heap.size w b zs) :
    Calls Tryd.prog 6 #[.slice a l cap, .nilIface, .slice b l' bap, .int .i64 0] w fun r w' => r = .returned (.bool true) ∧ Below w.heap.size w w' := by
  subst hl hl'
  exact ints_same11 0 a cap zs b bap w hg h1 hs hd
theorem ints_no11 (E : Int) (hE : E ≠ 0) (a : Option Addr) (cap : Nat) (w : World) (hg : HasErr w) :
    Calls Tryd.prog 6 #[.slice a 0 cap, .iface 23 (.int .i64 E), .slice none 0 0, .int .i64 E] w fun r w' => r = .returned (.bool true) ∧ Below w.heap.size w w' := by
  have h := ints_same11 E a cap [] none 0 w hg (by decide) (.inl rfl) (.inl rfl)
  rw [errV_pos hE] at h
  exact h
set_option maxRecDepth 100000 in
set_option maxHeartbeats 4000000 in
theorem values_full (HV : CVa) (HG : CDg) (a1 : Option Addr) (c1 : Nat) (b : List Int) (x1 : b.length ≤ 9223372036854775807) (T1 : ∀ j, In64 (nth b j)) (a2 : Option Addr) (c2 : Nat) (d : List Int) (x2 : d.length ≤ 9223372036854775807) (n : Int) (hn : In64 n) (w : World) (hg : HasErr w) (w1 : IsC w.heap.size w a1 b c1) (w2 : IsInts w.heap.size w a2 d) (hf : 4096 < b.length) :
    Calls Tryd.prog 3 #[.slice a1 b.length c1, .slice a2 d.length c2, .int .i64 n] w fun e w' => e = .returned (.bool true) ∧ Below w.heap.size w w' := by
  have hC := dg_no a1 c1 b n 7 w x1 w1.1 T1 hn HG (by unfold dgE; rw [if_pos hf]) (by decide)
  have HC2 : Hid (∀ u, Below w.heap.size w u → Calls Tryd.prog 8 #[.slice a1 b.length c1, .slice a2 d.length c2] u (NoZ 7 u)) := fun u hu => va_no a1 c1 b a2 c2 d 7 u x1 x2 ((w1.1.below hu).mono hu.size) ((w2.below hu).mono hu.size) HV (by unfold vaE; rw [if_pos hf]) (by decide)
  have HE : Hid (HasErr w) := hg
  clear w1 w2 T1 hg
  go_enter Tryd.func3, Tryd.ntmps3
  go_wp2_with fail
  refine hC.mono ?_
  rintro e v1 ⟨g, gc, rfl, hN, hB⟩
  clear hC hN
  go_wp2_with fail
  refine (ints_no11 7 (by decide) g gc v1 (HE.out.below hB HE.out.pos)).mono ?_
  rintro e v2 ⟨rfl, hB2⟩
  replace hB := hB.trans (hB2.mono hB.size)
  clear hB2
  go_wp2_with fail
  refine (HC2.out v2 hB).mono ?_
  rintro e v3 ⟨rfl, hB2⟩
  replace hB := hB.trans (hB2.mono hB.size)
  clear hB2
  go_wp2_with fail
  refine (err_no11 7 (by decide) v3 (HE.out.below hB HE.out.pos)).mono ?_
  rintro e v4 ⟨rfl, hB2⟩
  replace hB := hB.trans (hB2.mono hB.size)
  clear hB2
  go_wp2_with fail
  go_ret
  exact ⟨rfl, hB⟩
set_option maxRecDepth 100000 in
set_option maxHeartbeats 4000000 in
theorem values_else (HV : CVa) (HG : CDg) (a1 : Option Addr) (c1 : Nat) (b : List Int) (T1 : ∀ j, In64 (nth b j)) (a2 : Option Addr) (c2 : Nat) (d : List Int) (x2 : d.length ≤ 9223372036854775807) (T2 : ∀ j, In64 (nth d j)) (n : Int) (hn : In64 n) (w : World) (hg : HasErr w) (w1 : IsC w.heap.size w a1 b c1) (w2 : IsInts w.heap.size w a2 d) (hf : b.length ≤ 4096) :
    Calls Tryd.prog 3 #[.slice a1 b.length c1, .slice a2 d.length c2, .int .i64 n] w fun e w' => e = .returned (.bool true) ∧ Below w.heap.size w w' := by
  have hC := digited_any b a1 c1 n w hf w1 T1 hn
  have HC1 : Hid (∀ u, Below w.heap.size w u → Calls Tryd.prog 5 #[.slice a1 b.length c1, .int .i64 n] u (OkL (dgV b n) u)) := fun u hu => dg_ok a1 c1 b b.length rfl n u hf ((w1.1.below hu).mono hu.size) T1 hn (dgV b n) HG rfl
  have HI : Hid (IsC w.heap.size w a1 b c1 ∧ IsInts w.heap.size w a2 d ∧ (∀ j, In64 (nth d j)) ∧ (dgV b n).length = b.length) := ⟨w1, w2, T2, dgV_length b n⟩
  have HE : Hid (HasErr w) := hg
  clear w1 w2 T1 T2 hg
  generalize dgV b n = D at *
  go_enter Tryd.func3, Tryd.ntmps3
  go_wp2_with fail
  refine hC.mono ?_
  rintro e v0 ⟨g0, gc0, rfl, hN0, hB⟩
  clear hC
  go_wp2_with fail
  refine (HC1.out v0 hB).mono ?_
  rintro e v1 ⟨g, gc, rfl, hN, hB1⟩
  clear HC1
  have HN : Hid (IsInts v1.heap.size v1 g D ∧ IsInts v1.heap.size v1 g0 D) := ⟨hN.ints.1, (hN0.go hB1).ints.1⟩
  replace hB := hB.trans (hB1.mono hB.size)
  clear hB1 hN hN0
  go_wp2_with fail
  refine (ints_ok11 g gc D D.length rfl g0 gc0 b.length HI.out.2.2.2 v1 (HE.out.below hB HE.out.pos) (by rw [HI.out.2.2.2]; omega) HN.out.1 HN.out.2).mono ?_
  rintro e v2 ⟨rfl, hB2⟩
  replace hB := hB.trans (hB2.mono hB.size)
  clear hB2 HN
  by_cases hl : d.length = b.length
  · have hne : ((b.length : Int) != (d.length : Int)) = false := by rw [hl]; simp
    have hC2 := valued_any a1 c1 b a2 c2 d hl hf v2 ((HI.out.1.1.below hB).mono hB.size) ((HI.out.2.1.below hB).mono hB.size) HI.out.2.2.1
    have HC3 : Hid (∀ u, Below w.heap.size w u → Calls Tryd.prog 8 #[.slice a1 b.length c1, .slice a2 d.length c2] u (OkZ (vaV b d) u)) := fun u hu => va_ok a1 c1 b b.length rfl a2 c2 d d.length rfl u hf hl ((HI.out.1.1.below hu).mono hu.size) ((HI.out.2.1.below hu).mono hu.size) (vaV b d) HV rfl
    clear hl
    generalize vaV b d = V at *
    go_wp2_with fail
    refine hC2.mono ?_
    rintro e v3 ⟨rfl, hB2⟩
    replace hB := hB.trans (hB2.mono hB.size)
    clear hB2 hC2
    go_wp2_with fail
    refine (HC3.out v3 hB).mono ?_
    rintro e v4 ⟨rfl, hB2⟩
    replace hB := hB.trans (hB2.mono hB.size)
    clear hB2 HC3
    go_wp2_with fail
    refine (err_ok11 v4 (HE.out.below hB HE.out.pos)).mono ?_
    rintro e v5 ⟨rfl, hB2⟩
    replace hB := hB.trans (hB2.mono hB.size)
    clear hB2
    have hVV : (V == V) = true := by simp
    go_wp2_with fail
    go_ret
    exact ⟨rfl, hB⟩
  · have hne : ((b.length : Int) != (d.length : Int)) = true := by rw [bne_iff_ne]; omega
    have HC3 : Hid (∀ u, Below w.heap.size w u → Calls Tryd.prog 8 #[.slice a1 b.length c1, .slice a2 d.length c2] u (NoZ 4 u)) := fun u hu => va_no a1 c1 b a2 c2 d 4 u (by omega) x2 ((HI.out.1.1.below hu).mono hu.size) ((HI.out.2.1.below hu).mono hu.size) HV (by unfold vaE; rw [if_neg (by omega), if_pos hl]) (by decide)
    clear hl
    go_wp2_with fail
    refine (HC3.out v2 hB).mono ?_
    rintro e v4 ⟨rfl, hB2⟩
    replace hB := hB.trans (hB2.mono hB.size)
    clear hB2 HC3
    go_wp2_with fail
    refine (err_no11 4 (by decide) v4 (HE.out.below hB HE.out.pos)).mono ?_
    rintro e v5 ⟨rfl, hB2⟩
    replace hB := hB.trans (hB2.mono hB.size)
    clear hB2
    go_wp2_with fail
    go_ret
    exact ⟨rfl, hB⟩
theorem rvalues_walk (HV : CVa) (HG : CDg) (a1 : Option Addr) (c1 : Nat) (b : List Int) (x1 : b.length ≤ 9223372036854775807) (T1 : ∀ j, In64 (nth b j)) (a2 : Option Addr) (c2 : Nat) (d : List Int) (x2 : d.length ≤ 9223372036854775807) (T2 : ∀ j, In64 (nth d j)) (n : Int) (hn : In64 n) (w : World) (hg : HasErr w) (w1 : IsC w.heap.size w a1 b c1) (w2 : IsInts w.heap.size w a2 d) :
    Calls Tryd.prog 3 #[.slice a1 b.length c1, .slice a2 d.length c2, .int .i64 n] w fun e w' => e = .returned (.bool true) ∧ Below w.heap.size w w' := by
  by_cases hf : 4096 < b.length
  · exact values_full HV HG a1 c1 b x1 T1 a2 c2 d x2 n hn w hg w1 w2 hf
  · exact values_else HV HG a1 c1 b T1 a2 c2 d x2 T2 n hn w hg w1 w2 (by omega)
end Go.Proofs.YtigichhcoflaiaaDoor
