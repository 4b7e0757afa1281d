/-
  What the statements on orders ask: told as the document says, with errors and without.
-/
import Derived.Test.YtcblakcaoecgpaaDoorRpm1
namespace Go.Proofs.YtcblakcaoecgpaaDoor
open Go.RowKit
set_option linter.unusedVariables false

section
variable (a : Option Addr) (cap : Nat) (p : List Int) (l : Nat) (hl : p.length = l) (w : World) (h1 : l ≤ 9223372036854775807)
theorem err_ok9 (w : World) (hg : HasErr w) : Calls Tryd.prog 8 #[.nilIface, .int .i64 0] w fun e w' => e = .returned (.bool true) ∧ Below w.heap.size w w' := error_same 0 w hg
theorem err_no9 (E : Int) (hE : E ≠ 0) (w : World) (hg : HasErr w) : Calls Tryd.prog 8 #[.iface 23 (.int .i64 E), .int .i64 E] w fun e w' => e = .returned (.bool true) ∧ Below w.heap.size w w' := by
  have h := error_same E w hg
  rw [errV_pos hE] at h
  exact h
theorem ints_ok9 (a : Option Addr) (cap : Nat) (zs : List Int) (l : Nat) (hl : zs.length = l) (b : Option Addr) (bap : Nat) (l' : Nat) (hl' : zs.length = l') (w : World) (hg : HasErr w) (h1 : l ≤ 9223372036854775807) (hs : IsInts w.heap.size w a zs) (hd : IsInts w.heap.size w b zs) :
    Calls Tryd.prog 12 #[.slice a l cap, .nilIface, .slice b l' bap, .int .i64 0] w fun r w' => r = .returned (.bool true) ∧ Below w.heap.size w w' := ints_same 0 a cap zs l hl b bap l' hl' w hg h1 hs hd
theorem ints_no9 (E : Int) (hE : E ≠ 0) (a : Option Addr) (cap : Nat) (w : World) (hg : HasErr w) :
    Calls Tryd.prog 12 #[.slice a 0 cap, .iface 23 (.int .i64 E), .slice none 0 0, .int .i64 E] w fun r w' => r = .returned (.bool true) ∧ Below w.heap.size w w' := by
  have h := ints_same E a cap [] 0 rfl none 0 0 rfl w hg (by decide) (.inl rfl) (.inl rfl)
  rw [errV_pos hE] at h
  exact h
theorem ofault_E (a : Option Addr) (cap : Nat) (p : List Int) (E : Int) (hE : orE p = E) (h1 : p.length ≤ 9223372036854775807) (n₀ : Nat) (w : World) (hI : IsInts n₀ w a p) :
    Calls Tryd.prog 7 #[.slice a p.length cap] w fun e w' => e = .returned (.int .i64 E) ∧ Below w.heap.size w w' :=
  (ofault_any a cap p h1 n₀ w hI).mono fun e w' ⟨h2, h3⟩ => ⟨by rw [h2, hE], by rw [h3]; exact Below.refl _ _⟩
theorem ck_ok (a : Option Addr) (cap : Nat) (p : List Int) (w : World) (h1 : p.length ≤ 9223372036854775807) (hs : IsInts w.heap.size w a p) (T : ∀ j, In64 (nth p j)) (H : CPc) (h : orE p = 0) :
    Calls Tryd.prog 9 #[.slice a p.length cap] w fun r w' => r = .returned .nilIface ∧ Below w.heap.size w w' :=
  (H a cap p w h1 hs T).mono fun e w' ⟨h2, h3⟩ => ⟨by rw [h2, h]; rfl, h3⟩
theorem ck_no (a : Option Addr) (cap : Nat) (p : List Int) (E : Int) (w : World) (h1 : p.length ≤ 9223372036854775807) (hs : IsInts w.heap.size w a p) (T : ∀ j, In64 (nth p j)) (H : CPc) (h : orE p = E) (h0 : E ≠ 0) :
    Calls Tryd.prog 9 #[.slice a p.length cap] w fun r w' => r = .returned (.iface 23 (.int .i64 E)) ∧ Below w.heap.size w w' :=
  (H a cap p w h1 hs T).mono fun e w' ⟨h2, h3⟩ => ⟨by rw [h2, h, errV_pos h0], h3⟩
theorem iv_noE (a : Option Addr) (cap : Nat) (p : List Int) (E : Int) (w : World) (h1 : p.length ≤ 9223372036854775807) (hs : IsInts w.heap.size w a p) (T : ∀ j, In64 (nth p j)) (H : CPi) (h : orE p = E) (h0 : E ≠ 0) :
    Calls Tryd.prog 11 #[.slice a p.length cap] w (NoL E w) := by
  subst h
  exact iv_no a cap p p.length rfl w h1 hs T H h0
theorem af_noE (a : Option Addr) (cap : Nat) (p : List Int) (b : Option Addr) (bap : Nat) (q : List Int) (E : Int) (w : World) (h1 : p.length ≤ 9223372036854775807) (h2 : q.length ≤ 9223372036854775807) (hs : IsInts w.heap.size w a p) (hd : IsInts w.heap.size w b q) (T : ∀ j, In64 (nth p j)) (T' : ∀ j, In64 (nth q j)) (H : CPa) (h : afE p q = E) (h0 : E ≠ 0) :
    Calls Tryd.prog 15 #[.slice a p.length cap, .slice b q.length bap] w (NoL E w) := by
  subst h
  exact af_no a cap p p.length rfl b bap q q.length rfl w h1 h2 hs hd T T' H h0
theorem pw_noE (a : Option Addr) (cap : Nat) (p : List Int) (k : Int) (E : Int) (w : World) (h1 : p.length ≤ 9223372036854775807) (hs : IsInts w.heap.size w a p) (T : ∀ j, In64 (nth p j)) (hk : In64 k) (H : CPw) (h : orE p = E) (h0 : E ≠ 0) :
    Calls Tryd.prog 17 #[.slice a p.length cap, .int .i64 k] w (NoL E w) := by
  subst h
  exact pw_no a cap p p.length rfl k w h1 hs T hk H h0
theorem sg_noE (a : Option Addr) (cap : Nat) (p : List Int) (E : Int) (w : World) (h1 : p.length ≤ 9223372036854775807) (hs : IsInts w.heap.size w a p) (T : ∀ j, In64 (nth p j)) (H : CPs) (h : orE p = E) (h0 : E ≠ 0) :
    Calls Tryd.prog 22 #[.slice a p.length cap] w (NoZ E w) := by
  subst h
  exact (H a cap p w h1 hs T).mono fun r w' h' => UZ.no h0 h'
theorem rn_noE (a : Option Addr) (cap : Nat) (p : List Int) (E : Int) (w : World) (h1 : p.length ≤ 9223372036854775807) (hs : IsC w.heap.size w a p cap) (T : ∀ j, In64 (nth p j)) (H : CPr) (h : rkE p = E) (h0 : E ≠ 0) :
    Calls Tryd.prog 24 #[.slice a p.length cap] w (NoZ E w) := by
  subst h
  exact rn_no a cap p p.length rfl w h1 hs T H h0
theorem un_noE (n k : Int) (E : Int) (w : World) (hn : In64 n) (hk : In64 k) (H : CPu) (h : urE n k = E) (h0 : E ≠ 0) :
    Calls Tryd.prog 27 #[.int .i64 n, .int .i64 k] w (NoL E w) := by
  subst h
  exact un_no n k w hn hk H h0
end
set_option maxRecDepth 100000 in
set_option maxHeartbeats 1000000 in
theorem both_any (a : Option Addr) (cap : Nat) (p : List Int) (b : Option Addr) (bap : Nat) (q : List Int) (E : Int) (hE : afE p q = E) (h1 : p.length ≤ 9223372036854775807) (h2 : q.length ≤ 9223372036854775807) (w : World) (hI : IsInts w.heap.size w a p) (hI' : IsInts w.heap.size w b q) :
    Calls Tryd.prog 13 #[.slice a p.length cap, .slice b q.length bap] w fun e w' => e = .returned (.int .i64 E) ∧ Below w.heap.size w w' := by
  have HI : Hid (IsInts w.heap.size w a p ∧ IsInts w.heap.size w b q) := ⟨hI, hI'⟩
  have HE : Hid (E = if orE p ≠ 0 then orE p else if orE q ≠ 0 then orE q else if p.length ≠ q.length then 4 else 0) := hE.symm
  clear hI hI' hE
  obtain ⟨X, hX⟩ : ∃ X, X = orE p := ⟨_, rfl⟩
  obtain ⟨Y, hY⟩ : ∃ Y, Y = orE q := ⟨_, rfl⟩
  rw [← hX, ← hY] at HE
  have HX : Hid (orE p = X ∧ orE q = Y) := ⟨hX.symm, hY.symm⟩
  clear hX hY
  by_cases h0 : X = 0
  · subst h0
    by_cases h3 : Y = 0
    · subst h3
      by_cases h4 : p.length = q.length
      · have hfin : Hid (E = 0) := by show _ = _; rw [HE.out, if_neg (by simp), if_neg (by simp), if_neg (not_not_intro h4)]
        have hne : ((p.length : Int) != (q.length : Int)) = false := by simp [h4]
        clear h4 HE
        go_enter Tryd.func13, Tryd.ntmps13
        go_wp2_with fail
        refine (ofault_E a cap p 0 HX.out.1 h1 _ w HI.out.1).mono ?_
        rintro e w1 ⟨rfl, hB⟩
        have HB : Hid (Below w.heap.size w w1) := hB
        clear hB
        go_wp2_with fail
        refine (ofault_E b bap q 0 HX.out.2 h2 _ w1 (HI.out.2.below HB.out)).mono ?_
        rintro e w2 ⟨rfl, hB⟩
        have HB2 : Hid (Below w.heap.size w w2) := HB.out.trans (hB.mono HB.out.size)
        clear hB
        go_wp2_with fail
        go_ret
        exact ⟨ret_int1 hfin.out.symm, HB2.out⟩
      · have hfin : Hid (E = 4) := by show _ = _; rw [HE.out, if_neg (by simp), if_neg (by simp), if_pos h4]
        have hne : ((p.length : Int) != (q.length : Int)) = true := by simp; omega
        clear h4 HE
        go_enter Tryd.func13, Tryd.ntmps13
        go_wp2_with fail
        refine (ofault_E a cap p 0 HX.out.1 h1 _ w HI.out.1).mono ?_
        rintro e w1 ⟨rfl, hB⟩
        have HB : Hid (Below w.heap.size w w1) := hB
        clear hB
        go_wp2_with fail
        refine (ofault_E b bap q 0 HX.out.2 h2 _ w1 (HI.out.2.below HB.out)).mono ?_
        rintro e w2 ⟨rfl, hB⟩
        have HB2 : Hid (Below w.heap.size w w2) := HB.out.trans (hB.mono HB.out.size)
        clear hB
        go_wp2_with fail
        go_ret
        exact ⟨ret_int1 hfin.out.symm, HB2.out⟩
    · have hfin : Hid (E = Y) := by show _ = _; rw [HE.out, if_neg (by simp), if_pos h3]
      have hz : (Y == 0) = false := by simp [h3]
      clear HE h3
      go_enter Tryd.func13, Tryd.ntmps13
      go_wp2_with fail
      refine (ofault_E a cap p 0 HX.out.1 h1 _ w HI.out.1).mono ?_
      rintro e w1 ⟨rfl, hB⟩
      have HB : Hid (Below w.heap.size w w1) := hB
      clear hB
      go_wp2_with fail
      refine (ofault_E b bap q Y HX.out.2 h2 _ w1 (HI.out.2.below HB.out)).mono ?_
      rintro e w2 ⟨rfl, hB⟩
      have HB2 : Hid (Below w.heap.size w w2) := HB.out.trans (hB.mono HB.out.size)
      clear hB
      go_wp2_with fail
      go_ret
      exact ⟨ret_int1 hfin.out.symm, HB2.out⟩
  · have hfin : Hid (E = X) := by show _ = _; rw [HE.out, if_pos h0]
    have hz : (X == 0) = false := by simp [h0]
    clear HE h0
    go_enter Tryd.func13, Tryd.ntmps13
    go_wp2_with fail
    refine (ofault_E a cap p X HX.out.1 h1 _ w HI.out.1).mono ?_
    rintro e w1 ⟨rfl, hB⟩
    have HB : Hid (Below w.heap.size w w1) := hB
    clear hB
    go_wp2_with fail
    go_ret
    exact ⟨ret_int1 hfin.out.symm, HB.out⟩
end Go.Proofs.YtcblakcaoecgpaaDoor
