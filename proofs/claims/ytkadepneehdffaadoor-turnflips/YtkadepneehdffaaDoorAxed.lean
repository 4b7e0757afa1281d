/-
  The document's answer on a shape with its axes in another order.
-/
import Derived.Test.YtkadepneehdffaaDoorBase
import Derived.Test.YtkadepneehdffaaDoorOnce
namespace Go.Proofs.YtkadepneehdffaaDoor
open Go.RowKit
set_option linter.unusedVariables false

theorem axVal_snoc {zs ps : List Int} (h : axErr zs ps = 0) {i t : Nat} (hi : i < zs.length) (e : nth ps i = t) (ht : t < zs.length) : (axVal zs ps).take (t + 1) = (axVal zs ps).take t ++ [nth zs i] := by
  have hs := axVal_spec h
  have h1 := hs.2 i hi
  rw [e, Int.toNat_natCast] at h1
  rw [take_snoc _ t (by rw [hs.1]; exact ht), h1]

set_option maxRecDepth 100000 in
set_option maxHeartbeats 2000000 in
theorem axed_new (a : Option Addr) (cap : Nat) (zs : List Int) (a' : Option Addr) (cap' : Nat) (ps : List Int) (hreach : zs.length ≤ 9223372036854775807) (hreach' : ps.length ≤ 9223372036854775807) (w : World) (hI : IsInts w.heap.size w a zs) (hI' : IsInts w.heap.size w a' ps) :
    Calls Tryd.prog 5 #[.slice a zs.length cap, .slice a' ps.length cap'] w fun e w' => ∃ g c, e = .returned (.tuple #[.slice g (axVal zs ps).length c, .int .i64 (axErr zs ps)]) ∧ NewInts w.heap.size w' g (axVal zs ps) ∧ Below w.heap.size w w' := by
  by_cases he : errOf zs = 0
  case neg =>
    have hb : (errOf zs != 0) = true := by simp [he]
    have HE : Hid (errOf zs ≠ 0) := he
    clear he
    go_enter Tryd.func5, Tryd.ntmps5
    go_wp2_with fail
    refine (fault_any a cap zs hreach w.heap.size w hI).mono ?_
    rintro e w1 ⟨rfl, rfl⟩
    go_wp2_with fail
    go_ret2
    refine ⟨none, 0, ret2s (n := 0) ?_ (int_eq ?_), ?_, Below.refl _ _⟩
    · rw [axVal_bad (by rw [axErr_bad HE.out]; exact HE.out)]; rfl
    · rw [axErr_bad HE.out]
    · rw [axVal_bad (by rw [axErr_bad HE.out]; exact HE.out)]; exact .inl rfl
  have HE : Hid (errOf zs = 0) := he
  have hlz : zs.length ≤ 6 := (errOf_zero.1 he).1
  clear he
  by_cases hl : ps.length = zs.length
  case neg =>
    have e4 : Hid (axErr zs ps = 4) := axErr_len HE.out hl
    have hne : ((ps.length : Int) != (zs.length : Int)) = true := by simp; omega
    go_enter Tryd.func5, Tryd.ntmps5
    go_wp2_with fail
    refine (fault_any a cap zs hreach w.heap.size w hI).mono ?_
    rintro e w1 ⟨rfl, rfl⟩
    rw [HE.out]
    go_wp2_with fail
    go_ret2
    refine ⟨none, 0, ret2s (n := 0) ?_ (int_eq e4.out.symm), ?_, Below.refl _ _⟩
    · rw [axVal_bad (by rw [e4.out]; decide)]; rfl
    · rw [axVal_bad (by rw [e4.out]; decide)]; exact .inl rfl
  have hne : ((ps.length : Int) != (zs.length : Int)) = false := by simp [hl]
  have HL : Hid (ps.length = zs.length) := hl
  have hlp : ps.length ≤ 6 := by omega
  clear hl
  by_cases ho : ordB ps = true
  case neg =>
    have ho' : ordB ps = false := by simpa using ho
    have e5 : Hid (axErr zs ps = 5) := axErr_ord HE.out HL.out (fun h => ho ((ordB_iff ps).2 h))
    have HO : Hid (ordB ps = false) := ho'
    clear ho ho'
    go_enter Tryd.func5, Tryd.ntmps5
    go_wp2_with fail
    refine (fault_any a cap zs hreach w.heap.size w hI).mono ?_
    rintro e w1 ⟨rfl, rfl⟩
    rw [HE.out]
    go_wp2_with fail
    refine (once_any a' cap' ps (by omega) w1.heap.size w1 hI').mono ?_
    rintro e w2 ⟨rfl, rfl⟩
    rw [HO.out]
    go_wp2_with fail
    go_ret2
    refine ⟨none, 0, ret2s (n := 0) ?_ (int_eq e5.out.symm), ?_, Below.refl _ _⟩
    · rw [axVal_bad (by rw [e5.out]; decide)]; rfl
    · rw [axVal_bad (by rw [e5.out]; decide)]; exact .inl rfl
  have HB : Hid (ordB ps = true) := ho
  have HO : Hid (IsOrd ps) := (ordB_iff ps).1 ho
  have e0 : Hid (axErr zs ps = 0) := axErr_zero.2 ⟨HE.out, HL.out, HO.out⟩
  clear ho
  have HT : Hid (∀ i t : Nat, i < zs.length → nth ps i = (t : Int) → t < zs.length → (axVal zs ps).take (t + 1) = (axVal zs ps).take t ++ [nth zs i]) := fun i t h1 h2 h3 => axVal_snoc e0.out h1 h2 h3
  have HTl : Hid ((axVal zs ps).length = zs.length) := (axVal_spec e0.out).1
  generalize axVal zs ps = T at *
  rw [e0.out]
  obtain ⟨i0, hi, hz0, hz1, hz2⟩ := info_parts Tryd.infoInt
  go_enter Tryd.func5, Tryd.ntmps5
  go_wp2_with fail
  refine (fault_any a cap zs hreach w.heap.size w hI).mono ?_
  rintro e w1 ⟨rfl, h1⟩
  subst h1
  rw [HE.out]
  go_wp2_with fail
  refine (once_any a' cap' ps (by omega) w1.heap.size w1 hI').mono ?_
  rintro e w2 ⟨rfl, h2⟩
  subst h2
  rw [HB.out]
  clear hne HB
  go_wp2_with fail
  go_loopw [7, 8] (fun v i wr => ∃ t : Nat, t ≤ zs.length ∧ i = .int .i64 t ∧ wr.ownsRow w2.heap.size 3 1 v t ((T.take t).map (Value.int .i64)) ∧ Below w2.heap.size w2 wr) (fun _ i _ => zs.length - (intOf i).toNat)
  case atStart => exact ⟨0, Nat.zero_le _, rfl, World.ownsRow_nil _ _ _ _, Below.refl _ _⟩
  case round =>
    obtain ⟨t, ht, rfl, hown, hB⟩ := hrel
    by_cases hlt : t < zs.length
    · have HS : Hid (∃ i, i < ps.length ∧ nth ps i = (t : Int)) := HO.out.surj (by rw [HL.out]; exact hlt)
      obtain ⟨i, hip, hie⟩ := HS.out
      have hiz : i < zs.length := by rw [← HL.out]; exact hip
      have HI : Hid (nth ps i = (t : Int)) := hie
      clear hie HS
      go_wp2_with fail
      go_loopw [7, 9] (fun v c wr => ∃ k : Nat, k ≤ zs.length ∧ c = .int .i64 k ∧ ((k ≤ i ∧ wr.ownsRow w2.heap.size 3 1 v t ((T.take t).map (Value.int .i64))) ∨ (i < k ∧ wr.ownsRow w2.heap.size 3 1 v (t + 1) ((T.take (t + 1)).map (Value.int .i64)))) ∧ Below w2.heap.size w2 wr) (fun _ c _ => zs.length - (intOf c).toNat)
      case atStart => exact ⟨0, Nat.zero_le _, rfl, .inl ⟨Nat.zero_le _, hown⟩, hB⟩
      case round =>
        clear hown hB
        obtain ⟨k, hk, rfl, hcase, hB⟩ := hrel
        by_cases hkl : k < zs.length
        · have hkp : k < ps.length := by rw [HL.out]; exact hkl
          obtain ⟨b, off, rfl, hb, hcell⟩ := (hI.below hB).at hkl
          obtain ⟨b', off', rfl, hb', hcell'⟩ := (hI'.below hB).at hkp
          have hc := hcell k hkl
          have hc' := hcell' k hkp
          clear hcell hcell'
          cases h3 : (nth ps k == (t : Int)) with
          | true =>
            have hki : k = i := HO.out.inj hkp hip (by rw [HI.out]; exact eq_of_beq h3)
            rcases hcase with ⟨_, hown⟩ | ⟨hgt, _⟩
            · have hsn := HT.out i t hiz HI.out hlt
              have HN : Hid (T.take (t + 1) = T.take t ++ [nth zs k]) := by rw [hki]; exact hsn
              clear hsn
              have HK : Hid (k = i) := hki
              clear hki
              have hbs := hB.size
              go_wp2_with (at_builtin; refine wpList_append_own _ rfl _ _ 22 rfl w2.heap.size 3 i0 (.int .i64 0) 1 8 Tryd.underlying22 hi hz0 hz1 hz2 rfl (by decide) _ _ _ rfl (hown.alloc _) ⟨wr.heap.size, 0, none⟩ 1 1 [.int .i64 (nth zs k)] rfl rfl (cell_one_new _ _ _) (fun x hx => by simp at hx; subst hx; rfl) (by unfold maxLen; omega) (by omega) (by simp; omega) ?_; intro v' w3 hown' hgrow3 hnil3)
              have hB3 : Below w2.heap.size w2 w3 := owns_below hB hbs hown hgrow3
              exact ⟨⟨k + 1, by omega, by go_num, .inr ⟨by have := HK.out; omega, by rw [HN.out, List.map_append]; exact hown'⟩, hB3⟩, by simp [intOf]; omega⟩
            · omega
          | false =>
            have hki : k ≠ i := by
              intro e
              rw [e, HI.out] at h3
              simp at h3
            have HC : Hid ((k + 1 ≤ i ∧ wr.ownsRow w2.heap.size 3 1 _ t ((T.take t).map (Value.int .i64))) ∨ (i < k + 1 ∧ wr.ownsRow w2.heap.size 3 1 _ (t + 1) ((T.take (t + 1)).map (Value.int .i64)))) :=
              hcase.elim (fun h => .inl ⟨by omega, h.2⟩) (fun h => .inr ⟨by omega, h.2⟩)
            clear hcase hki
            go_wp2_with fail
            go_roundw
            case rel => exact ⟨k + 1, by omega, by go_num, HC.out, hB⟩
            case measure => simp [intOf]; omega
        · obtain rfl : k = zs.length := by omega
          rcases hcase with ⟨h6, _⟩ | ⟨_, hown⟩
          · omega
          · go_wp2_with fail
            go_roundw
            case rel => exact ⟨t + 1, by omega, by go_num, hown, hB⟩
            case measure => simp [intOf]; omega
    · obtain rfl : t = zs.length := by omega
      have hTT : T.take zs.length = T := by rw [← HTl.out, List.take_length]
      rw [hTT] at hown
      obtain ⟨g, c, rfl, hIJ⟩ := owns_new hown
      clear hTT
      go_wp2_with fail
      go_ret2
      exact ⟨g, c, rfl, hIJ, hB⟩
theorem axed_any (a : Option Addr) (cap : Nat) (zs : List Int) (a' : Option Addr) (cap' : Nat) (ps : List Int) (hreach : zs.length ≤ 9223372036854775807) (hreach' : ps.length ≤ 9223372036854775807) (w : World) (hI : IsInts w.heap.size w a zs) (hI' : IsInts w.heap.size w a' ps) :
    Calls Tryd.prog 5 #[.slice a zs.length cap, .slice a' ps.length cap'] w fun e w' => ∃ g c, e = .returned (.tuple #[.slice g (axVal zs ps).length c, .int .i64 (axErr zs ps)]) ∧ IsInts w'.heap.size w' g (axVal zs ps) ∧ Below w.heap.size w w' :=
  (axed_new a cap zs a' cap' ps hreach hreach' w hI hI').mono fun e w' ⟨g, c, h1, h2, h3⟩ => ⟨g, c, h1, h2.ints, h3⟩
end Go.Proofs.YtkadepneehdffaaDoor
