/-
  What the program's finder tells, and what it finds.
-/
import Derived.Laws.EntriesVeiled
import Derived.Test.YteieliajdfbipaaSkm
import Derived.Test.YteieliajdfbipaaBase
namespace Go.Proofs.Yteieliajdfbipaa
open Go.RowKit
set_option linter.unusedVariables false

set_option maxRecDepth 100000 in
set_option maxHeartbeats 1000000 in
theorem find1_any (lo p : Nat) (c ch : Bool) (dz : List Int) (x : Int) (T : In64 x) (w : World) (h : Finds lo w p c ch dz) :
    Calls Try.prog 30 #[.int .i64 x, .pointer (some ⟨p, 0, none⟩)] w fun e w' => e = .returned (.tuple #[.int .i64 (fdV c ch x dz), .bool (hsB c dz ch x)]) ∧ w' = w := by
  obtain ⟨_, _, B, n, D, _, hc, hown, hF⟩ := h
  have HF : Hid (FndD D c ch dz) := hF
  have HO : Hid (w.ownsMap Try.prog 3 (plainElem Try.prog 3) B n D) := hown
  have HT : Hid (In64 x) := T
  have hh : Maps.has D (.int .i64 x) = hsB c dz ch x := (hF x).1
  clear hF hown T
  go_enter Try.func30, Try.ntmps30
  go_wp2_with (at_lookup; refine wpList_lookup_own_ok_int _ rfl _ _ 49 rfl 3 3 .i64 law8 Try.underlying49 Try.underlying3 (zero8 _) B n D rfl HO.out _ _ rfl (key8 HT.out) ?_; intro a hat hwc; rw [hh])
  go_ret2
  exact ⟨by rw [fdV_of HF.out hat]; rfl, rfl⟩
/-- What the program's finder tells. -/
def FinderP (c ch : Bool) (dz : List Int) (w : World) (e : Ending) (w' : World) : Prop :=
  ∃ p, e = .returned (.func (.func 30) #[] #[.pointer (some ⟨p, 0, none⟩)]) ∧ Finds w.heap.size w' p c ch dz ∧ Below w.heap.size w w'
set_option maxRecDepth 100000 in
set_option maxHeartbeats 2000000 in
theorem finder_any (c : Bool) (S : Value) (da : Option Addr) (dc : Nat) (dz : List Int) (ch : Bool) (h2 : dz.length ≤ 4096) (w : World) (hd : IsInts w.heap.size w da dz) (T : ∀ j, In64 (nth dz j)) :
    Calls Try.prog 17 #[.agg #[.bool c, S, .slice da dz.length dc], .bool ch] w (FinderP c ch dz w) := by
  have HD : Hid (IsInts w.heap.size w da dz) := hd
  have HT : Hid (∀ j, In64 (nth dz j)) := T
  have hmm := @run_makeMap Try.prog
  clear hd T
  by_cases hk : c = ch
  · subst hk
    go_enter Try.func17, Try.ntmps17
    go_wp2_with fail
    go_loopw [18] (fun i wr => ∃ k : Nat, k ≤ dz.length ∧ i = .int .i64 k ∧ (∃ D : DataW Unit, wr.ownsMap Try.prog 3 (plainElem Try.prog 3) (w.heap.size + 1) k D ∧ FirstD D (dz.take k)) ∧ wr.heap[w.heap.size + 2]? = some (.cells #[.map (some (w.heap.size + 1))] 49 (0, 0)) ∧ Below w.heap.size w wr) (fun i _ => dz.length - (intOf i).toNat)
    case atStart =>
      refine ⟨0, Nat.zero_le _, rfl, ⟨.map [], ?_, firstD_nil⟩, ?_, (((Below.refl _ w).alloc (Nat.le_refl _) _).alloc (by simp) _).alloc (by simp; omega) _⟩
      · have := World.ownsMap_made (H := Unit) (w.alloc (.cells #[.bool c, S, .slice da dz.length dc] 24)) Try.prog 3 (plainElem Try.prog 3)
        rw [World.size_alloc] at this
        exact this.alloc _
      · have := heap_alloc_new ((w.alloc (.cells #[.bool c, S, .slice da dz.length dc] 24)).alloc (.map #[] 0)) (.cells #[.map (some (w.heap.size + 1))] 49 (0, 0))
        rw [World.size_alloc, World.size_alloc] at this
        exact this
    case round =>
      obtain ⟨k, hk, rfl, ⟨D, hown, hF⟩, hbx, hB⟩ := hrel
      have HO : Hid (wr.ownsMap Try.prog 3 (plainElem Try.prog 3) (w.heap.size + 1) k D) := hown
      have HF : Hid (FirstD D (dz.take k)) := hF
      have HX : Hid (wr.heap[w.heap.size + 2]? = some (.cells #[.map (some (w.heap.size + 1))] 49 (0, 0))) := hbx
      have HB : Hid (Below w.heap.size w wr) := hB
      have cb := cell_of_one hbx
      clear hown hF hbx hB
      by_cases hlt : k < dz.length
      · obtain ⟨b, off, rfl, hb, hc⟩ := (HD.out.below HB.out).at hlt
        have ck := hc k hlt
        clear hc
        obtain ⟨x, hx⟩ : ∃ x, x = nth dz k := ⟨_, rfl⟩
        have HTx : Hid (In64 x) := by rw [hx]; exact HT.out k
        have hh := (HF.out x).1
        rw [← hx] at ck
        have HX2 : Hid (x = nth dz k) := hx
        clear hx
        by_cases hm : x ∈ dz.take k
        · rw [decide_eq_true hm] at hh
          have HS : Hid (FirstD D (dz.take (k + 1))) := firstD_seen HF.out hlt (by rw [← HX2.out]; exact hm)
          clear hm
          go_wp2_with (at_lookup; refine wpList_lookup_own_ok_int _ rfl _ _ 49 rfl 3 3 .i64 law8 Try.underlying49 Try.underlying3 (zero8 _) (w.heap.size + 1) k D rfl HO.out _ _ rfl (key8 HTx.out) ?_; intro a hat hwc; rw [hh])
          exact ⟨⟨k + 1, by omega, by go_num, ⟨D, HO.out.mono (Nat.le_succ _), HS.out⟩, HX.out, HB.out⟩, by simp [intOf]; omega⟩
        · rw [decide_eq_false hm] at hh
          have HS : Hid (FirstD (D.put (.int .i64 x) (.lit (.int .i64 k))) (dz.take (k + 1))) := by rw [HX2.out]; exact firstD_new HO.out.isMap HF.out hlt (by rw [← HX2.out]; exact hm) trivial
          clear hm
          go_wp2_with (first | (at_lookup; refine wpList_lookup_own_ok_int _ rfl _ _ 49 rfl 3 3 .i64 law8 Try.underlying49 Try.underlying3 (zero8 _) (w.heap.size + 1) k D rfl HO.out _ _ rfl (key8 HTx.out) ?_; intro a hat hwc; rw [hh]) | (at_mapUpdate; refine wpList_mapUpdate_own _ rfl _ _ _ 49 rfl 3 3 law8 Try.underlying49 _ (w.heap.size + 1) k D rfl HO.out (by unfold maxLen; omega) _ _ _ rfl rfl (key8 HTx.out) _ [] (plainElem_int Try.underlying3 (WalkArith.wf_i64 (by omega))) ?_; intro w1 hown1 hgrow1))
          refine ⟨⟨k + 1, by omega, by go_num, ⟨_, hown1, HS.out⟩, ?_, ?_⟩, by simp [intOf]; omega⟩
          · have := hgrow1.block (w.heap.size + 2) (Array.getElem?_eq_some_iff.1 HX.out).1 (by simp)
            exact this.trans HX.out
          · exact HB.out.grown hgrow1 HB.out.size (fun j hj => by cases hj; omega)
      · obtain rfl : k = dz.length := by omega
        have hF' := HF.out
        rw [List.take_length] at hF'
        have hlt2 : w.heap.size + 2 < wr.heap.size := (Array.getElem?_eq_some_iff.1 HX.out).1
        have HG : Hid (Finds w.heap.size wr (w.heap.size + 2) c c dz) := ⟨by omega, hlt2, w.heap.size + 1, dz.length, D, by omega, cb, HO.out, fndD_of rfl hF'⟩
        clear hF'
        go_wp2_with fail
        go_ret
        exact ⟨w.heap.size + 2, rfl, HG.out, HB.out⟩
  · have hkk : (c == ch) = false := by simpa using hk
    have HK : Hid (c ≠ ch) := hk
    clear hk
    go_enter Try.func17, Try.ntmps17
    go_wp2_with fail
    go_ret
    refine ⟨w.heap.size + 2, rfl, ⟨by omega, by simp, w.heap.size + 1, 0, .map [], by omega, ?_, ?_, fndD_no HK.out firstD_nil⟩, (((Below.refl _ w).alloc (Nat.le_refl _) _).alloc (by simp) _).alloc (by simp; omega) _⟩
    · have := heap_alloc_new ((w.alloc (.cells #[.bool c, S, .slice da dz.length dc] 24)).alloc (.map #[] 0)) (.cells #[.map (some (w.heap.size + 1))] 49 (0, 0))
      rw [World.size_alloc, World.size_alloc] at this
      exact cell_of_one this
    · have := World.ownsMap_made (H := Unit) (w.alloc (.cells #[.bool c, S, .slice da dz.length dc] 24)) Try.prog 3 (plainElem Try.prog 3)
      rw [World.size_alloc] at this
      exact this.alloc _
end Go.Proofs.Yteieliajdfbipaa
