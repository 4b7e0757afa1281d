/-
  May a text stand between quotes? And the program reads Chars.
-/
import Derived.Test.YthfdpfekjcdlbaaDoorLxd
import Derived.Lib.SpaceUEq
namespace Go.Proofs.YthfdpfekjcdlbaaDoor
open Go.RowKit Go.Lib
set_option linter.unusedVariables false

theorem dec_low (n b0 b1 b2 b3 : Nat) : ((decodeN n b0 b1 b2 b3).1 < 32 → b0 < 32) ∧ (¬ (decodeN n b0 b1 b2 b3).1 < 32 → 32 ≤ b0) := by
  unfold decodeN
  repeat' split
  all_goals (simp only; omega)
/-- Behind a character that is not below 32 no byte is. -/
theorem low_step {s : ByteArray} {i : Nat} (hi : i < s.size) :
    ((decodeL (tl s i)).1 < 32 → bt s i < 32) ∧ (¬ (decodeL (tl s i)).1 < 32 → ∀ q, q < (decodeL (tl s i)).2 → 32 ≤ bt s (i + q)) := by
  rw [tl_dec]
  have h1 := dec_low (s.size - i) (bt s i) (bt s (i + 1)) (bt s (i + 2)) (bt s (i + 3))
  have h2 := decodeN_conts (s.size - i) (bt s i) (bt s (i + 1)) (bt s (i + 2)) (bt s (i + 3))
  refine ⟨h1.1, fun h q hq => ?_⟩
  have h3 := h1.2 h
  generalize (decodeN (s.size - i) (bt s i) (bt s (i + 1)) (bt s (i + 2)) (bt s (i + 3))).2 = k at *
  rcases (by omega : q = 0 ∨ q = 1 ∨ q = 2 ∨ q = 3) with rfl | rfl | rfl | rfl
  · exact h3
  · have := (h2.1 (by omega)).1; omega
  · have := (h2.2.1 (by omega)).1; omega
  · have := (h2.2.2.1 (by omega)).1; omega
theorem qbl_no {s : ByteArray} {i : Nat} (hi : i < s.size) (h : bt s i < 32) : qbl (tl s 0) = false := by
  unfold qbl
  have hl : i < s.data.toList.length := by rw [← size_eq]; exact hi
  have : (tl s 0).all (fun b => decide (32 ≤ b.toNat)) = false := by
    rw [tl_zero, List.all_eq_false]
    refine ⟨s.data.toList[i], List.getElem_mem hl, ?_⟩
    have e : bt s i = (s.data.toList[i]).toNat := by unfold bt; rw [List.getD_eq_getElem?_getD, List.getElem?_eq_getElem hl]; rfl
    rw [e] at h
    rw [decide_eq_false (by omega)]; exact Bool.false_ne_true
  rw [this, Bool.and_false]
theorem qbl_yes {s : ByteArray} (h : ∀ j, j < s.size → 32 ≤ bt s j) : qbl (tl s 0) = validD (tl s 0) := by
  unfold qbl
  have : (tl s 0).all (fun b => decide (32 ≤ b.toNat)) = true := by
    rw [tl_zero, List.all_eq_true]
    intro b hb
    obtain ⟨j, hj, rfl⟩ := List.getElem_of_mem hb
    have := h j (by rw [size_eq]; exact hj)
    unfold bt at this
    rw [List.getD_eq_getElem?_getD, List.getElem?_eq_getElem hj] at this
    exact decide_eq_true this
  rw [this, Bool.and_true]
theorem valid17 (s : ByteArray) (w : World) (hs : s.size ≤ 9223372036854775807) (hT : Lib.Utf8Tabs (Tryd.laysValid_ren.g 3) (Tryd.laysValid_ren.g 4) w) :
    Calls Tryd.prog 67 #[.string s] w fun e w' => e = .returned (.bool (validD (tl s 0))) ∧ Below w.heap.size w w' :=
  Any.utf8_ValidString Tryd.laysValid s w hs hT
set_option maxRecDepth 100000 in
set_option maxHeartbeats 4000000 in
theorem arec_any (s : ByteArray) (hs : s.size ≤ 9223372036854775807) (w : World) (hT : Lib.Utf8Tabs (Tryd.laysValid_ren.g 3) (Tryd.laysValid_ren.g 4) w) :
    Calls Tryd.prog 41 #[.string s] w fun e w' => e = .returned (.bool (qbl (tl s 0))) ∧ Below w.heap.size w w' := by
  have HT : Hid (Lib.Utf8Tabs (Tryd.laysValid_ren.g 3) (Tryd.laysValid_ren.g 4) w) := hT
  clear hT
  go_enter Tryd.func41, Tryd.ntmps41
  go_wp2_with fail
  go_loopw [4] (fun _ wr => ∃ pos : Nat, pos ≤ s.size ∧ Hid (∀ j, j < pos → 32 ≤ bt s j) ∧ wr.heap[w.heap.size]? = some (.stringIter s pos) ∧ Below w.heap.size w wr) (fun _ wr => s.size - wr.iterPos w.heap.size)
  case atStart =>
    exact ⟨0, Nat.zero_le _, (fun j hj => by omega : ∀ j, j < 0 → 32 ≤ bt s j), World.iter_heap w s 0, (Below.refl _ w).alloc (Nat.le_refl _) _⟩
  case round =>
    obtain ⟨pos, hpl, HL, hit, hB⟩ := hrel
    have HB : Hid (Below w.heap.size w wr) := hB
    clear hB
    by_cases hp : pos < s.size
    · have hnx : ∀ ty, (Instr.next (.pointer (some ⟨w.heap.size, 0, none⟩)) true ty).run Tryd.prog wr = _ := fun ty => Lib.run_next_any_at wr w.heap.size s pos ty hit hp
      rw [← tl_utf] at hnx
      have hst := low_step (s := s) hp
      have hwd := decodeL_le (tl s pos) (tl_ne hp)
      have hw1 := decodeL_width (tl s pos)
      rw [show (tl s pos).length = s.size - pos by rw [tl, List.length_drop, ← size_eq]] at hwd
      generalize (decodeL (tl s pos)).1 = c at *
      generalize (decodeL (tl s pos)).2 = m at *
      have hit2 := Lib.iterAt_heap wr w.heap.size s pos (pos + m) hit
      have hB2 : Hid (Below w.heap.size w (wr.iterAt w.heap.size s (pos + m))) := Lib.below_iterAt HB.out (k := w.heap.size) (Nat.le_refl _) s (pos + m)
      have HI : Hid (wr.heap[w.heap.size]? = some (.stringIter s pos)) := hit
      clear hit
      obtain ⟨wi, hwi⟩ : ∃ wi, wi = wr.iterAt w.heap.size s (pos + m) := ⟨_, rfl⟩
      rw [← hwi] at hnx hit2 hB2
      clear hwi
      by_cases he : c < 32
      · have HE : Hid (qbl (tl s 0) = false) := qbl_no hp (hst.1 he)
        have te : (c : Int) < 32 := by omega
        clear hst
        go_wp2_with fail
        go_ret
        exact ⟨ret_bool HE.out.symm, hB2.out⟩
      · have HE : Hid (∀ j, j < pos + m → 32 ≤ bt s j) := fun j hj => by
          by_cases hjp : j < pos
          · exact HL.out j hjp
          · have := hst.2 he (j - pos) (by omega)
            rw [show pos + (j - pos) = j by omega] at this; exact this
        have te : ¬ (c : Int) < 32 := by omega
        clear hst
        go_wp2_with fail
        refine ⟨⟨pos + m, by omega, HE, hit2, hB2.out⟩, ?_⟩
        simp only [World.iterPos, hit2, HI.out]
        omega
    · have hnx : ∀ ty, (Instr.next (.pointer (some ⟨w.heap.size, 0, none⟩)) true ty).run Tryd.prog wr = _ := fun ty => Lib.run_next_end_at wr w.heap.size s pos ty hit hp
      have HE : Hid (qbl (tl s 0) = validD (tl s 0)) := qbl_yes (fun j hj => HL.out j (by omega))
      go_wp2_with fail
      refine (valid17 s _ hs (tabs_go HT.out HB.out)).mono ?_
      rintro e w2 ⟨rfl, hB2⟩
      go_wp2_with fail
      go_ret
      exact ⟨ret_bool HE.out.symm, HB.out.trans (hB2.mono HB.out.size)⟩
end Go.Proofs.YthfdpfekjcdlbaaDoor
