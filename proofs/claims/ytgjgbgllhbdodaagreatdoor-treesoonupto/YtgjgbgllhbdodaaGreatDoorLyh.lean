
/-
  The program tells a word's text.
-/
import Derived.Test.YtgjgbgllhbdodaaGreatDoorLyg
namespace Go.Proofs.YtgjgbgllhbdodaaGreatDoor
open Go.RowKit Go.Lib
set_option linter.unusedVariables false

theorem str_ret {a b : ByteArray} (h : a = b) : Ending.returned (.string a) = .returned (.string b) := by rw [h]
theorem quo_cat (l : List UInt8) : (⟨#[39]⟩ : ByteArray) ++ (⟨l.toArray⟩ : ByteArray) ++ (⟨#[39]⟩ : ByteArray) = ⟨(39 :: l ++ [39]).toArray⟩ := by
  apply ByteArray.ext
  apply Array.toList_inj.1
  rw [ByteArray.data_append, ByteArray.data_append]; simp
set_option maxRecDepth 100000 in
set_option maxHeartbeats 2000000 in
theorem spell_1 (f n : Int) (X : ByteArray) (a : Int) (w : World) (hn : InR n) (h : Spl w) :
    Calls Tryz.prog 68 #[.agg #[.int .i64 1, .int .i64 f, .int .i64 n, .string X, .int .i64 a]] w fun e w' => e = .returned (.string ⟨(digS n).toArray⟩) ∧ Below w.heap.size w w' := by
  have HB : Hid (Below w.heap.size w (w.alloc (.cells #[.int .i64 1, .int .i64 f, .int .i64 n, .string X, .int .i64 a] 30))) := (Below.refl _ w).alloc (Nat.le_refl _) _
  have HS : Hid (Spl (w.alloc (.cells #[.int .i64 1, .int .i64 f, .int .i64 n, .string X, .int .i64 a] 30))) := h.go HB.out
  obtain ⟨Y, hY⟩ : ∃ Y : ByteArray, Y = ⟨(Lib.itoa n).toArray⟩ := ⟨_, rfl⟩
  have hci := itoa_any17 n hn _ HS.out
  rw [← hY] at hci
  have HY : Hid (Y = ⟨(Lib.itoa n).toArray⟩) := hY
  clear hY
  go_enter Tryz.func68, Tryz.ntmps68
  go_wp2_with fail
  refine (hci).mono ?_
  rintro e w1 ⟨rfl, hB1⟩
  have HB1 : Hid (Below w.heap.size w w1) := HB.out.trans (hB1.mono HB.out.size)
  have HS1 : Hid (Spl w1) := HS.out.go hB1
  clear hB1
  go_wp2_with fail
  refine (repl_any17 n hn Y HY.out _ HS1.out).mono ?_
  rintro e w2 ⟨rfl, hB2⟩
  have HB2 : Hid (Below w.heap.size w w2) := HB1.out.trans (hB2.mono HB1.out.size)
  clear hB2
  go_wp2_with fail
  go_ret
  exact ⟨rfl, HB2.out⟩
set_option maxRecDepth 100000 in
set_option maxHeartbeats 2000000 in
theorem spell_2 (f n : Int) (X : ByteArray) (a : Int) (w : World) (hs : X.size ≤ 1000000) (h : Spl w) :
    Calls Tryz.prog 68 #[.agg #[.int .i64 2, .int .i64 f, .int .i64 n, .string X, .int .i64 a]] w fun e w' => e = .returned (.string ⟨(39 :: dblQ X.data.toList ++ [39]).toArray⟩) ∧ Below w.heap.size w w' := by
  have HB : Hid (Below w.heap.size w (w.alloc (.cells #[.int .i64 2, .int .i64 f, .int .i64 n, .string X, .int .i64 a] 30))) := (Below.refl _ w).alloc (Nat.le_refl _) _
  have HS : Hid (Spl (w.alloc (.cells #[.int .i64 2, .int .i64 f, .int .i64 n, .string X, .int .i64 a] 30))) := h.go HB.out
  have hcr := repa_any17 X hs _ HS.out
  have hdl := dbl_le X.data.toList
  rw [← size_eq] at hdl
  have HQ : Hid ((⟨#[39]⟩ : ByteArray) ++ (⟨(dblQ X.data.toList).toArray⟩ : ByteArray) ++ (⟨#[39]⟩ : ByteArray) = ⟨(39 :: dblQ X.data.toList ++ [39]).toArray⟩) := quo_cat _
  have hz1 := size_mk (dblQ X.data.toList)
  obtain ⟨Y, hY⟩ : ∃ Y : ByteArray, Y = ⟨(dblQ X.data.toList).toArray⟩ := ⟨_, rfl⟩
  rw [← hY] at hcr HQ hz1
  clear hY
  have hz2 : ((⟨#[39]⟩ : ByteArray) ++ Y).size = Y.size + 1 := by rw [ByteArray.size_append]; show 1 + _ = _; omega
  go_enter Tryz.func68, Tryz.ntmps68
  go_wp2_with fail
  refine (hcr).mono ?_
  rintro e w1 ⟨rfl, hB1⟩
  have HB1 : Hid (Below w.heap.size w w1) := HB.out.trans (hB1.mono HB.out.size)
  clear hB1
  go_wp2_with fail
  go_ret
  exact ⟨str_ret HQ.out, HB1.out⟩
set_option maxRecDepth 100000 in
set_option maxHeartbeats 2000000 in
theorem spell_3 (f n : Int) (X : ByteArray) (a : Int) (w : World)  :
    Calls Tryz.prog 68 #[.agg #[.int .i64 3, .int .i64 f, .int .i64 n, .string X, .int .i64 a]] w fun e w' => e = .returned (.string X) ∧ Below w.heap.size w w' := by
  have HB : Hid (Below w.heap.size w (w.alloc (.cells #[.int .i64 3, .int .i64 f, .int .i64 n, .string X, .int .i64 a] 30))) := (Below.refl _ w).alloc (Nat.le_refl _) _
  go_enter Tryz.func68, Tryz.ntmps68
  go_wp2_with fail
  go_ret
  exact ⟨rfl, HB.out⟩
set_option maxRecDepth 100000 in
set_option maxHeartbeats 2000000 in
theorem spell_4 (f n : Int) (X : ByteArray) (a : Int) (w : World) (h1 : 1 ≤ f) (h2 : f ≤ 34) :
    Calls Tryz.prog 68 #[.agg #[.int .i64 4, .int .i64 f, .int .i64 n, .string X, .int .i64 a]] w fun e w' => e = .returned (.string ⟨(glyB.getD (f.toNat - 1) []).toArray⟩) ∧ Below w.heap.size w w' := by
  have HB : Hid (Below w.heap.size w (w.alloc (.cells #[.int .i64 4, .int .i64 f, .int .i64 n, .string X, .int .i64 a] 30))) := (Below.refl _ w).alloc (Nat.le_refl _) _
  have e : f - 1 = ((f.toNat - 1 : Nat) : Int) := by omega
  have hK : f.toNat - 1 < 34 := by omega
  generalize f.toNat - 1 = K at *
  go_enter Tryz.func68, Tryz.ntmps68
  go_wp2_with fail
  refine (signat_gly K hK _ rfl _).mono ?_
  rintro e w1 ⟨rfl, hB1⟩
  have HB1 : Hid (Below w.heap.size w w1) := HB.out.trans (hB1.mono HB.out.size)
  clear hB1
  go_wp2_with fail
  go_ret
  exact ⟨rfl, HB1.out⟩
set_option maxRecDepth 100000 in
set_option maxHeartbeats 2000000 in
theorem spell_k (k f n : Int) (X : ByteArray) (a : Int) (w : World) (h1 : 5 ≤ k) (h2 : k ≤ 20) :
    Calls Tryz.prog 68 #[.agg #[.int .i64 k, .int .i64 f, .int .i64 n, .string X, .int .i64 a]] w fun e w' => e = .returned (.string ⟨(sgnB.getD (k.toNat - 5) []).toArray⟩) ∧ Below w.heap.size w w' := by
  have HB : Hid (Below w.heap.size w (w.alloc (.cells #[.int .i64 k, .int .i64 f, .int .i64 n, .string X, .int .i64 a] 30))) := (Below.refl _ w).alloc (Nat.le_refl _) _
  have e1 : (k == 1) = false := beq_eq_false_iff_ne.2 (by omega)
  have e2 : (k == 2) = false := beq_eq_false_iff_ne.2 (by omega)
  have e3 : (k == 3) = false := beq_eq_false_iff_ne.2 (by omega)
  have e4 : (k == 4) = false := beq_eq_false_iff_ne.2 (by omega)
  have e : k - 5 = ((k.toNat - 5 : Nat) : Int) := by omega
  have hK : k.toNat - 5 < 16 := by omega
  generalize k.toNat - 5 = K at *
  go_enter Tryz.func68, Tryz.ntmps68
  go_wp2_with fail
  refine (signat_sgn K hK _ rfl _).mono ?_
  rintro e w1 ⟨rfl, hB1⟩
  have HB1 : Hid (Below w.heap.size w w1) := HB.out.trans (hB1.mono HB.out.size)
  clear hB1
  go_wp2_with fail
  go_ret
  exact ⟨rfl, HB1.out⟩
/-- A right word's text. -/
theorem spelling_any (t : Tk) (a : Int) (hr : InR t.num) (hz : t.text.length ≤ 1000) (ht : ckE t = 0) (w : World) (h : Spl w) :
    Calls Tryz.prog 68 #[tokI t a] w fun e w' => e = .returned (.string ⟨(spT t).toArray⟩) ∧ Below w.heap.size w w' := by
  obtain ⟨k, f, n, x⟩ := t
  have hB : rtB ⟨k, f, n, x⟩ = true := by
    unfold ckE at ht
    by_cases e : rtB ⟨k, f, n, x⟩ = false
    · rw [if_pos e] at ht; omega
    · simpa using e
  simp only [tokI]
  simp only at hr hz
  unfold rtB at hB
  simp only at hB
  unfold spT
  simp only
  have hx : (⟨x.toArray⟩ : ByteArray).data.toList = x := rfl
  have hs : (⟨x.toArray⟩ : ByteArray).size ≤ 1000000 := by rw [size_mk]; omega
  by_cases k1 : k = 1
  · rw [if_pos k1]; subst k1
    exact spell_1 f n _ a w hr h
  rw [if_neg k1] at hB ⊢
  by_cases k2 : k = 2
  · rw [if_pos k2]; subst k2
    have := spell_2 f n ⟨x.toArray⟩ a w hs h
    rw [hx] at this; exact this
  rw [if_neg k2] at hB ⊢
  by_cases k3 : k = 3
  · rw [if_pos k3]; subst k3
    exact spell_3 f n _ a w
  rw [if_neg k3] at hB ⊢
  by_cases k4 : k = 4
  · rw [if_pos k4, decide_eq_true_iff] at hB
    rw [if_pos k4]; subst k4
    exact spell_4 f n _ a w hB.2.2.1 hB.2.2.2
  rw [if_neg k4, decide_eq_true_iff] at hB
  rw [if_neg k4]
  exact spell_k k f n _ a w hB.2.2.2.1 hB.2.2.2.2
end Go.Proofs.YtgjgbgllhbdodaaGreatDoor
