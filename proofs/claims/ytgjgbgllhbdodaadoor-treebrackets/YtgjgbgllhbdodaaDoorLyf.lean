
/-
  The program asks whether a word is right.
-/
import Derived.Test.YtgjgbgllhbdodaaDoorLxs
import Derived.Test.YtgjgbgllhbdodaaDoorLyq
namespace Go.Proofs.YtgjgbgllhbdodaaDoor
open Go.RowKit Go.Lib
set_option linter.unusedVariables false

def tokI (t : Tk) (a : Int) : Value := .agg #[.int .i64 t.kind, .int .i64 t.fn, .int .i64 t.num, .string ⟨t.text.toArray⟩, .int .i64 a]
theorem tok_eql (k f n : Int) (t : ByteArray) (a k' f' n' : Int) (t' : ByteArray) (a' : Int) (w : World) :
    (binOp .eql 30 (.agg #[.int .i64 k, .int .i64 f, .int .i64 n, .string t, .int .i64 a]) (.agg #[.int .i64 k', .int .i64 f', .int .i64 n', .string t', .int .i64 a'])).run Tryd.prog w = .ok (.bool (decide (k = k' ∧ f = f' ∧ n = n' ∧ t = t' ∧ a = a'))) w := by
  simp [go_sem]
  by_cases h1 : k = k'
  · by_cases h2 : f = f'
    · by_cases h3 : n = n'
      · by_cases h4 : t = t'
        · by_cases h5 : a = a' <;> simp [h1, h2, h3, h4, h5]
        · have h4' : ¬ t.toList = t'.toList := fun e => h4 (by rw [toList_data, toList_data] at e; exact ByteArray.ext (Array.toList_inj.1 e))
          simp [h1, h2, h3, h4, h4']
      · simp [h1, h2, h3]
    · simp [h1, h2]
  · simp [h1]
theorem tok_yes {k f n : Int} {t : ByteArray} {a k' f' n' : Int} {t' : ByteArray} {a' : Int} (h : k = k' ∧ f = f' ∧ n = n' ∧ t = t' ∧ a = a') (w : World) :
    (binOp .eql 30 (.agg #[.int .i64 k, .int .i64 f, .int .i64 n, .string t, .int .i64 a]) (.agg #[.int .i64 k', .int .i64 f', .int .i64 n', .string t', .int .i64 a'])).run Tryd.prog w = .ok (.bool true) w := by
  rw [tok_eql, decide_eq_true h]
theorem tok_no {k f n : Int} {t : ByteArray} {a k' f' n' : Int} {t' : ByteArray} {a' : Int} (h : ¬ (k = k' ∧ f = f' ∧ n = n' ∧ t = t' ∧ a = a')) (w : World) :
    (binOp .eql 30 (.agg #[.int .i64 k, .int .i64 f, .int .i64 n, .string t, .int .i64 a]) (.agg #[.int .i64 k', .int .i64 f', .int .i64 n', .string t', .int .i64 a'])).run Tryd.prog w = .ok (.bool false) w := by
  rw [tok_eql, decide_eq_false h]
theorem mk_nil (x : List UInt8) : (⟨x.toArray⟩ : ByteArray) = ⟨#[]⟩ ↔ x = [] := by
  constructor
  · intro h
    have := congrArg (fun b : ByteArray => b.data.toList) h
    simpa using this
  · rintro rfl; rfl
theorem nmB_cons (b : UInt8) (r : List UInt8) : nmB (b :: r) = (isLt b && (b :: r).all isPt) := rfl
theorem nm_all {b : UInt8} {l : List UInt8} (h : l.takeWhile isPt = l) : l.all isPt = true := by rw [← h]; exact tk_all isPt l
set_option maxRecDepth 100000 in
set_option maxHeartbeats 4000000 in
theorem isname_any (s : ByteArray) (hs : s.size ≤ 9223372036854775807) (w : World) :
    Calls Tryd.prog 25 #[.string s] w fun e w' => e = .returned (.bool (nmB (tl s 0))) ∧ Below w.heap.size w w' := by
  have hl := leadP s hs
  by_cases hn : s.data.toList = []
  · have HE : Hid (nmB (tl s 0) = false) := by show _ = _; rw [tl_zero, hn]; rfl
    have he : s.toList.isEmpty = true := by rw [toList_data, hn]; rfl
    clear hn hl
    go_enter Tryd.func25, Tryd.ntmps25
    go_wp2_with fail
    go_ret
    exact ⟨ret_bool HE.out.symm, Below.refl _ _⟩
  · have he := emp_no hn
    have h0 : 0 < s.size := by
      rw [size_eq]
      cases h : s.data.toList with
      | nil => exact absurd h hn
      | cons b r => simp
    have hc := tl_cons h0
    have hb := show (s.data.toList.getD 0 0).toNat = bt s 0 from rfl
    have hix := index_at s 0 0 rfl h0
    generalize s.data.toList.getD 0 0 = b at hc hb
    cases hlt : isLt b
    · have HE : Hid (nmB (tl s 0) = false) := by show _ = _; rw [hc, nmB_cons, hlt]; rfl
      have HL : Hid (ltI (bt s 0) = false) := by show _ = _; rw [← hb, ltI_is]; exact hlt
      clear hn hl hc hb hlt
      go_enter Tryd.func25, Tryd.ntmps25
      go_wp2_with fail
      refine (let_any _ _).mono ?_
      rintro e w' ⟨rfl, hw'⟩
      obtain rfl := hw'.symm
      rw [HL.out]
      go_wp2_with fail
      go_ret
      exact ⟨ret_bool HE.out.symm, Below.refl _ _⟩
    · have HL : Hid (ltI (bt s 0) = true) := by show _ = _; rw [← hb, ltI_is]; exact hlt
      by_cases hall : s.data.toList.takeWhile isPt = s.data.toList
      · have HE : Hid (nmB (tl s 0) = true) := by
          show _ = _
          have h2 := nm_all (b := b) hall
          rw [← tl_zero, hc] at h2
          rw [hc, nmB_cons, hlt, h2]; rfl
        have HS : Hid ((⟨(s.data.toList.takeWhile isPt).toArray⟩ : ByteArray) = s) := by show _ = _; rw [hall]
        rw [HS.out] at hl
        clear hn hc hb hlt hall
        go_enter Tryd.func25, Tryd.ntmps25
        go_wp2_with fail
        refine (let_any _ _).mono ?_
        rintro e w' ⟨rfl, hw'⟩
        obtain rfl := hw'.symm
        rw [HL.out]
        go_wp2_with fail
        refine (hl _).mono ?_
        rintro e w' ⟨rfl, hw'⟩
        obtain rfl := hw'.symm
        go_wp2_with fail
        go_ret
        exact ⟨ret_bool HE.out.symm, Below.refl _ _⟩
      · have HE : Hid (nmB (tl s 0) = false) := by
          show _ = _
          have h2 : (s.data.toList).all isPt = false := Bool.eq_false_iff.2 fun h => hall (tk_id isPt _ h)
          rw [← tl_zero, hc] at h2
          rw [hc, nmB_cons, hlt, h2]; rfl
        obtain ⟨q, hq⟩ : ∃ q : ByteArray, q = ⟨(s.data.toList.takeWhile isPt).toArray⟩ := ⟨_, rfl⟩
        have hne : (q.toList == s.toList) = false := by
          rw [beq_eq_false_iff_ne, toList_data, toList_data, hq]; exact hall
        rw [← hq] at hl
        clear hn hc hb hlt hall hq
        go_enter Tryd.func25, Tryd.ntmps25
        go_wp2_with fail
        refine (let_any _ _).mono ?_
        rintro e w' ⟨rfl, hw'⟩
        obtain rfl := hw'.symm
        rw [HL.out]
        go_wp2_with fail
        refine (hl _).mono ?_
        rintro e w' ⟨rfl, hw'⟩
        obtain rfl := hw'.symm
        go_wp2_with fail
        go_ret
        exact ⟨ret_bool HE.out.symm, Below.refl _ _⟩
set_option maxRecDepth 100000 in
set_option maxHeartbeats 2000000 in
theorem right_1n (f n : Int) (X : ByteArray) (B : Bool) (a : Int) (w : World) (HB : Hid (false = B)) (hv : ¬ (f = 0 ∧ X = ⟨#[]⟩)) :
    Calls Tryd.prog 15 #[.agg #[.int .i64 1, .int .i64 f, .int .i64 n, .string X, .int .i64 a]] w fun e w' => e = .returned (.bool B) ∧ Below w.heap.size w w' := by
  have he := tok_no (k := 1) (f := f) (n := n) (t := X) (a := a) (k' := 1) (f' := 0) (n' := n) (t' := ⟨#[]⟩) (a' := a) (fun h => hv (by simpa using h))
  clear hv
  go_enter Tryd.func15, Tryd.ntmps15
  go_wp2_with fail
  go_ret
  exact ⟨ret_bool HB.out, ((Below.refl _ w).alloc (Nat.le_refl _) _).alloc (by simp) _⟩
set_option maxRecDepth 100000 in
set_option maxHeartbeats 2000000 in
theorem right_1y (f n : Int) (X : ByteArray) (B : Bool) (a : Int) (w : World) (HB : Hid (true = B)) (hv : f = 0 ∧ X = ⟨#[]⟩) :
    Calls Tryd.prog 15 #[.agg #[.int .i64 1, .int .i64 f, .int .i64 n, .string X, .int .i64 a]] w fun e w' => e = .returned (.bool B) ∧ Below w.heap.size w w' := by
  have he := tok_yes (k := 1) (f := f) (n := n) (t := X) (a := a) (k' := 1) (f' := 0) (n' := n) (t' := ⟨#[]⟩) (a' := a) (by simpa using hv)
  clear hv
  go_enter Tryd.func15, Tryd.ntmps15
  go_wp2_with fail
  go_ret
  exact ⟨ret_bool HB.out, ((Below.refl _ w).alloc (Nat.le_refl _) _).alloc (by simp) _⟩
set_option maxRecDepth 100000 in
set_option maxHeartbeats 2000000 in
theorem right_2n (f n : Int) (X : ByteArray) (B : Bool) (a : Int) (w : World) (HB : Hid (false = B)) (hv : ¬ (f = 0 ∧ n = 0)) :
    Calls Tryd.prog 15 #[.agg #[.int .i64 2, .int .i64 f, .int .i64 n, .string X, .int .i64 a]] w fun e w' => e = .returned (.bool B) ∧ Below w.heap.size w w' := by
  have he := tok_no (k := 2) (f := f) (n := n) (t := X) (a := a) (k' := 2) (f' := 0) (n' := 0) (t' := X) (a' := a) (fun h => hv (by simpa using h))
  clear hv
  go_enter Tryd.func15, Tryd.ntmps15
  go_wp2_with fail
  go_ret
  exact ⟨ret_bool HB.out, ((Below.refl _ w).alloc (Nat.le_refl _) _).alloc (by simp) _⟩
set_option maxRecDepth 100000 in
set_option maxHeartbeats 2000000 in
theorem right_2y (f n : Int) (X : ByteArray) (B : Bool) (a : Int) (w : World) (HB : Hid (qbl (tl X 0) = B)) (hv : f = 0 ∧ n = 0) (hs : X.size ≤ 9223372036854775807) (hT : Lib.Utf8Tabs (Tryd.laysValid_ren.g 3) (Tryd.laysValid_ren.g 4) w) :
    Calls Tryd.prog 15 #[.agg #[.int .i64 2, .int .i64 f, .int .i64 n, .string X, .int .i64 a]] w fun e w' => e = .returned (.bool B) ∧ Below w.heap.size w w' := by
  have he := tok_yes (k := 2) (f := f) (n := n) (t := X) (a := a) (k' := 2) (f' := 0) (n' := 0) (t' := X) (a' := a) (by simpa using hv)
  obtain ⟨rfl, rfl⟩ := hv
  have HW2 : Hid (Below w.heap.size w ((w.alloc (.cells #[.int .i64 2, .int .i64 0, .int .i64 0, .string X, .int .i64 a] 30)).alloc (.cells #[.int .i64 2, .int .i64 0, .int .i64 0, .string X, .int .i64 a] 30))) := ((Below.refl _ w).alloc (Nat.le_refl _) _).alloc (by simp) _
  go_enter Tryd.func15, Tryd.ntmps15
  go_wp2_with fail
  refine (arec_any X hs _ (tabs_go hT HW2.out)).mono ?_
  rintro e w1 ⟨rfl, hB1⟩
  have HB1 : Hid (Below w.heap.size w w1) := HW2.out.trans (hB1.mono HW2.out.size)
  clear hB1
  rw [HB.out]
  go_wp2_with fail
  go_ret
  exact ⟨rfl, HB1.out⟩
set_option maxRecDepth 100000 in
set_option maxHeartbeats 2000000 in
theorem right_3n (f n : Int) (X : ByteArray) (B : Bool) (a : Int) (w : World) (HB : Hid (false = B)) (hv : ¬ (f = 0 ∧ n = 0)) :
    Calls Tryd.prog 15 #[.agg #[.int .i64 3, .int .i64 f, .int .i64 n, .string X, .int .i64 a]] w fun e w' => e = .returned (.bool B) ∧ Below w.heap.size w w' := by
  have he := tok_no (k := 3) (f := f) (n := n) (t := X) (a := a) (k' := 3) (f' := 0) (n' := 0) (t' := X) (a' := a) (fun h => hv (by simpa using h))
  clear hv
  go_enter Tryd.func15, Tryd.ntmps15
  go_wp2_with fail
  go_ret
  exact ⟨ret_bool HB.out, ((Below.refl _ w).alloc (Nat.le_refl _) _).alloc (by simp) _⟩
set_option maxRecDepth 100000 in
set_option maxHeartbeats 2000000 in
theorem right_3y (f n : Int) (X : ByteArray) (B : Bool) (a : Int) (w : World) (HB : Hid (nmB (tl X 0) = B)) (hv : f = 0 ∧ n = 0) (hs : X.size ≤ 9223372036854775807) :
    Calls Tryd.prog 15 #[.agg #[.int .i64 3, .int .i64 f, .int .i64 n, .string X, .int .i64 a]] w fun e w' => e = .returned (.bool B) ∧ Below w.heap.size w w' := by
  have he := tok_yes (k := 3) (f := f) (n := n) (t := X) (a := a) (k' := 3) (f' := 0) (n' := 0) (t' := X) (a' := a) (by simpa using hv)
  obtain ⟨rfl, rfl⟩ := hv
  have HW2 : Hid (Below w.heap.size w ((w.alloc (.cells #[.int .i64 3, .int .i64 0, .int .i64 0, .string X, .int .i64 a] 30)).alloc (.cells #[.int .i64 3, .int .i64 0, .int .i64 0, .string X, .int .i64 a] 30))) := ((Below.refl _ w).alloc (Nat.le_refl _) _).alloc (by simp) _
  go_enter Tryd.func15, Tryd.ntmps15
  go_wp2_with fail
  refine (isname_any X hs _).mono ?_
  rintro e w1 ⟨rfl, hB1⟩
  have HB1 : Hid (Below w.heap.size w w1) := HW2.out.trans (hB1.mono HW2.out.size)
  clear hB1
  rw [HB.out]
  go_wp2_with fail
  go_ret
  exact ⟨rfl, HB1.out⟩
set_option maxRecDepth 100000 in
set_option maxHeartbeats 2000000 in
theorem right_4n (f n : Int) (X : ByteArray) (B : Bool) (a : Int) (w : World) (HB : Hid (false = B)) (hv : ¬ (n = 0 ∧ X = ⟨#[]⟩)) :
    Calls Tryd.prog 15 #[.agg #[.int .i64 4, .int .i64 f, .int .i64 n, .string X, .int .i64 a]] w fun e w' => e = .returned (.bool B) ∧ Below w.heap.size w w' := by
  have he := tok_no (k := 4) (f := f) (n := n) (t := X) (a := a) (k' := 4) (f' := f) (n' := 0) (t' := ⟨#[]⟩) (a' := a) (fun h => hv (by simpa using h))
  clear hv
  go_enter Tryd.func15, Tryd.ntmps15
  go_wp2_with fail
  go_ret
  exact ⟨ret_bool HB.out, ((Below.refl _ w).alloc (Nat.le_refl _) _).alloc (by simp) _⟩
set_option maxRecDepth 100000 in
set_option maxHeartbeats 2000000 in
theorem right_4l (f n : Int) (X : ByteArray) (B : Bool) (a : Int) (w : World) (HB : Hid (false = B)) (hv : n = 0 ∧ X = ⟨#[]⟩) (h1 : ¬ 1 ≤ f) :
    Calls Tryd.prog 15 #[.agg #[.int .i64 4, .int .i64 f, .int .i64 n, .string X, .int .i64 a]] w fun e w' => e = .returned (.bool B) ∧ Below w.heap.size w w' := by
  have he := tok_yes (k := 4) (f := f) (n := n) (t := X) (a := a) (k' := 4) (f' := f) (n' := 0) (t' := ⟨#[]⟩) (a' := a) (by simpa using hv)
  clear hv
  go_enter Tryd.func15, Tryd.ntmps15
  go_wp2_with fail
  go_ret
  exact ⟨ret_bool HB.out, ((Below.refl _ w).alloc (Nat.le_refl _) _).alloc (by simp) _⟩
set_option maxRecDepth 100000 in
set_option maxHeartbeats 2000000 in
theorem right_4h (f n : Int) (X : ByteArray) (B : Bool) (a : Int) (w : World) (HB : Hid (false = B)) (hv : n = 0 ∧ X = ⟨#[]⟩) (h1 : 1 ≤ f) (h2 : ¬ f ≤ 34) :
    Calls Tryd.prog 15 #[.agg #[.int .i64 4, .int .i64 f, .int .i64 n, .string X, .int .i64 a]] w fun e w' => e = .returned (.bool B) ∧ Below w.heap.size w w' := by
  have he := tok_yes (k := 4) (f := f) (n := n) (t := X) (a := a) (k' := 4) (f' := f) (n' := 0) (t' := ⟨#[]⟩) (a' := a) (by simpa using hv)
  clear hv
  go_enter Tryd.func15, Tryd.ntmps15
  go_wp2_with fail
  go_ret
  exact ⟨ret_bool HB.out, ((Below.refl _ w).alloc (Nat.le_refl _) _).alloc (by simp) _⟩
set_option maxRecDepth 100000 in
set_option maxHeartbeats 2000000 in
theorem right_4y (f n : Int) (X : ByteArray) (B : Bool) (a : Int) (w : World) (HB : Hid (true = B)) (hv : n = 0 ∧ X = ⟨#[]⟩) (h1 : 1 ≤ f) (h2 : f ≤ 34) :
    Calls Tryd.prog 15 #[.agg #[.int .i64 4, .int .i64 f, .int .i64 n, .string X, .int .i64 a]] w fun e w' => e = .returned (.bool B) ∧ Below w.heap.size w w' := by
  have he := tok_yes (k := 4) (f := f) (n := n) (t := X) (a := a) (k' := 4) (f' := f) (n' := 0) (t' := ⟨#[]⟩) (a' := a) (by simpa using hv)
  clear hv
  go_enter Tryd.func15, Tryd.ntmps15
  go_wp2_with fail
  go_ret
  exact ⟨ret_bool HB.out, ((Below.refl _ w).alloc (Nat.le_refl _) _).alloc (by simp) _⟩
set_option maxRecDepth 100000 in
set_option maxHeartbeats 2000000 in
theorem right_kn (k f n : Int) (X : ByteArray) (B : Bool) (a : Int) (w : World) (HB : Hid (false = B)) (hv : ¬ (f = 0 ∧ n = 0 ∧ X = ⟨#[]⟩)) (hk : k ≠ 1 ∧ k ≠ 2 ∧ k ≠ 3 ∧ k ≠ 4) :
    Calls Tryd.prog 15 #[.agg #[.int .i64 k, .int .i64 f, .int .i64 n, .string X, .int .i64 a]] w fun e w' => e = .returned (.bool B) ∧ Below w.heap.size w w' := by
  have e1 : (k == 1) = false := beq_eq_false_iff_ne.2 hk.1
  have e2 : (k == 2) = false := beq_eq_false_iff_ne.2 hk.2.1
  have e3 : (k == 3) = false := beq_eq_false_iff_ne.2 hk.2.2.1
  have e4 : (k == 4) = false := beq_eq_false_iff_ne.2 hk.2.2.2
  clear hk
  have he := tok_no (k := k) (f := f) (n := n) (t := X) (a := a) (k' := k) (f' := 0) (n' := 0) (t' := ⟨#[]⟩) (a' := a) (fun h => hv (by simpa using h))
  clear hv
  go_enter Tryd.func15, Tryd.ntmps15
  go_wp2_with fail
  go_ret
  exact ⟨ret_bool HB.out, ((Below.refl _ w).alloc (Nat.le_refl _) _).alloc (by simp) _⟩
set_option maxRecDepth 100000 in
set_option maxHeartbeats 2000000 in
theorem right_kl (k f n : Int) (X : ByteArray) (B : Bool) (a : Int) (w : World) (HB : Hid (false = B)) (hv : f = 0 ∧ n = 0 ∧ X = ⟨#[]⟩) (hk : k ≠ 1 ∧ k ≠ 2 ∧ k ≠ 3 ∧ k ≠ 4) (h1 : ¬ 5 ≤ k) :
    Calls Tryd.prog 15 #[.agg #[.int .i64 k, .int .i64 f, .int .i64 n, .string X, .int .i64 a]] w fun e w' => e = .returned (.bool B) ∧ Below w.heap.size w w' := by
  have e1 : (k == 1) = false := beq_eq_false_iff_ne.2 hk.1
  have e2 : (k == 2) = false := beq_eq_false_iff_ne.2 hk.2.1
  have e3 : (k == 3) = false := beq_eq_false_iff_ne.2 hk.2.2.1
  have e4 : (k == 4) = false := beq_eq_false_iff_ne.2 hk.2.2.2
  clear hk
  have he := tok_yes (k := k) (f := f) (n := n) (t := X) (a := a) (k' := k) (f' := 0) (n' := 0) (t' := ⟨#[]⟩) (a' := a) (by simpa using hv)
  clear hv
  go_enter Tryd.func15, Tryd.ntmps15
  go_wp2_with fail
  go_ret
  exact ⟨ret_bool HB.out, ((Below.refl _ w).alloc (Nat.le_refl _) _).alloc (by simp) _⟩
set_option maxRecDepth 100000 in
set_option maxHeartbeats 2000000 in
theorem right_kh (k f n : Int) (X : ByteArray) (B : Bool) (a : Int) (w : World) (HB : Hid (false = B)) (hv : f = 0 ∧ n = 0 ∧ X = ⟨#[]⟩) (hk : k ≠ 1 ∧ k ≠ 2 ∧ k ≠ 3 ∧ k ≠ 4) (h1 : 5 ≤ k) (h2 : ¬ k ≤ 20) :
    Calls Tryd.prog 15 #[.agg #[.int .i64 k, .int .i64 f, .int .i64 n, .string X, .int .i64 a]] w fun e w' => e = .returned (.bool B) ∧ Below w.heap.size w w' := by
  have e1 : (k == 1) = false := beq_eq_false_iff_ne.2 hk.1
  have e2 : (k == 2) = false := beq_eq_false_iff_ne.2 hk.2.1
  have e3 : (k == 3) = false := beq_eq_false_iff_ne.2 hk.2.2.1
  have e4 : (k == 4) = false := beq_eq_false_iff_ne.2 hk.2.2.2
  clear hk
  have he := tok_yes (k := k) (f := f) (n := n) (t := X) (a := a) (k' := k) (f' := 0) (n' := 0) (t' := ⟨#[]⟩) (a' := a) (by simpa using hv)
  clear hv
  go_enter Tryd.func15, Tryd.ntmps15
  go_wp2_with fail
  go_ret
  exact ⟨ret_bool HB.out, ((Below.refl _ w).alloc (Nat.le_refl _) _).alloc (by simp) _⟩
set_option maxRecDepth 100000 in
set_option maxHeartbeats 2000000 in
theorem right_ky (k f n : Int) (X : ByteArray) (B : Bool) (a : Int) (w : World) (HB : Hid (true = B)) (hv : f = 0 ∧ n = 0 ∧ X = ⟨#[]⟩) (hk : k ≠ 1 ∧ k ≠ 2 ∧ k ≠ 3 ∧ k ≠ 4) (h1 : 5 ≤ k) (h2 : k ≤ 20) :
    Calls Tryd.prog 15 #[.agg #[.int .i64 k, .int .i64 f, .int .i64 n, .string X, .int .i64 a]] w fun e w' => e = .returned (.bool B) ∧ Below w.heap.size w w' := by
  have e1 : (k == 1) = false := beq_eq_false_iff_ne.2 hk.1
  have e2 : (k == 2) = false := beq_eq_false_iff_ne.2 hk.2.1
  have e3 : (k == 3) = false := beq_eq_false_iff_ne.2 hk.2.2.1
  have e4 : (k == 4) = false := beq_eq_false_iff_ne.2 hk.2.2.2
  clear hk
  have he := tok_yes (k := k) (f := f) (n := n) (t := X) (a := a) (k' := k) (f' := 0) (n' := 0) (t' := ⟨#[]⟩) (a' := a) (by simpa using hv)
  clear hv
  go_enter Tryd.func15, Tryd.ntmps15
  go_wp2_with fail
  go_ret
  exact ⟨ret_bool HB.out, ((Below.refl _ w).alloc (Nat.le_refl _) _).alloc (by simp) _⟩
theorem right_any (t : Tk) (a : Int) (hz : t.text.length ≤ 9223372036854775807) (w : World) (hT : Lib.Utf8Tabs (Tryd.laysValid_ren.g 3) (Tryd.laysValid_ren.g 4) w) :
    Calls Tryd.prog 15 #[tokI t a] w fun e w' => e = .returned (.bool (rtB t)) ∧ Below w.heap.size w w' := by
  obtain ⟨k, f, n, x⟩ := t
  simp only [tokI]
  have hX := mk_nil x
  have hx : tl (⟨x.toArray⟩ : ByteArray) 0 = x := rfl
  have hs : (⟨x.toArray⟩ : ByteArray).size ≤ 9223372036854775807 := by rw [size_mk]; exact hz
  generalize hR : rtB ⟨k, f, n, x⟩ = B
  unfold rtB at hR
  simp only at hR
  generalize (⟨x.toArray⟩ : ByteArray) = X at *
  by_cases k1 : k = 1
  · rw [if_pos k1] at hR
    subst k1
    by_cases h : f = 0 ∧ X = ⟨#[]⟩
    · exact right_1y f n X B a w (by rw [decide_eq_true ⟨h.1, hX.1 h.2⟩] at hR; exact hR) h
    · exact right_1n f n X B a w (by rw [decide_eq_false (fun g => h ⟨g.1, hX.2 g.2⟩)] at hR; exact hR) h
  rw [if_neg k1] at hR
  by_cases k2 : k = 2
  · rw [if_pos k2] at hR
    subst k2
    by_cases h : f = 0 ∧ n = 0
    · exact right_2y f n X B a w (by rw [decide_eq_true h, Bool.true_and] at hR; rw [hx]; exact hR) h hs hT
    · exact right_2n f n X B a w (by rw [decide_eq_false h, Bool.false_and] at hR; exact hR) h
  rw [if_neg k2] at hR
  by_cases k3 : k = 3
  · rw [if_pos k3] at hR
    subst k3
    by_cases h : f = 0 ∧ n = 0
    · exact right_3y f n X B a w (by rw [decide_eq_true h, Bool.true_and] at hR; rw [hx]; exact hR) h hs
    · exact right_3n f n X B a w (by rw [decide_eq_false h, Bool.false_and] at hR; exact hR) h
  rw [if_neg k3] at hR
  by_cases k4 : k = 4
  · rw [if_pos k4] at hR
    subst k4
    by_cases h : n = 0 ∧ X = ⟨#[]⟩
    · by_cases h1 : 1 ≤ f
      · by_cases h2 : f ≤ 34
        · exact right_4y f n X B a w (by rw [decide_eq_true ⟨h.1, hX.1 h.2, h1, h2⟩] at hR; exact hR) h h1 h2
        · exact right_4h f n X B a w (by rw [decide_eq_false (fun g => h2 g.2.2.2)] at hR; exact hR) h h1 h2
      · exact right_4l f n X B a w (by rw [decide_eq_false (fun g => h1 g.2.2.1)] at hR; exact hR) h h1
    · exact right_4n f n X B a w (by rw [decide_eq_false (fun g => h ⟨g.1, hX.2 g.2.1⟩)] at hR; exact hR) h
  rw [if_neg k4] at hR
  by_cases h : f = 0 ∧ n = 0 ∧ X = ⟨#[]⟩
  · by_cases h1 : 5 ≤ k
    · by_cases h2 : k ≤ 20
      · exact right_ky k f n X B a w (by rw [decide_eq_true ⟨h.1, h.2.1, hX.1 h.2.2, h1, h2⟩] at hR; exact hR) h ⟨k1, k2, k3, k4⟩ h1 h2
      · exact right_kh k f n X B a w (by rw [decide_eq_false (fun g => h2 g.2.2.2.2)] at hR; exact hR) h ⟨k1, k2, k3, k4⟩ h1 h2
    · exact right_kl k f n X B a w (by rw [decide_eq_false (fun g => h1 g.2.2.2.1)] at hR; exact hR) h ⟨k1, k2, k3, k4⟩ h1
  · exact right_kn k f n X B a w (by rw [decide_eq_false (fun g => h ⟨g.1, g.2.1, hX.2 g.2.2.1⟩)] at hR; exact hR) h ⟨k1, k2, k3, k4⟩
/-- What checking a word ends with. -/
def ChP (t : Tk) (w : World) (e : Ending) (w' : World) : Prop := Below w.heap.size w w' ∧ e = if ckE t = 0 then .returned (.tuple #[]) else panV (errT (ckE t)) 0
set_option maxRecDepth 100000 in
set_option maxHeartbeats 4000000 in
theorem check_any17 (t : Tk) (a : Int) (hz : t.text.length ≤ 9223372036854775807) (w : World) (hT : Lib.Utf8Tabs (Tryd.laysValid_ren.g 3) (Tryd.laysValid_ren.g 4) w) :
    Calls Tryd.prog 11 #[tokI t a] w (ChP t w) := by
  have HB : Hid (Below w.heap.size w (w.alloc (.cells #[.int .i64 t.kind, .int .i64 t.fn, .int .i64 t.num, .string ⟨t.text.toArray⟩, .int .i64 a] 30))) := (Below.refl _ w).alloc (Nat.le_refl _) _
  have HK : Hid (Tbx (w.alloc (.cells #[.int .i64 t.kind, .int .i64 t.fn, .int .i64 t.num, .string ⟨t.text.toArray⟩, .int .i64 a] 30)) w.heap.size (.int .i64 t.kind) (.int .i64 t.fn) (.int .i64 t.num) (.string ⟨t.text.toArray⟩) (.int .i64 a)) := Tbx.new w _ _ _ _ _
  have hc := right_any t a hz _ (tabs_go hT HB.out)
  have HX : Hid (∀ c, ckE t = c → ∀ e w', Below w.heap.size w w' ∧ e = (if c = 0 then .returned (.tuple #[]) else panV (errT c) 0) → ChP t w e w') := fun c h e w' g => by unfold ChP; rw [h]; exact g
  have hck : ckE t = if rtB t = false then 1 else if t.kind = 3 ∧ 12 < t.text.length then 7 else 0 := rfl
  have HS : Hid ((⟨t.text.toArray⟩ : ByteArray).size = t.text.length) := size_mk _
  have hs := HS.out
  obtain ⟨k, f, n, x⟩ := t
  simp only [tokI] at hc ⊢
  simp only at HK HB hck HS hs
  obtain ⟨B, hb⟩ : ∃ B, B = rtB ⟨k, f, n, x⟩ := ⟨_, rfl⟩
  rw [← hb] at hc hck
  clear hb
  generalize (⟨x.toArray⟩ : ByteArray) = X at *
  cases B
  · have HC : Hid (ckE ⟨k, f, n, x⟩ = 1) := hck
    clear hck
    go_enter Tryd.func11, Tryd.ntmps11
    go_wp2_with fail
    refine hc.mono ?_
    rintro e w1 ⟨rfl, hB1⟩
    have K := HK.out.go hB1
    have HB1 : Hid (Below w.heap.size w w1) := HB.out.trans (hB1.mono HB.out.size)
    have r0 := K.c0
    have r3 := K.c3
    clear hB1 hc
    go_wp2_with fail
    exact ⟨rfl, HX.out _ HC.out _ _ ⟨HB1.out, rfl⟩⟩
  · rw [if_neg (by decide)] at hck
    by_cases k3 : k = 3
    · by_cases h12 : 12 < x.length
      · have HC : Hid (ckE ⟨k, f, n, x⟩ = 7) := hck.trans (if_pos ⟨k3, h12⟩)
        have e3 : (k == 3) = true := by rw [beq_iff_eq]; exact k3
        have h13 : (12 : Int) < (X.size : Int) := by omega
        clear hck k3
        go_enter Tryd.func11, Tryd.ntmps11
        go_wp2_with fail
        refine hc.mono ?_
        rintro e w1 ⟨rfl, hB1⟩
        have K := HK.out.go hB1
        have HB1 : Hid (Below w.heap.size w w1) := HB.out.trans (hB1.mono HB.out.size)
        have r0 := K.c0
        have r3 := K.c3
        clear hB1 hc
        go_wp2_with fail
        exact ⟨rfl, HX.out _ HC.out _ _ ⟨HB1.out, rfl⟩⟩
      · have HC : Hid (ckE ⟨k, f, n, x⟩ = 0) := hck.trans (if_neg (fun h => h12 h.2))
        have e3 : (k == 3) = true := by rw [beq_iff_eq]; exact k3
        have h13 : ¬ (12 : Int) < (X.size : Int) := by omega
        clear hck k3
        go_enter Tryd.func11, Tryd.ntmps11
        go_wp2_with fail
        refine hc.mono ?_
        rintro e w1 ⟨rfl, hB1⟩
        have K := HK.out.go hB1
        have HB1 : Hid (Below w.heap.size w w1) := HB.out.trans (hB1.mono HB.out.size)
        have r0 := K.c0
        have r3 := K.c3
        clear hB1 hc
        go_wp2_with fail
        exact bodyPost_ret (v := .tuple #[]) (by simp [results, Tryd.results11]; done) rfl (HX.out _ HC.out _ _ ⟨HB1.out, rfl⟩)
    · have HC : Hid (ckE ⟨k, f, n, x⟩ = 0) := hck.trans (if_neg (fun h => k3 h.1))
      have e3 : (k == 3) = false := beq_eq_false_iff_ne.2 k3
      clear hck k3
      go_enter Tryd.func11, Tryd.ntmps11
      go_wp2_with fail
      refine hc.mono ?_
      rintro e w1 ⟨rfl, hB1⟩
      have K := HK.out.go hB1
      have HB1 : Hid (Below w.heap.size w w1) := HB.out.trans (hB1.mono HB.out.size)
      have r0 := K.c0
      have r3 := K.c3
      clear hB1 hc
      go_wp2_with fail
      exact bodyPost_ret (v := .tuple #[]) (by simp [results, Tryd.results11]; done) rfl (HX.out _ HC.out _ _ ⟨HB1.out, rfl⟩)
end Go.Proofs.YtgjgbgllhbdodaaDoor
