/-
  The program's ways over blanks; a Name; a Number.
-/
import Derived.WalkSmall
import Derived.Test.YthfdpfekjcdlbaaDoorLxp
import Derived.Test.YthfdpfekjcdlbaaDoorLxa
import Derived.Test.YthfdpfekjcdlbaaDoorShelf
namespace Go.Proofs.YthfdpfekjcdlbaaDoor
open Go.RowKit Go.Lib
set_option linter.unusedVariables false

theorem sx_list (s : ByteArray) (i : Nat) : (s.extract i s.size).data.toList = tl s i := extract_to_end s i
theorem sx_size (s : ByteArray) (i : Nat) : (s.extract i s.size).size = s.size - i := by
  rw [size_eq, sx_list, tl, List.length_drop, ← size_eq]
theorem emp_no {t : ByteArray} (h : ¬ t.data.toList = []) : t.toList.isEmpty = false := by
  rw [toList_data]
  cases hx : t.data.toList with
  | nil => exact absurd hx h
  | cons b r => rfl
theorem mk_list (l : List UInt8) : (⟨l.toArray⟩ : ByteArray).data.toList = l := rfl
theorem enD : ∀ args w, (callFunc 35 args).run Tryd.prog w = .ok (.enter 35 args) w := enters_of Tryd.func35 (by kernel_rfl) rfl
theorem enP : ∀ args w, (callFunc 64 args).run Tryd.prog w = .ok (.enter 64 args) w := enters_of Tryd.func64 (by kernel_rfl) rfl
theorem tkw_D (l : List UInt8) : (l.takeWhile fun b => dgI (b.toNat : Int)) = l.takeWhile isDg := by
  congr 1; funext b; exact dgI_is b
theorem tkw_P (l : List UInt8) : (l.takeWhile fun b => ptI (b.toNat : Int)) = l.takeWhile isPt := by
  congr 1; funext b; exact ptI_is b
theorem leadD (t : ByteArray) (ht : t.size ≤ 9223372036854775807) (w : World) :
    Calls Tryd.prog 61 #[.string t, .func (.func 35) #[] #[]] w fun e w' => e = .returned (.string ⟨(t.data.toList.takeWhile isDg).toArray⟩) ∧ w' = w := by
  rw [← tkw_D]; exact lead_any dgI _ enD dig_any t ht w
theorem leadP (t : ByteArray) (ht : t.size ≤ 9223372036854775807) (w : World) :
    Calls Tryd.prog 61 #[.string t, .func (.func 64) #[] #[]] w fun e w' => e = .returned (.string ⟨(t.data.toList.takeWhile isPt).toArray⟩) ∧ w' = w := by
  rw [← tkw_P]; exact lead_any ptI _ enP part_any t ht w
theorem trim_any (s : ByteArray) (i : Nat) (hi : i ≤ s.size) (w : World) :
    Calls Tryd.prog 33 #[.string (s.extract i s.size), .string ⟨#[32]⟩] w fun e w' => ∃ t : ByteArray, e = .returned (.string t) ∧ t.size = s.size - abk s.data.toList i ∧ w' = w := by
  refine (Tryd.strings_TrimLeft_one (s.extract i s.size) 32 (by decide) w).mono ?_
  rintro e w' ⟨rfl, rfl⟩
  refine ⟨_, rfl, ?_, rfl⟩
  rw [sx_list]
  show ByteArray.size ⟨((s.data.toList.drop i).dropWhile (· == 32)).toArray⟩ = _
  rw [size_mk, (abk_is (l := s.data.toList) (i := i) (by rw [← size_eq]; exact hi)).2.2.1, List.length_drop, ← size_eq]
set_option maxHeartbeats 1000000 in
theorem blanks_any (s : ByteArray) (i : Nat) (hi : i ≤ s.size) (hs : s.size ≤ 1000000) (w : World) :
    Calls Tryd.prog 20 #[.string s, .int .i64 i] w fun e w' => e = .returned (.int .i64 (abk s.data.toList i)) ∧ w' = w := by
  have HA : Hid (abk s.data.toList i ≤ s.size) := by
    have := (abk_is (l := s.data.toList) (i := i) (by rw [← size_eq]; exact hi)).2.1
    rw [← size_eq] at this; exact this
  go_enter Tryd.func20, Tryd.ntmps20
  go_wp2_with (go_at_call 33; refine (trim_any s i hi _).mono ?_; rintro e w' ⟨t, rfl, ht, rfl⟩)
  go_ret
  refine ⟨ret1 ?_, rfl⟩
  have := HA.out
  omega
set_option maxHeartbeats 1000000 in
theorem over_any (t : ByteArray) (w : World) :
    Calls Tryd.prog 21 #[.string t] w fun e w' => e = .returned (.bool (decide (t.data.toList = []) || remB.isPrefixOf t.data.toList)) ∧ w' = w := by
  by_cases h : t.toList = []
  · have HL : Hid (t.data.toList = []) := by show _ = _; rw [← toList_data]; exact h
    go_enter Tryd.func21, Tryd.ntmps21
    go_wp2_with (go_at_call 34; refine (Tryd.strings_HasPrefix _ _ _).mono ?_; rintro e w' ⟨rfl, rfl⟩)
    go_ret
    refine ⟨?_, rfl⟩
    rw [HL.out]; rfl
  · have HL : Hid (decide (t.data.toList = []) = false) := by show _ = _; rw [← toList_data]; exact decide_eq_false h
    have HE : Hid (t.toList.isEmpty = false) := by
      show _ = _
      cases hx : t.toList with
      | nil => exact absurd hx h
      | cons b r => rfl
    go_enter Tryd.func21, Tryd.ntmps21
    go_wp2_with (go_at_call 34; refine (Tryd.strings_HasPrefix _ _ _).mono ?_; rintro e w' ⟨rfl, rfl⟩)
    go_ret
    refine ⟨?_, rfl⟩
    rw [HL.out, HE.out]; rfl
/-- A word's value. -/
def tokV (t : Tk) (i : Nat) : Value := .agg #[.int .i64 t.kind, .int .i64 t.fn, .int .i64 t.num, .string ⟨t.text.toArray⟩, .int .i64 (i : Int)]
/-- The type that a wrong word panics with, by what is wrong. -/
def errT (e : Int) : Nat := if e = 1 then 52 else if e = 6 then 53 else 43
def panV (T : Nat) (i : Nat) : Ending := .panicked [{ v := .iface T (.int .i64 (i : Int)), recovered := false }]
/-- What reading a word ends with. -/
def WdP (W : Wd) (i : Nat) (w : World) (e : Ending) (w' : World) : Prop :=
  Below w.heap.size w w' ∧ match W with
    | Except.ok (t, n) => e = .returned (.tuple #[tokV t i, .int .i64 ((i + n : Nat) : Int)])
    | Except.error c => e = panV (errT c) i
set_option maxRecDepth 100000 in
set_option maxHeartbeats 2000000 in
theorem name_any (s : ByteArray) (i : Nat) (hi : i ≤ s.size) (hs : s.size ≤ 1000000) (w : World) :
    Calls Tryd.prog 39 #[.string s, .int .i64 i] w (WdP (if 12 < ((tl s i).takeWhile isPt).length then .bad 7 else .ok ⟨3, 0, 0, (tl s i).takeWhile isPt⟩ ((tl s i).takeWhile isPt).length) i w) := by
  have HZ : Hid (((tl s i).takeWhile isPt).length ≤ s.size - i) := by
    have := tk_le isPt (tl s i)
    rw [tl, List.length_drop, ← size_eq] at this; exact this
  have HS : Hid ((⟨((tl s i).takeWhile isPt).toArray⟩ : ByteArray).size = ((tl s i).takeWhile isPt).length) := size_mk _
  have hc := leadP (s.extract i s.size) (by rw [sx_size]; omega)
  rw [sx_list] at hc
  generalize (tl s i).takeWhile isPt = q at *
  obtain ⟨t, ht⟩ : ∃ t : ByteArray, t = ⟨q.toArray⟩ := ⟨_, rfl⟩
  rw [← ht] at HS hc
  have HT : Hid (t = ⟨q.toArray⟩) := ht
  clear ht
  have ht := HS.out
  have hz := HZ.out
  go_enter Tryd.func39, Tryd.ntmps39
  by_cases h12 : 12 < q.length
  · rw [if_pos h12]
    have h13 : (12 : Int) < (t.size : Int) := by omega
    go_wp2_with (go_at_call 61; refine (hc _).mono ?_; rintro e w' ⟨rfl, rfl⟩)
    exact ⟨rfl, (Below.refl _ w).alloc (Nat.le_refl _) _, rfl⟩
  · rw [if_neg h12]
    have h13 : ¬ (12 : Int) < (t.size : Int) := by omega
    go_wp2_with (go_at_call 61; refine (hc _).mono ?_; rintro e w' ⟨rfl, rfl⟩)
    refine bodyPost_ret (v := .tuple #[tokV ⟨3, 0, 0, q⟩ i, .int .i64 ((i : Int) + (q.length : Int))]) (by simp [results, Tryd.results39, go_sem, tokV, HT.out]) rfl ⟨(Below.refl _ w).alloc (Nat.le_refl _) _, ?_⟩
    show _ = _
    rw [Int.natCast_add]
end Go.Proofs.YthfdpfekjcdlbaaDoor
