
/-
  The reference's questions of a byte; which of some signs a text has; whether digits are a number.
-/
import Derived.Laws.DeepStrings4
import Derived.Test.YtgjgbgllhbdodaaGreatDoorLxs
namespace Go.Proofs.YtgjgbgllhbdodaaGreatDoor
open Go.RowKit Go.Lib
set_option linter.unusedVariables false

set_option maxHeartbeats 1000000 in
theorem rdig_any (x : Int) (w : World) : Calls Tryz.prog 147 #[.int .u8 x] w fun e w' => e = .returned (.bool (dgI x)) ∧ w' = w := by
  go_enter Tryz.func147, Tryz.ntmps147
  have : (48 ≤ x ∧ x ≤ 57) ∨ x < 48 ∨ 57 < x := by omega
  rcases this with ⟨h1, h2⟩ | h1 | h1
  · have HD : Hid (dgI x = true) := dgI_yes h1 h2
    go_wp2_with fail
    go_ret
    exact ⟨ret_bool HD.out.symm, rfl⟩
  · have HD : Hid (dgI x = false) := dgI_no (.inl h1)
    go_wp2_with fail
    go_ret
    exact ⟨ret_bool HD.out.symm, rfl⟩
  · have HD : Hid (dgI x = false) := dgI_no (.inr h1)
    have HX : Hid (¬ x ≤ 57) := by show ¬ x ≤ 57; omega
    go_wp2_with fail
    all_goals
      go_ret
      exact ⟨ret_bool (by rw [HD.out]; first | rfl | exact decide_eq_false (Int.not_le.2 HX.out)), rfl⟩
set_option maxHeartbeats 1000000 in
theorem rlet_any (x : Int) (w : World) : Calls Tryz.prog 121 #[.int .u8 x] w fun e w' => e = .returned (.bool (ltI x)) ∧ w' = w := by
  go_enter Tryz.func121, Tryz.ntmps121
  have : (65 ≤ x ∧ x ≤ 90) ∨ (97 ≤ x ∧ x ≤ 122) ∨ x < 65 ∨ (90 < x ∧ x < 97) ∨ 122 < x := by omega
  rcases this with ⟨h1, h2⟩ | ⟨h1, h2⟩ | h1 | ⟨h1, h2⟩ | h1
  all_goals
    go_wp2_with fail
    go_ret
    refine ⟨?_, rfl⟩
    congr 2
    unfold ltI
    first
      | (rw [decide_eq_true (show 65 ≤ x by omega), decide_eq_true (show x ≤ 90 by omega)]; rfl)
      | (rw [decide_eq_true (show 97 ≤ x by omega), decide_eq_true (show x ≤ 122 by omega)]; simp; done)
      | (rw [decide_eq_false (show ¬ 65 ≤ x by omega), decide_eq_false (show ¬ 97 ≤ x by omega)]; rfl)
      | (rw [decide_eq_false (show ¬ x ≤ 90 by omega), decide_eq_false (show ¬ 97 ≤ x by omega)]; simp; done)
      | (rw [decide_eq_false (show ¬ x ≤ 90 by omega), decide_eq_false (show ¬ x ≤ 122 by omega)]; simp; done)
set_option maxHeartbeats 1000000 in
theorem rpart_any (x : Int) (w : World) : Calls Tryz.prog 122 #[.int .u8 x] w fun e w' => e = .returned (.bool (ptI x)) ∧ w' = w := by
  by_cases hx : x = 95
  · have HP : Hid (ptI x = true) := by show _ = _; unfold ptI; rw [decide_eq_true hx]; simp
    go_enter Tryz.func122, Tryz.ntmps122
    go_wp2_with (first | (go_at_call 121; refine (rlet_any _ _).mono ?_; rintro e w' ⟨rfl, rfl⟩; cases ltI x) | (go_at_call 147; refine (rdig_any _ _).mono ?_; rintro e w' ⟨rfl, rfl⟩; cases dgI x))
    all_goals
      go_ret
      exact ⟨ret_bool HP.out.symm, rfl⟩
  · have HP : Hid (ptI x = (ltI x || dgI x)) := by show _ = _; unfold ptI; rw [decide_eq_false hx]; simp
    have hx2 : (x == 95) = false := beq_eq_false_iff_ne.2 hx
    go_enter Tryz.func122, Tryz.ntmps122
    cases hl : ltI x
    · cases hd : dgI x
      · have HQ : Hid (ptI x = false) := by show _ = _; rw [HP.out, hl, hd]; rfl
        go_wp2_with (first | (go_at_call 121; refine (rlet_any _ _).mono ?_; rintro e w' ⟨rfl, rfl⟩; rw [hl]) | (go_at_call 147; refine (rdig_any _ _).mono ?_; rintro e w' ⟨rfl, rfl⟩; rw [hd]))
        go_ret
        exact ⟨ret_bool HQ.out.symm, rfl⟩
      · have HQ : Hid (ptI x = true) := by show _ = _; rw [HP.out, hl, hd]; rfl
        go_wp2_with (first | (go_at_call 121; refine (rlet_any _ _).mono ?_; rintro e w' ⟨rfl, rfl⟩; rw [hl]) | (go_at_call 147; refine (rdig_any _ _).mono ?_; rintro e w' ⟨rfl, rfl⟩; rw [hd]))
        go_ret
        exact ⟨ret_bool HQ.out.symm, rfl⟩
    · have HQ : Hid (ptI x = true) := by show _ = _; rw [HP.out, hl]; rfl
      go_wp2_with (first | (go_at_call 121; refine (rlet_any _ _).mono ?_; rintro e w' ⟨rfl, rfl⟩; rw [hl]) | (go_at_call 147; refine (rdig_any _ _).mono ?_; rintro e w' ⟨rfl, rfl⟩))
      go_ret
      exact ⟨ret_bool HQ.out.symm, rfl⟩
/-- How long a sign is, by its first byte. -/
def wid (b : Nat) : Nat := if 224 ≤ b then 3 else if 192 ≤ b then 2 else 1
def TabOk (tab : List (List UInt8)) : Prop := ∀ g ∈ tab, g.length = wid (g.getD 0 0).toNat
theorem glyB_ok : TabOk glyB := by unfold TabOk; decide
theorem sgnB_ok : TabOk sgnB := by unfold TabOk; decide
theorem wid_pos (b : Nat) : 1 ≤ wid b ∧ wid b ≤ 3 := by unfold wid; split <;> (try split) <;> omega
theorem first_at : ∀ (tab : List (List UInt8)) (l : List UInt8) (k j : Nat), j < tab.length → (∀ a, a < j → (tab.getD a []).isPrefixOf l = false) → (tab.getD j []).isPrefixOf l = true → firstS tab l k = some (k + j, (tab.getD j []).length)
  | [], l, k, j, h, _, _ => by simp at h
  | g :: t, l, k, 0, _, _, h => by
    show (if g.isPrefixOf l = true then some (k, g.length) else _) = _
    have h' : g.isPrefixOf l = true := h
    rw [if_pos h']; rfl
  | g :: t, l, k, j + 1, h, h1, h2 => by
    show (if g.isPrefixOf l = true then some (k, g.length) else firstS t l (k + 1)) = _
    rw [if_neg (by rw [show g.isPrefixOf l = false from h1 0 (by omega)]; exact Bool.false_ne_true), first_at t l (k + 1) j (by simpa using h) (fun a ha => h1 (a + 1) (by omega)) h2, show k + 1 + j = k + (j + 1) by omega]; rfl
theorem first_none : ∀ (tab : List (List UInt8)) (l : List UInt8) (k : Nat), (∀ a, a < tab.length → (tab.getD a []).isPrefixOf l = false) → firstS tab l k = none
  | [], l, k, _ => rfl
  | g :: t, l, k, h => by
    show (if g.isPrefixOf l = true then some (k, g.length) else firstS t l (k + 1)) = _
    rw [if_neg (by rw [show g.isPrefixOf l = false from h 0 (by simp)]; exact Bool.false_ne_true), first_none t l (k + 1) (fun a ha => h (a + 1) (by simpa using ha))]
/-- Where sign number j begins, and what stands there. -/
def offS (tab : List (List UInt8)) (j : Nat) : Nat := (tab.take j).flatten.length
theorem off_at {tab : List (List UInt8)} {p : ByteArray} (hp : p.data.toList = tab.flatten) (hw : TabOk tab) {j : Nat} (hj : j < tab.length) :
    offS tab (j + 1) = offS tab j + (tab.getD j []).length ∧ offS tab (j + 1) ≤ p.size ∧ (tab.getD j []).length = wid (bt p (offS tab j)) ∧
    ∃ r, tl p (offS tab j) = tab.getD j [] ++ r := by
  have hg : tab.getD j [] = tab[j] := by rw [List.getD_eq_getElem?_getD, List.getElem?_eq_getElem hj]; rfl
  have ht : tab.take (j + 1) = tab.take j ++ [tab[j]] := List.take_succ_eq_append_getElem hj
  have h1 : offS tab (j + 1) = offS tab j + (tab.getD j []).length := by
    unfold offS
    rw [ht, List.flatten_append, List.length_append, hg]; simp
  have hsp : tab.flatten = (tab.take j).flatten ++ (tab.getD j [] ++ (tab.drop (j + 1)).flatten) := by
    have h := List.take_append_drop (j + 1) tab
    have h2 := congrArg List.flatten h
    rw [List.flatten_append, ht, List.flatten_append] at h2
    rw [← h2, hg, List.append_assoc]; simp
  have hd : tl p (offS tab j) = tab.getD j [] ++ (tab.drop (j + 1)).flatten := by
    unfold tl offS
    rw [hp, hsp]; exact List.drop_left
  have hpos : 1 ≤ (tab.getD j []).length := by
    rw [hg, hw _ (List.getElem_mem hj)]; exact (wid_pos _).1
  refine ⟨h1, ?_, ?_, _, hd⟩
  · rw [h1, size_eq, hp, hsp, List.length_append, List.length_append]
    unfold offS; omega
  · rw [hg, hw _ (List.getElem_mem hj), ← hg]
    congr 1
    unfold bt
    have e : p.data.toList.getD (offS tab j) 0 = (tl p (offS tab j)).getD 0 0 := by
      unfold tl
      rw [List.getD_eq_getElem?_getD, List.getD_eq_getElem?_getD, List.getElem?_drop, Nat.add_zero]
    rw [e, hd]
    cases hgg : tab.getD j [] with
    | nil => rw [hgg] at hpos; simp at hpos
    | cons b r => rfl
theorem off_end {tab : List (List UInt8)} {p : ByteArray} (hp : p.data.toList = tab.flatten) : offS tab tab.length = p.size := by
  unfold offS; rw [List.take_length, size_eq, hp]
/-- Which sign, from 1, and how long: as the reference tells it. -/
def sgA (tab : List (List UInt8)) (l : List UInt8) : Int := match firstS tab l 0 with | some (k, n) => (k : Int) + 1 | none => 0
def sgL (tab : List (List UInt8)) (l : List UInt8) : Int := match firstS tab l 0 with | some (k, n) => (n : Int) | none => 0
theorem sg_some {tab : List (List UInt8)} {l : List UInt8} {k n : Nat} (h : firstS tab l 0 = some (k, n)) : sgA tab l = (k : Int) + 1 ∧ sgL tab l = (n : Int) := by unfold sgA sgL; rw [h]; exact ⟨rfl, rfl⟩
theorem sg_none {tab : List (List UInt8)} {l : List UInt8} (h : firstS tab l 0 = none) : sgA tab l = 0 ∧ sgL tab l = 0 := by unfold sgA sgL; rw [h]; exact ⟨rfl, rfl⟩
end Go.Proofs.YtgjgbgllhbdodaaGreatDoor
