/-
  The reference's questions of a byte; which of some signs a text has; whether digits are a number.
-/
import Derived.Laws.DeepStrings4
import Derived.Test.YthfdpfekjcdlbaaGreatDoorLxr
namespace Go.Proofs.YthfdpfekjcdlbaaGreatDoor
open Go.RowKit Go.Lib
set_option linter.unusedVariables false

set_option maxHeartbeats 1000000 in
theorem rdig_any (x : Int) (w : World) : Calls Tryz.prog 30 #[.int .u8 x] w fun e w' => e = .returned (.bool (dgI x)) ∧ w' = w := by
  go_enter Tryz.func30, Tryz.ntmps30
  have : (48 ≤ x ∧ x ≤ 57) ∨ x < 48 ∨ 57 < x := by omega
  rcases this with ⟨h1, h2⟩ | h1 | h1
  · have HD : Hid (dgI x = true) := dgI_yes h1 h2
    go_wp2_with fail
    go_ret
    exact ⟨ret_bool HD.out.symm, rfl⟩
  · have HD : Hid (dgI x = false) := dgI_no (.inl h1)
    go_wp2_with fail
    go_ret
    exact ⟨ret_bool HD.out.symm, rfl⟩
  · have HD : Hid (dgI x = false) := dgI_no (.inr h1)
    have HX : Hid (¬ x ≤ 57) := by show ¬ x ≤ 57; omega
    go_wp2_with fail
    all_goals
      go_ret
      exact ⟨ret_bool (by rw [HD.out]; first | rfl | exact decide_eq_false (Int.not_le.2 HX.out)), rfl⟩
set_option maxHeartbeats 1000000 in
theorem rlet_any (x : Int) (w : World) : Calls Tryz.prog 32 #[.int .u8 x] w fun e w' => e = .returned (.bool (ltI x)) ∧ w' = w := by
  go_enter Tryz.func32, Tryz.ntmps32
  have : (65 ≤ x ∧ x ≤ 90) ∨ (97 ≤ x ∧ x ≤ 122) ∨ x < 65 ∨ (90 < x ∧ x < 97) ∨ 122 < x := by omega
  rcases this with ⟨h1, h2⟩ | ⟨h1, h2⟩ | h1 | ⟨h1, h2⟩ | h1
  all_goals
    go_wp2_with fail
    go_ret
    refine ⟨?_, rfl⟩
    congr 2
    unfold ltI
    first
      | (rw [decide_eq_true (show 65 ≤ x by omega), decide_eq_true (show x ≤ 90 by omega)]; rfl)
      | (rw [decide_eq_true (show 97 ≤ x by omega), decide_eq_true (show x ≤ 122 by omega)]; simp; done)
      | (rw [decide_eq_false (show ¬ 65 ≤ x by omega), decide_eq_false (show ¬ 97 ≤ x by omega)]; rfl)
      | (rw [decide_eq_false (show ¬ x ≤ 90 by omega), decide_eq_false (show ¬ 97 ≤ x by omega)]; simp; done)
      | (rw [decide_eq_false (show ¬ x ≤ 90 by omega), decide_eq_false (show ¬ x ≤ 122 by omega)]; simp; done)
set_option maxHeartbeats 1000000 in
theorem rpart_any (x : Int) (w : World) : Calls Tryz.prog 33 #[.int .u8 x] w fun e w' => e = .returned (.bool (ptI x)) ∧ w' = w := by
  by_cases hx : x = 95
  · have HP : Hid (ptI x = true) := by show _ = _; unfold ptI; rw [decide_eq_true hx]; simp
    go_enter Tryz.func33, Tryz.ntmps33
    go_wp2_with (first | (go_at_call 32; refine (rlet_any _ _).mono ?_; rintro e w' ⟨rfl, rfl⟩; cases ltI x) | (go_at_call 30; refine (rdig_any _ _).mono ?_; rintro e w' ⟨rfl, rfl⟩; cases dgI x))
    all_goals
      go_ret
      exact ⟨ret_bool HP.out.symm, rfl⟩
  · have HP : Hid (ptI x = (ltI x || dgI x)) := by show _ = _; unfold ptI; rw [decide_eq_false hx]; simp
    have hx2 : (x == 95) = false := beq_eq_false_iff_ne.2 hx
    go_enter Tryz.func33, Tryz.ntmps33
    cases hl : ltI x
    · cases hd : dgI x
      · have HQ : Hid (ptI x = false) := by show _ = _; rw [HP.out, hl, hd]; rfl
        go_wp2_with (first | (go_at_call 32; refine (rlet_any _ _).mono ?_; rintro e w' ⟨rfl, rfl⟩; rw [hl]) | (go_at_call 30; refine (rdig_any _ _).mono ?_; rintro e w' ⟨rfl, rfl⟩; rw [hd]))
        go_ret
        exact ⟨ret_bool HQ.out.symm, rfl⟩
      · have HQ : Hid (ptI x = true) := by show _ = _; rw [HP.out, hl, hd]; rfl
        go_wp2_with (first | (go_at_call 32; refine (rlet_any _ _).mono ?_; rintro e w' ⟨rfl, rfl⟩; rw [hl]) | (go_at_call 30; refine (rdig_any _ _).mono ?_; rintro e w' ⟨rfl, rfl⟩; rw [hd]))
        go_ret
        exact ⟨ret_bool HQ.out.symm, rfl⟩
    · have HQ : Hid (ptI x = true) := by show _ = _; rw [HP.out, hl]; rfl
      go_wp2_with (first | (go_at_call 32; refine (rlet_any _ _).mono ?_; rintro e w' ⟨rfl, rfl⟩; rw [hl]) | (go_at_call 30; refine (rdig_any _ _).mono ?_; rintro e w' ⟨rfl, rfl⟩))
      go_ret
      exact ⟨ret_bool HQ.out.symm, rfl⟩
/-- How long a sign is, by its first byte. -/
def wid (b : Nat) : Nat := if 224 ≤ b then 3 else if 192 ≤ b then 2 else 1
def TabOk (tab : List (List UInt8)) : Prop := ∀ g ∈ tab, g.length = wid (g.getD 0 0).toNat
theorem glyB_ok : TabOk glyB := by unfold TabOk; decide
theorem sgnB_ok : TabOk sgnB := by unfold TabOk; decide
theorem wid_pos (b : Nat) : 1 ≤ wid b ∧ wid b ≤ 3 := by unfold wid; split <;> (try split) <;> omega
theorem first_at : ∀ (tab : List (List UInt8)) (l : List UInt8) (k j : Nat), j < tab.length → (∀ a, a < j → (tab.getD a []).isPrefixOf l = false) → (tab.getD j []).isPrefixOf l = true → firstS tab l k = some (k + j, (tab.getD j []).length)
  | [], l, k, j, h, _, _ => by simp at h
  | g :: t, l, k, 0, _, _, h => by
    show (if g.isPrefixOf l = true then some (k, g.length) else _) = _
    have h' : g.isPrefixOf l = true := h
    rw [if_pos h']; rfl
  | g :: t, l, k, j + 1, h, h1, h2 => by
    show (if g.isPrefixOf l = true then some (k, g.length) else firstS t l (k + 1)) = _
    rw [if_neg (by rw [show g.isPrefixOf l = false from h1 0 (by omega)]; exact Bool.false_ne_true), first_at t l (k + 1) j (by simpa using h) (fun a ha => h1 (a + 1) (by omega)) h2, show k + 1 + j = k + (j + 1) by omega]; rfl
theorem first_none : ∀ (tab : List (List UInt8)) (l : List UInt8) (k : Nat), (∀ a, a < tab.length → (tab.getD a []).isPrefixOf l = false) → firstS tab l k = none
  | [], l, k, _ => rfl
  | g :: t, l, k, h => by
    show (if g.isPrefixOf l = true then some (k, g.length) else firstS t l (k + 1)) = _
    rw [if_neg (by rw [show g.isPrefixOf l = false from h 0 (by simp)]; exact Bool.false_ne_true), first_none t l (k + 1) (fun a ha => h (a + 1) (by simpa using ha))]
/-- Where sign number j begins, and what stands there. -/
def offS (tab : List (List UInt8)) (j : Nat) : Nat := (tab.take j).flatten.length
theorem off_at {tab : List (List UInt8)} {p : ByteArray} (hp : p.data.toList = tab.flatten) (hw : TabOk tab) {j : Nat} (hj : j < tab.length) :
    offS tab (j + 1) = offS tab j + (tab.getD j []).length ∧ offS tab (j + 1) ≤ p.size ∧ (tab.getD j []).length = wid (bt p (offS tab j)) ∧
    ∃ r, tl p (offS tab j) = tab.getD j [] ++ r := by
  have hg : tab.getD j [] = tab[j] := by rw [List.getD_eq_getElem?_getD, List.getElem?_eq_getElem hj]; rfl
  have ht : tab.take (j + 1) = tab.take j ++ [tab[j]] := List.take_succ_eq_append_getElem hj
  have h1 : offS tab (j + 1) = offS tab j + (tab.getD j []).length := by
    unfold offS
    rw [ht, List.flatten_append, List.length_append, hg]; simp
  have hsp : tab.flatten = (tab.take j).flatten ++ (tab.getD j [] ++ (tab.drop (j + 1)).flatten) := by
    have h := List.take_append_drop (j + 1) tab
    have h2 := congrArg List.flatten h
    rw [List.flatten_append, ht, List.flatten_append] at h2
    rw [← h2, hg, List.append_assoc]; simp
  have hd : tl p (offS tab j) = tab.getD j [] ++ (tab.drop (j + 1)).flatten := by
    unfold tl offS
    rw [hp, hsp]; exact List.drop_left
  have hpos : 1 ≤ (tab.getD j []).length := by
    rw [hg, hw _ (List.getElem_mem hj)]; exact (wid_pos _).1
  refine ⟨h1, ?_, ?_, _, hd⟩
  · rw [h1, size_eq, hp, hsp, List.length_append, List.length_append]
    unfold offS; omega
  · rw [hg, hw _ (List.getElem_mem hj), ← hg]
    congr 1
    unfold bt
    have e : p.data.toList.getD (offS tab j) 0 = (tl p (offS tab j)).getD 0 0 := by
      unfold tl
      rw [List.getD_eq_getElem?_getD, List.getD_eq_getElem?_getD, List.getElem?_drop, Nat.add_zero]
    rw [e, hd]
    cases hgg : tab.getD j [] with
    | nil => rw [hgg] at hpos; simp at hpos
    | cons b r => rfl
theorem off_end {tab : List (List UInt8)} {p : ByteArray} (hp : p.data.toList = tab.flatten) : offS tab tab.length = p.size := by
  unfold offS; rw [List.take_length, size_eq, hp]
/-- Which sign, from 1, and how long: as the reference tells it. -/
def sgA (tab : List (List UInt8)) (l : List UInt8) : Int := match firstS tab l 0 with | some (k, n) => (k : Int) + 1 | none => 0
def sgL (tab : List (List UInt8)) (l : List UInt8) : Int := match firstS tab l 0 with | some (k, n) => (n : Int) | none => 0
theorem sg_some {tab : List (List UInt8)} {l : List UInt8} {k n : Nat} (h : firstS tab l 0 = some (k, n)) : sgA tab l = (k : Int) + 1 ∧ sgL tab l = (n : Int) := by unfold sgA sgL; rw [h]; exact ⟨rfl, rfl⟩
theorem sg_none {tab : List (List UInt8)} {l : List UInt8} (h : firstS tab l 0 = none) : sgA tab l = 0 ∧ sgL tab l = 0 := by unfold sgA sgL; rw [h]; exact ⟨rfl, rfl⟩
set_option maxRecDepth 100000 in
set_option maxHeartbeats 4000000 in
theorem rsign_any (tab : List (List UInt8)) (hw : TabOk tab) (htl : tab.length ≤ 1000) (s p : ByteArray) (hp : p.data.toList = tab.flatten) (hps : p.size ≤ 1000) (i : Nat) (hi : i ≤ s.size) (hs : s.size ≤ 9223372036854775807) (w : World) :
    Calls Tryz.prog 35 #[.string s, .int .i64 i, .string p] w fun e w' => e = .returned (.tuple #[.int .i64 (sgA tab (tl s i)), .int .i64 (sgL tab (tl s i))]) ∧ Below w.heap.size w w' := by
  have HO : Hid (∀ j, j < tab.length → offS tab (j + 1) = offS tab j + (tab.getD j []).length ∧ offS tab (j + 1) ≤ p.size ∧ (tab.getD j []).length = wid (bt p (offS tab j)) ∧ ∃ r, tl p (offS tab j) = tab.getD j [] ++ r) := fun j hj => off_at hp hw hj
  have HE : Hid (offS tab tab.length = p.size) := off_end hp
  clear hw hp
  go_enter Tryz.func35, Tryz.ntmps35
  go_wp2_with fail
  go_loopw [8, 9] (fun n v wr => ∃ j : Nat, j ≤ tab.length ∧ n = .int .i64 j ∧ v = .int .i64 (offS tab j) ∧ Hid (∀ a, a < j → (tab.getD a []).isPrefixOf (tl s i) = false) ∧ Hid (Below w.heap.size w wr)) (fun n _ _ => tab.length - (RowKit.intOf n).toNat)
  case atStart => exact ⟨0, Nat.zero_le _, rfl, rfl, (fun a ha => by omega : ∀ a, a < 0 → (tab.getD a []).isPrefixOf (tl s i) = false), Below.refl _ _⟩
  case round =>
    obtain ⟨j, hj, rfl, rfl, HN, HB⟩ := hrel
    by_cases hlt : j < tab.length
    · obtain ⟨o1, o2, o3, r, o4⟩ := HO.out j hlt
      have hwp := wid_pos (bt p (offS tab j))
      have hop : offS tab j < p.size := by omega
      have hbt := bt_get p (offS tab j) hop
      have hg : tl (p.extract (offS tab j) (offS tab j + (tab.getD j []).length)) 0 = tab.getD j [] := by
        rw [tl_zero, extract_data, Nat.add_sub_cancel_left]
        show (tl p (offS tab j)).take _ = _
        rw [o4]; exact List.take_left
      have hgs : (p.extract (offS tab j) (offS tab j + (tab.getD j []).length)).size ≤ 1000 := by rw [ByteArray.size_extract]; omega
      have hc := begins_any s (p.extract (offS tab j) (offS tab j + (tab.getD j []).length)) i hi hs hgs wr
      rw [hg] at hc
      clear hg hgs o4
      have HN1 : Hid ((tab.getD j []).isPrefixOf (tl s i) = false → ∀ a, a < j + 1 → (tab.getD a []).isPrefixOf (tl s i) = false) := fun h a ha => by
        rcases Nat.lt_succ_iff_lt_or_eq.1 ha with h1 | rfl
        · exact HN.out a h1
        · exact h
      have HY : Hid ((tab.getD j []).isPrefixOf (tl s i) = true → sgA tab (tl s i) = (j : Int) + 1 ∧ sgL tab (tl s i) = ((tab.getD j []).length : Int)) := fun h => by
        have := first_at tab (tl s i) 0 j hlt HN.out h
        rw [Nat.zero_add] at this
        exact sg_some this
      have hjl : (offS tab j : Int) < (p.size : Int) := by omega
      generalize (tab.getD j []).length = L at *
      generalize offS tab j = O at *
      generalize hb : bt p O = b at *
      clear hb
      have hb3 : (224 ≤ b ∧ L = 3) ∨ (b < 224 ∧ 192 ≤ b ∧ L = 2) ∨ (b < 224 ∧ b < 192 ∧ L = 1) := by
        unfold wid at o3
        by_cases h1 : 224 ≤ b
        · rw [if_pos h1] at o3; omega
        · rw [if_neg h1] at o3
          by_cases h2 : 192 ≤ b
          · rw [if_pos h2] at o3; omega
          · rw [if_neg h2] at o3; omega
      clear o3 hwp
      cases hpre : (tab.getD j []).isPrefixOf (tl s i)
      · have HX := HN1.out hpre
        rw [hpre] at hc
        have HXX : Hid (∀ a, a < j + 1 → (tab.getD a []).isPrefixOf (tl s i) = false) := HX
        clear HX HN1 HY hpre
        rcases hb3 with ⟨h1, rfl⟩ | ⟨h1, h2, rfl⟩ | ⟨h1, h2, rfl⟩
        all_goals
          go_wp2_with fail
          refine hc.mono ?_
          rintro e w1 ⟨rfl, hB1⟩
          go_wp2_with fail
          refine ⟨⟨j + 1, by omega, by go_num, by rw [o1]; go_num, HXX, HB.out.trans (hB1.mono HB.out.size)⟩, by simp [RowKit.intOf]; omega⟩
      · obtain ⟨y1, y2⟩ := HY.out hpre
        rw [hpre] at hc
        have HZ : Hid (sgA tab (tl s i) = (j : Int) + 1 ∧ sgL tab (tl s i) = (L : Int)) := ⟨y1, y2⟩
        clear y1 y2 HN1 HY hpre
        rcases hb3 with ⟨h1, rfl⟩ | ⟨h1, h2, rfl⟩ | ⟨h1, h2, rfl⟩
        all_goals
          go_wp2_with fail
          refine hc.mono ?_
          rintro e w1 ⟨rfl, hB1⟩
          go_wp2_with fail
          rw [HZ.out.1, HZ.out.2]
          exact bodyPost_ret (by simp [results, Tryz.results35, go_sem]; done) rfl ⟨rfl, HB.out.trans (hB1.mono HB.out.size)⟩
    · obtain rfl : j = tab.length := by omega
      have HZ : Hid (sgA tab (tl s i) = 0 ∧ sgL tab (tl s i) = 0) := sg_none (first_none tab (tl s i) 0 HN.out)
      have hE := HE.out
      have hjl : ¬ (offS tab tab.length : Int) < (p.size : Int) := by omega
      go_wp2_with fail
      rw [HZ.out.1, HZ.out.2]
      exact bodyPost_ret (by simp [results, Tryz.results35, go_sem]; done) rfl ⟨rfl, HB.out⟩
end Go.Proofs.YthfdpfekjcdlbaaGreatDoor
