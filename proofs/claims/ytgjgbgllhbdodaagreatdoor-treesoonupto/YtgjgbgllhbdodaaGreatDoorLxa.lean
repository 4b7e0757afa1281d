
/-
  The program's questions of one byte; what a text begins with.
-/
import Derived.Lib.TrimByte
import Derived.Test.YtgjgbgllhbdodaaGreatDoorLxm
import Derived.Test.YtgjgbgllhbdodaaGreatDoorUtf
import Derived.Test.YtgjgbgllhbdodaaGreatDoorBas9
namespace Go.Proofs.YtgjgbgllhbdodaaGreatDoor
open Go.RowKit
set_option linter.unusedVariables false

def dgI (x : Int) : Bool := decide (48 ≤ x) && decide (x ≤ 57)
def ltI (x : Int) : Bool := decide (65 ≤ x) && decide (x ≤ 90) || decide (97 ≤ x) && decide (x ≤ 122)
def ptI (x : Int) : Bool := ltI x || dgI x || decide (x = 95)
theorem dgI_is (b : UInt8) : dgI (b.toNat : Int) = isDg b := by
  unfold dgI isDg
  rw [show decide ((48 : Int) ≤ (b.toNat : Int)) = decide (48 ≤ b.toNat) from decide_eq_decide.2 (by omega), show decide ((b.toNat : Int) ≤ 57) = decide (b.toNat ≤ 57) from decide_eq_decide.2 (by omega)]
theorem ltI_is (b : UInt8) : ltI (b.toNat : Int) = isLt b := by
  unfold ltI isLt
  rw [show decide ((65 : Int) ≤ (b.toNat : Int)) = decide (65 ≤ b.toNat) from decide_eq_decide.2 (by omega), show decide ((b.toNat : Int) ≤ 90) = decide (b.toNat ≤ 90) from decide_eq_decide.2 (by omega),
    show decide ((97 : Int) ≤ (b.toNat : Int)) = decide (97 ≤ b.toNat) from decide_eq_decide.2 (by omega), show decide ((b.toNat : Int) ≤ 122) = decide (b.toNat ≤ 122) from decide_eq_decide.2 (by omega)]
theorem ptI_is (b : UInt8) : ptI (b.toNat : Int) = isPt b := by
  unfold ptI isPt
  rw [ltI_is, dgI_is, show decide ((b.toNat : Int) = 95) = decide (b.toNat = 95) from decide_eq_decide.2 (by omega)]
theorem dgI_no {x : Int} (h : x < 48 ∨ 57 < x) : dgI x = false := by
  unfold dgI
  rcases h with h | h
  · rw [decide_eq_false (by omega)]; rfl
  · rw [decide_eq_false (p := x ≤ 57) (by omega)]; simp
theorem dgI_yes {x : Int} (h : 48 ≤ x) (h2 : x ≤ 57) : dgI x = true := by
  unfold dgI; rw [decide_eq_true h, decide_eq_true h2]; rfl
set_option maxHeartbeats 1000000 in
theorem dig_any (x : Int) (w : World) : Calls Tryz.prog 73 #[.int .u8 x] w fun e w' => e = .returned (.bool (dgI x)) ∧ w' = w := by
  go_enter Tryz.func73, Tryz.ntmps73
  have : (48 ≤ x ∧ x ≤ 57) ∨ x < 48 ∨ 57 < x := by omega
  rcases this with ⟨h1, h2⟩ | h1 | h1
  · have HD : Hid (dgI x = true) := dgI_yes h1 h2
    go_wp2_with fail
    go_ret
    exact ⟨ret_bool HD.out.symm, rfl⟩
  · have HD : Hid (dgI x = false) := dgI_no (.inl h1)
    go_wp2_with fail
    go_ret
    exact ⟨ret_bool HD.out.symm, rfl⟩
  · have HD : Hid (dgI x = false) := dgI_no (.inr h1)
    have HX : Hid (¬ x ≤ 57) := by show ¬ x ≤ 57; omega
    go_wp2_with fail
    all_goals
      go_ret
      exact ⟨ret_bool (by rw [HD.out]; first | rfl | exact decide_eq_false (Int.not_le.2 HX.out)), rfl⟩
set_option maxHeartbeats 1000000 in
theorem let_any (x : Int) (w : World) : Calls Tryz.prog 76 #[.int .u8 x] w fun e w' => e = .returned (.bool (ltI x)) ∧ w' = w := by
  go_enter Tryz.func76, Tryz.ntmps76
  have : (65 ≤ x ∧ x ≤ 90) ∨ (97 ≤ x ∧ x ≤ 122) ∨ x < 65 ∨ (90 < x ∧ x < 97) ∨ 122 < x := by omega
  rcases this with ⟨h1, h2⟩ | ⟨h1, h2⟩ | h1 | ⟨h1, h2⟩ | h1
  all_goals
    go_wp2_with fail
    go_ret
    refine ⟨?_, rfl⟩
    congr 2
    unfold ltI
    first
      | (rw [decide_eq_true (show 65 ≤ x by omega), decide_eq_true (show x ≤ 90 by omega)]; rfl)
      | (rw [decide_eq_true (show 97 ≤ x by omega), decide_eq_true (show x ≤ 122 by omega)]; simp; done)
      | (rw [decide_eq_false (show ¬ 65 ≤ x by omega), decide_eq_false (show ¬ 97 ≤ x by omega)]; rfl)
      | (rw [decide_eq_false (show ¬ x ≤ 90 by omega), decide_eq_false (show ¬ 97 ≤ x by omega)]; simp; done)
      | (rw [decide_eq_false (show ¬ x ≤ 90 by omega), decide_eq_false (show ¬ x ≤ 122 by omega)]; simp; done)
set_option maxHeartbeats 1000000 in
theorem part_any (x : Int) (w : World) : Calls Tryz.prog 118 #[.int .u8 x] w fun e w' => e = .returned (.bool (ptI x)) ∧ w' = w := by
  by_cases hx : x = 95
  · have HP : Hid (ptI x = true) := by show _ = _; unfold ptI; rw [decide_eq_true hx]; simp
    go_enter Tryz.func118, Tryz.ntmps118
    go_wp2_with (first | (go_at_call 76; refine (let_any _ _).mono ?_; rintro e w' ⟨rfl, rfl⟩; cases ltI x) | (go_at_call 73; refine (dig_any _ _).mono ?_; rintro e w' ⟨rfl, rfl⟩; cases dgI x))
    all_goals
      go_ret
      exact ⟨ret_bool HP.out.symm, rfl⟩
  · have HP : Hid (ptI x = (ltI x || dgI x)) := by show _ = _; unfold ptI; rw [decide_eq_false hx]; simp
    have hx2 : (x == 95) = false := beq_eq_false_iff_ne.2 hx
    go_enter Tryz.func118, Tryz.ntmps118
    cases hl : ltI x
    · cases hd : dgI x
      · have HQ : Hid (ptI x = false) := by show _ = _; rw [HP.out, hl, hd]; rfl
        go_wp2_with (first | (go_at_call 76; refine (let_any _ _).mono ?_; rintro e w' ⟨rfl, rfl⟩; rw [hl]) | (go_at_call 73; refine (dig_any _ _).mono ?_; rintro e w' ⟨rfl, rfl⟩; rw [hd]))
        go_ret
        exact ⟨ret_bool HQ.out.symm, rfl⟩
      · have HQ : Hid (ptI x = true) := by show _ = _; rw [HP.out, hl, hd]; rfl
        go_wp2_with (first | (go_at_call 76; refine (let_any _ _).mono ?_; rintro e w' ⟨rfl, rfl⟩; rw [hl]) | (go_at_call 73; refine (dig_any _ _).mono ?_; rintro e w' ⟨rfl, rfl⟩; rw [hd]))
        go_ret
        exact ⟨ret_bool HQ.out.symm, rfl⟩
    · have HQ : Hid (ptI x = true) := by show _ = _; rw [HP.out, hl]; rfl
      go_wp2_with (first | (go_at_call 76; refine (let_any _ _).mono ?_; rintro e w' ⟨rfl, rfl⟩; rw [hl]) | (go_at_call 73; refine (dig_any _ _).mono ?_; rintro e w' ⟨rfl, rfl⟩))
      go_ret
      exact ⟨ret_bool HQ.out.symm, rfl⟩
theorem tkw_take (p : UInt8 → Bool) : ∀ (l : List UInt8) (k : Nat), k ≤ l.length → (∀ j, j < k → p (l.getD j 0) = true) → (k < l.length → p (l.getD k 0) = false) → l.takeWhile p = l.take k
  | [], 0, _, _, _ => rfl
  | [], k + 1, h, _, _ => by simp at h
  | b :: l, 0, _, _, h => by
    show (match p b with | true => b :: l.takeWhile p | false => []) = _
    rw [show p b = false from h (by simp)]; rfl
  | b :: l, k + 1, h1, h2, h3 => by
    show (match p b with | true => b :: l.takeWhile p | false => []) = _
    rw [show p b = true from h2 0 (by omega), tkw_take p l k (by simpa using h1) (fun j hj => h2 (j + 1) (by omega)) (fun hk => h3 (by simp; omega))]; rfl
theorem leadX {p : Int → Bool} {t : ByteArray} {k : Nat} (hk : k ≤ t.size) (h : ∀ j, j < k → p (bt t j) = true) (h2 : k < t.size → p (bt t k) = false) :
    t.extract 0 k = ⟨((tl t 0).takeWhile fun b => p (b.toNat : Int)).toArray⟩ := by
  have hs : t.size = t.data.toList.length := Lib.size_eq t
  rw [tl_zero, tkw_take (fun b => p (b.toNat : Int)) t.data.toList k (by omega) h (fun hlt => h2 (by omega)), Lib.extract_upto]
set_option maxRecDepth 100000 in
set_option maxHeartbeats 1000000 in
theorem lead_any (p : Int → Bool) (f : Nat) (hE : ∀ args w, (callFunc f args).run Tryz.prog w = .ok (.enter f args) w)
    (hF : ∀ x w, Calls Tryz.prog f #[.int .u8 x] w fun e w' => e = .returned (.bool (p x)) ∧ w' = w) (t : ByteArray) (ht : t.size ≤ 9223372036854775807) (w : World) :
    Calls Tryz.prog 115 #[.string t, .func (.func f) #[] #[]] w fun e w' => e = .returned (.string ⟨((tl t 0).takeWhile fun b => p (b.toNat : Int)).toArray⟩) ∧ w' = w := by
  go_enter Tryz.func115, Tryz.ntmps115
  go_wp2_with fail
  go_loop [5] (fun i => ∃ k : Nat, k ≤ t.size ∧ i = .int .i64 k ∧ Hid (∀ j, j < k → p (bt t j) = true)) (fun i => t.size - (intOf i).toNat)
  case atStart => exact ⟨0, Nat.zero_le _, rfl, fun j hj => by omega⟩
  case round =>
    obtain ⟨k, hk, rfl, HA⟩ := hrel
    by_cases hlt : k < t.size
    · have hbt := bt_get t k hlt
      have ilt : (k : Int) < (t.size : Int) := by omega
      cases hp : p (bt t k)
      · have HL : Hid (t.extract 0 k = ⟨((tl t 0).takeWhile fun b => p (b.toNat : Int)).toArray⟩) := leadX hk HA.out (fun _ => hp)
        go_wp2_with fail
        refine (hF _ _).mono ?_
        rintro e w' ⟨rfl, rfl⟩
        rw [hp]
        go_wp2_with fail
        go_ret
        exact ⟨by rw [← HL.out]; rfl, rfl⟩
      · have HN : Hid (∀ j, j < k + 1 → p (bt t j) = true) := fun j hj => by
          rcases Nat.lt_succ_iff_lt_or_eq.1 hj with h | rfl
          · exact HA.out j h
          · exact hp
        go_wp2_with fail
        refine (hF _ _).mono ?_
        rintro e w' ⟨rfl, rfl⟩
        rw [hp]
        go_wp2_with fail
        go_round
        case rel => exact ⟨k + 1, by omega, by go_num, HN⟩
        case measure => simp [intOf]; omega
    · have HL : Hid (t.extract 0 k = ⟨((tl t 0).takeWhile fun b => p (b.toNat : Int)).toArray⟩) := leadX hk HA.out (fun h => absurd h hlt)
      have ilt : ¬ (k : Int) < (t.size : Int) := by omega
      go_wp2_with fail
      go_ret
      exact ⟨by rw [← HL.out]; rfl, rfl⟩
end Go.Proofs.YtgjgbgllhbdodaaGreatDoor
