/-
  What the statements on digits ask: are they digits of these bases; are the numbers small; is a number within.
-/
import Derived.Deep.QuietTactic
import Derived.BigQuiet
import Derived.WalkSmall
import Derived.Test.YtigichhcoflaiaaRdq
namespace Go.Proofs.Ytigichhcoflaiaa
open Go.RowKit
set_option linter.unusedVariables false

theorem lit_all11 {xs : List Int} (h : xs.all (fun x => decide (-9223372036854775808 ≤ x ∧ x ≤ 9223372036854775807)) = true) : ∀ j, In64 (nth xs j) := fun j => by
  by_cases hj : j < xs.length
  · have : nth xs j ∈ xs := by simp [nth, hj]
    exact of_decide_eq_true (p := -9223372036854775808 ≤ nth xs j ∧ nth xs j ≤ 9223372036854775807) (List.all_eq_true.1 h _ this)
  · have : nth xs j = 0 := by simp [nth, List.getElem?_eq_none (Nat.le_of_not_lt hj)]
    rw [this]; unfold In64; decide
theorem ret_bool11 {a b : Bool} (h : a = b) : Ending.returned (.bool a) = .returned (.bool b) := by rw [h]
/-- Digits of these bases, all above 0, of a number below 2^62. -/
def Pr (b d : List Int) : Prop := d.length = b.length ∧ b.length ≤ 62 ∧ Prp b d b.length ∧ pk b b.length ≤ 4611686018427387904
set_option maxRecDepth 100000 in
set_option maxHeartbeats 4000000 in
theorem proper_any (a : Option Addr) (cap : Nat) (b : List Int) (a' : Option Addr) (cap' : Nat) (d : List Int) (h1 : b.length ≤ 9223372036854775807) (h2 : d.length ≤ 9223372036854775807) (w : World) (hI : IsInts w.heap.size w a b) (hI' : IsInts w.heap.size w a' d) :
    Calls Try.prog 7 #[.slice a b.length cap, .slice a' d.length cap'] w fun e w' => ∃ t : Bool, e = .returned (.bool t) ∧ (t = true ↔ Pr b d) ∧ Below w.heap.size w w' := by
  by_cases hd : d.length = b.length
  rotate_left
  · have hne : ((b.length : Int) != (d.length : Int)) = true := by rw [bne_iff_ne]; omega
    have HF : Hid (¬ Pr b d) := fun h => hd h.1
    clear hd
    go_enter Try.func7, Try.ntmps7
    go_wp2_with fail
    go_ret
    exact ⟨false, rfl, ⟨fun h => absurd h (by decide), fun h => absurd h HF.out⟩, Below.refl _ _⟩
  have hne : ((b.length : Int) != (d.length : Int)) = false := by rw [hd]; simp
  by_cases hl : b.length ≤ 62
  rotate_left
  · have HF : Hid (¬ Pr b d) := fun h => hl h.2.1
    clear hd
    go_enter Try.func7, Try.ntmps7
    go_wp2_with fail
    go_ret
    exact ⟨false, rfl, ⟨fun h => absurd h (by decide), fun h => absurd h HF.out⟩, Below.refl _ _⟩
  have HI : Hid (IsInts w.heap.size w a b ∧ IsInts w.heap.size w a' d) := ⟨hI, hI'⟩
  have HD : Hid (d.length = b.length ∧ b.length ≤ 62) := ⟨hd, hl⟩
  clear hI hI' hd
  go_enter Try.func7, Try.ntmps7
  go_wp2_with fail
  go_loopw [5, 6] (fun x i wr => ∃ k : Nat, k ≤ b.length ∧ i = .int .i64 k ∧ x = .int .i64 (4611686018427387904 / pk b k) ∧ Hid (Prp b d k) ∧ ∃ m, wr = w.drewN m) (fun _ i _ => b.length - (intOf i).toNat)
  case atStart => exact ⟨0, Nat.zero_le _, rfl, by simp [pk], fun i hi => by omega, 0, rfl⟩
  case round =>
    obtain ⟨k, hk, rfl, rfl, HP, m, rfl⟩ := hrel
    by_cases hlt : k < b.length
    · have hlt' : k < d.length := by rw [HD.out.1]; exact hlt
      obtain ⟨bb, off, rfl, hb, hcell⟩ := HI.out.1.at hlt
      obtain ⟨b', off', rfl, hb', hcell'⟩ := HI.out.2.at hlt'
      have hc := hcell k hlt
      have hc' := hcell' k hlt'
      clear hcell hcell'
      by_cases g1 : nth b k < 1
      · have hd1 : decide (nth b k < 1) = true := decide_eq_true g1
        have HF : Hid (¬ Pr b d) := fun h => by have := (h.2.2.1 k hlt).1; omega
        clear g1
        generalize (4611686018427387904 / pk b k : Int) = R at *
        go_wp2_with fail
        go_quiet (fail)
        go_wp2_with fail
        go_ret
        exact ⟨false, rfl, ⟨fun h => absurd h (by decide), fun h => absurd h HF.out⟩, bel_drewN (bel_drewN (Below.refl _ _) _) _⟩
      have hd1 : decide (nth b k < 1) = false := decide_eq_false g1
      by_cases g2 : nth d k < 0
      · have hd2 : decide (nth d k < 0) = true := decide_eq_true g2
        have HF : Hid (¬ Pr b d) := fun h => by have := (h.2.2.1 k hlt).2.1; omega
        clear g1 g2
        generalize (4611686018427387904 / pk b k : Int) = R at *
        go_wp2_with fail
        go_quiet (fail)
        go_wp2_with fail
        go_ret
        exact ⟨false, rfl, ⟨fun h => absurd h (by decide), fun h => absurd h HF.out⟩, bel_drewN (bel_drewN (Below.refl _ _) _) _⟩
      have hd2 : decide (nth d k < 0) = false := decide_eq_false g2
      by_cases g3 : nth d k ≥ nth b k
      · have hd3 : decide (nth d k ≥ nth b k) = true := decide_eq_true g3
        have HF : Hid (¬ Pr b d) := fun h => by have := (h.2.2.1 k hlt).2.2; omega
        clear g1 g2 g3
        generalize (4611686018427387904 / pk b k : Int) = R at *
        go_wp2_with fail
        go_quiet (fail)
        go_wp2_with fail
        go_ret
        exact ⟨false, rfl, ⟨fun h => absurd h (by decide), fun h => absurd h HF.out⟩, bel_drewN (bel_drewN (Below.refl _ _) _) _⟩
      have hd3 : decide (nth d k ≥ nth b k) = false := decide_eq_false g3
      have HN : Hid (Prp b d (k + 1)) := HP.out.more (by omega) (by omega) (by omega)
      have HS : Hid ((4611686018427387904 / pk b k : Int).tdiv (nth b k) = 4611686018427387904 / pk b (k + 1)) := room_step HN.out
      have hR := room_bd HP.out
      have hR2 := room_bd HN.out
      rw [← HS.out] at hR2
      have hnz : nth b k ≠ 0 := by omega
      clear g1 g2 g3
      generalize (4611686018427387904 / pk b k : Int) = R at *
      go_wp2_with fail
      go_quiet (fail)
      go_wp2_with fail
      exact ⟨⟨k + 1, by omega, by go_num, by rw [HS.out], HN, _, rfl⟩, by simp [intOf]; omega⟩
    · obtain rfl : k = b.length := by omega
      have HR := room_iff HP.out
      have HF : Hid (0 < (4611686018427387904 / pk b b.length : Int) ↔ Pr b d) := by
        show _ ↔ _
        rw [HR]
        exact ⟨fun h => ⟨HD.out.1, HD.out.2, HP.out, h⟩, fun h => h.2.2.2⟩
      clear HR
      generalize (4611686018427387904 / pk b b.length : Int) = R at *
      go_wp2_with fail
      go_ret
      exact ⟨_, rfl, ⟨fun h => HF.out.1 (of_decide_eq_true h), fun h => decide_eq_true (HF.out.2 h)⟩, bel_drewN (Below.refl _ _) _⟩
/-- At most so many numbers, each no further than so much from 0. -/
def Sm (b : List Int) (n far : Int) : Prop := (b.length : Int) ≤ n ∧ ∀ k, k < b.length → nth b k ≤ far ∧ -far ≤ nth b k
set_option maxRecDepth 100000 in
set_option maxHeartbeats 4000000 in
theorem small_any (a : Option Addr) (cap : Nat) (b : List Int) (h1 : b.length ≤ 9223372036854775807) (w : World) (hI : IsInts w.heap.size w a b) :
    Calls Try.prog 13 #[.slice a b.length cap, .int .i64 4, .int .i64 1000] w fun e w' => ∃ t : Bool, e = .returned (.bool t) ∧ (t = true ↔ Sm b 4 1000) ∧ Below w.heap.size w w' := by
  by_cases hl : b.length ≤ 4
  rotate_left
  · have HF : Hid (¬ Sm b 4 1000) := fun h => hl (by have := h.1; omega)
    go_enter Try.func13, Try.ntmps13
    go_wp2_with fail
    go_ret
    exact ⟨false, rfl, ⟨fun h => absurd h (by decide), fun h => absurd h HF.out⟩, Below.refl _ _⟩
  have HI : Hid (IsInts w.heap.size w a b) := hI
  clear hI
  go_enter Try.func13, Try.ntmps13
  go_wp2_with fail
  go_loopw [7] (fun i wr => ∃ k : Nat, k ≤ b.length ∧ i = .int .i64 k ∧ Hid (∀ j, j < k → nth b j ≤ 1000 ∧ -1000 ≤ nth b j) ∧ Below w.heap.size w wr) (fun i _ => b.length - (intOf i).toNat)
  case atStart => exact ⟨0, Nat.zero_le _, rfl, fun j hj => by omega, Below.refl _ _⟩
  case round =>
    obtain ⟨k, hk, rfl, HP, hB⟩ := hrel
    by_cases hlt : k < b.length
    · obtain ⟨bb, off, rfl, hb, hcell⟩ := (HI.out.below hB).at hlt
      have hc := hcell k hlt
      clear hcell
      by_cases g1 : nth b k > 1000
      · have hd1 : decide (nth b k > 1000) = true := decide_eq_true g1
        have HF : Hid (¬ Sm b 4 1000) := fun h => by have := (h.2 k hlt).1; omega
        clear g1
        go_wp2_with fail
        go_ret
        exact ⟨false, rfl, ⟨fun h => absurd h (by decide), fun h => absurd h HF.out⟩, hB⟩
      have hd1 : decide (nth b k > 1000) = false := decide_eq_false g1
      by_cases g2 : nth b k < -1000
      · have hd2 : decide (nth b k < -1000) = true := decide_eq_true g2
        have HF : Hid (¬ Sm b 4 1000) := fun h => by have := (h.2 k hlt).2; omega
        clear g1 g2
        go_wp2_with fail
        go_ret
        exact ⟨false, rfl, ⟨fun h => absurd h (by decide), fun h => absurd h HF.out⟩, hB⟩
      have hd2 : decide (nth b k < -1000) = false := decide_eq_false g2
      have HN : Hid (∀ j, j < k + 1 → nth b j ≤ 1000 ∧ -1000 ≤ nth b j) := fun j hj => by
        by_cases e : j = k
        · subst e; omega
        · exact HP.out j (by omega)
      clear g1 g2
      go_wp2_with fail
      exact ⟨⟨k + 1, by omega, by go_num, HN, hB⟩, by simp [intOf]; omega⟩
    · obtain rfl : k = b.length := by omega
      have HF : Hid (Sm b 4 1000) := ⟨by omega, HP.out⟩
      go_wp2_with fail
      go_ret
      exact ⟨true, rfl, ⟨fun _ => HF.out, fun _ => rfl⟩, hB⟩
/-- An answer that tells whether it is so. -/
def BoP (P : Prop) (w : World) (e : Ending) (w' : World) : Prop := ∃ t : Bool, e = .returned (.bool t) ∧ (t = true ↔ P) ∧ Below w.heap.size w w'
/-- From low to high. -/
def Wi (n lo hi : Int) : Prop := lo ≤ n ∧ n ≤ hi
set_option maxRecDepth 100000 in
set_option maxHeartbeats 1000000 in
theorem within11 (n lo hi : Int) (w : World) :
    Calls Try.prog 12 #[.int .i64 n, .int .i64 lo, .int .i64 hi] w (BoP (Wi n lo hi) w) := by
  by_cases h1 : lo ≤ n
  · by_cases h2 : n ≤ hi
    · have HF : Hid (Wi n lo hi) := ⟨h1, h2⟩
      go_enter Try.func12, Try.ntmps12
      go_wp2_with fail
      go_ret
      exact ⟨true, rfl, ⟨fun _ => HF.out, fun _ => rfl⟩, Below.refl _ _⟩
    · have HF : Hid (¬ Wi n lo hi) := fun h => h2 h.2
      go_enter Try.func12, Try.ntmps12
      go_wp2_with fail
      go_ret
      exact ⟨false, rfl, ⟨fun h => absurd h (by decide), fun h => absurd h HF.out⟩, Below.refl _ _⟩
  · have HF : Hid (¬ Wi n lo hi) := fun h => h1 h.1
    go_enter Try.func12, Try.ntmps12
    go_wp2_with fail
    go_ret
    exact ⟨false, rfl, ⟨fun h => absurd h (by decide), fun h => absurd h HF.out⟩, Below.refl _ _⟩
end Go.Proofs.Ytigichhcoflaiaa
