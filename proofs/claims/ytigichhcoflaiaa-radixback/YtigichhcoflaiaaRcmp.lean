/-
  Two lists of one length: which is ahead of the other, as the document says it.
-/
import Derived.Deep.QuietTactic
import Derived.BigQuiet
import Derived.WalkSmall
import Derived.Test.YtigichhcoflaiaaPrml
import Derived.Test.YtigichhcoflaiaaBas9
namespace Go.Proofs.Ytigichhcoflaiaa
open Go.RowKit
set_option linter.unusedVariables false

theorem nth_cons9 (x : Int) (r : List Int) (j : Nat) : nth (x :: r) (j + 1) = nth r j := by simp [nth]
theorem cmp_cut : ∀ (k : Nat) {p q : List Int}, (∀ j, j < k → nth p j = nth q j) → k < p.length → k < q.length → cmpL p q = (if nth p k < nth q k then -1 else if nth q k < nth p k then 1 else cmpL (p.drop (k + 1)) (q.drop (k + 1)))
  | 0, x :: p, y :: q, _, _, _ => rfl
  | k + 1, x :: p, y :: q, h, hp, hq => by
    have e : x = y := h 0 (by omega)
    subst e
    have ih := cmp_cut k (p := p) (q := q) (fun j hj => by have := h (j + 1) (by omega); rwa [nth_cons9, nth_cons9] at this) (by simpa using hp) (by simpa using hq)
    rw [nth_cons9, nth_cons9, List.drop_succ_cons, List.drop_succ_cons, ← ih]
    show (if x < x then (-1 : Int) else if x < x then 1 else cmpL p q) = _
    rw [if_neg (by omega), if_neg (by omega)]
  | _, [], _, _, hp, _ => by simp at hp
  | _, _, [], _, _, hq => by simp at hq
theorem cmp_same : ∀ p : List Int, cmpL p p = 0
  | [] => rfl
  | x :: p => by
    show (if x < x then (-1 : Int) else if x < x then 1 else cmpL p p) = 0
    rw [if_neg (by omega), if_neg (by omega)]
    exact cmp_same p
theorem ret_int9 {a b : Int} (h : a = b) : Ending.returned (.int .i64 a) = .returned (.int .i64 b) := by rw [h]
set_option maxRecDepth 100000 in
set_option maxHeartbeats 1000000 in
theorem cmp_any (a : Option Addr) (cap : Nat) (p : List Int) (b : Option Addr) (bap : Nat) (q : List Int) (hl : p.length = q.length) (hreach : p.length ≤ 9223372036854775807) (n₀ : Nat) (w : World) (hI : IsInts n₀ w a p) (hI' : IsInts n₀ w b q) :
    Calls Try.prog 10 #[.slice a p.length cap, .slice b q.length bap] w fun e w' => e = .returned (.int .i64 (cmpL p q)) ∧ Below w.heap.size w w' := by
  obtain ⟨C, hC⟩ : ∃ C, C = cmpL p q := ⟨_, rfl⟩
  rw [← hC]
  have HC : Hid (C = cmpL p q) := hC
  have H : Hid (p.length = q.length) := hl
  clear hl hC
  go_enter Try.func10, Try.ntmps10
  go_wp2_with fail
  go_loopw [5] (fun i wr => ∃ k : Nat, k ≤ p.length ∧ i = .int .i64 k ∧ (∀ j, j < k → nth p j = nth q j) ∧ ∃ m, wr = w.drewN m) (fun i _ => p.length - (intOf i).toNat)
  case atStart => exact ⟨0, Nat.zero_le _, rfl, fun j hj => by omega, 0, rfl⟩
  case round =>
    obtain ⟨k, hk, rfl, hsame, m, rfl⟩ := hrel
    have HS : Hid (∀ j, j < k → nth p j = nth q j) := hsame
    clear hsame
    by_cases hlt : k < p.length
    · have hlt' : k < q.length := by rw [← H.out]; exact hlt
      obtain ⟨bb, off, rfl, hb, hcell⟩ := hI.at hlt
      obtain ⟨b', off', rfl, hb', hcell'⟩ := hI'.at hlt'
      have hc := hcell k hlt
      have hc' := hcell' k hlt'
      have HK : Hid (cmpL p q = if nth p k < nth q k then -1 else if nth q k < nth p k then 1 else cmpL (p.drop (k + 1)) (q.drop (k + 1))) := cmp_cut k HS.out hlt hlt'
      clear hcell hcell'
      by_cases h1 : nth p k < nth q k
      · have hfin : Hid (C = -1) := by show _ = _; rw [HC.out, HK.out, if_pos h1]
        have hd : decide (nth p k < nth q k) = true := decide_eq_true h1
        clear h1
        go_wp2_with fail
        go_quiet (fail)
        go_wp2
        go_ret
        exact ⟨ret_int9 hfin.out.symm, bel_drewN (bel_drewN (Below.refl _ _) _) _⟩
      · by_cases h2 : nth q k < nth p k
        · have hfin : Hid (C = 1) := by show _ = _; rw [HC.out, HK.out, if_neg h1, if_pos h2]
          have hd : decide (nth p k < nth q k) = false := decide_eq_false h1
          have hd2 : decide (nth p k > nth q k) = true := decide_eq_true h2
          clear h1 h2
          go_wp2_with fail
          go_quiet (fail)
          go_wp2
          go_quiet (fail)
          go_wp2
          go_ret
          exact ⟨ret_int9 hfin.out.symm, bel_drewN (bel_drewN (bel_drewN (Below.refl _ _) _) _) _⟩
        · have HE : Hid (nth p k = nth q k) := by show _ = _; omega
          have hd : decide (nth p k < nth q k) = false := decide_eq_false h1
          have hd2 : decide (nth p k > nth q k) = false := decide_eq_false h2
          clear h1 h2
          go_wp2_with fail
          go_quiet (fail)
          go_wp2
          go_quiet (fail)
          go_wp2
          go_roundw
          case rel => exact ⟨k + 1, by omega, by go_num, fun j hj => by by_cases e : j = k; · rw [e]; exact HE.out
                                                                        · exact HS.out j (by omega), _, rfl⟩
          case measure => simp [intOf]; omega
    · obtain rfl : k = p.length := by omega
      have hfin : Hid (C = 0) := by show _ = _; rw [HC.out, ← nth_ext H.out HS.out, cmp_same]
      go_wp2_with fail
      go_ret
      exact ⟨ret_int9 hfin.out.symm, bel_drewN (Below.refl _ _) _⟩
end Go.Proofs.Ytigichhcoflaiaa
