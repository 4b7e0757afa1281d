/-
  How far two cells next to each other on an axis are apart, as the program reckons it.
-/
import Derived.Test.YtgaelbgeoobgiaaCutn
namespace Go.Proofs.Ytgaelbgeoobgiaa
open Go.RowKit
set_option linter.unusedVariables false

set_option maxRecDepth 100000 in
set_option maxHeartbeats 1000000 in
theorem step_any (a : Option Addr) (cap : Nat) (zs : List Int) (x : Nat) (hx : x < zs.length) (he : errOf zs = 0) (n₀ : Nat) (w : World) (hI : IsC n₀ w a zs cap) :
    Calls Try.prog 38 #[.slice a zs.length cap, .int .i64 (x : Nat)] w fun e w' => e = .returned (.int .i64 (stp zs x)) ∧ w' = w := by
  obtain ⟨hI, hcap⟩ := hI
  obtain ⟨b, off, rfl, hb, hcell⟩ := hI.at hx
  have hz := errOf_zero.1 he
  have hl6 : zs.length ≤ 6 := hz.1
  have HA : Hid (AllIn zs) := hz.2.1
  have HC : Hid (∀ j, j < zs.length → w.cell? ⟨b, off + j, none⟩ = some (.int .i64 (nth zs j))) := hcell
  obtain ⟨m, hm⟩ : ∃ m, zs.length = x + 1 + m := ⟨zs.length - (x + 1), by omega⟩
  obtain ⟨s, hs⟩ : ∃ s, s = zs.drop (x + 1) := ⟨_, rfl⟩
  have hsl : s.length = m := by rw [hs, List.length_drop]; omega
  have HS : Hid (s.length = m ∧ (∀ j, j < m → nth s j = nth zs (x + 1 + j)) ∧ AllIn s ∧ prod s = stp zs x) := ⟨hsl, fun j hj => by rw [hs]; simp [nth], by rw [hs]; exact HA.out.drop _, by rw [hs]; rfl⟩
  clear hs hsl hcell HA
  have hx1 : x < 9223372036854775806 := by omega
  have HF : Hid (m ≤ 5) := by show m ≤ 5; omega
  by_cases hne : cap = x + 1
  · have hm0 : m = 0 := by omega
    subst hm0
    have hfin : Hid (stp zs x = 1) := by
      have h := HS.out
      have e : s = [] := List.eq_nil_of_length_eq_zero h.1
      rw [e] at h
      exact h.2.2.2.symm
    go_enter Try.func38, Try.ntmps38
    go_wp2_with fail
    go_loop [5, 13] (fun pv i => pv = .int .i64 1 ∧ i = .int .i64 0) (fun _ i => 0)
    case atStart => exact ⟨rfl, rfl⟩
    case round =>
      obtain ⟨rfl, rfl⟩ := hrel
      go_wp2_with fail
      go_ret
      exact ⟨ret_int hfin.out.symm, rfl⟩
  · go_enter Try.func38, Try.ntmps38
    go_wp2_with fail
    go_loop [5, 13] (fun pv i => ∃ k : Nat, k ≤ m ∧ i = .int .i64 k ∧ pv = .int .i64 (prod (s.take k))) (fun _ i => m - (intOf i).toNat)
    case atStart => exact ⟨0, Nat.zero_le _, rfl, rfl⟩
    case round =>
      obtain ⟨k, hk, rfl, rfl⟩ := hrel
      by_cases hlt : k < m
      · have hc : w.cell? ⟨b, off + (x + 1) + k, none⟩ = some (.int .i64 (nth s k)) := by
          rw [HS.out.2.1 k hlt, ← HC.out (x + 1 + k) (by omega), Nat.add_assoc]
        have HP : Hid (prod (s.take k) * nth s k = prod (s.take (k + 1)) ∧ 0 ≤ prod (s.take (k + 1)) ∧ prod (s.take (k + 1)) ≤ 1152921504606846976) := by
          refine ⟨(prod_take1 s k (by rw [HS.out.1]; exact hlt)).symm, prod_60 (fun y hy => HS.out.2.2.1 y (List.mem_of_mem_take hy)) ?_⟩
          have := HF.out
          rw [List.length_take]; omega
        obtain ⟨P, hP⟩ : ∃ P, P = prod (s.take k) := ⟨_, rfl⟩
        obtain ⟨Q, hQ⟩ : ∃ Q, Q = prod (s.take (k + 1)) := ⟨_, rfl⟩
        rw [← hP]
        have HPQ : Hid (P * nth s k = Q ∧ 0 ≤ Q ∧ Q ≤ 1152921504606846976) := by rw [hP, hQ]; exact HP.out
        have HQ : Hid (Q = prod (s.take (k + 1))) := hQ
        have hw : IntKind.i64.wrap (P * nth s k) = Q := by rw [HPQ.out.1]; exact IntWalk.i64_in _ (by have := HPQ.out.2; omega)
        clear hP hQ HP
        go_wp2_with fail
        exact ⟨⟨k + 1, by omega, by go_num, int_eq HQ.out⟩, by simp [intOf]; omega⟩
      · obtain rfl : k = m := by omega
        have hfin : Hid (prod (s.take k) = stp zs x) := by
          have h := HS.out
          rw [List.take_of_length_le (by omega)]
          exact h.2.2.2
        go_wp2_with fail
        go_ret
        exact ⟨ret_int hfin.out, rfl⟩
end Go.Proofs.Ytgaelbgeoobgiaa
