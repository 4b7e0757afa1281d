/-
  The document's answers on digits: Valued, Digited.
-/
import Derived.Test.YtigichhcoflaiaaDoorRdq
import Derived.Test.YtigichhcoflaiaaDoorRquo
import Derived.Test.YtigichhcoflaiaaDoorApps
namespace Go.Proofs.YtigichhcoflaiaaDoor
open Go.RowKit
set_option linter.unusedVariables false

theorem ret_int11 {a b : Int} (h : a = b) : Ending.returned (.int .i64 a) = .returned (.int .i64 b) := by rw [h]
set_option maxRecDepth 100000 in
set_option maxHeartbeats 2000000 in
theorem valued_any (a : Option Addr) (cap : Nat) (b : List Int) (a' : Option Addr) (cap' : Nat) (d : List Int) (hl : d.length = b.length) (h1 : b.length ≤ 4096) (w : World) (hI : IsInts w.heap.size w a b) (hI' : IsInts w.heap.size w a' d) (h64 : ∀ j, In64 (nth d j)) :
    Calls Tryd.prog 7 #[.slice a b.length cap, .slice a' d.length cap'] w fun e w' => e = .returned (.int .i64 (vaV b d)) ∧ Below w.heap.size w w' := by
  have HI : Hid (IsInts w.heap.size w a b ∧ IsInts w.heap.size w a' d) := ⟨hI, hI'⟩
  have HD : Hid (d.length = b.length) := hl
  have H64 : Hid (∀ j, In64 (nth d j)) := h64
  clear hI hI' hl h64
  go_enter Tryd.func7, Tryd.ntmps7
  go_wp2_with fail
  go_loopw [5, 6] (fun n i wr => ∃ k : Nat, k ≤ b.length ∧ i = .int .i64 k ∧ n = .int .i64 (wrap64 (tv b d b.length k)) ∧ wr = w) (fun _ i _ => b.length - (intOf i).toNat)
  case atStart => exact ⟨0, Nat.zero_le _, rfl, by simp [tv, wrap64], rfl⟩
  case round =>
    obtain ⟨k, hk, rfl, rfl, hw⟩ := hrel
    obtain rfl := hw.symm
    clear hw
    by_cases hlt : k < b.length
    · have hlt' : k < d.length := by rw [HD.out]; exact hlt
      obtain ⟨b', off', rfl, hb', hcell'⟩ := HI.out.2.at hlt'
      have hc' := hcell' k hlt'
      have HN : Hid (wrap64 (wrap64 (tv b d b.length k) + wrap64 (mp b (nth d k) k (b.length - 1 - k))) = wrap64 (tv b d b.length (k + 1))) := tv_step b d b.length k
      have HS : Hid (nth d k = wrap64 (mp b (nth d k) k 0)) := (H64.out k).same.symm
      clear hcell'
      generalize wrap64 (tv b d b.length k) = T at *
      go_wp2_with fail
      go_loopw [7, 8] (fun x j wr => ∃ m : Nat, m ≤ b.length - 1 - k ∧ j = .int .i64 ((k + 1 + m : Nat) : Int) ∧ x = .int .i64 (wrap64 (mp b (nth d k) k m)) ∧ wr = w) (fun _ j _ => b.length - (intOf j).toNat)
      case atStart => exact ⟨0, Nat.zero_le _, by go_num, by rw [← HS.out], rfl⟩
      case round =>
        obtain ⟨m, hm, rfl, rfl, hw⟩ := hrel
        obtain rfl := hw.symm
        clear hw hc'
        by_cases hlm : k + 1 + m < b.length
        · obtain ⟨bb, off, rfl, hb, hcell⟩ := HI.out.1.at hlm
          have hc := hcell (k + 1 + m) hlm
          have HP : Hid (wrap64 (wrap64 (mp b (nth d k) k m) * nth b (k + 1 + m)) = wrap64 (mp b (nth d k) k (m + 1))) := mp_step b (nth d k) k m
          clear hcell
          obtain ⟨q, hq⟩ : ∃ q, q = k + 1 + m := ⟨_, rfl⟩
          rw [← hq] at hc hlm HP ⊢
          have HQ : Hid (q = k + 1 + m) := hq
          clear hq
          go_wp2_with fail
          have hq := HQ.out
          exact ⟨⟨m + 1, by omega, by go_num, by rw [HP.out], by first | rfl | trivial⟩, by simp [intOf]; omega⟩
        · obtain rfl : m = b.length - 1 - k := by omega
          obtain ⟨q, hq⟩ : ∃ q, q = k + 1 + (b.length - 1 - k) := ⟨_, rfl⟩
          have hq2 : q = b.length := by omega
          rw [← hq, hq2]
          clear hq hq2 q
          go_wp2_with fail
          exact ⟨⟨k + 1, by omega, by go_num, by rw [HN.out], by first | rfl | trivial⟩, by simp [intOf]; omega⟩
    · obtain rfl : k = b.length := by omega
      have HV : Hid (wrap64 (tv b d b.length b.length) = vaV b d) := by show _ = _; rw [tv_hv]; rfl
      rw [HV.out]
      go_wp2_with fail
      go_ret
      exact ⟨rfl, Below.refl _ _⟩
theorem is_take11 {n₀ : Nat} {W : World} {a : Option Addr} {zs : List Int} {cap : Nat} (h : IsC n₀ W a zs cap) (k : Nat) : IsC n₀ W a (zs.take k) cap := by
  refine ⟨?_, by rw [List.length_take]; have := h.2; omega⟩
  rcases h.1 with e | ⟨b, off, e, hb, hc⟩
  · exact .inl (by rw [e, List.take_nil])
  · exact .inr ⟨b, off, e, hb, fun j hj => by
      rw [List.length_take] at hj
      rw [nth_take _ _ _ (by omega)]
      exact hc j (by omega)⟩
theorem own_low11 {w : World} {base base' : Nat} {e : TypeId} {v : Value} {n : Nat} {xs : List Value} (h : w.ownsRow base e 1 v n xs) (hb : base' ≤ base) : w.ownsRow base' e 1 v n xs := by
  obtain ⟨h1, h2⟩ := h
  refine ⟨h1, ?_⟩
  rcases h2 with h2 | ⟨g, c, cur, e1, h3, h4⟩
  · exact .inl h2
  · exact .inr ⟨g, c, cur, e1, by omega, h4⟩
/-- A list that is told, in memory of the call's own. -/
def LsO (L : List Int) (N : Nat) (w : World) (r : Ending) (w' : World) : Prop := ∃ v, r = .returned v ∧ w'.ownsRow w.heap.size 3 1 v N (L.map (Value.int .i64)) ∧ Below w.heap.size w w'
/-- The contract of Digited, for bases of that length. -/
def CDt (N : Nat) : Prop := ∀ (b : List Int) (a : Option Addr) (cap : Nat) (n : Int) (w : World), b.length = N → N ≤ 4096 → IsC w.heap.size w a b cap → (∀ j, In64 (nth b j)) → In64 n →
  Calls Tryd.prog 4 #[.slice a N cap, .int .i64 n] w (LsO (dgL b N n) N w)
set_option maxRecDepth 100000 in
set_option maxHeartbeats 1000000 in
theorem dt_zero : CDt 0 := by
  intro b a cap n w hl h1 hI h64 hn
  go_enter Tryd.func4, Tryd.ntmps4
  go_wp2_with fail
  go_ret
  exact ⟨_, rfl, World.ownsRow_nil _ _ _ _, Below.refl _ _⟩
set_option maxRecDepth 100000 in
set_option maxHeartbeats 4000000 in
theorem dt_zero_base {N : Nat} (ih : CDt N) (b : List Int) (a : Option Addr) (cap : Nat) (n : Int) (w : World) (hl : b.length = N + 1) (h1 : N + 1 ≤ 4096) (hI : IsC w.heap.size w a b cap) (h64 : ∀ j, In64 (nth b j)) (hn : In64 n) (h0 : nth b N = 0) :
    Calls Tryd.prog 4 #[.slice a (N + 1 : Nat) cap, .int .i64 n] w (LsO (dgL b (N + 1) n) (N + 1) w) := by
  have hC := ih (b.take N) a cap 0 w (by rw [List.length_take]; omega) (by omega) (is_take11 hI N) (fun j => by
    by_cases hj : j < N
    · rw [nth_take _ _ _ hj]; exact h64 j
    · have : nth (b.take N) j = 0 := by simp [nth, List.getElem?_eq_none (show (b.take N).length ≤ j by rw [List.length_take]; omega)]
      rw [this]; unfold In64; decide) (by unfold In64; decide)
  obtain ⟨bb, off, rfl, hb, hcell⟩ := hI.1.at (show N < b.length by omega)
  have hc := hcell N (by omega)
  rw [h0] at hc
  have HL : Hid (dgL b (N + 1) n = dgL (b.take N) N 0 ++ [n] ∧ (dgL (b.take N) N 0).length = N) := ⟨by rw [dgL, h0, qt_zero, dd_zero, dgL_take b N N 0 (Nat.le_refl _)], dgL_length _ _ _⟩
  have hNc : N + 1 ≤ cap := by have := hI.2; omega
  clear hcell hI h64 hn h0 hl
  generalize dgL (b.take N) N 0 = Q at *
  rw [HL.out.1]
  go_enter Tryd.func4, Tryd.ntmps4
  go_wp2_with fail
  refine hC.mono ?_
  rintro e w1 ⟨v, rfl, hown, hB⟩
  clear hC
  have hz1 := hB.size
  have HO : Hid (w1.ownsRow w.heap.size 3 1 v Q.length (Q.map (Value.int .i64))) := by rw [HL.out.2]; exact hown
  have HN : Hid ((w1.alloc (.cells #[.int .i64 n] 3)).heap[w1.heap.size]? = some (.cells #[.int .i64 n] 3 (0, 0))) := World.alloc_heap_new _ _
  have HB : Hid (Below w.heap.size w w1) := hB
  clear hown hB hc
  go_wp2_with (at_builtin; refine app_list rfl _ _ rfl _ w.heap.size w1.heap.size v Q n rfl rfl (HO.out.alloc _) HN.out (by have := HL.out.2; omega) (by simp; omega) ?_; intro g1 gc1 w3 hown1 hB3)
  go_ret
  refine ⟨_, rfl, ?_, HB.out.trans (((Below.refl _ w1).alloc hz1 _).trans hB3)⟩
  rw [HL.out.2] at hown1
  rw [HL.out.2]
  exact hown1
set_option maxRecDepth 100000 in
set_option maxHeartbeats 4000000 in
theorem dt_base {N : Nat} (ih : CDt N) (b : List Int) (a : Option Addr) (cap : Nat) (n : Int) (w : World) (hl : b.length = N + 1) (h1 : N + 1 ≤ 4096) (hI : IsC w.heap.size w a b cap) (h64 : ∀ j, In64 (nth b j)) (hn : In64 n) (h0 : nth b N ≠ 0) :
    Calls Tryd.prog 4 #[.slice a (N + 1 : Nat) cap, .int .i64 n] w (LsO (dgL b (N + 1) n) (N + 1) w) := by
  obtain ⟨X, hX⟩ : ∃ X, X = nth b N := ⟨_, rfl⟩
  obtain ⟨q, hq⟩ : ∃ q, q = divV n X := ⟨_, rfl⟩
  obtain ⟨dgt, hdgt⟩ : ∃ D, D = wrap64 (n - wrap64 (X * q)) := ⟨_, rfl⟩
  have hX64 : In64 X := by rw [hX]; exact h64 N
  have hq64 : In64 q := by rw [hq]; exact In64.w _
  have hQ := rquo_any n X hn hX64 (by rw [hX]; exact h0) w
  rw [← hq] at hQ
  have hC := ih (b.take N) a cap q w (by rw [List.length_take]; omega) (by omega) (is_take11 hI N) (fun j => by
    by_cases hj : j < N
    · rw [nth_take _ _ _ hj]; exact h64 j
    · have : nth (b.take N) j = 0 := by simp [nth, List.getElem?_eq_none (show (b.take N).length ≤ j by rw [List.length_take]; omega)]
      rw [this]; unfold In64; decide) hq64
  obtain ⟨bb, off, rfl, hb, hcell⟩ := hI.1.at (show N < b.length by omega)
  have hc := hcell N (by omega)
  rw [← hX] at hc
  have hne : (X != 0) = true := by rw [bne_iff_ne, hX]; exact h0
  have HL : Hid (dgL b (N + 1) n = dgL (b.take N) N q ++ [dgt] ∧ (dgL (b.take N) N q).length = N) := ⟨by
    rw [dgL, ← hX, hdgt, hq, dd_wrap (by rw [hX]; exact h0) hX64 hn, qt_else (by rw [hX]; exact h0), dgL_take b N N _ (Nat.le_refl _)], dgL_length _ _ _⟩
  have HDg : Hid (wrap64 (n - wrap64 (X * q)) = dgt) := hdgt.symm
  have hNc : N + 1 ≤ cap := by have := hI.2; omega
  clear hcell hI h64 hn h0 hl hX hX64 hq hq64 hdgt
  generalize dgL (b.take N) N q = Q at *
  rw [HL.out.1]
  go_enter Tryd.func4, Tryd.ntmps4
  go_wp2_with fail
  refine hQ.mono ?_
  rintro e w0 ⟨rfl, hw⟩
  obtain rfl := hw.symm
  clear hQ hw
  go_wp2_with fail
  rw [HDg.out]
  refine hC.mono ?_
  rintro e w1 ⟨v, rfl, hown, hB⟩
  clear hC
  have hz1 := hB.size
  have HO : Hid (w1.ownsRow w.heap.size 3 1 v Q.length (Q.map (Value.int .i64))) := by rw [HL.out.2]; exact hown
  have HN : Hid ((w1.alloc (.cells #[.int .i64 dgt] 3)).heap[w1.heap.size]? = some (.cells #[.int .i64 dgt] 3 (0, 0))) := World.alloc_heap_new _ _
  have HB : Hid (Below w.heap.size w w1) := hB
  clear hown hB hc
  go_wp2_with (at_builtin; refine app_list rfl _ _ rfl _ w.heap.size w1.heap.size v Q dgt rfl rfl (HO.out.alloc _) HN.out (by have := HL.out.2; omega) (by simp; omega) ?_; intro g1 gc1 w3 hown1 hB3)
  go_ret
  refine ⟨_, rfl, ?_, HB.out.trans (((Below.refl _ w1).alloc hz1 _).trans hB3)⟩
  rw [HL.out.2] at hown1
  rw [HL.out.2]
  exact hown1
theorem digited_own : ∀ N, CDt N
  | 0 => dt_zero
  | N + 1 => fun b a cap n w hl h1 hI h64 hn => by
    by_cases h0 : nth b N = 0
    · exact dt_zero_base (digited_own N) b a cap n w hl h1 hI h64 hn h0
    · exact dt_base (digited_own N) b a cap n w hl h1 hI h64 hn h0
theorem digited_any (b : List Int) (a : Option Addr) (cap : Nat) (n : Int) (w : World) (h1 : b.length ≤ 4096) (hI : IsC w.heap.size w a b cap) (h64 : ∀ j, In64 (nth b j)) (hn : In64 n) :
    Calls Tryd.prog 4 #[.slice a b.length cap, .int .i64 n] w fun r w' => ∃ g gc, r = .returned (.slice g b.length gc) ∧ NewC w.heap.size w' g (dgV b n) gc ∧ Below w.heap.size w w' := by
  refine (digited_own b.length b a cap n w rfl h1 hI h64 hn).mono ?_
  rintro e w' ⟨v, rfl, hown, hB⟩
  obtain ⟨g, gc, rfl, hN⟩ := own_cap hown
  exact ⟨g, gc, by rw [dgL_length], hN, hB⟩
end Go.Proofs.YtigichhcoflaiaaDoor
