/-
  The document's answer on orders: is each number below the length there once; a shape whose axes are put in another order.
-/
import Derived.Maps.AppendAt
import Derived.Test.YtkadepneehdffaaDoorIsord
import Derived.Test.YtkadepneehdffaaDoorFault
namespace Go.Proofs.YtkadepneehdffaaDoor
open Go.RowKit
set_option linter.unusedVariables false

theorem ord_nodup {ps : List Int} (h : IsOrd ps) : ps.Nodup := by
  rw [List.Nodup, List.pairwise_iff_getElem]
  intro i j hi hj hij e
  rw [← nth_get ps i hi, ← nth_get ps j hj] at e
  exact h.2 i j hij hj e
theorem ord_count {ps : List Int} (h : IsOrd ps) {j : Nat} (hj : j < ps.length) : ps.count (j : Int) = 1 := by
  obtain ⟨i, hi, e⟩ := h.surj hj
  rw [(ord_nodup h).count, if_pos]
  rw [← e]; exact nth_mem ps i hi
/-- All numbers from 0 on, as integers. -/
def ints (n : Nat) : List Int := (List.range n).map fun j : Nat => (j : Int)
theorem ints_nodup (n : Nat) : (ints n).Nodup := by
  rw [List.Nodup, List.pairwise_iff_getElem]
  intro i j hi hj hij e
  simp only [ints, List.getElem_map, List.getElem_range] at e
  omega
theorem ints_length (n : Nat) : (ints n).length = n := by simp [ints]
/-- No element can be left out. -/
theorem no_spare {ps : List Int} {k : Nat} (hk : k < ps.length) (h : ∀ j, j < ps.length → ∃ i, i ≠ k ∧ i < ps.length ∧ nth ps i = (j : Int)) : False := by
  have hs : ints ps.length ⊆ ps.eraseIdx k := by
    intro x hx
    simp only [ints, List.mem_map, List.mem_range] at hx
    obtain ⟨j, hj, rfl⟩ := hx
    obtain ⟨i, hik, hi, e⟩ := h j hj
    rw [List.mem_eraseIdx_iff_getElem?]
    exact ⟨i, hik, by rw [List.getElem?_eq_getElem hi, ← nth_get ps i hi, e]⟩
  have := (ints_nodup ps.length).length_le_of_subset hs
  rw [ints_length, List.length_eraseIdx_of_lt hk] at this
  omega
theorem count_ord {ps : List Int} (h : ∀ j, j < ps.length → ps.count (j : Int) = 1) : IsOrd ps := by
  have hm : ∀ j, j < ps.length → ∃ i, i < ps.length ∧ nth ps i = (j : Int) := by
    intro j hj
    have : 0 < ps.count (j : Int) := by rw [h j hj]; omega
    obtain ⟨i, hi, e⟩ := List.getElem_of_mem (List.count_pos_iff.1 this)
    exact ⟨i, hi, by rw [nth_get ps i hi, e]⟩
  refine ⟨fun k hk => ?_, fun i j hij hj e => ?_⟩
  · by_cases hc : 0 ≤ nth ps k ∧ nth ps k < ps.length
    · exact hc
    · refine (no_spare hk fun j hj => ?_).elim
      obtain ⟨i, hi, e⟩ := hm j hj
      refine ⟨i, fun e2 => ?_, hi, e⟩
      subst e2
      omega
  · refine no_spare hj fun t ht => ?_
    obtain ⟨l, hl, e2⟩ := hm t ht
    by_cases e3 : l = j
    · subst e3; exact ⟨i, by omega, by omega, by rw [e, e2]⟩
    · exact ⟨l, e3, hl, e2⟩
theorem ordB_count {ps : List Int} {j : Nat} (hj : j < ps.length) (h : ps.count (j : Int) ≠ 1) : ordB ps = false := by
  rw [← Bool.not_eq_true, ordB_iff]; intro ho; exact h (ord_count ho hj)
theorem count_take_succ (ps : List Int) (x : Int) (k : Nat) (h : k < ps.length) : (ps.take (k + 1)).count x = (ps.take k).count x + if (nth ps k == x) = true then 1 else 0 := by
  rw [List.take_succ_eq_append_getElem h, ← nth_get ps k h, List.count_append, List.count_singleton]

set_option maxRecDepth 100000 in
set_option maxHeartbeats 1000000 in
theorem once_any (a : Option Addr) (cap : Nat) (ps : List Int) (hl : ps.length ≤ 1000) (n₀ : Nat) (w : World) (hI : IsInts n₀ w a ps) :
    Calls Tryd.prog 13 #[.slice a ps.length cap] w fun e w' => e = .returned (.bool (ordB ps)) ∧ w' = w := by
  go_enter Tryd.func13, Tryd.ntmps13
  go_wp2_with fail
  go_loop [3] (fun i => ∃ j : Nat, j ≤ ps.length ∧ i = .int .i64 j ∧ ∀ t, t < j → ps.count (t : Int) = 1) (fun i => ps.length - (intOf i).toNat)
  case atStart => exact ⟨0, Nat.zero_le _, rfl, fun t ht => by omega⟩
  case round =>
    obtain ⟨j, hj, rfl, hone⟩ := hrel
    have H1 : Hid (∀ t, t < j → ps.count (t : Int) = 1) := hone
    clear hone
    by_cases hlt : j < ps.length
    · go_wp2_with fail
      go_loop [4, 5] (fun c i => ∃ k : Nat, k ≤ ps.length ∧ i = .int .i64 k ∧ c = .int .i64 ((ps.take k).count (j : Int) : Nat)) (fun _ i => ps.length - (intOf i).toNat)
      case atStart => exact ⟨0, Nat.zero_le _, rfl, rfl⟩
      case round =>
        obtain ⟨k, hk, rfl, rfl⟩ := hrel
        have hcl : (ps.take k).count (j : Int) ≤ 1000 := Nat.le_trans List.count_le_length (by rw [List.length_take]; omega)
        by_cases hkl : k < ps.length
        · obtain ⟨b, off, rfl, hb, hcell⟩ := hI.at hkl
          have hc := hcell k hkl
          clear hcell
          have hcs := count_take_succ ps (j : Int) k hkl
          cases h3 : (nth ps k == (j : Int)) with
          | true =>
            rw [h3, if_pos rfl] at hcs
            have HC : Hid ((ps.take (k + 1)).count (j : Int) = (ps.take k).count (j : Int) + 1) := hcs
            clear hcs
            generalize (ps.take k).count (j : Int) = C0 at *
            go_wp2_with fail
            go_round
            case rel => exact ⟨k + 1, by omega, by go_num, by rw [HC.out]; go_num⟩
            case measure => simp [intOf]; omega
          | false =>
            rw [h3] at hcs
            have HC : Hid ((ps.take (k + 1)).count (j : Int) = (ps.take k).count (j : Int)) := by show _ = _; simpa using hcs
            clear hcs
            generalize (ps.take k).count (j : Int) = C0 at *
            go_wp2_with fail
            go_round
            case rel => exact ⟨k + 1, by omega, by go_num, by rw [HC.out]⟩
            case measure => simp [intOf]; omega
        · obtain rfl : k = ps.length := by omega
          rw [List.take_length] at hcl ⊢
          by_cases h4 : ps.count (j : Int) = 1
          · have h5 : (((ps.count (j : Int) : Nat) : Int) != 1) = false := by rw [h4]; rfl
            have H4 : Hid (ps.count (j : Int) = 1) := h4
            clear h4
            generalize hC : ps.count (j : Int) = C0 at *
            have HC : Hid (ps.count (j : Int) = C0) := hC
            clear hC
            go_wp2_with fail
            go_round
            case rel => exact ⟨j + 1, by omega, by go_num, fun t ht => by by_cases e : t = j; · rw [e, HC.out]; exact H4.out
                                                                          · exact H1.out t (by omega)⟩
            case measure => simp [intOf]; omega
          · have h5 : (((ps.count (j : Int) : Nat) : Int) != 1) = true := by rw [bne_iff_ne]; omega
            have hfin : Hid (ordB ps = false) := ordB_count hlt h4
            clear h4
            generalize ps.count (j : Int) = C0 at *
            go_wp2_with fail
            go_ret
            exact ⟨ret_bool hfin.out.symm, rfl⟩
    · obtain rfl : j = ps.length := by omega
      have hfin : Hid (ordB ps = true) := (ordB_iff ps).2 (count_ord H1.out)
      go_wp2_with fail
      go_ret
      exact ⟨ret_bool hfin.out.symm, rfl⟩
end Go.Proofs.YtkadepneehdffaaDoor
