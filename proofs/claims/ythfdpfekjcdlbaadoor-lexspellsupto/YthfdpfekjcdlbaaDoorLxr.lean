/-
  The reference's question whether a text begins so; the statements' question whether two lists of words are the same.
-/
import Derived.Laws.Strings
import Derived.Test.YthfdpfekjcdlbaaDoorLxk
namespace Go.Proofs.YthfdpfekjcdlbaaDoor
open Go.RowKit Go.Lib
set_option linter.unusedVariables false

theorem pre_at (p s : ByteArray) (i : Nat) (hl : p.size ≤ s.size - i) (k : Nat) (hk : k ≤ p.size) (h : ∀ j, j < k → bt s (i + j) = bt p j) : (tl p 0).take k <+: tl s i := by
  rw [List.prefix_iff_eq_take]
  have e : ((tl p 0).take k).length = k := by rw [List.length_take, tl_len]; omega
  rw [e]
  apply List.ext_getElem?
  intro j
  rw [List.getElem?_take, List.getElem?_take]
  by_cases hj : j < k
  · rw [if_pos hj, if_pos hj]
    have := h j hj
    unfold bt at this
    have h1 : j < p.data.toList.length := by rw [← size_eq]; omega
    have h2 : i + j < s.data.toList.length := by rw [← size_eq]; omega
    rw [List.getD_eq_getElem?_getD, List.getD_eq_getElem?_getD, List.getElem?_eq_getElem h1, List.getElem?_eq_getElem h2] at this
    unfold tl
    rw [List.drop_zero, List.getElem?_drop, List.getElem?_eq_getElem h1, List.getElem?_eq_getElem h2]
    exact congrArg some (UInt8.toNat_inj.1 this.symm)
  · rw [if_neg hj, if_neg hj]
theorem pre_no (p s : ByteArray) (i k : Nat) (hk : k < p.size) (hl : p.size ≤ s.size - i) (h : bt s (i + k) ≠ bt p k) : (tl p 0).isPrefixOf (tl s i) = false := by
  refine Bool.eq_false_iff.2 fun e => h ?_
  obtain ⟨r, hr⟩ := List.isPrefixOf_iff_prefix.1 e
  have h1 : k < p.data.toList.length := by rw [← size_eq]; omega
  have h2 : (tl p 0 ++ r)[k]? = (tl s i)[k]? := by rw [hr]
  rw [tl_zero, List.getElem?_append_left h1] at h2
  unfold tl at h2
  rw [List.getElem?_drop] at h2
  unfold bt
  rw [List.getD_eq_getElem?_getD, List.getD_eq_getElem?_getD, h2]
theorem pre_short (p s : ByteArray) (i : Nat) (hl : s.size - i < p.size) : (tl p 0).isPrefixOf (tl s i) = false := by
  refine Bool.eq_false_iff.2 fun e => ?_
  have := (List.isPrefixOf_iff_prefix.1 e).length_le
  rw [tl_len, tl_len] at this; omega
/-- A byte of a text, at a place that is told. -/
theorem index_at (s : ByteArray) (i : Nat) (x : Int) (hx : x = (i : Int)) (hi : i < s.size) (w : World) : (Instr.index 9 (.string s) (.int .i64 x)).run Tryd.prog w = .ok (.int .u8 (bt s i)) w := by
  subst hx
  have h := run_index_string (P := Tryd.prog) (w := w) 9 s .i64 (i : Int) Tryd.underlying9
  rw [dif_pos ⟨by omega, by omega⟩] at h
  rw [h]
  have := bt_get s i hi
  simp only [Int.toNat_natCast]
  rw [this]
set_option maxRecDepth 100000 in
set_option maxHeartbeats 2000000 in
theorem begins_any (s p : ByteArray) (i : Nat) (hi : i ≤ s.size) (hs : s.size ≤ 9223372036854775807) (hp : p.size ≤ 1000) (w : World) :
    Calls Tryd.prog 12 #[.string s, .int .i64 i, .string p] w fun e w' => e = .returned (.bool ((tl p 0).isPrefixOf (tl s i))) ∧ Below w.heap.size w w' := by
  by_cases hl : s.size - i < p.size
  · have HE : Hid ((tl p 0).isPrefixOf (tl s i) = false) := pre_short p s i hl
    have h1 : (s.size : Int) - (i : Int) < (p.size : Int) := by omega
    go_enter Tryd.func12, Tryd.ntmps12
    go_wp2_with fail
    go_ret
    exact ⟨ret_bool HE.out.symm, Below.refl _ _⟩
  · have h1 : ¬ (s.size : Int) - (i : Int) < (p.size : Int) := by omega
    go_enter Tryd.func12, Tryd.ntmps12
    go_wp2_with fail
    go_loopw [7] (fun v wr => ∃ k : Nat, k ≤ p.size ∧ v = .int .i64 k ∧ Hid (∀ j, j < k → bt s (i + j) = bt p j) ∧ ∃ m, wr = w.drewN m) (fun v _ => p.size - (RowKit.intOf v).toNat)
    case atStart => exact ⟨0, Nat.zero_le _, rfl, (fun j hj => by omega : ∀ j, j < 0 → bt s (i + j) = bt p j), 0, rfl⟩
    case round =>
      obtain ⟨k, hk, rfl, HS, m, rfl⟩ := hrel
      by_cases hlt : k < p.size
      · have b1 := bt_get p k hlt
        have b2 := bt_get s (i + k) (by omega)
        have hlt' : (k : Int) < (p.size : Int) := by omega
        have hw64 : IntKind.i64.wrap ((i : Int) + (k : Int)) = ((i + k : Nat) : Int) := by rw [IntKind.wrap_i64]; omega
        have hix := index_at s (i + k) ((i : Int) + (k : Int)) (by omega) (by omega)
        have hiy := index_at p k (k : Int) rfl hlt
        clear b1 b2
        by_cases he : bt s (i + k) = bt p k
        · have hne : ((bt s (i + k) : Int) != (bt p k : Int)) = false := by simp [he]
          have HE : Hid (∀ j, j < k + 1 → bt s (i + j) = bt p j) := fun j hj => by
            rcases Nat.lt_succ_iff_lt_or_eq.1 hj with h | rfl
            · exact HS.out j h
            · exact he
          clear he
          go_wp2_with fail
          go_quiet (fail)
          go_wp2
          go_roundw
          case rel => exact ⟨k + 1, by omega, by go_num, HE, _, rfl⟩
          case measure => simp [RowKit.intOf]; omega
        · have hne : ((bt s (i + k) : Int) != (bt p k : Int)) = true := by simp; omega
          have HE : Hid ((tl p 0).isPrefixOf (tl s i) = false) := pre_no p s i k hlt (by omega) he
          clear he
          go_wp2_with fail
          go_quiet (fail)
          go_wp2
          go_ret
          exact ⟨ret_bool HE.out.symm, bel_drewN (bel_drewN (Below.refl _ _) _) _⟩
      · obtain rfl : k = p.size := by omega
        have HE : Hid ((tl p 0).isPrefixOf (tl s i) = true) := by
          show _ = _
          have := pre_at p s i (by omega) p.size (Nat.le_refl _) HS.out
          rw [List.take_of_length_le (by rw [tl_len]; omega)] at this
          exact List.isPrefixOf_iff_prefix.2 this
        go_wp2_with fail
        go_ret
        exact ⟨ret_bool HE.out.symm, bel_drewN (Below.refl _ _) _⟩
end Go.Proofs.YthfdpfekjcdlbaaDoor
