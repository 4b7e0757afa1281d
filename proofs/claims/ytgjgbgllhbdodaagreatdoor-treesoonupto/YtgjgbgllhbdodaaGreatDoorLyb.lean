
/-
  The reference's numbers; what may stand between quotes.
-/
import Derived.Test.YtgjgbgllhbdodaaGreatDoorLya
import Derived.Test.YtgjgbgllhbdodaaGreatDoorRunes
import Derived.Test.YtgjgbgllhbdodaaGreatDoorLxi
namespace Go.Proofs.YtgjgbgllhbdodaaGreatDoor
open Go.RowKit Go.Lib
set_option linter.unusedVariables false

theorem least_div (d : Int) (h0 : 0 ≤ d) (h1 : d ≤ 9) : (-9223372036854775808 + d).tdiv 10 = -((9223372036854775808 - d) / 10) := by
  have e : -9223372036854775808 + d = -(9223372036854775808 - d) := by omega
  rw [e, Int.neg_tdiv, Int.tdiv_eq_ediv_of_nonneg (by omega)]
theorem dgA_snoc (l : List UInt8) (a : Nat) (b : UInt8) : dgA a (l ++ [b]) = dgA a l * 10 + (b.toNat - 48) := by rw [dgA_app]; rfl
theorem dgA_mono (l r : List UInt8) (a : Nat) : dgA a l ≤ dgA a (l ++ r) := by rw [dgA_app]; exact dgA_le r _
/-- Is what digits are worth a number? -/
def inW (m : Bool) (v : Nat) : Bool := if m = true then decide (v ≤ 9223372036854775808) else decide (v < 9223372036854775808)
def vlW (m : Bool) (v : Nat) : Int := if inW m v = true then (if m = true then -(v : Int) else v) else 0
theorem inW_no {m : Bool} {v : Nat} (h : 9223372036854775808 < v) : inW m v = false := by
  unfold inW; cases m
  · rw [if_neg Bool.false_ne_true]; exact decide_eq_false (by omega)
  · rw [if_pos rfl]; exact decide_eq_false (by omega)
theorem low_all {s : ByteArray} : ∀ (N i : Nat), s.size - i ≤ N → validD (tl s i) = true → ((∀ x ∈ runesL (tl s i), 32 ≤ x) ↔ ∀ j, i ≤ j → j < s.size → 32 ≤ bt s j)
  | 0, i, hN, _ => by
    rw [tl_end (by omega), runesL_nil]
    exact ⟨fun _ j h1 h2 => by omega, fun _ x hx => by cases hx⟩
  | N + 1, i, hN, hv => by
    by_cases hi : i < s.size
    · have hne := tl_ne hi
      have hst := low_step (s := s) hi
      have hwd := decodeL_le (tl s i) hne
      have hw1 := decodeL_width (tl s i)
      rw [tl_len] at hwd
      have hb : ¬ badR (tl s i) := fun h => by rw [validD_bad hne h] at hv; cases hv
      rw [validD_step hne hb, tl_drop] at hv
      rw [runesL_step hne, tl_drop]
      have ih := low_all N (i + (decodeL (tl s i)).2) (by omega) hv
      generalize (decodeL (tl s i)).1 = c at *
      generalize (decodeL (tl s i)).2 = m at *
      constructor
      · intro h j h1 h2
        have hc := h c (by simp)
        by_cases hj : j < i + m
        · have := hst.2 (by omega) (j - i) (by omega)
          rw [show i + (j - i) = j by omega] at this; exact this
        · exact ih.1 (fun x hx => h x (by simp [hx])) j (by omega) h2
      · intro h x hx
        rcases List.mem_cons.1 hx with rfl | hx
        · have := h i (Nat.le_refl _) hi
          by_cases hc : c < 32
          · have := hst.1 hc; omega
          · omega
        · exact ih.2 (fun j h1 h2 => h j (by omega) h2) x hx
    · rw [tl_end hi, runesL_nil]
      exact ⟨fun _ j h1 h2 => by omega, fun _ x hx => by cases hx⟩
theorem qbl_low {s : ByteArray} (hv : validD (tl s 0) = true) {x : Int} (hx : x ∈ runesL (tl s 0)) (h : x < 32) : qbl (tl s 0) = false := by
  have := low_all (s := s) s.size 0 (by omega) hv
  by_cases hall : ∀ j, 0 ≤ j → j < s.size → 32 ≤ bt s j
  · have := this.2 hall x hx; omega
  · have hex : ∃ j, j < s.size ∧ bt s j < 32 := Classical.byContradiction fun hn => hall fun j _ h2 => by
      rcases Nat.lt_or_ge (bt s j) 32 with h3 | h3
      · exact absurd ⟨j, h2, h3⟩ hn
      · exact h3
    obtain ⟨j, h1, h2⟩ := hex
    exact qbl_no h1 h2
theorem qbl_high {s : ByteArray} (hv : validD (tl s 0) = true) (h : ∀ x ∈ runesL (tl s 0), 32 ≤ x) : qbl (tl s 0) = true := by
  rw [qbl_yes (fun j hj => (low_all (s := s) s.size 0 (by omega) hv).1 h j (Nat.zero_le _) hj)]; exact hv
set_option maxRecDepth 100000 in
set_option maxHeartbeats 4000000 in
theorem quot_any (s : ByteArray) (hs : s.size ≤ 1048576) (w : World) :
    Calls Tryz.prog 81 #[.string s] w fun e w' => e = .returned (.bool (qbl (tl s 0))) ∧ Below w.heap.size w w' := by
  cases hv : validD (tl s 0)
  · have HQ : Hid (qbl (tl s 0) = false) := by show _ = _; unfold qbl; rw [hv]; rfl
    go_enter Tryz.func81, Tryz.ntmps81
    go_wp2_with fail
    refine (runes_any s hs _).mono ?_
    rintro e w1 ⟨g, gc, rfl, hN, hB⟩
    rw [hv]
    have HB : Hid (Below w.heap.size w w1) := hB
    clear hN hB
    go_wp2_with fail
    go_ret
    exact ⟨ret_bool HQ.out.symm, HB.out⟩
  · have HV : Hid (validD (tl s 0) = true) := hv
    have hr := runesV_ok hv
    go_enter Tryz.func81, Tryz.ntmps81
    go_wp2_with fail
    refine (runes_any s hs _).mono ?_
    rintro e w1 ⟨g, gc, rfl, hN, hB⟩
    rw [hv]
    rw [hr] at hN ⊢
    have HB : Hid (Below w.heap.size w w1) := hB
    have HI : Hid (IsInts w1.heap.size w1 g (runesL (tl s 0))) := hN.ints
    have HL : Hid (∀ x ∈ runesL (tl s 0), x < 32 → qbl (tl s 0) = false) := fun x hx h => qbl_low HV.out hx h
    have HH : Hid ((∀ x ∈ runesL (tl s 0), 32 ≤ x) → qbl (tl s 0) = true) := fun h => qbl_high HV.out h
    have hsz : (runesL (tl s 0)).length ≤ 1048576 := by
      have := runesL_le _ (tl s 0) (Nat.le_refl _)
      rw [tl_len] at this; omega
    clear hN hB hv hr
    generalize runesL (tl s 0) = xs at *
    go_wp2_with fail
    go_loopw [5] (fun i wr => ∃ k : Nat, k ≤ xs.length ∧ i = .int .i64 k ∧ Hid (∀ j, j < k → 32 ≤ nth xs j) ∧ wr = w1) (fun i _ => xs.length - (RowKit.intOf i).toNat)
    case atStart => exact ⟨0, Nat.zero_le _, rfl, (fun j hj => by omega : ∀ j, j < 0 → 32 ≤ nth xs j), rfl⟩
    case round =>
      obtain ⟨k, hk, rfl, HS, rfl⟩ := hrel
      by_cases hlt : k < xs.length
      · obtain ⟨b, off, rfl, hb, hcell⟩ := HI.out.at hlt
        have hc := hcell k hlt
        clear hcell
        have hm := nth_mem xs k hlt
        have hlt' : (k : Int) < (xs.length : Int) := by omega
        by_cases he : nth xs k < 32
        · have HE : Hid (qbl (tl s 0) = false) := HL.out _ hm he
          go_wp2_with fail
          go_ret
          exact ⟨ret_bool HE.out.symm, HB.out⟩
        · have HE : Hid (∀ j, j < k + 1 → 32 ≤ nth xs j) := fun j hj => by
            rcases Nat.lt_succ_iff_lt_or_eq.1 hj with h | rfl
            · exact HS.out j h
            · omega
          go_wp2_with fail
          go_roundw
          case rel => exact ⟨k + 1, hlt, by go_num, HE, trivial⟩
          case measure => simp [RowKit.intOf]; omega
      · obtain rfl : k = xs.length := by omega
        have HE : Hid (qbl (tl s 0) = true) := HH.out (fun x hx => by
          obtain ⟨j, hj, rfl⟩ := List.getElem_of_mem hx
          rw [← nth_get xs j hj]; exact HS.out j hj)
        go_wp2_with fail
        go_ret
        exact ⟨ret_bool HE.out.symm, HB.out⟩
end Go.Proofs.YtgjgbgllhbdodaaGreatDoor
