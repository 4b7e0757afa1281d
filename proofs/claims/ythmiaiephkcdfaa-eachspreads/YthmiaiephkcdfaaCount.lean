/-
  What the program tells of a shape: how many cells, or the error.
-/
import Derived.Test.YthmiaiephkcdfaaProd
import Derived.Test.YthmiaiephkcdfaaErrv
namespace Go.Proofs.Ythmiaiephkcdfaa
open Go.RowKit
set_option linter.unusedVariables false

theorem bad_take (zs : List Int) (k : Nat) (h : AllIn (zs.take k)) : bad zs = bad (zs.drop k) := by
  induction k generalizing zs with
  | zero => simp
  | succ k ih =>
    cases zs with
    | nil => simp
    | cons x r =>
      simp only [List.take_succ_cons] at h
      have hx := h x List.mem_cons_self
      simp only [bad, List.drop_succ_cons]
      rw [if_neg (by omega), if_neg (by omega)]
      exact ih r h.tail
theorem bad_low {zs : List Int} {k : Nat} (hk : k < zs.length) (h : AllIn (zs.take k)) (hx : nth zs k < 0) : bad zs = 4 := by
  rw [bad_take zs k h, drop_nth zs k hk]; simp only [bad]; rw [if_pos hx]
theorem bad_high {zs : List Int} {k : Nat} (hk : k < zs.length) (h : AllIn (zs.take k)) (hx : 4096 < nth zs k) : bad zs = 7 := by
  rw [bad_take zs k h, drop_nth zs k hk]; simp only [bad]; rw [if_neg (by omega), if_pos hx]
theorem allIn_step {zs : List Int} {k : Nat} (hk : k < zs.length) (h : AllIn (zs.take k)) (h1 : ¬ nth zs k < 0) (h2 : ¬ 4096 < nth zs k) : AllIn (zs.take (k + 1)) := by
  rw [List.take_succ_eq_append_getElem hk, ← nth_get zs k hk]
  intro x hx
  rcases List.mem_append.1 hx with hx | hx
  · exact h x hx
  · rw [List.mem_singleton] at hx; subst hx; omega
theorem errOf_rank {zs : List Int} (h : 6 < zs.length) : errOf zs = 3 := by simp [errOf, h]
theorem errOf_bad {zs : List Int} (h : ¬ 6 < zs.length) {e : Int} (hb : bad zs = e) (he : e ≠ 0) : errOf zs = e := by subst hb; simp [errOf, h, he]
theorem errOf_full {zs : List Int} (h : ¬ 6 < zs.length) (hb : AllIn zs) (hp : 4096 < clp zs) : errOf zs = 7 := by
  have : 4096 < prod zs := by rw [clp_eq hb] at hp; omega
  simp [errOf, h, (bad_iff zs).2 hb, this]
theorem errOf_ok {zs : List Int} (h : ¬ 6 < zs.length) (hb : AllIn zs) (hp : ¬ 4096 < clp zs) : errOf zs = 0 ∧ clp zs = prod zs := by
  rw [clp_eq hb] at hp ⊢
  exact ⟨errOf_zero.2 ⟨by omega, hb, by omega⟩, by omega⟩
theorem cntOf_bad {zs : List Int} (h : errOf zs ≠ 0) : cntOf zs = 0 := by simp [cntOf, h]

set_option maxRecDepth 100000 in
set_option maxHeartbeats 1000000 in
theorem count_any (a : Option Addr) (cap : Nat) (zs : List Int) (hreach : zs.length ≤ 9223372036854775807) (w : World) (hI : IsInts w.heap.size w a zs) :
    Calls Try.prog 12 #[.slice a zs.length cap] w fun e w' => e = .returned (.tuple #[.int .i64 (cntOf zs), errV (errOf zs)]) ∧ Below w.heap.size w w' := by
  by_cases hlen : 6 < zs.length
  · have e3 : Hid (errOf zs = 3) := errOf_rank hlen
    go_enter Try.func12, Try.ntmps12
    go_wp2_with fail
    go_ret2
    refine ⟨ret2 ?_ ?_, Below.refl _ _⟩
    · rw [cntOf_bad (by rw [e3.out]; decide)]
    · rw [e3.out]; rfl
  · go_enter Try.func12, Try.ntmps12
    go_wp2_with fail
    go_loop [13] (fun i => ∃ k : Nat, k ≤ zs.length ∧ i = .int .i64 k ∧ AllIn (zs.take k)) (fun i => zs.length - (intOf i).toNat)
    case atStart => exact ⟨0, Nat.zero_le _, rfl, by intro x hx; simp at hx⟩
    case round =>
      obtain ⟨k, hk, rfl, hall⟩ := hrel
      by_cases hlt : k < zs.length
      · obtain ⟨b, off, rfl, hb, hcell⟩ := hI.at hlt
        have hc := hcell k hlt
        clear hcell
        by_cases h1 : nth zs k < 0
        · have e4 : Hid (errOf zs = 4) := errOf_bad hlen (bad_low hlt hall h1) (by decide)
          go_wp2_with fail
          go_ret2
          refine ⟨ret2 ?_ ?_, Below.refl _ _⟩
          · rw [cntOf_bad (by rw [e4.out]; decide)]
          · rw [e4.out]; rfl
        · by_cases h2 : 4096 < nth zs k
          · have e7 : Hid (errOf zs = 7) := errOf_bad hlen (bad_high hlt hall h2) (by decide)
            go_wp2_with fail
            go_ret2
            refine ⟨ret2 ?_ ?_, Below.refl _ _⟩
            · rw [cntOf_bad (by rw [e7.out]; decide)]
            · rw [e7.out]; rfl
          · have hst := allIn_step hlt hall h1 h2
            go_wp2_with fail
            go_round
            case rel => exact ⟨k + 1, by omega, by go_num, hst⟩
            case measure => simp [intOf]; omega
      · obtain rfl : k = zs.length := by omega
        rw [List.take_length] at hall
        go_wp2_with fail
        refine (prod_any a cap zs hreach _ hI hall).mono ?_
        rintro e w' ⟨rfl, hb⟩
        by_cases h7 : 4096 < clp zs
        · have e7 : Hid (errOf zs = 7) := errOf_full hlen hall h7
          go_wp2_with fail
          go_ret2
          refine ⟨ret2 ?_ ?_, hb⟩
          · rw [cntOf_bad (by rw [e7.out]; decide)]
          · rw [e7.out]; rfl
        · have e0 : Hid (errOf zs = 0 ∧ clp zs = prod zs) := errOf_ok hlen hall h7
          go_wp2_with fail
          go_ret2
          refine ⟨ret2 ?_ ?_, hb⟩
          · rw [cntOf_ok e0.out.1, e0.out.2]
          · rw [e0.out.1]; rfl
end Go.Proofs.Ythmiaiephkcdfaa
