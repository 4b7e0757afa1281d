/-
  Is a list each of the numbers below its length once? As the program tells it.
-/
import Derived.Test.YtgaelbgeoobgiaaBase
import Derived.Test.YtgaelbgeoobgiaaCutn
namespace Go.Proofs.Ytgaelbgeoobgiaa
open Go.RowKit
set_option linter.unusedVariables false

/-- Does the number j stand among the first k? -/
def seenB (ps : List Int) (k j : Nat) : Bool := (List.range k).any fun i => nth ps i == (j : Int)
theorem seenB_zero (ps : List Int) (j : Nat) : seenB ps 0 j = false := rfl
theorem seenB_succ (ps : List Int) (k j : Nat) : seenB ps (k + 1) j = (seenB ps k j || nth ps k == (j : Int)) := by
  simp [seenB, List.range_succ]
theorem seenB_iff (ps : List Int) (k j : Nat) : seenB ps k j = true ↔ ∃ i, i < k ∧ nth ps i = j := by
  simp [seenB]
def OrdTo (ps : List Int) (k : Nat) : Prop := (∀ j, j < k → 0 ≤ nth ps j ∧ nth ps j < ps.length) ∧ ∀ i j, i < j → j < k → nth ps i ≠ nth ps j
theorem OrdTo.zero (ps : List Int) : OrdTo ps 0 := ⟨fun j hj => by omega, fun i j _ hj => by omega⟩
theorem OrdTo.step {ps : List Int} {k : Nat} (h : OrdTo ps k) {m : Nat} (hm : nth ps k = m) (h2 : m < ps.length) (h3 : seenB ps k m = false) : OrdTo ps (k + 1) := by
  refine ⟨fun j hj => ?_, fun i j hij hj e => ?_⟩
  · by_cases e : j = k
    · subst e; omega
    · exact h.1 j (by omega)
  · by_cases e2 : j = k
    · subst e2
      have : seenB ps j m = true := (seenB_iff ps j m).2 ⟨i, hij, by rw [e, hm]⟩
      rw [h3] at this; cases this
    · exact h.2 i j hij (by omega) e
theorem ordB_low {ps : List Int} {k : Nat} (hk : k < ps.length) (h : nth ps k < 0) : ordB ps = false := by
  rw [← Bool.not_eq_true, ordB_iff]; intro ho; have := ho.1 k hk; omega
theorem ordB_high {ps : List Int} {k : Nat} (hk : k < ps.length) (h : (ps.length : Int) ≤ nth ps k) : ordB ps = false := by
  rw [← Bool.not_eq_true, ordB_iff]; intro ho; have := ho.1 k hk; omega
theorem ordB_seen {ps : List Int} {k : Nat} (hk : k < ps.length) {m : Nat} (hm : nth ps k = m) (h : seenB ps k m = true) : ordB ps = false := by
  rw [← Bool.not_eq_true, ordB_iff]; intro ho
  obtain ⟨i, hi, e⟩ := (seenB_iff ps k m).1 h
  exact ho.2 i k hi hk (by rw [e, hm])
theorem Try.infoBool : (Try.prog.info? 4).map (fun i => (i.zero, i.size, i.bytes)) = some (some (.bool false), 1, 1) := by kernel_rfl

set_option maxRecDepth 100000 in
set_option maxHeartbeats 1000000 in
theorem isord_any (a : Option Addr) (cap : Nat) (ps : List Int) (hl : ps.length ≤ 100000) (w : World) (hI : IsInts w.heap.size w a ps) :
    Calls Try.prog 59 #[.slice a ps.length cap] w fun e w' => e = .returned (.bool (ordB ps)) ∧ Below w.heap.size w w' := by
  have hmk := run_make_row' (P := Try.prog) 89 4 (.bool false) 1 Try.underlying89 Try.infoBool rfl .i64 .i64 ps.length (by omega) (by omega)
  go_enter Try.func59, Try.ntmps59
  go_wp2_with fail
  clear hmk
  go_loopw [11] (fun i wr => ∃ k : Nat, k ≤ ps.length ∧ i = .int .i64 k ∧ OrdTo ps k ∧ wr.rowIs w.heap.size 4 ps.length (fun j => .bool (seenB ps k j)) ∧ Below w.heap.size w wr) (fun i _ => ps.length - (intOf i).toNat)
  case atStart => exact ⟨0, Nat.zero_le _, rfl, OrdTo.zero ps, (World.rowIs_made w (.bool false) ps.length 4), (Below.refl _ w).alloc (Nat.le_refl _) _⟩
  case round =>
    obtain ⟨k, hk, rfl, hord, hrow, hB⟩ := hrel
    by_cases hlt : k < ps.length
    · obtain ⟨b, off, rfl, hb, hcell⟩ := (hI.below hB).at hlt
      have hc := hcell k hlt
      clear hcell
      by_cases h1 : nth ps k < 0
      · have hfin : Hid (ordB ps = false) := ordB_low hlt h1
        go_wp2_with fail
        go_ret
        exact ⟨ret_bool hfin.out.symm, hB⟩
      · by_cases h2 : (ps.length : Int) ≤ nth ps k
        · have hfin : Hid (ordB ps = false) := ordB_high hlt h2
          have hd1 : decide (nth ps k < 0) = false := by simpa using h1
          go_wp2_with fail
          go_ret
          exact ⟨ret_bool hfin.out.symm, hB⟩
        · obtain ⟨m, hm⟩ := Int.eq_ofNat_of_zero_le (Int.not_lt.1 h1)
          have HM : Hid (nth ps k = m) := hm
          rw [hm] at hc h1 h2
          clear hm
          have hmn : m < ps.length := by omega
          have hcm := hrow.cell hmn
          have hfm := hrow.frozen m
          have hd1 : decide ((m : Int) < 0) = false := by simp
          have hd2 : decide ((ps.length : Int) ≤ (m : Int)) = false := by simp; omega
          cases h3 : seenB ps k m with
          | true =>
            have hfin : Hid (ordB ps = false) := ordB_seen hlt HM.out h3
            rw [h3] at hcm
            clear h3
            go_wp2_with fail
            go_ret
            exact ⟨ret_bool hfin.out.symm, hB⟩
          | false =>
            have hst : OrdTo ps (k + 1) := hord.step HM.out hmn h3
            rw [h3] at hcm
            clear h3
            go_wp2_with fail
            refine ⟨⟨k + 1, by omega, by go_num, hst, (hrow.set m (.bool true)).congr (fun j hj => ?_), hB.setCell (p := ⟨w.heap.size, m, none⟩) (Nat.le_refl _) _⟩, by simp [intOf]; omega⟩
            rw [seenB_succ, HM.out]
            by_cases e : j = m
            · subst e; simp
            · have e2 : ((m : Int) == (j : Int)) = false := by rw [beq_eq_false_iff_ne]; omega
              simp [e, e2]
    · obtain rfl : k = ps.length := by omega
      have hfin : Hid (ordB ps = true) := (ordB_iff ps).2 hord
      go_wp2_with fail
      go_ret
      exact ⟨ret_bool hfin.out.symm, hB⟩
end Go.Proofs.Ytgaelbgeoobgiaa
