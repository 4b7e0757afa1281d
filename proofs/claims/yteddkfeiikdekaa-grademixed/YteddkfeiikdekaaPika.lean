/-
  Plain mathematics: all indices of each axis are all of it; nothing of the program.
-/
import Derived.Test.YteddkfeiikdekaaPikq
import Derived.Test.YteddkfeiikdekaaTurnw
namespace Go.Proofs.Yteddkfeiikdekaa
open Go.RowKit
set_option linter.unusedVariables false

/-- The numbers from 0 on, so many. -/
def ioN (l : Int) : List Int := (List.range l.toNat).map fun j => ((j : Nat) : Int)
theorem ioN_length (l : Int) : (ioN l).length = l.toNat := by simp [ioN]
theorem ioN_nth (l : Int) {j : Nat} (h : j < l.toNat) : nth (ioN l) j = j := by simp [ioN, nth, h]
def ioL (s : List Int) : List Ar := s.map fun l => (false, ([l], ioN l))
theorem ioL_S : ∀ s : List Int, pkS (ioL s) = s
  | [] => rfl
  | x :: s => by show [x] ++ pkS (ioL s) = _; rw [ioL_S s]; rfl
theorem io_flaw {l : Int} (h0 : 0 ≤ l) (h1 : l ≤ 4096) : flawE false [l] (ioN l) = 0 := by
  refine flawE_okn (errOf_zero.2 ⟨by simp, fun y hy => by rw [List.mem_singleton.1 hy]; omega, by simp only [prod, Int.mul_one]; exact h1⟩) ?_
  rw [ioN_length]
  simp only [prod, Int.mul_one]
  omega
theorem ioL_flaw : ∀ {s : List Int}, AllIn s → flL (ioL s) = 0
  | [], _ => rfl
  | x :: s, h => by
    have hx := h x List.mem_cons_self
    show (if flawE false [x] (ioN x) ≠ 0 then flawE false [x] (ioN x) else flL (ioL s)) = 0
    rw [if_neg (by simpa using io_flaw hx.1 hx.2)]
    exact ioL_flaw h.tail
theorem ioL_ch : ∀ s : List Int, chL (ioL s) = false
  | [] => rfl
  | x :: s => by show (false || chL (ioL s)) = false; rw [ioL_ch s]; rfl
theorem ioL_ix : ∀ {s : List Int}, AllIn s → ixB (ioL s) s = true
  | [], _ => rfl
  | x :: s, h => by
    show (((ioN x).all fun i => decide (0 ≤ i ∧ i < nth (x :: s) 0)) && ixB (ioL s) s) = true
    rw [ioL_ix h.tail, Bool.and_true, List.all_eq_true]
    intro i hi
    simp only [ioN, List.mem_map, List.mem_range] at hi
    obtain ⟨j, hj, rfl⟩ := hi
    rw [nth_zero]
    simp
    omega
theorem cel_io {x a : Int} (h0 : 0 ≤ a) (h1 : a < x) : cel [x] (ioN x) [a] = a := by
  unfold cel
  simp only [place, prod, Int.mul_one, Int.add_zero]
  rw [ioN_nth x (by omega)]
  omega
theorem ioL_T : ∀ {s t : List Int}, insB s t = true → pkT (ioL s) t = t
  | [], [], _ => rfl
  | [], _ :: _, h => by simp [insB] at h
  | _ :: _, [], h => by simp [insB] at h
  | x :: s, a :: t, h => by
    have h1 := ins_cons.1 h
    show cel [x] (ioN x) [a] :: pkT (ioL s) t = _
    rw [cel_io h1.1.1 h1.1.2, ioL_T h1.2]
section
variable {c : Bool} {s dz : List Int}
theorem all_err (h : flawE c s dz = 0) : pkE c s dz (ioL s) = 0 := by
  have he := (flawE_zero h).1
  have ha := (errOf_zero.1 he).2.1
  exact pkE_zero.2 ⟨h, ioL_flaw ha, by simp [ioL], ioL_ch s, by rw [ioL_S]; exact he, ioL_ix ha⟩
/-- At all indices of each axis, in order, it is the array. -/
theorem all_is (h : flawE c s dz = 0) : pkS (ioL s) = s ∧ pkD s dz (ioL s) = dz := by
  refine ⟨ioL_S s, ?_⟩
  unfold pkD
  rw [ioL_S]
  exact TA_is (flawE_zero h).1 (flawE_zero h).2.1 fun t ht => by rw [ioL_T ht]
end
/-- In an order turned round it is the array reversed. -/
theorem all_back {c : Bool} {x : Int} {s dz : List Int} (h : flawE c (x :: s) dz = 0) :
    axE 0 false [x] (ioN x) = 0 ∧ axE 0 c (x :: s) dz = 0 ∧ pkE c (x :: s) dz ((false, ([x], rvG 0 [x] (ioN x))) :: ioL s) = 0 ∧ pkS ((false, ([x], rvG 0 [x] (ioN x))) :: ioL s) = x :: s ∧ pkD (x :: s) dz ((false, ([x], rvG 0 [x] (ioN x))) :: ioL s) = rvG 0 (x :: s) dz := by
  have he := (flawE_zero h).1
  have ha := (errOf_zero.1 he).2.1
  have hx := ha x List.mem_cons_self
  have f0 := io_flaw hx.1 hx.2
  have a0 : axE 0 false [x] (ioN x) = 0 := axE_zero.2 ⟨f0, by omega, by simp⟩
  have a1 : axE 0 c (x :: s) dz = 0 := axE_zero.2 ⟨h, by omega, by simp⟩
  have fr := rv_flaw a0
  have hS : pkS ((false, ([x], rvG 0 [x] (ioN x))) :: ioL s) = x :: s := by show [x] ++ pkS (ioL s) = _; rw [ioL_S]; rfl
  have e1 : errOf [x] = 0 := (flawE_zero f0).1
  have hc : ∀ a : Int, 0 ≤ a → a < x → cel [x] (rvG 0 [x] (ioN x)) [a] = x - 1 - a := fun a h0 h1 => by
    have hin : insB [x] [a] = true := ins_cons.2 ⟨⟨h0, h1⟩, rfl⟩
    have := GA_at (s := [x]) (dz := ioN x) (s' := [x]) (src := revT [x] 0) e1 hin
    unfold cel
    show nth (GA [x] (ioN x) [x] (revT [x] (0 : Int).toNat)) _ = _
    rw [show (0 : Int).toNat = 0 from rfl, this]
    have e2 : revT [x] 0 [a] = [x - 1 - a] := rfl
    rw [e2]
    exact cel_io (by omega) (by omega)
  have e2 : pkE c (x :: s) dz ((false, ([x], rvG 0 [x] (ioN x))) :: ioL s) = 0 := by
    refine pkE_zero.2 ⟨h, ?_, by simp [ioL], ?_, by rw [hS]; exact he, ?_⟩
    · show (if flawE false [x] (rvG 0 [x] (ioN x)) ≠ 0 then flawE false [x] (rvG 0 [x] (ioN x)) else flL (ioL s)) = 0
      rw [if_neg (by simpa using fr)]
      exact ioL_flaw ha.tail
    · show (false || chL (ioL s)) = false; rw [ioL_ch s]; rfl
    · show (((rvG 0 [x] (ioN x)).all fun i => decide (0 ≤ i ∧ i < nth (x :: s) 0)) && ixB (ioL s) s) = true
      rw [ioL_ix ha.tail, Bool.and_true, List.all_eq_true]
      intro i hi
      obtain ⟨j, hj, rfl⟩ := List.mem_iff_getElem.1 hi
      have hj' : j < x.toNat := by unfold rvG at hj; rw [GA_length] at hj; simpa [prod] using hj
      have hcr := cr_in e1 (i := j) (by simp only [prod, Int.mul_one]; exact hj')
      have hl := insB_len hcr.1
      obtain ⟨a, ea⟩ : ∃ a, cr [x] j = [a] := by
        match hq : cr [x] j, hl with
        | [a], _ => exact ⟨a, rfl⟩
      have hb := ins_at hcr.1 (x := 0) (by simp)
      rw [ea, nth_zero, nth_zero] at hb
      have := hc a hb.1 hb.2
      unfold cel at this
      rw [← ea, hcr.2, Int.toNat_natCast, nth_get _ j hj] at this
      rw [this, nth_zero]
      simp
      omega
  refine ⟨a0, a1, e2, hS, ?_⟩
  unfold pkD
  rw [hS]
  show _ = TA (x :: s) (fun t => cel (x :: s) dz (revT (x :: s) 0 t))
  refine TA_congr he fun t ht => ?_
  match t, ht with
  | a :: t, ht =>
    have h1 := ins_cons.1 ht
    show cel (x :: s) dz (cel [x] (rvG 0 [x] (ioN x)) [a] :: pkT (ioL s) t) = _
    rw [hc a h1.1.1 h1.1.2, ioL_T h1.2]
    rfl
end Go.Proofs.Yteddkfeiikdekaa
