/-
  Plain mathematics: at indices of the first axis in some order, and at all indices of the others, an array's rows stand in that order; nothing of the program.
-/
import Derived.Test.YteddkfeiikdekaaPika
import Derived.Test.YteddkfeiikdekaaGrdn
namespace Go.Proofs.Yteddkfeiikdekaa
open Go.RowKit
set_option linter.unusedVariables false

theorem lR_prod {c : Bool} {x : Int} {s dz : List Int} (h : flawE c (x :: s) dz = 0) (hx : x ≠ 0) : (lR (x :: s) dz : Int) = prod s ∧ nR (x :: s) * lR (x :: s) dz = dz.length := by
  have he := (flawE_zero h).1
  have hd := (flawE_zero h).2.1
  have ha := (errOf_zero.1 he).2.1
  have hx0 := (ha x List.mem_cons_self).1
  have hp : prod (x :: s) = x * prod s := rfl
  have hs0 : 0 ≤ prod s := by
    by_cases q : 0 ≤ prod s
    · exact q
    · exfalso
      have := Int.mul_neg_of_pos_of_neg (show 0 < x by omega) (show prod s < 0 by omega)
      rw [hp] at hd; omega
  obtain ⟨X, rfl⟩ := Int.eq_ofNat_of_zero_le hx0
  obtain ⟨P, hP⟩ := Int.eq_ofNat_of_zero_le hs0
  rw [hP] at hp ⊢
  rw [hp, ← Int.natCast_mul] at hd
  have hd2 : dz.length = X * P := by omega
  have hn : nR ((X : Int) :: s) = X := by unfold nR; rw [nth_zero, Int.toNat_natCast]
  have hl : lR ((X : Int) :: s) dz = P := by
    unfold lR
    rw [hn, if_neg (by omega), hd2]
    exact Nat.mul_div_cancel_left P (by omega)
  rw [hl, hn]
  exact ⟨rfl, hd2.symm⟩
theorem lR_whole {c : Bool} {x : Int} {s dz : List Int} (h : flawE c (x :: s) dz = 0) : dz.length = nR (x :: s) * lR (x :: s) dz := by
  by_cases hx : x = 0
  · have hd := (flawE_zero h).2.1
    subst hx
    have hp : prod (0 :: s) = 0 * prod s := rfl
    rw [hp, Int.zero_mul] at hd
    have : nR (0 :: s) = 0 := rfl
    rw [this, Nat.zero_mul]; omega
  · exact (lR_prod h hx).2.symm
/-- A cell of rows in order. -/
theorem srD_nth {dz : List Int} {n long : Nat} {p : List Int} (h : n * long ≤ dz.length) (hp : IsOrd p) (hl : p.length = n) {i j : Nat} (hi : i < n) (hj : j < long) : nth (srD dz long p) (i * long + j) = nth dz ((nth p i).toNat * long + j) := by
  rw [← rwL_nth hj, srD_row h hp hl hi, rwL_nth hj]
theorem cel_one {x a : Int} {p : List Int} (h0 : 0 ≤ a) : cel [x] p [a] = nth p a.toNat := by
  unfold cel
  simp only [place, prod, Int.mul_one, Int.add_zero]
theorem all_ord {c : Bool} {x : Int} {s dz p : List Int} (h : flawE c (x :: s) dz = 0) (hp : IsOrd p) (hl : (p.length : Int) = x) :
    pkE c (x :: s) dz ((false, ([x], p)) :: ioL s) = 0 ∧ pkS ((false, ([x], p)) :: ioL s) = x :: s ∧ pkD (x :: s) dz ((false, ([x], p)) :: ioL s) = srD dz (lR (x :: s) dz) p := by
  have he := (flawE_zero h).1
  have hd := (flawE_zero h).2.1
  have ha := (errOf_zero.1 he).2.1
  have hx := ha x List.mem_cons_self
  have hn : nR (x :: s) = p.length := by unfold nR; rw [nth_zero]; omega
  have f0 := io_flaw hx.1 hx.2
  have fr : flawE false [x] p = 0 := flawE_okn (flawE_zero f0).1 (by simp only [prod, Int.mul_one]; exact hl)
  have hS : pkS ((false, ([x], p)) :: ioL s) = x :: s := by show [x] ++ pkS (ioL s) = _; rw [ioL_S]; rfl
  refine ⟨pkE_zero.2 ⟨h, ?_, by simp [ioL], ?_, by rw [hS]; exact he, ?_⟩, hS, ?_⟩
  · show (if flawE false [x] p ≠ 0 then flawE false [x] p else flL (ioL s)) = 0
    rw [if_neg (by simpa using fr)]
    exact ioL_flaw ha.tail
  · show (false || chL (ioL s)) = false; rw [ioL_ch s]; rfl
  · show ((p.all fun i => decide (0 ≤ i ∧ i < nth (x :: s) 0)) && ixB (ioL s) s) = true
    rw [ioL_ix ha.tail, Bool.and_true, List.all_eq_true]
    intro i hi
    obtain ⟨j, hj, rfl⟩ := List.mem_iff_getElem.1 hi
    have := hp.1 j hj
    rw [nth_zero, ← nth_get p j hj]
    exact decide_eq_true ⟨this.1, by omega⟩
  · unfold pkD
    rw [hS]
    have hw := lR_whole h
    have hle : p.length * lR (x :: s) dz ≤ dz.length := by rw [← hn]; exact lR_le _ _
    refine (TA_ext he ?_ fun t ht => ?_).symm
    · rw [srD_length hle hp rfl, ← hn, ← hw]; omega
    · match t, ht with
      | a :: t, ht =>
        have h1 := ins_cons.1 ht
        have hb := place_bd h1.2
        have hx0 : x ≠ 0 := by omega
        have hL := (lR_prod h hx0).1
        have o := ord_at hp (i := a.toNat) (by omega)
        show cel (x :: s) (srD dz (lR (x :: s) dz) p) (a :: t) = cel (x :: s) dz (cel [x] p [a] :: pkT (ioL s) t)
        rw [cel_one h1.1.1, ioL_T h1.2]
        unfold cel
        have e1 : (place (x :: s) (a :: t)).toNat = a.toNat * lR (x :: s) dz + (place s t).toNat := by
          show (a * prod s + place s t).toNat = _
          rw [← hL]
          obtain ⟨A, hA⟩ := Int.eq_ofNat_of_zero_le h1.1.1
          obtain ⟨T, hT⟩ := Int.eq_ofNat_of_zero_le hb.1
          rw [hA, hT, ← Int.natCast_mul, ← Int.natCast_add, Int.toNat_natCast, Int.toNat_natCast, Int.toNat_natCast]
        have e2 : (place (x :: s) (nth p a.toNat :: t)).toNat = (nth p a.toNat).toNat * lR (x :: s) dz + (place s t).toNat := by
          show (nth p a.toNat * prod s + place s t).toNat = _
          rw [← hL]
          obtain ⟨T, hT⟩ := Int.eq_ofNat_of_zero_le hb.1
          rw [← o.2, hT, ← Int.natCast_mul, ← Int.natCast_add, Int.toNat_natCast, Int.toNat_natCast, Int.toNat_natCast]
        rw [e1, e2]
        exact srD_nth hle hp rfl (by omega) (by omega)
end Go.Proofs.Yteddkfeiikdekaa
