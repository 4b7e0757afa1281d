/-
  The places that are told, as the program reckons them: each array of indices taken as a list; plain mathematics.
-/
import Derived.Test.YteddkfeiikdekaaPikq
import Derived.Test.YteddkfeiikdekaaCutg
namespace Go.Proofs.Yteddkfeiikdekaa
open Go.RowKit
set_option linter.unusedVariables false

/-- The lists of indices. -/
def pkR (bys : List Ar) : List (List Int) := bys.map fun b => b.2.2
/-- In each array the place that the indices have there. -/
def pkF : List Ar → List Int → List Int
  | [], _ => []
  | b :: r, t => place b.2.1 (t.take b.2.1.length) :: pkF r (t.drop b.2.1.length)
theorem gaT_cons (r : List Int) (rs : List (List Int)) (x : Int) (t : List Int) : gaT (r :: rs) (x :: t) = nth r x.toNat :: gaT rs t := by
  unfold gaT
  rw [List.length_cons, List.range_succ_eq_map, List.map_cons, List.map_map]
  rfl
theorem pkR_prod : ∀ (bys : List Ar), flL bys = 0 → prod (gaS (pkR bys)) = prod (pkS bys)
  | [], _ => rfl
  | b :: r, h => by
    obtain ⟨f1, f2⟩ := flL_cons h
    show (b.2.2.length : Int) * prod (gaS (pkR r)) = prod (b.2.1 ++ pkS r)
    rw [prod_append, pkR_prod r f2, (flawE_zero f1).2.1]
theorem pkF_fact : ∀ (bys : List Ar) (t : List Int), flL bys = 0 → insB (pkS bys) t = true → insB (gaS (pkR bys)) (pkF bys t) = true ∧ place (gaS (pkR bys)) (pkF bys t) = place (pkS bys) t ∧ gaT (pkR bys) (pkF bys t) = pkT bys t
  | [], t, _, ht => by
    match t, ht with
    | [], _ => exact ⟨rfl, rfl, rfl⟩
  | b :: r, t, h, ht => by
    obtain ⟨f1, f2⟩ := flL_cons h
    have hlen := insB_len ht
    simp only [pkS, List.length_append] at hlen
    have hk : (t.take b.2.1.length).length = b.2.1.length := by rw [List.length_take]; omega
    have ht' : insB (b.2.1 ++ pkS r) (t.take b.2.1.length ++ t.drop b.2.1.length) = true := by rw [List.take_append_drop]; exact ht
    obtain ⟨i1, i2⟩ := insB_append hk ht'
    obtain ⟨g1, g2, g3⟩ := pkF_fact r _ f2 i2
    have hp := place_bd i1
    have hd := (flawE_zero f1).2.1
    have hpl := place_append (s := b.2.1) (a := t.take b.2.1.length) (pkS r) (t.drop b.2.1.length) hk
    rw [List.take_append_drop] at hpl
    refine ⟨?_, ?_, ?_⟩
    · show insB ((b.2.2.length : Int) :: gaS (pkR r)) (place b.2.1 (t.take b.2.1.length) :: pkF r (t.drop b.2.1.length)) = true
      exact ins_cons.2 ⟨⟨hp.1, by rw [hd]; exact hp.2⟩, g1⟩
    · show place b.2.1 (t.take b.2.1.length) * prod (gaS (pkR r)) + place (gaS (pkR r)) (pkF r (t.drop b.2.1.length)) = place (b.2.1 ++ pkS r) t
      rw [hpl, g2, pkR_prod r f2]
    · show gaT (b.2.2 :: pkR r) (place b.2.1 (t.take b.2.1.length) :: pkF r (t.drop b.2.1.length)) = _
      rw [gaT_cons, g3]
      rfl
theorem pkR_in : ∀ (bys : List Ar), flL bys = 0 → AllIn (gaS (pkR bys))
  | [], _ => fun y hy => by cases hy
  | b :: r, h => fun y hy => by
    obtain ⟨f1, f2⟩ := flL_cons h
    have hs := (flawE_short f1).2
    rcases List.mem_cons.1 hy with e | e
    · have e' : y = (b.2.2.length : Int) := e
      omega
    · exact pkR_in r f2 y e
theorem pkR_length (bys : List Ar) : (pkR bys).length = bys.length := by simp [pkR]
theorem pkR_err {bys : List Ar} (hf : flL bys = 0) (hl : bys.length ≤ 6) (he : errOf (pkS bys) = 0) : errOf (gaS (pkR bys)) = 0 :=
  errOf_zero.2 ⟨by rw [gaS_length, pkR_length]; exact hl, pkR_in bys hf, by rw [pkR_prod bys hf]; exact (errOf_zero.1 he).2.2⟩
/-- Whichever way they are reckoned, the same indices are told. -/
theorem pk_ga {bys : List Ar} (hf : flL bys = 0) (hl : bys.length ≤ 6) (he : errOf (pkS bys) = 0) {k : Nat} (hk : k < (prod (pkS bys)).toNat) : pkT bys (cr (pkS bys) k) = gaT (pkR bys) (cr (gaS (pkR bys)) k) := by
  obtain ⟨c1, c2⟩ := cr_in he hk
  obtain ⟨g1, g2, g3⟩ := pkF_fact bys _ hf c1
  have := (cr_place (pkR_err hf hl he) g1).1
  rw [g2, c2, Int.toNat_natCast] at this
  rw [← g3, ← this]
theorem rl_pkR (bs : List ArV) (k : Nat) : rl (pkR (bya bs)) k = (arz bs k).2.2.2 := by
  unfold rl pkR bya arz
  simp only [List.getD_eq_getElem?_getD, List.getElem?_map]
  cases bs[k]? <;> rfl
end Go.Proofs.Yteddkfeiikdekaa
