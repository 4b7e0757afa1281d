/-
  Plain mathematics of products of arrays: which cells the program takes at a place.
-/
import Derived.Test.YtgaelbgeoobgiaaPrdn
import Derived.Test.YtgaelbgeoobgiaaCutn
namespace Go.Proofs.Ytgaelbgeoobgiaa
open Go.RowKit
set_option linter.unusedVariables false

theorem divs {p X Y M : Nat} (h : p = X * M + Y) (hY : Y < M) : p / M = X ∧ p % M = Y := by
  have hM : 0 < M := by omega
  subst h
  constructor
  · rw [Nat.mul_comm, Nat.mul_add_div hM, Nat.div_eq_of_lt hY, Nat.add_zero]
  · rw [Nat.mul_comm, Nat.mul_add_mod, Nat.mod_eq_of_lt hY]
theorem parts_place {s s' t : List Int} (h : insB (s ++ s') t = true) : place (s ++ s') t = place s (t.take s.length) * prod s' + place s' (t.drop s.length) ∧ (0 ≤ place s (t.take s.length) ∧ place s (t.take s.length) < prod s) ∧ 0 ≤ place s' (t.drop s.length) ∧ place s' (t.drop s.length) < prod s' := by
  have hp := ins_parts h
  have hl := insB_len h
  rw [List.length_append] at hl
  refine ⟨?_, place_bd hp.1, place_bd hp.2⟩
  have e : t = t.take s.length ++ t.drop s.length := (List.take_append_drop _ _).symm
  have e2 : place (s ++ s') t = place (s ++ s') (t.take s.length ++ t.drop s.length) := by rw [← e]
  rw [e2]
  exact place_append _ _ (by rw [List.length_take]; omega)
/-- The two parts of a place. -/
theorem cr_parts {s s' : List Int} (he : errOf (s ++ s') = 0) {p M : Nat} (hM : (M : Int) = prod s') (hp : (p : Int) < prod (s ++ s')) :
    0 < M ∧ place s ((cr (s ++ s') p).take s.length) = ((p / M : Nat) : Int) ∧ place s' ((cr (s ++ s') p).drop s.length) = ((p % M : Nat) : Int) ∧ ((p / M : Nat) : Int) < prod s := by
  obtain ⟨hi, hpl⟩ := cr_fact he hp
  obtain ⟨h1, h2, h3⟩ := parts_place hi
  rw [hpl, ← hM] at h1
  rw [← hM] at h3
  obtain ⟨X, hX⟩ : ∃ X : Nat, (X : Int) = place s ((cr (s ++ s') p).take s.length) := ⟨_, Int.toNat_of_nonneg h2.1⟩
  obtain ⟨Y, hY⟩ : ∃ Y : Nat, (Y : Int) = place s' ((cr (s ++ s') p).drop s.length) := ⟨_, Int.toNat_of_nonneg h3.1⟩
  rw [← hX] at h1 h2 ⊢
  rw [← hY] at h1 h3 ⊢
  have e : p = X * M + Y := by exact_mod_cast h1
  obtain ⟨e1, e2⟩ := divs e (by omega)
  rw [e1, e2]
  exact ⟨by omega, rfl, rfl, h2.2⟩
/-! ### Outer -/
theorem ot_at {f : Int} {c : Bool} {s dz : List Int} {c' : Bool} {s' dz' : List Int} (he : errOf (s ++ s') = 0) {p M : Nat} (hM : (M : Int) = prod s') (hp : (p : Int) < prod (s ++ s')) :
    0 < M ∧ p / M < (prod s).toNat ∧ p % M < M ∧ otC f c s dz c' s' dz' (cr (s ++ s') p) = tcV f (c == c') (nth dz (p / M)) (nth dz' (p % M)) ∧ otX f c s dz c' s' dz' (cr (s ++ s') p) = tcE f (c == c') (nth dz (p / M)) (nth dz' (p % M)) := by
  obtain ⟨h0, h1, h2, h3⟩ := cr_parts he hM hp
  have e1 : cel s dz ((cr (s ++ s') p).take s.length) = nth dz (p / M) := by unfold cel; rw [h1, Int.toNat_natCast]
  have e2 : cel s' dz' ((cr (s ++ s') p).drop s.length) = nth dz' (p % M) := by unfold cel; rw [h2, Int.toNat_natCast]
  refine ⟨h0, by omega, Nat.mod_lt _ h0, ?_, ?_⟩
  · unfold otC; rw [e1, e2]
  · unfold otX; rw [e1, e2]
/-! ### Inner -/
theorem take_last {s : List Int} (h : s.length ≠ 0) : s = s.take (s.length - 1) ++ [inN s] := by
  have h1 : s.length - 1 < s.length := by omega
  have e := List.take_append_drop (s.length - 1) s
  rw [List.drop_eq_getElem_cons h1, List.drop_eq_nil_of_le (by omega)] at e
  unfold inN
  rw [nth_get s _ h1]
  exact e.symm
theorem in_at {s dz s' dz' : List Int} (hs : s.length ≠ 0) (hs' : s'.length ≠ 0) (hn : inN s = nth s' 0) (he : errOf (inS s s') = 0) {p L A : Nat} (hL : (L : Int) = inN s) (hA : (A : Int) = prod (s'.drop 1)) (hp : (p : Int) < prod (inS s s')) :
    0 < A ∧ ∀ k : Nat, inU s dz (cr (inS s s') p) k = nth dz (p / A * L + k) ∧ inV s s' dz' (cr (inS s s') p) k = nth dz' (p % A + k * A) ∧ (k < L → ((p / A * L + k : Nat) : Int) < prod s ∧ ((p % A + k * A : Nat) : Int) < prod s') := by
  have hlen : (s.take (s.length - 1)).length = s.length - 1 := by rw [List.length_take]; omega
  obtain ⟨h0, h1, h2, h3⟩ := cr_parts (s := s.take (s.length - 1)) (s' := s'.drop 1) he hA hp
  rw [hlen] at h1 h2
  obtain ⟨hi, hpl⟩ := cr_fact he hp
  have htl := insB_len hi
  have htk : ((cr (inS s s') p).take (s.length - 1)).length = s.length - 1 := by
    have : (inS s s').length = s.length - 1 + (s'.length - 1) := by unfold inS; simp
    rw [List.length_take]; omega
  have es := take_last hs
  have es' : s' = nth s' 0 :: s'.drop 1 := by
    match s', hs' with
    | a :: r, _ => rfl
  refine ⟨h0, fun k => ?_⟩
  have p1 : place s ((cr (inS s s') p).take (s.length - 1) ++ [(k : Int)]) = ((p / A * L + k : Nat) : Int) := by
    have : place (s.take (s.length - 1) ++ [inN s]) ((cr (inS s s') p).take (s.length - 1) ++ [(k : Int)]) = ((p / A * L + k : Nat) : Int) := by
      rw [place_append _ _ (by rw [htk, hlen])]
      show place (s.take (s.length - 1)) ((cr (inS s s') p).take (s.length - 1)) * _ + _ = _
      rw [show place (s.take (s.length - 1)) ((cr (inS s s') p).take (s.length - 1)) = ((p / A : Nat) : Int) from h1, ← hL]
      simp [place, prod]
    rw [← es] at this
    exact this
  have p2 : place s' ((k : Int) :: (cr (inS s s') p).drop (s.length - 1)) = ((p % A + k * A : Nat) : Int) := by
    have : place (nth s' 0 :: s'.drop 1) ((k : Int) :: (cr (inS s s') p).drop (s.length - 1)) = ((p % A + k * A : Nat) : Int) := by
      show (k : Int) * prod (s'.drop 1) + place (s'.drop 1) ((cr (inS s s') p).drop (s.length - 1)) = _
      rw [show place (s'.drop 1) ((cr (inS s s') p).drop (s.length - 1)) = ((p % A : Nat) : Int) from h2, ← hA]
      simp [Int.add_comm]
    rw [← es'] at this
    exact this
  refine ⟨?_, ?_, fun hk => ⟨?_, ?_⟩⟩
  · unfold inU cel; rw [p1, Int.toNat_natCast]
  · unfold inV cel; rw [p2, Int.toNat_natCast]
  · have e : prod s = prod (s.take (s.length - 1)) * (L : Int) := by
      have : prod (s.take (s.length - 1) ++ [inN s]) = prod (s.take (s.length - 1)) * (L : Int) := by rw [prod_append, ← hL]; simp [prod]
      rw [← es] at this
      exact this
    rw [e]
    have h4 : ((p / A : Nat) : Int) + 1 ≤ prod (s.take (s.length - 1)) := by omega
    have h5 := Int.mul_le_mul_of_nonneg_right h4 (show (0 : Int) ≤ (L : Int) by omega)
    rw [Int.add_mul, Int.one_mul] at h5
    rw [Int.natCast_add, Int.natCast_mul]
    omega
  · have e : prod s' = (L : Int) * (A : Int) := by
      have : prod (nth s' 0 :: s'.drop 1) = (L : Int) * (A : Int) := by rw [hL, hn, hA]; rfl
      rw [← es'] at this
      exact this
    rw [e]
    have h4 : (k : Int) + 1 ≤ (L : Int) := by omega
    have h5 := Int.mul_le_mul_of_nonneg_right h4 (show (0 : Int) ≤ (A : Int) by omega)
    rw [Int.add_mul, Int.one_mul] at h5
    have h6 : p % A < A := Nat.mod_lt _ h0
    rw [Int.natCast_add, Int.natCast_mul]
    omega
end Go.Proofs.Ytgaelbgeoobgiaa
