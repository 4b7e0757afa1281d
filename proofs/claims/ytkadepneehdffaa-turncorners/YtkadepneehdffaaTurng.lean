/-
  Plain mathematics of the corners of a square: an array of two axes, flipped and reversed.
-/
import Derived.Test.YtkadepneehdffaaTurnf
namespace Go.Proofs.Ytkadepneehdffaa
open Go.RowKit
set_option linter.unusedVariables false

theorem ins2 {a b : Int} {t : List Int} (h : insB [a, b] t = true) : ∃ i j, t = [i, j] := by
  have hl := insB_len h
  match t, hl with
  | [i, j], _ => exact ⟨i, j, rfl⟩
theorem rev1 (a b i j : Int) : revT [a, b] 1 [i, j] = [i, b - 1 - j] := rfl
theorem rev0 (a b i j : Int) : revT [a, b] 0 [i, j] = [a - 1 - i, j] := rfl
theorem flp2 (i j : Int) : flpT [1, 0] [i, j] = [j, i] := rfl
theorem ord2 : IsOrd [1, 0] := (ordB_iff _).1 (by decide)
theorem ax2 {m n : Int} (h : errOf [m, n] = 0) : axVal [m, n] [1, 0] = [n, m] := by
  have h0 : axErr [m, n] [1, 0] = 0 := axErr_zero.2 ⟨h, rfl, ord2⟩
  rw [axVal_ok h0]
  rfl
theorem err2 {m n : Int} (h : errOf [m, n] = 0) : errOf [n, m] = 0 := by
  have h0 : axErr [m, n] [1, 0] = 0 := axErr_zero.2 ⟨h, rfl, ord2⟩
  have ha := axVal_spec h0
  rw [ax2 h] at ha
  exact ax_err (s := [m, n]) ord2 rfl ha h
theorem flp2_in {m n : Int} {t : List Int} (h : insB [n, m] t = true) : insB [m, n] (flpT [1, 0] t) = true := by
  obtain ⟨i, j, rfl⟩ := ins2 h
  rw [flp2]
  simp only [insB, Bool.and_eq_true, decide_eq_true_eq, and_true] at h ⊢
  exact ⟨h.2, h.1⟩
/-- One turn: flipped, and reversed on the second axis. -/
def trn (m n : Int) (d : List Int) : List Int := rvG 1 [n, m] (flG [1, 0] [m, n] d)
theorem trn_ga {m n : Int} (h : errOf [m, n] = 0) (d : List Int) : trn m n d = GA [m, n] d [n, m] (fun t => flpT [1, 0] (revT [n, m] 1 t)) := by
  unfold trn rvG flG
  rw [ax2 h]
  exact GA_comp (err2 h) (err2 h) fun t ht => revT_in ht (by simp)
theorem turn_in {m n : Int} {t : List Int} (h : insB [n, m] t = true) : insB [m, n] (flpT [1, 0] (revT [n, m] 1 t)) = true := flp2_in (revT_in h (by simp))
theorem trn_four {m n : Int} {d : List Int} (h : errOf [m, n] = 0) (hd : (d.length : Int) = prod [m, n]) : trn n m (trn m n (trn n m (trn m n d))) = d := by
  have h' := err2 h
  rw [trn_ga h', trn_ga h, trn_ga h', trn_ga h]
  rw [GA_comp h' h fun t ht => turn_in ht, GA_comp h h fun t ht => turn_in (turn_in ht), GA_comp h' h fun t ht => turn_in (turn_in (turn_in ht))]
  refine GA_id h hd fun t ht => ?_
  obtain ⟨i, j, rfl⟩ := ins2 ht
  simp only [rev1, flp2]
  congr 1
  · omega
  · congr 1
    omega
theorem trn_same {m n : Int} {d : List Int} (h : errOf [m, n] = 0) : flG [1, 0] [m, n] (rvG 0 [m, n] d) = trn m n d := by
  have h' := err2 h
  rw [trn_ga h]
  unfold flG rvG
  rw [ax2 h, GA_comp h h' fun t ht => flp2_in ht]
  refine GA_congr h' fun t ht => ?_
  obtain ⟨i, j, rfl⟩ := ins2 ht
  rfl
/-- The shape and the cells behind so many turns. -/
def cS (m n : Int) : Nat → List Int
  | 0 => [m, n]
  | k + 1 => cS n m k
def cD (m n : Int) (d : List Int) : Nat → List Int
  | 0 => d
  | k + 1 => cD n m (trn m n d) k
theorem cS_two (m n : Int) : ∀ k, ∃ a b, cS m n k = [a, b] ∧ ((a = m ∧ b = n) ∨ (a = n ∧ b = m))
  | 0 => ⟨m, n, rfl, .inl ⟨rfl, rfl⟩⟩
  | k + 1 => by
    obtain ⟨a, b, h, hx⟩ := cS_two n m k
    exact ⟨a, b, h, hx.symm⟩
section
variable {c : Bool} {m n : Int} {d : List Int}
theorem trn_flaw (h : flawE c [m, n] d = 0) : flE [1, 0] c [m, n] d = 0 ∧ axE 1 c [n, m] (flG [1, 0] [m, n] d) = 0 ∧ flawE c [n, m] (trn m n d) = 0 := by
  have he := (flawE_zero h).1
  have h1 : flE [1, 0] c [m, n] d = 0 := flE_zero.2 ⟨h, rfl, ord2⟩
  have h2 := fl_flaw h1
  rw [ax2 he] at h2
  have h3 : axE 1 c [n, m] (flG [1, 0] [m, n] d) = 0 := axE_zero.2 ⟨h2, by decide, by simp⟩
  exact ⟨h1, h3, rv_flaw h3⟩
end
theorem cD_flaw {c : Bool} : ∀ (k : Nat) {m n : Int} {d : List Int}, flawE c [m, n] d = 0 → flawE c (cS m n k) (cD m n d k) = 0
  | 0, _, _, _, h => h
  | k + 1, _, _, _, h => cD_flaw k (trn_flaw h).2.2
theorem cD_step : ∀ (k : Nat) {m n : Int} {d : List Int}, ∃ a b, cS m n k = [a, b] ∧ cS m n (k + 1) = [b, a] ∧ cD m n d (k + 1) = trn a b (cD m n d k)
  | 0, m, n, _ => ⟨m, n, rfl, rfl, rfl⟩
  | k + 1, m, n, d => cD_step k (m := n) (n := m) (d := trn m n d)
theorem cD_64 {T : List Int → Prop} (hT : ∀ m n d, T d → T (trn m n d)) : ∀ (k : Nat) {m n : Int} {d : List Int}, T d → T (cD m n d k)
  | 0, _, _, _, h => h
  | k + 1, _, _, _, h => cD_64 hT k (hT _ _ _ h)
end Go.Proofs.Ytkadepneehdffaa
