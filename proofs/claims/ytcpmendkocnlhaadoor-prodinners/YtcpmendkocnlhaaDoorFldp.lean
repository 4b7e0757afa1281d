/-
  Plain mathematics of the program's folds: where the cells of a line lie; an answer that is filled line by line; what a run of a line is.
-/
import Derived.Test.YtcpmendkocnlhaaDoorFldl
import Derived.Test.YtcpmendkocnlhaaDoorCutq
namespace Go.Proofs.YtcpmendkocnlhaaDoor
open Go.RowKit
set_option linter.unusedVariables false

theorem drop_prod : ∀ (x : Nat) (s : List Int), prod s = prod (s.take x) * prod (s.drop x)
  | 0, s => by simp [prod]
  | x + 1, [] => by simp [prod]
  | x + 1, a :: s => by simp only [List.take_succ_cons, List.drop_succ_cons, prod]; rw [drop_prod x s, Int.mul_assoc]
/-- How far two cells next to each other on an axis are apart. -/
def apt (x : Nat) (s : List Int) : Int := prod (s.drop (x + 1))
theorem apt_stp (x : Nat) (s : List Int) : stp s x = apt x s := rfl
theorem apt_set : ∀ (x : Nat) (s : List Int) (v : Int), apt x (s.set x v) = apt x s
  | 0, [], _ => rfl
  | 0, a :: s, v => rfl
  | x + 1, [], _ => rfl
  | x + 1, a :: s, v => by
    have := apt_set x s v
    unfold apt at this ⊢
    rw [List.set_cons_succ, List.drop_succ_cons, List.drop_succ_cons, this]
theorem xout_apt : ∀ (x : Nat) (s : List Int), prod (xout x s) = prod (s.take x) * apt x s := fun x s => by
  unfold xout apt
  have : ∀ a b : List Int, prod (a ++ b) = prod a * prod b := fun a b => by
    induction a with
    | nil => simp [prod]
    | cons y a ih => rw [List.cons_append, prod, prod, ih, Int.mul_assoc]
  exact this _ _
/-- Where a cell of a line lies. -/
theorem place_line : ∀ {x : Nat} {s t : List Int} (v : Int), x < s.length → insB (xout x s) t = true →
    place s (xin x v t) = place (xout x s) t / apt x s * nth s x * apt x s + place (xout x s) t % apt x s + v * apt x s
  | 0, [], _, _, h, _ => by simp at h
  | 0, a :: s, t, v, _, ht => by
    rw [xout_zero] at ht ⊢
    have h := place_bd ht
    have e : apt 0 (a :: s) = prod s := rfl
    rw [e, xin_zero, place, Int.ediv_eq_zero_of_lt h.1 h.2, Int.emod_eq_of_lt h.1 h.2]
    simp; omega
  | x + 1, [], _, _, h, _ => by simp at h
  | x + 1, a :: s, [], v, _, ht => by rw [xout_succ] at ht; simp [insB] at ht
  | x + 1, a :: s, b :: t, v, hx, ht => by
    rw [xout_succ] at ht ⊢
    have hx' : x < s.length := by simpa using hx
    have ht' := (ins_cons.1 ht).2
    have ih := place_line v hx' ht'
    have hb := place_bd ht'
    have hp := xout_apt x s
    have e : apt (x + 1) (a :: s) = apt x s := rfl
    have hA : apt x s ≠ 0 := fun h0 => by rw [hp, h0, Int.mul_zero] at hb; omega
    rw [e, xin_succ, place, place, ih, nth_succ, xout_prod hx', hp]
    have e1 : (b * (prod (s.take x) * apt x s) + place (xout x s) t) / apt x s = b * prod (s.take x) + place (xout x s) t / apt x s := by
      rw [← Int.mul_assoc, Int.add_comm, Int.add_mul_ediv_right _ _ hA, Int.add_comm]
    have e2 : (b * (prod (s.take x) * apt x s) + place (xout x s) t) % apt x s = place (xout x s) t % apt x s := by
      rw [← Int.mul_assoc, Int.add_comm, Int.add_mul_emod_self_right]
    rw [e1, e2, Int.add_mul, Int.add_mul]
    have e3 : b * (nth s x * (prod (s.take x) * apt x s)) = b * prod (s.take x) * nth s x * apt x s := by
      rw [Int.mul_left_comm (nth s x), Int.mul_assoc b, Int.mul_assoc b, Int.mul_assoc (prod (s.take x))]
    rw [e3]
    omega

/-! ### An answer, filled line by line -/
/-- The index in a line, and the line, at which a cell lies: those of the first n lines, and k more, are told. -/
def Dnl (s : List Int) (x n k : Nat) (g : List Int → Int) (D : List Int) : Prop :=
  D.length = (prod s).toNat ∧ ∀ t, insB s t = true → (place (xout x s) (xout x t) < n ∨ (place (xout x s) (xout x t) = n ∧ nth t x < k)) → cel s D t = g t
theorem Dnl.start (s : List Int) (x : Nat) (g : List Int → Int) {D : List Int} (h : D.length = (prod s).toNat) : Dnl s x 0 0 g D := by
  refine ⟨h, fun t ht hc => ?_⟩
  have h1 := place_bd (ins_xout (x := x) ht)
  rcases hc with hc | ⟨_, hc⟩
  · omega
  · by_cases hx : x < s.length
    · have := ins_at ht hx; omega
    · have := insB_len ht
      have e : nth t x = 0 := by unfold nth; rw [List.getD_eq_getElem?_getD, List.getElem?_eq_none (by omega)]; rfl
      omega
theorem Dnl.next {s : List Int} {x n k : Nat} {g : List Int → Int} {D : List Int} (h : Dnl s x n k g D) (hx : x < s.length) (hk : nth s x ≤ k) : Dnl s x (n + 1) 0 g D := by
  refine ⟨h.1, fun t ht hc => h.2 t ht ?_⟩
  have := ins_at ht hx
  rcases hc with hc | ⟨_, hc⟩
  · by_cases e : place (xout x s) (xout x t) < n
    · exact .inl e
    · exact .inr ⟨by omega, by omega⟩
  · omega
theorem Dnl.step {s : List Int} {x n k : Nat} {g : List Int → Int} {D t0 : List Int} (h : Dnl s x n k g D) (hx : x < s.length) (h0 : insB (xout x s) t0 = true) (hn : place (xout x s) t0 = n) (hk : (k : Int) < nth s x) :
    Dnl s x n (k + 1) g (D.set (place s (xin x k t0)).toNat (g (xin x k t0))) := by
  have hin : insB s (xin x k t0) = true := ins_xin hx h0 ⟨by omega, hk⟩
  have hb := place_bd hin
  refine ⟨by rw [List.length_set]; exact h.1, fun t ht hc => ?_⟩
  have hbt := place_bd ht
  unfold cel
  rw [nth_set _ _ _ _ (by rw [h.1]; omega)]
  by_cases e : (place s t).toNat = (place s (xin x k t0)).toNat
  · have : t = xin x k t0 := place_inj ht hin (by omega)
    rw [if_pos e, this]
  · rw [if_neg e]
    refine h.2 t ht ?_
    rcases hc with hc | ⟨hc, hc2⟩
    · exact .inl hc
    · by_cases e2 : nth t x < k
      · exact .inr ⟨hc, e2⟩
      · have e3 : nth t x = k := by omega
        have e4 : xout x t = t0 := place_inj (ins_xout ht) h0 (by omega)
        have hlt := insB_len ht
        exact absurd (by rw [← e3, ← e4, xin_self (by omega)]) e
theorem Dnl.done {s : List Int} {x n : Nat} {g : List Int → Int} {D : List Int} (h : Dnl s x n 0 g D) (hx : x < s.length) (he : errOf s = 0) (hn : 1 ≤ nth s x → prod (xout x s) ≤ n) : D = TA s g := by
  refine TA_ext he h.1 fun t ht => h.2 t ht (.inl ?_)
  have h1 := place_bd (ins_xout (x := x) ht)
  have h2 := ins_at ht hx
  have := hn (by omega)
  omega

/-- Nothing is wrong so far. -/
def Okl (s : List Int) (x n k : Nat) (e : List Int → Int) : Prop := ∀ t, insB s t = true → (place (xout x s) (xout x t) < n ∨ (place (xout x s) (xout x t) = n ∧ nth t x < k)) → e t = 0
theorem Okl.start {s : List Int} {x : Nat} (hx : x < s.length) (e : List Int → Int) : Okl s x 0 0 e := fun t ht hc => by
  have h1 := place_bd (ins_xout (x := x) ht)
  have h2 := ins_at ht hx
  omega
theorem Okl.next {s : List Int} {x n k : Nat} {e : List Int → Int} (h : Okl s x n k e) (hx : x < s.length) (hk : nth s x ≤ k) : Okl s x (n + 1) 0 e := fun t ht hc => h t ht (by
  have := ins_at ht hx
  omega)
theorem Okl.step {s : List Int} {x n k : Nat} {e : List Int → Int} {t0 : List Int} (h : Okl s x n k e) (hx : x < s.length) (h0 : insB (xout x s) t0 = true) (hn : place (xout x s) t0 = n) (h1 : e (xin x k t0) = 0) : Okl s x n (k + 1) e := fun t ht hc => by
  by_cases e2 : place (xout x s) (xout x t) < n ∨ (place (xout x s) (xout x t) = n ∧ nth t x < k)
  · exact h t ht e2
  · have e3 : nth t x = k := by omega
    have e4 : xout x t = t0 := place_inj (ins_xout ht) h0 (by omega)
    have hlt := insB_len ht
    have : t = xin x k t0 := by rw [← e3, ← e4, xin_self (by omega)]
    rw [this]; exact h1
theorem Okl.done {s : List Int} {x n : Nat} {e : List Int → Int} (h : Okl s x n 0 e) (hx : x < s.length) (hn : 1 ≤ nth s x → prod (xout x s) ≤ n) : ∀ t, insB s t = true → e t = 0 := fun t ht => h t ht (.inl (by
  have h1 := place_bd (ins_xout (x := x) ht)
  have h2 := ins_at ht hx
  have := hn (by omega)
  omega))
/-! ### How many lines, and where they begin -/
theorem lines_many {s : List Int} {x : Nat} {m : Nat} (hx : x < s.length) (hm : nth s x = m) (hA : AllIn s) : prod s / ((max m 1 : Nat) : Int) = if m = 0 then 0 else prod (xout x s) := by
  rw [xout_prod hx, hm]
  by_cases h : m = 0
  · subst h; simp
  · rw [if_neg h, show max m 1 = m by omega, Int.mul_ediv_cancel_left _ (by omega)]
/-! ### Runs of a line -/
def run (l : List Int) (a b : Nat) : List Int := (l.take b).drop a
theorem nth_run (l : List Int) (a b j : Nat) (h : a + j < b) : nth (run l a b) j = nth l (a + j) := by
  unfold run nth
  rw [List.getD_eq_getElem?_getD, List.getD_eq_getElem?_getD, List.getElem?_drop, List.getElem?_take, if_pos h]
theorem run_length {l : List Int} {a b : Nat} (h : b ≤ l.length) : (run l a b).length = b - a := by unfold run; simp; omega
theorem run_line {s dz : List Int} {x : Nat} {t : List Int} {n a b : Nat} (hb : b ≤ n) (hab : a ≤ b) : run (lnL s dz x t 0 n) a b = lnL s dz x t a (b - a) := by
  refine nth_ext (by rw [run_length (by rw [lnL_length]; exact hb), lnL_length]) fun j hj => ?_
  rw [run_length (by rw [lnL_length]; exact hb)] at hj
  rw [nth_run _ _ _ _ (by omega), lnL_nth (by omega), lnL_nth (by omega)]
  congr 2
  omega
theorem rdL_run {s dz t : List Int} {x a b : Nat} (hx : x < t.length) (hb : (b : Int) ≤ nth s x) (hab : a ≤ b) : run (rdL s dz x (xout x t)) a b = lnL s dz x t a (b - a) := by
  unfold rdL
  rw [run_line (by omega) hab, xin_xout _ hx, lnL_set]
theorem rdL_scan {s dz t : List Int} {x : Nat} (ht : insB s t = true) (hx : x < s.length) : run (rdL s dz x (xout x t)) 0 (nth t x + 1).toNat = scL s dz x t := by
  have h := ins_at ht hx
  have hl := insB_len ht
  rw [rdL_run (by omega) (by omega) (by omega)]; rfl
theorem rdL_windows {s dz t : List Int} {x : Nat} {n : Int} (hx : x < s.length) (h1 : 1 ≤ n) (ht : insB (wdS n x s) t = true) : run (rdL s dz x (xout x t)) (nth t x).toNat (nth t x + n).toNat = wdL n s dz x t := by
  have hl := insB_len ht
  unfold wdS at hl ht
  rw [List.length_set] at hl
  have h := ins_at ht (by rw [List.length_set]; exact hx)
  rw [nth_set_self hx] at h
  rw [rdL_run (by omega) (by omega) (by omega)]
  unfold wdL
  congr 1 <;> omega
theorem rdL_all {s dz t : List Int} {x : Nat} : run (rdL s dz x t) 0 (nth s x).toNat = rdL s dz x t := by
  unfold run
  rw [List.drop_zero, List.take_of_length_le (by unfold rdL; rw [lnL_length]; exact Nat.le_refl _)]
/-- Without cells to tell, or with a line's cells: the lengths of all but one axis tell how many lines there are. -/
theorem xout_ok {s : List Int} {x : Nat} (hx : x < s.length) (he : errOf s = 0) (hp : 0 < prod s) : errOf (xout x s) = 0 := by
  have := allPos_of_prod (errOf_zero.1 he).2.1 hp
  exact err_xout hx he (by have := this _ (nth_mem s x hx); omega)
theorem err_one {s : List Int} {x : Nat} (hx : x < s.length) (he : errOf s = 0) : errOf (s.set x 1) = errOf (xout x s) := by
  obtain ⟨h1, h2, h3⟩ := errOf_zero.1 he
  have hl := xout_length hx
  have hp : prod (s.set x 1) = prod (xout x s) := by
    have := xout_prod (x := x) (s := s.set x 1) (by rw [List.length_set]; exact hx)
    rw [this, xout_set, nth_set_self hx, Int.one_mul]
  have ha : AllIn (s.set x 1) := fun y hy => by
    rcases List.mem_or_eq_of_mem_set hy with h | h
    · exact h2 y h
    · omega
  have b1 : ¬ (bad (s.set x 1) ≠ 0) := not_not_intro ((bad_iff _).2 ha)
  have b2 : ¬ (bad (xout x s) ≠ 0) := not_not_intro ((bad_iff _).2 (xout_all h2))
  unfold errOf
  rw [List.length_set, hp, if_neg (show ¬ 6 < s.length by omega), if_neg b1, if_neg (show ¬ 6 < (xout x s).length by omega), if_neg b2]
end Go.Proofs.YtcpmendkocnlhaaDoor
