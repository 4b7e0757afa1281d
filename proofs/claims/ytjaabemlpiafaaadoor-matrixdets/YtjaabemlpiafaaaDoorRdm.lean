/-
  Plain mathematics of determinants by columns that are still free, as the reference's Determinant goes; of minors by sets of rows and columns.
-/
import Derived.Test.YtjaabemlpiafaaaDoorMga
namespace Go.Proofs.YtjaabemlpiafaaaDoor
set_option linter.unusedVariables false

section
variable {S : Nat → Bool}
theorem cnt_lt {p x : Nat} (hp : S p = true) : p < x → cnt S p < cnt S x := by
  induction x with
  | zero => intro h; omega
  | succ x ih =>
    intro h
    rw [cnt]
    by_cases e : p = x
    · subst e
      rw [if_pos hp]
      omega
    · have := ih (by omega)
      omega
theorem cnt_mono {p x : Nat} (h : p ≤ x) : cnt S p ≤ cnt S x := by
  induction x with
  | zero => rw [show p = 0 by omega]; exact Nat.le_refl _
  | succ x ih =>
    by_cases e : p = x + 1
    · rw [e]; exact Nat.le_refl _
    · have := ih (by omega)
      rw [cnt]
      omega
/-- The row of a set at a place: those that are told one by one. -/
theorem sel_cnt {x : Nat} (hx : S x = true) : ∀ {m : Nat}, x < m → sel S m (cnt S x) = x
  | 0, h => by omega
  | m + 1, h => by
    by_cases e : x = m
    · subst e
      rw [sel_yes hx]
      have := sel_top S x 0
      rwa [Nat.add_zero] at this
    · have ih := sel_cnt hx (show x < m by omega)
      by_cases hs : S m = true
      · rw [sel_yes hs, ih]
      · rw [sel_no hs, ih, skp_lt (by omega)]
theorem cnt_sel {m r : Nat} (h : r < cnt S m) : cnt S (sel S m r) = r := by
  induction m with
  | zero => simp [cnt] at h
  | succ m ih =>
    by_cases hs : S m = true
    · rw [sel_yes hs]
      rw [cnt, if_pos hs] at h
      by_cases h1 : r < cnt S m
      · exact ih h1
      · have e := sel_top S m 0
        simp only [Nat.add_zero] at e
        rw [show r = cnt S m by omega, e]
    · rw [cnt, if_neg hs, Nat.add_zero] at h
      rw [sel_no hs, skp_lt (sel_in h).1]
      exact ih h
/-- One that is no longer there. -/
def rem (S : Nat → Bool) (p : Nat) : Nat → Bool := fun x => if x = p then false else S x
theorem cnt_rem {p : Nat} (hp : S p = true) : ∀ x, cnt (rem S p) x + (if p < x then 1 else 0) = cnt S x
  | 0 => by rw [if_neg (by omega)]; rfl
  | x + 1 => by
    have ih := cnt_rem hp x
    rw [cnt, cnt]
    by_cases e : x = p
    · subst e
      rw [if_pos hp, if_neg (show ¬ rem S x x = true by simp [rem]), if_pos (show x < x + 1 by omega)]
      rw [if_neg (Nat.lt_irrefl x)] at ih
      omega
    · rw [show rem S p x = S x from if_neg e]
      by_cases h : p < x
      · rw [if_pos h] at ih
        rw [if_pos (show p < x + 1 by omega)]
        omega
      · rw [if_neg h] at ih
        rw [if_neg (show ¬ p < x + 1 by omega)]
        omega
theorem sel_rem {m i k : Nat} (hi : i < cnt S m) (hk : k + 1 < cnt S m) : sel (rem S (sel S m i)) m k = sel S m (skp i k) := by
  have hs : skp i k < cnt S m := by unfold skp; split <;> omega
  obtain ⟨x1, x2⟩ := sel_in hs
  obtain ⟨p1, p2⟩ := sel_in hi
  have cx := cnt_sel hs
  have cp := cnt_sel hi
  generalize sel S m (skp i k) = x at *
  generalize sel S m i = p at *
  have hne : x ≠ p := fun e => skp_ne i k (by rw [← cx, e, cp])
  have hx : rem S p x = true := by unfold rem; rw [if_neg hne]; exact x2
  have hc := cnt_rem p2 x
  have hk2 : cnt (rem S p) x = k := by
    by_cases h : p < x
    · have := cnt_lt p2 h
      rw [if_pos h] at hc
      rw [cx, cp] at this
      unfold skp at this cx
      by_cases q : k < i
      · rw [if_pos q] at this; omega
      · rw [if_neg q] at cx; omega
    · have := cnt_lt x2 (show x < p by omega)
      rw [if_neg h] at hc
      rw [cx, cp] at this
      unfold skp at this cx
      by_cases q : k < i
      · rw [if_pos q] at cx; omega
      · rw [if_neg q] at this; omega
  rw [← hk2]
  exact sel_cnt hx x1
theorem cnt_rem_all {m p : Nat} (hp : S p = true) (h : p < m) : cnt (rem S p) m + 1 = cnt S m := by
  have := cnt_rem hp m
  rwa [if_pos h] at this
theorem sum_sel (f : Nat → Nat → Int) : ∀ m, (sm m fun j => if S j = true then f (cnt S j) j else 0) = sm (cnt S m) fun i => f i (sel S m i)
  | 0 => rfl
  | m + 1 => by
    show (sm m _) + (if S m = true then f (cnt S m) m else 0) = _
    rw [sum_sel f m]
    by_cases hs : S m = true
    · rw [if_pos hs, cnt, if_pos hs]
      show _ = sm (cnt S m) (fun i => f i (sel S (m + 1) i)) + f (cnt S m) (sel S (m + 1) (cnt S m))
      have e := sel_top S m 0
      simp only [Nat.add_zero] at e
      rw [sel_yes hs, e]
      congr 1
      exact sm_congr fun i hi => by rw [sel_yes hs]
    · rw [if_neg hs, Int.add_zero, cnt, if_neg hs, Nat.add_zero]
      exact sm_congr fun i hi => by rw [sel_no hs, skp_lt (sel_in hi).1]
end
/-- Not among them. -/
def out14 (U : Nat → Bool) : Nat → Bool := fun j => !U j
theorem cnt_out (U : Nat → Bool) : ∀ m, cnt U m + cnt (out14 U) m = m
  | 0 => rfl
  | m + 1 => by
    have := cnt_out U m
    rw [cnt, cnt]
    unfold out14 at *
    cases U m <;> simp <;> omega
/-- One that is used too. -/
def add14 (U : Nat → Bool) (p : Nat) : Nat → Bool := fun x => if x = p then true else U x
theorem out_add (U : Nat → Bool) (p : Nat) : out14 (add14 U p) = rem (out14 U) p := by
  funext x
  unfold out14 add14 rem
  by_cases e : x = p
  · rw [if_pos e, if_pos e]; rfl
  · rw [if_neg e, if_neg e]
/-- The determinant of the rows from one on, by the columns that are not used. -/
def dU (n : Nat) (A : Mx) (U : Nat → Bool) : Int := dt (cnt (out14 U) n) fun r c => A (cnt U n + r) (sel (out14 U) n c)
theorem dU_full {n : Nat} (A : Mx) {U : Nat → Bool} (h : cnt (out14 U) n = 0) : dU n A U = 1 := by unfold dU; rw [h]; rfl
theorem dU_step {n : Nat} (A : Mx) {U : Nat → Bool} (h : cnt (out14 U) n ≠ 0) : dU n A U = sm n fun j => if out14 U j = true then sg (cnt (out14 U) j) * A (cnt U n) j * dU n A (add14 U j) else 0 := by
  obtain ⟨m, hm⟩ : ∃ m, cnt (out14 U) n = m + 1 := ⟨cnt (out14 U) n - 1, by omega⟩
  have e : (sm n fun j => if out14 U j = true then sg (cnt (out14 U) j) * A (cnt U n) j * dU n A (add14 U j) else 0) = sm (cnt (out14 U) n) fun i => sg i * A (cnt U n) (sel (out14 U) n i) * dU n A (add14 U (sel (out14 U) n i)) := sum_sel (S := out14 U) (fun i j => sg i * A (cnt U n) j * dU n A (add14 U j)) n
  rw [e]
  unfold dU
  rw [hm]
  show (sm (m + 1) fun i => _) = _
  refine sm_congr fun i hi => ?_
  have hi' : i < cnt (out14 U) n := by omega
  obtain ⟨p1, p2⟩ := sel_in hi'
  have c1 : cnt (out14 (add14 U (sel (out14 U) n i))) n = m := by
    rw [out_add]
    have := cnt_rem_all p2 p1
    omega
  have c2 : cnt (add14 U (sel (out14 U) n i)) n = cnt U n + 1 := by
    have a1 := cnt_out U n
    have a2 := cnt_out (add14 U (sel (out14 U) n i)) n
    omega
  rw [c1, c2, Nat.add_zero]
  congr 1
  refine dt_ext fun r hr c hc => ?_
  show A (cnt U n + (r + 1)) (sel (out14 U) n (skp i c)) = A (cnt U n + 1 + r) (sel (out14 (add14 U (sel (out14 U) n i))) n c)
  rw [out_add, sel_rem hi' (by omega), show cnt U n + (r + 1) = cnt U n + 1 + r by omega]
theorem sel_full (S : Nat → Bool) : ∀ m, (∀ i, i < m → S i = true) → ∀ r, sel S m r = r
  | 0, _, _ => rfl
  | m + 1, h, r => by rw [sel_yes (h m (by omega)), sel_full S m (fun i hi => h i (by omega))]
theorem cnt_full (S : Nat → Bool) : ∀ m, (∀ i, i < m → S i = true) → cnt S m = m
  | 0, _ => rfl
  | m + 1, h => by rw [cnt, if_pos (h m (by omega)), cnt_full S m fun i hi => h i (by omega)]
theorem dU_none (n : Nat) (A : Mx) : dU n A (fun _ => false) = dt n A := by
  have h : ∀ i, i < n → out14 (fun _ => false) i = true := fun _ _ => rfl
  unfold dU
  have c := cnt_out (fun _ => false) n
  rw [cnt_full _ n h] at c ⊢
  rw [show cnt (fun _ => false) n = 0 by omega]
  exact dt_ext fun r hr k hk => by rw [sel_full _ n h, Nat.zero_add]
end Go.Proofs.YtjaabemlpiafaaaDoor
