/-
  Rcm Rga Rgw, together.
-/
import Derived.Test.YtgaelbgeoobgiaaBase
import Derived.Deep.WholeRow
import Derived.Deep.MidRow
import Derived.Laws.Rows
import Derived.OrdersHeld
/-! Rcm: Plain mathematics of ways from one to another: so many steps; short ways; the relation closed; classes; the least number of steps. -/
namespace Go.Proofs.Ytgaelbgeoobgiaa
open Go.RowKit
set_option linter.unusedVariables false

abbrev Rl : Type := Nat → Nat → Bool
/-- So many steps lead from i to j. -/
def wk (R : Rl) (n : Nat) : Nat → Nat → Nat → Bool
  | 0, i, j => i == j
  | k + 1, i, j => (List.range n).any fun m => R i m && wk R n k m j
section
variable {R : Rl} {n : Nat}
theorem wk_zero {i j : Nat} : wk R n 0 i j = true ↔ i = j := beq_iff_eq
theorem any_iff {n : Nat} {p : Nat → Bool} : (List.range n).any p = true ↔ ∃ m, m < n ∧ p m = true := by
  rw [List.any_eq_true]
  exact ⟨fun ⟨m, h1, h2⟩ => ⟨m, List.mem_range.1 h1, h2⟩, fun ⟨m, h1, h2⟩ => ⟨m, List.mem_range.2 h1, h2⟩⟩
theorem wk_succ {k i j : Nat} : wk R n (k + 1) i j = true ↔ ∃ m, m < n ∧ R i m = true ∧ wk R n k m j = true := by
  rw [wk, any_iff]
  exact ⟨fun ⟨m, h, e⟩ => ⟨m, h, (Bool.and_eq_true _ _ ▸ e)⟩, fun ⟨m, h, e⟩ => ⟨m, h, by rw [e.1, e.2]; rfl⟩⟩
theorem wk_in : ∀ {k i j : Nat}, wk R n (k + 1) i j = true → j < n
  | 0, i, j, h => by
    obtain ⟨m, hm, _, h2⟩ := wk_succ.1 h
    rw [← wk_zero.1 h2]; exact hm
  | k + 1, i, j, h => by
    obtain ⟨m, _, _, h2⟩ := wk_succ.1 h
    exact wk_in h2
theorem wk_app : ∀ {a b i m j : Nat}, wk R n a i m = true → wk R n b m j = true → wk R n (a + b) i j = true
  | 0, b, i, m, j, h1, h2 => by rw [Nat.zero_add, wk_zero.1 h1]; exact h2
  | a + 1, b, i, m, j, h1, h2 => by
    obtain ⟨q, hq, h3, h4⟩ := wk_succ.1 h1
    rw [show a + 1 + b = (a + b) + 1 by omega]
    exact wk_succ.2 ⟨q, hq, h3, wk_app h4 h2⟩
theorem wk_one {i j : Nat} (hj : j < n) (h : R i j = true) : wk R n 1 i j = true := wk_succ.2 ⟨j, hj, h, wk_zero.2 rfl⟩
theorem wk_snoc {k i m j : Nat} (hj : j < n) (h : wk R n k i m = true) (h2 : R m j = true) : wk R n (k + 1) i j = true := wk_app h (wk_one hj h2)
theorem wk_last : ∀ {k i j : Nat}, wk R n (k + 1) i j = true → ∃ m, wk R n k i m = true ∧ R m j = true ∧ j < n
  | 0, i, j, h => by
    obtain ⟨m, hm, h1, h2⟩ := wk_succ.1 h
    rw [← wk_zero.1 h2]
    exact ⟨i, wk_zero.2 rfl, h1, hm⟩
  | k + 1, i, j, h => by
    obtain ⟨m, hm, h1, h2⟩ := wk_succ.1 h
    obtain ⟨q, h3, h4, h5⟩ := wk_last h2
    exact ⟨q, wk_succ.2 ⟨m, hm, h1, h3⟩, h4, h5⟩
theorem wk_mid {k i j : Nat} (hi : i < n) (h : wk R n k i j = true) : j < n := by
  cases k with
  | zero => rw [← wk_zero.1 h]; exact hi
  | succ k => exact wk_in h
/-! ### How many there are -/
def ctB (p : Nat → Bool) : Nat → Nat
  | 0 => 0
  | n + 1 => ctB p n + if p n = true then 1 else 0
theorem ctB_le (p : Nat → Bool) : ∀ n, ctB p n ≤ n
  | 0 => Nat.le_refl _
  | n + 1 => by have := ctB_le p n; rw [ctB]; split <;> omega
theorem ctB_mono {p q : Nat → Bool} : ∀ {n : Nat}, (∀ j, j < n → p j = true → q j = true) → ctB p n ≤ ctB q n
  | 0, _ => Nat.le_refl _
  | n + 1, h => by
    have ih := ctB_mono (n := n) fun j hj => h j (by omega)
    rw [ctB, ctB]
    by_cases e : p n = true
    · rw [if_pos e, if_pos (h n (by omega) e)]; omega
    · rw [if_neg e]; omega
theorem ctB_more {p q : Nat → Bool} : ∀ {n : Nat}, (∀ j, j < n → p j = true → q j = true) → ∀ {x : Nat}, x < n → q x = true → ¬ p x = true → ctB p n + 1 ≤ ctB q n
  | 0, _, x, hx, _, _ => by omega
  | n + 1, h, x, hx, h1, h2 => by
    rw [ctB, ctB]
    by_cases e : x = n
    · subst e
      have ih := ctB_mono (n := x) fun j hj => h j (by omega)
      rw [if_neg h2, if_pos h1]
      omega
    · have ih := ctB_more (n := n) (fun j hj => h j (by omega)) (x := x) (by omega) h1 h2
      by_cases e2 : p n = true
      · rw [if_pos e2, if_pos (h n (by omega) e2)]; omega
      · rw [if_neg e2]; omega
theorem ctB_pos {p : Nat → Bool} {n x : Nat} (hx : x < n) (h : p x = true) : 1 ≤ ctB p n := by
  have := ctB_more (p := fun _ => false) (q := p) (n := n) (fun j _ e => absurd e (by decide)) hx h (by decide)
  omega
/-! ### Short ways -/
def rchB (R : Rl) (n k i j : Nat) : Bool := (List.range (k + 1)).any fun l => wk R n l i j
theorem rchB_iff {k i j : Nat} : rchB R n k i j = true ↔ ∃ l, l ≤ k ∧ wk R n l i j = true := by
  unfold rchB
  rw [any_iff]
  exact ⟨fun ⟨l, h1, h2⟩ => ⟨l, by omega, h2⟩, fun ⟨l, h1, h2⟩ => ⟨l, by omega, h2⟩⟩
def Stb (R : Rl) (n i k : Nat) : Prop := ∀ j, j < n → rchB R n (k + 1) i j = true → rchB R n k i j = true
theorem stb_ex {i : Nat} (hi : i < n) : ∀ k, (∃ k', k' < k ∧ Stb R n i k') ∨ k + 1 ≤ ctB (rchB R n k i) n
  | 0 => .inr (ctB_pos hi (rchB_iff.2 ⟨0, Nat.le_refl _, wk_zero.2 rfl⟩))
  | k + 1 => by
    rcases stb_ex hi k with ⟨k', h1, h2⟩ | h
    · exact .inl ⟨k', by omega, h2⟩
    · by_cases hs : Stb R n i k
      · exact .inl ⟨k, by omega, hs⟩
      · have hx : ∃ x, x < n ∧ rchB R n (k + 1) i x = true ∧ ¬ rchB R n k i x = true := Classical.byContradiction fun hn => hs fun j hj h1 => Classical.byContradiction fun h2 => hn ⟨j, hj, h1, h2⟩
        obtain ⟨x, hx, h1, h2⟩ := hx
        have := ctB_more (p := rchB R n k i) (q := rchB R n (k + 1) i) (n := n) (fun j _ e => by
          obtain ⟨l, hl, e2⟩ := rchB_iff.1 e
          exact rchB_iff.2 ⟨l, by omega, e2⟩) hx h1 h2
        exact .inr (by omega)
/-- Where one comes at all one comes in less than n steps. -/
theorem wk_short {i j k : Nat} (hi : i < n) (h : wk R n k i j = true) : ∃ l, l < n ∧ wk R n l i j = true := by
  rcases stb_ex (R := R) hi n with ⟨k', hk, hs⟩ | h2
  · have key : ∀ m j, wk R n m i j = true → rchB R n k' i j = true := fun m => by
      induction m with
      | zero => intro j h; exact rchB_iff.2 ⟨0, Nat.zero_le _, h⟩
      | succ m ih =>
        intro j h
        obtain ⟨q, h3, h4, h5⟩ := wk_last h
        obtain ⟨l, hl, h6⟩ := rchB_iff.1 (ih q h3)
        exact hs j h5 (rchB_iff.2 ⟨l + 1, by omega, wk_snoc h5 h6 h4⟩)
    obtain ⟨l, hl, h3⟩ := rchB_iff.1 (key k j h)
    exact ⟨l, by omega, h3⟩
  · have := ctB_le (rchB R n n i) n
    omega
/-! ### The relation closed -/
def upB (R : Rl) (n s i j : Nat) : Bool := (List.range s).any fun k => wk R n (k + 1) i j
def clB (R : Rl) (n : Nat) : Rl := fun i j => upB R n n i j
theorem upB_iff {s i j : Nat} : upB R n s i j = true ↔ ∃ k, k < s ∧ wk R n (k + 1) i j = true := by unfold upB; exact any_iff
theorem cl_iff {i j : Nat} : clB R n i j = true ↔ ∃ k, wk R n (k + 1) i j = true := by
  unfold clB
  rw [upB_iff]
  refine ⟨fun ⟨k, _, h⟩ => ⟨k, h⟩, fun ⟨k, h⟩ => ?_⟩
  obtain ⟨m, hm, h1, h2⟩ := wk_succ.1 h
  obtain ⟨l, hl, h3⟩ := wk_short hm h2
  exact ⟨l, hl, wk_succ.2 ⟨m, hm, h1, h3⟩⟩
theorem cl_in {i j : Nat} (h : clB R n i j = true) : j < n := by
  obtain ⟨k, h⟩ := cl_iff.1 h
  exact wk_in h
theorem cl_step {i j : Nat} (hj : j < n) (h : R i j = true) : clB R n i j = true := cl_iff.2 ⟨0, wk_one hj h⟩
theorem cl_trans {i j k : Nat} (h1 : clB R n i j = true) (h2 : clB R n j k = true) : clB R n i k = true := by
  obtain ⟨a, h1⟩ := cl_iff.1 h1
  obtain ⟨b, h2⟩ := cl_iff.1 h2
  exact cl_iff.2 ⟨a + 1 + b, by rw [show a + 1 + b + 1 = (a + 1) + (b + 1) by omega]; exact wk_app h1 h2⟩
/-- A step, and then any way. -/
theorem cl_first {i j : Nat} (hj : j < n) : clB R n i j = true ↔ R i j = true ∨ ∃ m, m < n ∧ R i m = true ∧ clB R n m j = true := by
  constructor
  · intro h
    obtain ⟨k, h⟩ := cl_iff.1 h
    obtain ⟨m, hm, h1, h2⟩ := wk_succ.1 h
    cases k with
    | zero => rw [wk_zero.1 h2] at h1; exact .inl h1
    | succ k => exact .inr ⟨m, hm, h1, cl_iff.2 ⟨k, h2⟩⟩
  · rintro (h | ⟨m, hm, h1, h2⟩)
    · exact cl_step hj h
    · exact cl_trans (cl_step hm h1) h2
/-- The least one. -/
theorem cl_least {T : Rl} (h1 : ∀ i, i < n → ∀ j, j < n → R i j = true → T i j = true) (h2 : ∀ i, i < n → ∀ j, j < n → ∀ k, k < n → T i j = true → T j k = true → T i k = true) {i j : Nat} (hi : i < n) (h : clB R n i j = true) : T i j = true := by
  obtain ⟨k, h⟩ := cl_iff.1 h
  have key : ∀ k i, i < n → ∀ j, wk R n (k + 1) i j = true → T i j = true := fun k => by
    induction k with
    | zero =>
      intro i hi j h
      obtain ⟨m, hm, h3, h4⟩ := wk_succ.1 h
      rw [wk_zero.1 h4] at h3 hm
      exact h1 i hi j hm h3
    | succ k ih =>
      intro i hi j h
      obtain ⟨m, hm, h3, h4⟩ := wk_succ.1 h
      exact h2 i hi m hm j (wk_in h4) (h1 i hi m hm h3) (ih m hm j h4)
  exact key k i hi j h
theorem cl_again {i j : Nat} (hi : i < n) : clB (clB R n) n i j = true ↔ clB R n i j = true :=
  ⟨fun h => cl_least (R := clB R n) (T := clB R n) (fun _ _ _ _ h => h) (fun _ _ _ _ _ _ h1 h2 => cl_trans h1 h2) hi h, fun h => cl_step (cl_in h) h⟩
/-- Turned round. -/
theorem wk_turn : ∀ {k i j : Nat}, i < n → wk R n k i j = true → wk (fun a b => R b a) n k j i = true
  | 0, i, j, _, h => wk_zero.2 (wk_zero.1 h).symm
  | k + 1, i, j, hi, h => by
    obtain ⟨m, hm, h1, h2⟩ := wk_succ.1 h
    exact wk_snoc (R := fun a b => R b a) hi (wk_turn hm h2) h1
theorem cl_turn {i j : Nat} (hi : i < n) (hj : j < n) : clB (fun a b => R b a) n j i = true ↔ clB R n i j = true := by
  rw [cl_iff, cl_iff]
  exact ⟨fun ⟨k, h⟩ => ⟨k, wk_turn (R := fun a b => R b a) hj h⟩, fun ⟨k, h⟩ => ⟨k, wk_turn hi h⟩⟩
/-- A step more each time. -/
theorem up_zero (i j : Nat) : upB R n 0 i j = false := rfl
theorem up_succ {s i j : Nat} (hj : j < n) : upB R n (s + 1) i j = true ↔ (R i j = true ∨ upB R n s i j = true) ∨ ∃ m, m < n ∧ R i m = true ∧ upB R n s m j = true := by
  rw [upB_iff, upB_iff]
  constructor
  · rintro ⟨k, hk, h⟩
    obtain ⟨m, hm, h1, h2⟩ := wk_succ.1 h
    cases k with
    | zero => rw [wk_zero.1 h2] at h1; exact .inl (.inl h1)
    | succ k => exact .inr ⟨m, hm, h1, upB_iff.2 ⟨k, by omega, h2⟩⟩
  · rintro ((h | ⟨k, hk, h⟩) | ⟨m, hm, h1, h2⟩)
    · exact ⟨0, by omega, wk_one hj h⟩
    · exact ⟨k, by omega, h⟩
    · obtain ⟨k, hk, h3⟩ := upB_iff.1 h2
      exact ⟨k + 1, by omega, wk_succ.2 ⟨m, hm, h1, h3⟩⟩
/-! ### The least one of which it is so -/
def lea (p : Nat → Bool) : Nat → Nat
  | 0 => 0
  | m + 1 => if lea p m < m then lea p m else if p m = true then m else m + 1
theorem lea_spec (p : Nat → Bool) : ∀ m, lea p m ≤ m ∧ (lea p m < m → p (lea p m) = true) ∧ ∀ j, j < lea p m → ¬ p j = true
  | 0 => ⟨Nat.le_refl _, fun h => absurd h (by rw [lea]; omega), fun j hj => absurd hj (by rw [lea]; omega)⟩
  | m + 1 => by
    obtain ⟨h1, h2, h3⟩ := lea_spec p m
    rw [lea]
    by_cases h : lea p m < m
    · rw [if_pos h]; exact ⟨by omega, fun _ => h2 h, h3⟩
    · rw [if_neg h]
      have e : lea p m = m := by omega
      by_cases hp : p m = true
      · rw [if_pos hp]; exact ⟨by omega, fun _ => hp, fun j hj => h3 j (by omega)⟩
      · rw [if_neg hp]
        refine ⟨Nat.le_refl _, fun h => absurd h (by omega), fun j hj => ?_⟩
        by_cases e2 : j = m
        · subst e2; exact hp
        · exact h3 j (by omega)
theorem lea_at {p : Nat → Bool} {m k : Nat} (hk : k < m) (h1 : p k = true) (h2 : ∀ j, j < k → ¬ p j = true) : lea p m = k := by
  obtain ⟨g1, g2, g3⟩ := lea_spec p m
  have a : ¬ lea p m < k := fun h => h2 _ h (g2 (by omega))
  have b : ¬ k < lea p m := fun h => g3 k h h1
  omega
theorem lea_no {p : Nat → Bool} {m : Nat} (h : ∀ j, j < m → ¬ p j = true) : lea p m = m := by
  obtain ⟨g1, g2, g3⟩ := lea_spec p m
  exact Classical.byContradiction fun hn => h _ (by omega) (g2 (by omega))
/-! ### Classes -/
def bwd (R : Rl) (n i j : Nat) : Bool := clB R n i j && clB R n j i
def cls (R : Rl) (n i : Nat) : Nat := lea (bwd R n i) i
def Eqv (R : Rl) (n i j : Nat) : Prop := i = j ∨ clB R n i j = true ∧ clB R n j i = true
theorem bwd_iff {i j : Nat} : bwd R n i j = true ↔ clB R n i j = true ∧ clB R n j i = true := by unfold bwd; rw [Bool.and_eq_true]
theorem Eqv.symm {i j : Nat} (h : Eqv R n i j) : Eqv R n j i := by
  rcases h with h | h
  · exact .inl h.symm
  · exact .inr ⟨h.2, h.1⟩
theorem Eqv.trans {i j k : Nat} (h : Eqv R n i j) (h' : Eqv R n j k) : Eqv R n i k := by
  rcases h with h | h
  · rw [h]; exact h'
  · rcases h' with h' | h'
    · rw [← h']; exact .inr h
    · exact .inr ⟨cl_trans h.1 h'.1, cl_trans h'.2 h.2⟩
theorem cls_spec (i : Nat) : cls R n i ≤ i ∧ Eqv R n i (cls R n i) ∧ ∀ j, Eqv R n i j → cls R n i ≤ j := by
  obtain ⟨h1, h2, h3⟩ := lea_spec (bwd R n i) i
  refine ⟨h1, ?_, fun j hj => ?_⟩
  · by_cases h : cls R n i < i
    · exact .inr (bwd_iff.1 (h2 h))
    · exact .inl (by unfold cls at h ⊢; omega)
  · rcases hj with e | e
    · rw [← e]; exact h1
    · exact Classical.byContradiction fun hn => h3 j (by unfold cls at hn; omega) (bwd_iff.2 e)
theorem cls_same {i j : Nat} : cls R n i = cls R n j ↔ Eqv R n i j := by
  obtain ⟨_, a2, a3⟩ := cls_spec (R := R) (n := n) i
  obtain ⟨_, b2, b3⟩ := cls_spec (R := R) (n := n) j
  constructor
  · intro h
    rw [h] at a2
    exact a2.trans b2.symm
  · intro h
    have h1 := a3 _ (h.trans b2)
    have h2 := b3 _ (h.symm.trans a2)
    omega
theorem cls_cls (i : Nat) : cls R n (cls R n i) = cls R n i := cls_same.2 (cls_spec i).2.1.symm
/-! ### The least number of steps -/
def dsB (R : Rl) (n i j : Nat) : Nat := lea (fun k => wk R n k i j) n
def far (R : Rl) (n i j : Nat) : Int := if dsB R n i j < n then (dsB R n i j : Int) else -1
theorem ds_spec {i j : Nat} (h : dsB R n i j < n) : wk R n (dsB R n i j) i j = true ∧ ∀ k, wk R n k i j = true → dsB R n i j ≤ k := by
  obtain ⟨h1, h2, h3⟩ := lea_spec (fun k => wk R n k i j) n
  exact ⟨h2 h, fun k hk => Classical.byContradiction fun hn => h3 k (by unfold dsB at hn; omega) hk⟩
theorem ds_ex {i j k : Nat} (hi : i < n) (h : wk R n k i j = true) : dsB R n i j < n := by
  obtain ⟨l, hl, h2⟩ := wk_short hi h
  obtain ⟨h1, h3, h4⟩ := lea_spec (fun k => wk R n k i j) n
  exact Classical.byContradiction fun hn => h4 l (by unfold dsB at hn; omega) h2
theorem far_bd (i j : Nat) : -1 ≤ far R n i j ∧ far R n i j < (n : Int) ∨ n = 0 := by
  unfold far
  split
  · exact .inl ⟨by omega, by omega⟩
  · by_cases h : n = 0
    · exact .inr h
    · exact .inl ⟨by omega, by omega⟩
theorem far_zero {i j : Nat} (hi : i < n) : far R n i j = 0 ↔ j = i := by
  unfold far
  constructor
  · intro h
    split at h
    · rename_i hd
      have := (ds_spec hd).1
      rw [show dsB R n i j = 0 by omega] at this
      exact (wk_zero.1 this).symm
    · omega
  · intro h
    subst h
    have h1 := ds_ex (R := R) hi (wk_zero (R := R) (n := n).2 rfl)
    have h2 := (ds_spec h1).2 0 (wk_zero.2 rfl)
    rw [if_pos h1]
    omega
theorem far_pos {i j : Nat} (hi : i < n) (hne : j ≠ i) : 0 < far R n i j ↔ clB R n i j = true := by
  constructor
  · intro h
    unfold far at h
    split at h
    · rename_i hd
      have := (ds_spec hd).1
      obtain ⟨k, hk⟩ : ∃ k, dsB R n i j = k + 1 := ⟨dsB R n i j - 1, by omega⟩
      rw [hk] at this
      exact cl_iff.2 ⟨k, this⟩
    · omega
  · intro h
    obtain ⟨k, h⟩ := cl_iff.1 h
    have hd := ds_ex hi h
    have h0 := (far_zero (R := R) (j := j) hi)
    unfold far at h0 ⊢
    rw [if_pos hd] at h0 ⊢
    have : ¬ ((dsB R n i j : Nat) : Int) = 0 := fun e => hne (h0.1 e)
    omega
/-- A step makes it at most one more. -/
theorem far_step {i a b : Nat} (hi : i < n) (hb : b < n) (h : R a b = true) (ha : 0 ≤ far R n i a) : 0 ≤ far R n i b ∧ far R n i b ≤ far R n i a + 1 := by
  unfold far at ha ⊢
  split at ha
  · rename_i hd
    have h1 := (ds_spec hd).1
    have h2 := wk_snoc hb h1 h
    have hd2 := ds_ex hi h2
    rw [if_pos hd2, if_pos hd]
    have := (ds_spec hd2).2 _ h2
    omega
  · omega
/-- What is further has a thing one step ahead. -/
theorem far_ahead {i j : Nat} (hi : i < n) (h : 0 < far R n i j) : ∃ a, a < n ∧ R a j = true ∧ 0 ≤ far R n i a ∧ far R n i j = far R n i a + 1 := by
  have hd : dsB R n i j < n := Classical.byContradiction fun hn => by unfold far at h; rw [if_neg hn] at h; omega
  have hf : far R n i j = (dsB R n i j : Int) := by unfold far; rw [if_pos hd]
  obtain ⟨k, hk⟩ : ∃ k, dsB R n i j = k + 1 := ⟨dsB R n i j - 1, by omega⟩
  have h1 := (ds_spec hd).1
  rw [hk] at h1
  obtain ⟨a, h2, h3, h4⟩ := wk_last h1
  have ha := wk_mid hi h2
  have hda := ds_ex hi h2
  have hle := (ds_spec hda).2 k h2
  have h5 := wk_snoc h4 (ds_spec hda).1 h3
  have h6 := (ds_spec hd).2 _ h5
  refine ⟨a, ha, h3, ?_, ?_⟩
  · unfold far; rw [if_pos hda]; omega
  · rw [hf]; unfold far; rw [if_pos hda]; omega
end
end Go.Proofs.Ytgaelbgeoobgiaa
/-! Rga: Relations of 24 things as values: in a block, read and stored whole, and row by row. -/
namespace Go.Proofs.Ytgaelbgeoobgiaa
open Go.RowKit
set_option linter.unusedVariables false

/-- The cells of a relation, row by row. -/
def ofr (A : Rl) : Array Value := ((List.range 576).map fun p => Value.bool (A (p / 24) (p % 24))).toArray
theorem ofr_size (A : Rl) : (ofr A).size = 576 := by simp [ofr]
theorem ofr_at (A : Rl) {p : Nat} (h : p < 576) : (ofr A)[p]? = some (.bool (A (p / 24) (p % 24))) := by
  unfold ofr
  rw [List.getElem?_toArray, List.getElem?_map, List.getElem?_range h]
  rfl
theorem ofr_out (A : Rl) {p : Nat} (h : ¬ p < 576) : (ofr A)[p]? = none := Array.getElem?_eq_none (by rw [ofr_size]; omega)
theorem ofr_congr {A B : Rl} (h : ∀ i, i < 24 → ∀ j, j < 24 → A i j = B i j) : ofr A = ofr B := by
  refine Array.ext_getElem? fun p => ?_
  by_cases hp : p < 576
  · rw [ofr_at A hp, ofr_at B hp, h _ (by omega) _ (by omega)]
  · rw [ofr_out A hp, ofr_out B hp]
theorem ofr_one (A : Rl) : (ofr A).all (·.oneCell') = true := by
  refine Array.all_eq_true_iff_forall_mem.2 fun v hv => ?_
  unfold ofr at hv
  simp only [List.mem_toArray, List.mem_map] at hv
  obtain ⟨p, _, rfl⟩ := hv
  rfl
/-- One cell of it is another one. -/
def ptr (A : Rl) (i j : Nat) (x : Bool) : Rl := fun a b => if a = i ∧ b = j then x else A a b
theorem ptr_at (A : Rl) (i j : Nat) (x : Bool) : ptr A i j x i j = x := if_pos ⟨rfl, rfl⟩
theorem ptr_ne (A : Rl) {i j a b : Nat} (x : Bool) (h : ¬ (a = i ∧ b = j)) : ptr A i j x a b = A a b := if_neg h
theorem ofr_put (A : Rl) {i j : Nat} (hi : i < 24) (hj : j < 24) (x : Bool) : (ofr A).setIfInBounds (i * 24 + j) (.bool x) = ofr (ptr A i j x) := by
  refine Array.ext_getElem? fun p => ?_
  rw [Array.getElem?_setIfInBounds]
  by_cases hp : p < 576
  · rw [ofr_at A hp, ofr_at (ptr A i j x) hp]
    by_cases he : i * 24 + j = p
    · rw [if_pos he, if_pos (by rw [ofr_size]; omega)]
      subst he
      rw [show (i * 24 + j) / 24 = i by omega, show (i * 24 + j) % 24 = j by omega, ptr_at]
    · rw [if_neg he, ptr_ne]
      omega
  · rw [if_neg (by omega), ofr_out A hp, ofr_out _ hp]
/-- Some things. -/
def oft (T : Nat → Bool) : Array Value := ((List.range 24).map fun p => Value.bool (T p)).toArray
theorem oft_size (T : Nat → Bool) : (oft T).size = 24 := by simp [oft]
theorem oft_at (T : Nat → Bool) {p : Nat} (h : p < 24) : (oft T)[p]? = some (.bool (T p)) := by
  unfold oft
  rw [List.getElem?_toArray, List.getElem?_map, List.getElem?_range h]
  rfl
theorem oft_out (T : Nat → Bool) {p : Nat} (h : ¬ p < 24) : (oft T)[p]? = none := Array.getElem?_eq_none (by rw [oft_size]; omega)
theorem oft_congr {T U : Nat → Bool} (h : ∀ j, j < 24 → T j = U j) : oft T = oft U := by
  refine Array.ext_getElem? fun p => ?_
  by_cases hp : p < 24
  · rw [oft_at T hp, oft_at U hp, h _ hp]
  · rw [oft_out T hp, oft_out U hp]
theorem oft_one (T : Nat → Bool) : (oft T).all (·.oneCell') = true := by
  refine Array.all_eq_true_iff_forall_mem.2 fun v hv => ?_
  unfold oft at hv
  simp only [List.mem_toArray, List.mem_map] at hv
  obtain ⟨p, _, rfl⟩ := hv
  rfl
def ptt (T : Nat → Bool) (i : Nat) (x : Bool) : Nat → Bool := fun a => if a = i then x else T a
theorem oft_put (T : Nat → Bool) {i : Nat} (hi : i < 24) (x : Bool) : (oft T).setIfInBounds i (.bool x) = oft (ptt T i x) := by
  refine Array.ext_getElem? fun p => ?_
  rw [Array.getElem?_setIfInBounds]
  unfold ptt
  by_cases hp : p < 24
  · rw [oft_at T hp, oft_at _ hp]
    by_cases he : i = p
    · rw [if_pos he, if_pos (by rw [oft_size]; omega), if_pos he.symm]
    · rw [if_neg he, if_neg (Ne.symm he)]
  · rw [if_neg (by omega), oft_out T hp, oft_out _ hp]
theorem oft_zero : (#[.bool false, .bool false, .bool false, .bool false, .bool false, .bool false, .bool false, .bool false, .bool false, .bool false, .bool false, .bool false, .bool false, .bool false, .bool false, .bool false, .bool false, .bool false, .bool false, .bool false, .bool false, .bool false, .bool false, .bool false] : Array Value) = oft fun _ => false := rfl
/-- A block that holds a relation. -/
def Rb (W : World) (b : Nat) (A : Rl) : Prop := W.heap[b]? = some (.cells (ofr A) 45 (0, 0))
/-- A block that holds some things. -/
def Tb (W : World) (b : Nat) (T : Nat → Bool) : Prop := W.heap[b]? = some (.cells (oft T) 43 (0, 0))
section
variable {W : World} {b : Nat} {A : Rl}
theorem Rb.cell (h : Rb W b A) {i j : Nat} (hi : i < 24) (hj : j < 24) : W.cell? ⟨b, i * 24 + j, none⟩ = some (.bool (A i j)) := by
  unfold Rb at h
  simp [World.cell?, h]
  rw [ofr_at A (by omega), show (i * 24 + j) / 24 = i by omega, show (i * 24 + j) % 24 = j by omega]
theorem Rb.fr (h : Rb W b A) (p : Nat) : W.frozen? ⟨b, p, none⟩ = false := by unfold Rb at h; simp [World.frozen?, h]
theorem Rb.lt (h : Rb W b A) : b < W.heap.size := (Array.getElem?_eq_some_iff.1 h).1
theorem Rb.of {W' : World} (h : Rb W b A) (e : W'.heap[b]? = W.heap[b]?) : Rb W' b A := e.trans h
theorem Rb.bel {W' : World} {n : Nat} (h : Rb W b A) (hB : Below n W W') (hb : b < n) : Rb W' b A := h.of (hB.block b hb)
theorem Rb.go {W' : World} (h : Rb W b A) (hB : Below W.heap.size W W') : Rb W' b A := h.bel hB h.lt
theorem Rb.al (h : Rb W b A) (o : Obj) : Rb (W.alloc o) b A := h.of (Below.heap_alloc W o b h.lt)
theorem Rb.new (W : World) (A : Rl) : Rb (W.alloc (.cells (ofr A) 45)) W.heap.size A := (MapKept.heap_alloc W _).1
theorem Rb.dr (h : Rb W b A) : Rb W.drew b A := h
theorem Rb.ot (h : Rb W b A) {a : Addr} (ha : b ≠ a.block) (v : Value) : Rb (W.setCell a v) b A := h.of (Below.heap_setCell W a v b ha)
theorem Rb.congr {B : Rl} (h : Rb W b A) (e : ∀ i, i < 24 → ∀ j, j < 24 → A i j = B i j) : Rb W b B := by unfold Rb at *; rw [h, ofr_congr e]
theorem Rb.put (h : Rb W b A) {i j : Nat} (hi : i < 24) (hj : j < 24) (x : Bool) : Rb (W.setCell ⟨b, i * 24 + j, none⟩ (.bool x)) b (ptr A i j x) := by
  unfold Rb at *
  rw [← ofr_put A hi hj x]
  simp [World.setCell, Array.getElem?_modify, h]
theorem Rb.row {B : Rl} (h : Rb W b A) : Rb (W.setRow b (ofr B)) b B := setRow_heap W b _ _ _ _ h
theorem Rb.oth {b' : Nat} {c : Array Value} (h : Rb W b A) (hb : b ≠ b') : Rb (W.setRow b' c) b A := by
  unfold Rb at *
  rw [← h]
  simp [World.setRow, Array.getElem?_modify, Ne.symm hb]
variable {T : Nat → Bool}
theorem Tb.cell (h : Tb W b T) {i : Nat} (hi : i < 24) : W.cell? ⟨b, i, none⟩ = some (.bool (T i)) := by
  unfold Tb at h
  simp [World.cell?, h]
  rw [oft_at T hi]
theorem Tb.fr (h : Tb W b T) (p : Nat) : W.frozen? ⟨b, p, none⟩ = false := by unfold Tb at h; simp [World.frozen?, h]
theorem Tb.lt (h : Tb W b T) : b < W.heap.size := (Array.getElem?_eq_some_iff.1 h).1
theorem Tb.of {W' : World} (h : Tb W b T) (e : W'.heap[b]? = W.heap[b]?) : Tb W' b T := e.trans h
theorem Tb.bel {W' : World} {n : Nat} (h : Tb W b T) (hB : Below n W W') (hb : b < n) : Tb W' b T := h.of (hB.block b hb)
theorem Tb.go {W' : World} (h : Tb W b T) (hB : Below W.heap.size W W') : Tb W' b T := h.bel hB h.lt
theorem Tb.al (h : Tb W b T) (o : Obj) : Tb (W.alloc o) b T := h.of (Below.heap_alloc W o b h.lt)
theorem Tb.new (W : World) (T : Nat → Bool) : Tb (W.alloc (.cells (oft T) 43)) W.heap.size T := (MapKept.heap_alloc W _).1
theorem Tb.dr (h : Tb W b T) : Tb W.drew b T := h
theorem Tb.ot (h : Tb W b T) {a : Addr} (ha : b ≠ a.block) (v : Value) : Tb (W.setCell a v) b T := h.of (Below.heap_setCell W a v b ha)
theorem Tb.put (h : Tb W b T) {i : Nat} (hi : i < 24) (x : Bool) : Tb (W.setCell ⟨b, i, none⟩ (.bool x)) b (ptt T i x) := by
  unfold Tb at *
  rw [← oft_put T hi x]
  simp [World.setCell, Array.getElem?_modify, h]
theorem Tb.row {U : Nat → Bool} (h : Tb W b T) : Tb (W.setRow b (oft U)) b U := setRow_heap W b _ _ _ _ h
theorem Tb.oth {b' : Nat} {c : Array Value} (h : Tb W b T) (hb : b ≠ b') : Tb (W.setRow b' c) b T := by
  unfold Tb at *
  rw [← h]
  simp [World.setRow, Array.getElem?_modify, Ne.symm hb]
end
/-! ### Whole relations, read and stored -/
theorem bel_rw {n b : Nat} {w W : World} {c : Array Value} (h : Below n w W) (hb : n ≤ b) : Below n w (W.setRow b c) :=
  ⟨h.os, h.tape, h.output, by simp [World.setRow]; exact h.size, fun k hk => by rw [← h.block k hk]; simp [World.setRow, Array.getElem?_modify]; intro e; omega⟩
set_option maxRecDepth 100000 in
theorem Try.zinfR : (Try.prog.info? 45).map (fun i => (i.zero, i.size)) = some (some (.agg (ofr fun _ _ => false)), 576) := by kernel_rfl
theorem Try.infoR : (Try.prog.info? 45).map (·.size) = some 576 := by kernel_rfl
theorem Try.infoT : (Try.prog.info? 43).map (·.size) = some 24 := by kernel_rfl
theorem zeroR (w : World) : (zeroValue 45).run Try.prog w = .ok (.agg (ofr fun _ _ => false)) w := (zero_of_info Try.zinfR).1 w
theorem ldr {W : World} {b : Nat} {A : Rl} (h : Rb W b A) : (loadVar 45 ⟨b, 0, none⟩).run Try.prog W = .ok (.agg (ofr A)) W :=
  run_loadVar_row _ _ _ _ _ _ _ h Try.underlying45 rfl (by rw [ofr_size]; exact Try.infoR)
theorem str {W : World} {b : Nat} {A B : Rl} (h : Rb W b A) : (storeVar 45 ⟨b, 0, none⟩ (.agg (ofr B))).run Try.prog W = .ok () (W.setRow b (ofr B)) :=
  run_storeVar_row _ _ _ _ _ _ h (by rw [ofr_size]; exact Try.infoR) (by rw [ofr_size, ofr_size]) (ofr_one B)
theorem ldt {W : World} {b : Nat} {T : Nat → Bool} (h : Tb W b T) : (loadVar 43 ⟨b, 0, none⟩).run Try.prog W = .ok (.agg (oft T)) W :=
  run_loadVar_row _ _ _ _ _ _ _ h Try.underlying43 rfl (by rw [oft_size]; exact Try.infoT)
theorem stt {W : World} {b : Nat} {T U : Nat → Bool} (h : Tb W b T) : (storeVar 43 ⟨b, 0, none⟩ (.agg (oft U))).run Try.prog W = .ok () (W.setRow b (oft U)) :=
  run_storeVar_row _ _ _ _ _ _ h (by rw [oft_size]; exact Try.infoT) (by rw [oft_size, oft_size]) (oft_one U)
section
variable {ops : Array Oper} {rest : List Oper} {op : Oper} {a : Act} {w : World} {Q : Exit → Act → World → Prop}
theorem wpl_ldr (b : Nat) (A : Rl) (x : Operand) (h : Rb w b A) (hgd : op.guard = none) (ho : op.op = .load 45 x) (hx : a.eval x = .pointer (some ⟨b, 0, none⟩))
    (hk : wpList Try.prog ops Q rest (a.put op.dst (.agg (ofr A))) w) : wpList Try.prog ops Q (op :: rest) a w :=
  wpList_plain hgd fun _ hK => by
    unfold Oper.wp execOp
    simp only [ho, hx, Instr.loadAt, Instr.sureAddr, Sem.run_bind, Sem.run_pure, Result.andThen_ok, ldr h]
    exact hK _ _ hk
theorem wpl_str (b : Nat) (A B : Rl) (x y : Operand) (h : Rb w b A) (hgd : op.guard = none) (ho : op.op = .store 45 x y) (hx : a.eval x = .pointer (some ⟨b, 0, none⟩)) (hy : a.eval y = .agg (ofr B)) (hd : a.put op.dst undef = a)
    (hk : wpList Try.prog ops Q rest a (w.setRow b (ofr B))) : wpList Try.prog ops Q (op :: rest) a w :=
  wpList_plain hgd fun _ hK => by
    unfold Oper.wp execOp
    simp only [ho, hx, hy, Instr.storeAt, Instr.sureAddr, Sem.run_bind, Sem.run_pure, Result.andThen_ok, str h]
    refine hK _ _ ?_
    rw [hd]
    exact hk
theorem wpl_ldt (b : Nat) (T : Nat → Bool) (x : Operand) (h : Tb w b T) (hgd : op.guard = none) (ho : op.op = .load 43 x) (hx : a.eval x = .pointer (some ⟨b, 0, none⟩))
    (hk : wpList Try.prog ops Q rest (a.put op.dst (.agg (oft T))) w) : wpList Try.prog ops Q (op :: rest) a w :=
  wpList_plain hgd fun _ hK => by
    unfold Oper.wp execOp
    simp only [ho, hx, Instr.loadAt, Instr.sureAddr, Sem.run_bind, Sem.run_pure, Result.andThen_ok, ldt h]
    exact hK _ _ hk
theorem wpl_stt (b : Nat) (T U : Nat → Bool) (x y : Operand) (h : Tb w b T) (hgd : op.guard = none) (ho : op.op = .store 43 x y) (hx : a.eval x = .pointer (some ⟨b, 0, none⟩)) (hy : a.eval y = .agg (oft U)) (hd : a.put op.dst undef = a)
    (hk : wpList Try.prog ops Q rest a (w.setRow b (oft U))) : wpList Try.prog ops Q (op :: rest) a w :=
  wpList_plain hgd fun _ hK => by
    unfold Oper.wp execOp
    simp only [ho, hx, hy, Instr.storeAt, Instr.sureAddr, Sem.run_bind, Sem.run_pure, Result.andThen_ok, stt h]
    refine hK _ _ ?_
    rw [hd]
    exact hk
end
/-! ### Rows of a relation -/
def ptw (A : Rl) (i : Nat) (T : Nat → Bool) : Rl := fun a c => if a = i then T c else A a c
theorem Rb.range {W : World} {b : Nat} {A : Rl} (h : Rb W b A) {i : Nat} (hi : i < 24) : W.rangeAt b (i * 24) (oft (A i)).toList := fun j v hv => by
  have hj : j < 24 := by
    have := (List.getElem?_eq_some_iff.1 hv).1
    simpa [oft_size] using this
  rw [h.cell hi hj]
  rw [Array.getElem?_toList, oft_at _ hj] at hv
  exact hv
theorem setCells_heap (b : Nat) {t : TypeId} {fr : Nat × Nat} : ∀ (vs : List Value) (o : Nat) (w : World) (c : Array Value), w.heap[b]? = some (.cells c t fr) → ∃ c', (w.setCells b o vs).heap[b]? = some (.cells c' t fr) ∧ c'.size = c.size ∧ ∀ p, p < c.size → c'[p]? = if o ≤ p ∧ p < o + vs.length then vs[p - o]? else c[p]?
  | [], o, w, c, h => ⟨c, h, rfl, fun p hp => by rw [if_neg (by simp only [List.length_nil]; omega)]⟩
  | v :: r, o, w, c, h => by
    have h1 : (w.setCell ⟨b, o, none⟩ v).heap[b]? = some (.cells (c.setIfInBounds o v) t fr) := by simp [World.setCell, Array.getElem?_modify, h]
    obtain ⟨c', e1, e2, e3⟩ := setCells_heap b r (o + 1) _ _ h1
    refine ⟨c', e1, by rw [e2]; simp, fun p hp => ?_⟩
    rw [e3 p (by simpa using hp)]
    simp only [List.length_cons]
    by_cases hc : o + 1 ≤ p ∧ p < o + 1 + r.length
    · rw [if_pos hc, if_pos ⟨by omega, by omega⟩, show p - o = (p - (o + 1)) + 1 by omega, List.getElem?_cons_succ]
    · rw [if_neg hc, Array.getElem?_setIfInBounds]
      by_cases he : o = p
      · subst he
        rw [if_pos rfl, if_pos hp, if_pos ⟨by omega, by omega⟩, Nat.sub_self]; rfl
      · rw [if_neg he, if_neg (by omega)]
theorem Rb.putw {W : World} {b : Nat} {A : Rl} (h : Rb W b A) {i : Nat} (hi : i < 24) (T : Nat → Bool) : Rb (W.setCells b (i * 24) (oft T).toList) b (ptw A i T) := by
  obtain ⟨c', e1, e2, e3⟩ := setCells_heap b (oft T).toList (i * 24) W _ h
  rw [ofr_size] at e2 e3
  have key : ∀ B : Rl, c' = ofr B → Rb (W.setCells b (i * 24) (oft T).toList) b B := fun B e => by unfold Rb; rw [← e]; exact e1
  refine key _ ?_
  refine Array.ext_getElem? fun p => ?_
  by_cases hp : p < 576
  · rw [e3 p hp, ofr_at (ptw A i T) hp, Array.length_toList, oft_size]
    unfold ptw
    by_cases hc : i * 24 ≤ p ∧ p < i * 24 + 24
    · rw [if_pos hc, if_pos (by omega), Array.getElem?_toList, oft_at _ (by omega), show p - i * 24 = p % 24 by omega]
    · rw [if_neg hc, if_neg (by omega), ofr_at _ hp]
  · rw [ofr_out _ hp]; exact Array.getElem?_eq_none (by omega)
theorem setCells_os (b : Nat) : ∀ (vs : List Value) (o : Nat) (w : World), (w.setCells b o vs).heap.size = w.heap.size
  | [], _, _ => rfl
  | v :: r, o, w => by rw [World.setCells, setCells_os b r]; simp [World.setCell]
theorem bel_cells {n b : Nat} {w : World} (hb : n ≤ b) : ∀ (vs : List Value) (o : Nat) (W : World), Below n w W → Below n w (W.setCells b o vs)
  | [], _, _, h => h
  | v :: r, o, W, h => bel_cells hb r (o + 1) _ (h.setCell (p := ⟨b, o, none⟩) hb v)
theorem heap_cells (b : Nat) {k : Nat} (hk : k ≠ b) : ∀ (vs : List Value) (o : Nat) (W : World), (W.setCells b o vs).heap[k]? = W.heap[k]?
  | [], _, _ => rfl
  | v :: r, o, W => by rw [World.setCells, heap_cells b hk r]; exact Below.heap_setCell W ⟨b, o, none⟩ v k hk
theorem Rb.thr {W : World} {b : Nat} {A : Rl} (h : Rb W b A) {i : Nat} (hi : i < 24) : W.there b (i * 24) 24 := fun j hj => ⟨by rw [h.cell hi hj]; rfl, h.fr _⟩
/-- A row is read, in a region that draws its order. -/
theorem yrow {ops : Array Oper} {C : World → Prop} {op : Oper} {a : Act} (b : Nat) (A : Rl) (i : Nat) (hi : i < 24) (x : Operand) (hw : Region.wanted op (yielded ops a.tmps) = true) (ho : op.op = .load 43 x) (hx : a.eval x = .pointer (some ⟨b, i * 24, none⟩)) (hC : ∀ w, C w → Rb w b A) :
    YieldsIf Try.prog ops C op (.agg (oft (A i))) a := by
  have h := yieldsIf_load_mid (P := Try.prog) (S := C) hw 43 x ho b (i * 24) hx (oft (A i)).toList _ (fun w h => (hC w h).range hi) Try.underlying43 rfl (by rw [Array.length_toList, oft_size]; exact Try.infoT)
  simpa using h
/-- A row is stored. -/
theorem wp_strow {op : Oper} {a : Act} {w : World} {K : Act → World → Prop} {Q : Exit → Act → World → Prop} (b : Nat) (A : Rl) (i : Nat) (hi : i < 24) (T : Nat → Bool) (x y : Operand) (h : Rb w b A) (ho : op.op = .store 43 x y) (hx : a.eval x = .pointer (some ⟨b, i * 24, none⟩)) (hy : a.eval y = .agg (oft T))
    (hk : K (a.put op.dst undef) (w.setCells b (i * 24) (oft T).toList)) : op.wp Try.prog a w K Q :=
  wp_store_mid 43 x y ho b (i * 24) (oft T) hx hy (by rw [oft_size]; exact h.thr hi) (by rw [oft_size]; exact Try.infoT) (oft_one T) hk
/-- A relation is read, in a region that draws its order. -/
theorem yrel {ops : Array Oper} {C : World → Prop} {op : Oper} {a : Act} (b : Nat) (A : Rl) (x : Operand) (hw : Region.wanted op (yielded ops a.tmps) = true) (ho : op.op = .load 45 x) (hx : a.eval x = .pointer (some ⟨b, 0, none⟩)) (hC : ∀ w, C w → Rb w b A) :
    YieldsIf Try.prog ops C op (.agg (ofr A)) a :=
  .inl ⟨hw, fun w hw' => by
    unfold execOp
    simp only [ho, hx, Instr.loadAt, Instr.sureAddr, Sem.run_bind, Sem.run_pure, Result.andThen_ok, ldr (hC w hw')]⟩
/-- Some things are read, in a region that draws its order. -/
theorem ythg {ops : Array Oper} {C : World → Prop} {op : Oper} {a : Act} (b : Nat) (T : Nat → Bool) (x : Operand) (hw : Region.wanted op (yielded ops a.tmps) = true) (ho : op.op = .load 43 x) (hx : a.eval x = .pointer (some ⟨b, 0, none⟩)) (hC : ∀ w, C w → Tb w b T) :
    YieldsIf Try.prog ops C op (.agg (oft T)) a :=
  .inl ⟨hw, fun w hw' => by
    unfold execOp
    simp only [ho, hx, Instr.loadAt, Instr.sureAddr, Sem.run_bind, Sem.run_pure, Result.andThen_ok, ldt (hC w hw')]⟩
end Go.Proofs.Ytgaelbgeoobgiaa
/-! Rgw: Plain mathematics: WARSHALL: one thing after the other, each way that stops on it. -/
namespace Go.Proofs.Ytgaelbgeoobgiaa
open Go.RowKit
set_option linter.unusedVariables false

/-- The things below k have had their turn. -/
def ws (A : Rl) : Nat → Rl
  | 0 => A
  | k + 1 => fun i j => ws A k i j || (ws A k i k && ws A k k j)
theorem ws_succ {A : Rl} {k i j : Nat} : ws A (k + 1) i j = true ↔ ws A k i j = true ∨ (ws A k i k = true ∧ ws A k k j = true) := by
  rw [ws, Bool.or_eq_true, Bool.and_eq_true]
theorem ws_mono {A : Rl} {i j : Nat} (h : A i j = true) : ∀ k, ws A k i j = true
  | 0 => h
  | k + 1 => ws_succ.2 (.inl (ws_mono h k))
theorem ws_thru {A : Rl} : ∀ k m, m < k → ∀ i j, ws A k i m = true → ws A k m j = true → ws A k i j = true
  | 0, m, h, _, _, _, _ => absurd h (Nat.not_lt_zero _)
  | k + 1, m, h, i, j, h1, h2 => by
    have ih := ws_thru (A := A) k
    rw [ws_succ] at h1 h2 ⊢
    by_cases e : m = k
    · subst e
      have g1 : ws A m i m = true := by rcases h1 with h1 | h1; exact h1; exact h1.1
      have g2 : ws A m m j = true := by rcases h2 with h2 | h2; exact h2; exact h2.2
      exact .inr ⟨g1, g2⟩
    · have hm : m < k := by omega
      rcases h1 with h1 | h1 <;> rcases h2 with h2 | h2
      · exact .inl (ih m hm i j h1 h2)
      · exact .inr ⟨ih m hm i k h1 h2.1, h2.2⟩
      · exact .inr ⟨h1.1, ih m hm k j h1.2 h2⟩
      · exact .inr ⟨h1.1, h2.2⟩
theorem ws_in {A : Rl} {n : Nat} : ∀ k, k ≤ n → ∀ i j, j < n → ws A k i j = true → clB A n i j = true
  | 0, _, i, j, hj, h => cl_step hj h
  | k + 1, hk, i, j, hj, h => by
    rw [ws_succ] at h
    rcases h with h | h
    · exact ws_in k (by omega) i j hj h
    · exact cl_trans (ws_in k (by omega) i k (by omega) h.1) (ws_in k (by omega) k j hj h.2)
theorem ws_all {A : Rl} {n i j : Nat} (hi : i < n) (hj : j < n) : ws A n i j = clB A n i j := by
  rw [Bool.eq_iff_iff]
  exact ⟨fun h => ws_in n (Nat.le_refl n) i j hj h, fun h => cl_least (R := A) (T := ws A n) (fun i _ j _ h => ws_mono h n) (fun i _ m hm j _ h1 h2 => ws_thru n m hm i j h1 h2) hi h⟩
/-- In the turn of thing v, those ahead of i have been asked. -/
def wsi (S : Rl) (v i : Nat) : Rl := fun a c => if a < i then S a c || (S a v && S v c) else S a c
theorem wsi_zero (S : Rl) (v : Nat) : wsi S v 0 = S := by funext a c; unfold wsi; rw [if_neg (Nat.not_lt_zero _)]
theorem wsi_row {S : Rl} {v i : Nat} (a : Nat) : wsi S v i v a = S v a := by
  unfold wsi
  by_cases h : v < i
  · rw [if_pos h]
    cases S v a <;> cases S v v <;> rfl
  · rw [if_neg h]
theorem wsi_at {S : Rl} {v i : Nat} (a : Nat) : wsi S v i i a = S i a := by unfold wsi; rw [if_neg (Nat.lt_irrefl i)]
theorem wsi_yes {S : Rl} {v i : Nat} (h : S i v = true) : (fun a c => if a = i then (wsi S v i i c || wsi S v i v c) else wsi S v i a c) = wsi S v (i + 1) := by
  funext a c
  by_cases e : a = i
  · subst e
    rw [if_pos rfl, wsi_at, wsi_row]
    unfold wsi
    rw [if_pos (Nat.lt_succ_self a), h, Bool.true_and]
  · rw [if_neg e]
    unfold wsi
    by_cases h2 : a < i
    · rw [if_pos h2, if_pos (by omega)]
    · rw [if_neg h2, if_neg (by omega)]
theorem wsi_no {S : Rl} {v i : Nat} (h : S i v = false) : wsi S v i = wsi S v (i + 1) := by
  funext a c
  unfold wsi
  by_cases h2 : a < i
  · rw [if_pos h2, if_pos (by omega)]
  · rw [if_neg h2]
    by_cases e : a = i
    · subst e
      rw [if_pos (by omega), h, Bool.false_and, Bool.or_false]
    · rw [if_neg (by omega)]
theorem wsi_end {A : Rl} {k n a c : Nat} (ha : a < n) : wsi (ws A k) k n a c = ws A (k + 1) a c := by unfold wsi; rw [if_pos ha]; rfl
/-- Things that there are not lead nowhere. -/
theorem cl_wide {A : Rl} {n m i j : Nat} (hn : n ≤ m) (h : ∀ i j, A i j = true → i < n ∧ j < n) (hi : i < n) : clB A m i j = clB A n i j := by
  rw [Bool.eq_iff_iff]
  constructor
  · intro h1
    exact cl_least (R := A) (n := m) (T := clB A n) (fun i _ j _ h2 => cl_step (h i j h2).2 h2) (fun _ _ _ _ _ _ h1 h2 => cl_trans h1 h2) (by omega) h1
  · intro h1
    exact cl_least (R := A) (n := n) (T := clB A m) (fun i _ j hj h2 => cl_step (by omega) h2) (fun _ _ _ _ _ _ h1 h2 => cl_trans h1 h2) hi h1
theorem cl_eqv {A B : Rl} {n i j : Nat} (h : ∀ i, i < n → ∀ j, j < n → A i j = B i j) (hi : i < n) : clB A n i j = clB B n i j := by
  rw [Bool.eq_iff_iff]
  exact ⟨fun h1 => cl_least (R := A) (T := clB B n) (fun i hi j hj h2 => cl_step hj (by rw [← h i hi j hj]; exact h2)) (fun _ _ _ _ _ _ h1 h2 => cl_trans h1 h2) hi h1, fun h1 => cl_least (R := B) (T := clB A n) (fun i hi j hj h2 => cl_step hj (by rw [h i hi j hj]; exact h2)) (fun _ _ _ _ _ _ h1 h2 => cl_trans h1 h2) hi h1⟩
end Go.Proofs.Ytgaelbgeoobgiaa
