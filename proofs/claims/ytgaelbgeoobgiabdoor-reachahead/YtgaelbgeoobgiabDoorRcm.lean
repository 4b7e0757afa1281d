/-
  Plain mathematics of ways from one to another: so many steps; short ways; the relation closed; classes; the least number of steps.
-/
import Derived.Test.YtgaelbgeoobgiabDoorBase
namespace Go.Proofs.YtgaelbgeoobgiabDoor
open Go.RowKit
set_option linter.unusedVariables false

abbrev Rl : Type := Nat → Nat → Bool
/-- So many steps lead from i to j. -/
def wk (R : Rl) (n : Nat) : Nat → Nat → Nat → Bool
  | 0, i, j => i == j
  | k + 1, i, j => (List.range n).any fun m => R i m && wk R n k m j
section
variable {R : Rl} {n : Nat}
theorem wk_zero {i j : Nat} : wk R n 0 i j = true ↔ i = j := beq_iff_eq
theorem any_iff {n : Nat} {p : Nat → Bool} : (List.range n).any p = true ↔ ∃ m, m < n ∧ p m = true := by
  rw [List.any_eq_true]
  exact ⟨fun ⟨m, h1, h2⟩ => ⟨m, List.mem_range.1 h1, h2⟩, fun ⟨m, h1, h2⟩ => ⟨m, List.mem_range.2 h1, h2⟩⟩
theorem wk_succ {k i j : Nat} : wk R n (k + 1) i j = true ↔ ∃ m, m < n ∧ R i m = true ∧ wk R n k m j = true := by
  rw [wk, any_iff]
  exact ⟨fun ⟨m, h, e⟩ => ⟨m, h, (Bool.and_eq_true _ _ ▸ e)⟩, fun ⟨m, h, e⟩ => ⟨m, h, by rw [e.1, e.2]; rfl⟩⟩
theorem wk_in : ∀ {k i j : Nat}, wk R n (k + 1) i j = true → j < n
  | 0, i, j, h => by
    obtain ⟨m, hm, _, h2⟩ := wk_succ.1 h
    rw [← wk_zero.1 h2]; exact hm
  | k + 1, i, j, h => by
    obtain ⟨m, _, _, h2⟩ := wk_succ.1 h
    exact wk_in h2
theorem wk_app : ∀ {a b i m j : Nat}, wk R n a i m = true → wk R n b m j = true → wk R n (a + b) i j = true
  | 0, b, i, m, j, h1, h2 => by rw [Nat.zero_add, wk_zero.1 h1]; exact h2
  | a + 1, b, i, m, j, h1, h2 => by
    obtain ⟨q, hq, h3, h4⟩ := wk_succ.1 h1
    rw [show a + 1 + b = (a + b) + 1 by omega]
    exact wk_succ.2 ⟨q, hq, h3, wk_app h4 h2⟩
theorem wk_one {i j : Nat} (hj : j < n) (h : R i j = true) : wk R n 1 i j = true := wk_succ.2 ⟨j, hj, h, wk_zero.2 rfl⟩
theorem wk_snoc {k i m j : Nat} (hj : j < n) (h : wk R n k i m = true) (h2 : R m j = true) : wk R n (k + 1) i j = true := wk_app h (wk_one hj h2)
theorem wk_last : ∀ {k i j : Nat}, wk R n (k + 1) i j = true → ∃ m, wk R n k i m = true ∧ R m j = true ∧ j < n
  | 0, i, j, h => by
    obtain ⟨m, hm, h1, h2⟩ := wk_succ.1 h
    rw [← wk_zero.1 h2]
    exact ⟨i, wk_zero.2 rfl, h1, hm⟩
  | k + 1, i, j, h => by
    obtain ⟨m, hm, h1, h2⟩ := wk_succ.1 h
    obtain ⟨q, h3, h4, h5⟩ := wk_last h2
    exact ⟨q, wk_succ.2 ⟨m, hm, h1, h3⟩, h4, h5⟩
theorem wk_mid {k i j : Nat} (hi : i < n) (h : wk R n k i j = true) : j < n := by
  cases k with
  | zero => rw [← wk_zero.1 h]; exact hi
  | succ k => exact wk_in h
/-! ### How many there are -/
def ctB (p : Nat → Bool) : Nat → Nat
  | 0 => 0
  | n + 1 => ctB p n + if p n = true then 1 else 0
theorem ctB_le (p : Nat → Bool) : ∀ n, ctB p n ≤ n
  | 0 => Nat.le_refl _
  | n + 1 => by have := ctB_le p n; rw [ctB]; split <;> omega
theorem ctB_mono {p q : Nat → Bool} : ∀ {n : Nat}, (∀ j, j < n → p j = true → q j = true) → ctB p n ≤ ctB q n
  | 0, _ => Nat.le_refl _
  | n + 1, h => by
    have ih := ctB_mono (n := n) fun j hj => h j (by omega)
    rw [ctB, ctB]
    by_cases e : p n = true
    · rw [if_pos e, if_pos (h n (by omega) e)]; omega
    · rw [if_neg e]; omega
theorem ctB_more {p q : Nat → Bool} : ∀ {n : Nat}, (∀ j, j < n → p j = true → q j = true) → ∀ {x : Nat}, x < n → q x = true → ¬ p x = true → ctB p n + 1 ≤ ctB q n
  | 0, _, x, hx, _, _ => by omega
  | n + 1, h, x, hx, h1, h2 => by
    rw [ctB, ctB]
    by_cases e : x = n
    · subst e
      have ih := ctB_mono (n := x) fun j hj => h j (by omega)
      rw [if_neg h2, if_pos h1]
      omega
    · have ih := ctB_more (n := n) (fun j hj => h j (by omega)) (x := x) (by omega) h1 h2
      by_cases e2 : p n = true
      · rw [if_pos e2, if_pos (h n (by omega) e2)]; omega
      · rw [if_neg e2]; omega
theorem ctB_pos {p : Nat → Bool} {n x : Nat} (hx : x < n) (h : p x = true) : 1 ≤ ctB p n := by
  have := ctB_more (p := fun _ => false) (q := p) (n := n) (fun j _ e => absurd e (by decide)) hx h (by decide)
  omega
/-! ### Short ways -/
def rchB (R : Rl) (n k i j : Nat) : Bool := (List.range (k + 1)).any fun l => wk R n l i j
theorem rchB_iff {k i j : Nat} : rchB R n k i j = true ↔ ∃ l, l ≤ k ∧ wk R n l i j = true := by
  unfold rchB
  rw [any_iff]
  exact ⟨fun ⟨l, h1, h2⟩ => ⟨l, by omega, h2⟩, fun ⟨l, h1, h2⟩ => ⟨l, by omega, h2⟩⟩
def Stb (R : Rl) (n i k : Nat) : Prop := ∀ j, j < n → rchB R n (k + 1) i j = true → rchB R n k i j = true
theorem stb_ex {i : Nat} (hi : i < n) : ∀ k, (∃ k', k' < k ∧ Stb R n i k') ∨ k + 1 ≤ ctB (rchB R n k i) n
  | 0 => .inr (ctB_pos hi (rchB_iff.2 ⟨0, Nat.le_refl _, wk_zero.2 rfl⟩))
  | k + 1 => by
    rcases stb_ex hi k with ⟨k', h1, h2⟩ | h
    · exact .inl ⟨k', by omega, h2⟩
    · by_cases hs : Stb R n i k
      · exact .inl ⟨k, by omega, hs⟩
      · have hx : ∃ x, x < n ∧ rchB R n (k + 1) i x = true ∧ ¬ rchB R n k i x = true := Classical.byContradiction fun hn => hs fun j hj h1 => Classical.byContradiction fun h2 => hn ⟨j, hj, h1, h2⟩
        obtain ⟨x, hx, h1, h2⟩ := hx
        have := ctB_more (p := rchB R n k i) (q := rchB R n (k + 1) i) (n := n) (fun j _ e => by
          obtain ⟨l, hl, e2⟩ := rchB_iff.1 e
          exact rchB_iff.2 ⟨l, by omega, e2⟩) hx h1 h2
        exact .inr (by omega)
/-- Where one comes at all one comes in less than n steps. -/
theorem wk_short {i j k : Nat} (hi : i < n) (h : wk R n k i j = true) : ∃ l, l < n ∧ wk R n l i j = true := by
  rcases stb_ex (R := R) hi n with ⟨k', hk, hs⟩ | h2
  · have key : ∀ m j, wk R n m i j = true → rchB R n k' i j = true := fun m => by
      induction m with
      | zero => intro j h; exact rchB_iff.2 ⟨0, Nat.zero_le _, h⟩
      | succ m ih =>
        intro j h
        obtain ⟨q, h3, h4, h5⟩ := wk_last h
        obtain ⟨l, hl, h6⟩ := rchB_iff.1 (ih q h3)
        exact hs j h5 (rchB_iff.2 ⟨l + 1, by omega, wk_snoc h5 h6 h4⟩)
    obtain ⟨l, hl, h3⟩ := rchB_iff.1 (key k j h)
    exact ⟨l, by omega, h3⟩
  · have := ctB_le (rchB R n n i) n
    omega
/-! ### The relation closed -/
def upB (R : Rl) (n s i j : Nat) : Bool := (List.range s).any fun k => wk R n (k + 1) i j
def clB (R : Rl) (n : Nat) : Rl := fun i j => upB R n n i j
theorem upB_iff {s i j : Nat} : upB R n s i j = true ↔ ∃ k, k < s ∧ wk R n (k + 1) i j = true := by unfold upB; exact any_iff
theorem cl_iff {i j : Nat} : clB R n i j = true ↔ ∃ k, wk R n (k + 1) i j = true := by
  unfold clB
  rw [upB_iff]
  refine ⟨fun ⟨k, _, h⟩ => ⟨k, h⟩, fun ⟨k, h⟩ => ?_⟩
  obtain ⟨m, hm, h1, h2⟩ := wk_succ.1 h
  obtain ⟨l, hl, h3⟩ := wk_short hm h2
  exact ⟨l, hl, wk_succ.2 ⟨m, hm, h1, h3⟩⟩
theorem cl_in {i j : Nat} (h : clB R n i j = true) : j < n := by
  obtain ⟨k, h⟩ := cl_iff.1 h
  exact wk_in h
theorem cl_step {i j : Nat} (hj : j < n) (h : R i j = true) : clB R n i j = true := cl_iff.2 ⟨0, wk_one hj h⟩
theorem cl_trans {i j k : Nat} (h1 : clB R n i j = true) (h2 : clB R n j k = true) : clB R n i k = true := by
  obtain ⟨a, h1⟩ := cl_iff.1 h1
  obtain ⟨b, h2⟩ := cl_iff.1 h2
  exact cl_iff.2 ⟨a + 1 + b, by rw [show a + 1 + b + 1 = (a + 1) + (b + 1) by omega]; exact wk_app h1 h2⟩
/-- A step, and then any way. -/
theorem cl_first {i j : Nat} (hj : j < n) : clB R n i j = true ↔ R i j = true ∨ ∃ m, m < n ∧ R i m = true ∧ clB R n m j = true := by
  constructor
  · intro h
    obtain ⟨k, h⟩ := cl_iff.1 h
    obtain ⟨m, hm, h1, h2⟩ := wk_succ.1 h
    cases k with
    | zero => rw [wk_zero.1 h2] at h1; exact .inl h1
    | succ k => exact .inr ⟨m, hm, h1, cl_iff.2 ⟨k, h2⟩⟩
  · rintro (h | ⟨m, hm, h1, h2⟩)
    · exact cl_step hj h
    · exact cl_trans (cl_step hm h1) h2
/-- The least one. -/
theorem cl_least {T : Rl} (h1 : ∀ i, i < n → ∀ j, j < n → R i j = true → T i j = true) (h2 : ∀ i, i < n → ∀ j, j < n → ∀ k, k < n → T i j = true → T j k = true → T i k = true) {i j : Nat} (hi : i < n) (h : clB R n i j = true) : T i j = true := by
  obtain ⟨k, h⟩ := cl_iff.1 h
  have key : ∀ k i, i < n → ∀ j, wk R n (k + 1) i j = true → T i j = true := fun k => by
    induction k with
    | zero =>
      intro i hi j h
      obtain ⟨m, hm, h3, h4⟩ := wk_succ.1 h
      rw [wk_zero.1 h4] at h3 hm
      exact h1 i hi j hm h3
    | succ k ih =>
      intro i hi j h
      obtain ⟨m, hm, h3, h4⟩ := wk_succ.1 h
      exact h2 i hi m hm j (wk_in h4) (h1 i hi m hm h3) (ih m hm j h4)
  exact key k i hi j h
theorem cl_again {i j : Nat} (hi : i < n) : clB (clB R n) n i j = true ↔ clB R n i j = true :=
  ⟨fun h => cl_least (R := clB R n) (T := clB R n) (fun _ _ _ _ h => h) (fun _ _ _ _ _ _ h1 h2 => cl_trans h1 h2) hi h, fun h => cl_step (cl_in h) h⟩
/-- Turned round. -/
theorem wk_turn : ∀ {k i j : Nat}, i < n → wk R n k i j = true → wk (fun a b => R b a) n k j i = true
  | 0, i, j, _, h => wk_zero.2 (wk_zero.1 h).symm
  | k + 1, i, j, hi, h => by
    obtain ⟨m, hm, h1, h2⟩ := wk_succ.1 h
    exact wk_snoc (R := fun a b => R b a) hi (wk_turn hm h2) h1
theorem cl_turn {i j : Nat} (hi : i < n) (hj : j < n) : clB (fun a b => R b a) n j i = true ↔ clB R n i j = true := by
  rw [cl_iff, cl_iff]
  exact ⟨fun ⟨k, h⟩ => ⟨k, wk_turn (R := fun a b => R b a) hj h⟩, fun ⟨k, h⟩ => ⟨k, wk_turn hi h⟩⟩
/-- A step more each time. -/
theorem up_zero (i j : Nat) : upB R n 0 i j = false := rfl
theorem up_succ {s i j : Nat} (hj : j < n) : upB R n (s + 1) i j = true ↔ (R i j = true ∨ upB R n s i j = true) ∨ ∃ m, m < n ∧ R i m = true ∧ upB R n s m j = true := by
  rw [upB_iff, upB_iff]
  constructor
  · rintro ⟨k, hk, h⟩
    obtain ⟨m, hm, h1, h2⟩ := wk_succ.1 h
    cases k with
    | zero => rw [wk_zero.1 h2] at h1; exact .inl (.inl h1)
    | succ k => exact .inr ⟨m, hm, h1, upB_iff.2 ⟨k, by omega, h2⟩⟩
  · rintro ((h | ⟨k, hk, h⟩) | ⟨m, hm, h1, h2⟩)
    · exact ⟨0, by omega, wk_one hj h⟩
    · exact ⟨k, by omega, h⟩
    · obtain ⟨k, hk, h3⟩ := upB_iff.1 h2
      exact ⟨k + 1, by omega, wk_succ.2 ⟨m, hm, h1, h3⟩⟩
/-! ### The least one of which it is so -/
def lea (p : Nat → Bool) : Nat → Nat
  | 0 => 0
  | m + 1 => if lea p m < m then lea p m else if p m = true then m else m + 1
theorem lea_spec (p : Nat → Bool) : ∀ m, lea p m ≤ m ∧ (lea p m < m → p (lea p m) = true) ∧ ∀ j, j < lea p m → ¬ p j = true
  | 0 => ⟨Nat.le_refl _, fun h => absurd h (by rw [lea]; omega), fun j hj => absurd hj (by rw [lea]; omega)⟩
  | m + 1 => by
    obtain ⟨h1, h2, h3⟩ := lea_spec p m
    rw [lea]
    by_cases h : lea p m < m
    · rw [if_pos h]; exact ⟨by omega, fun _ => h2 h, h3⟩
    · rw [if_neg h]
      have e : lea p m = m := by omega
      by_cases hp : p m = true
      · rw [if_pos hp]; exact ⟨by omega, fun _ => hp, fun j hj => h3 j (by omega)⟩
      · rw [if_neg hp]
        refine ⟨Nat.le_refl _, fun h => absurd h (by omega), fun j hj => ?_⟩
        by_cases e2 : j = m
        · subst e2; exact hp
        · exact h3 j (by omega)
theorem lea_at {p : Nat → Bool} {m k : Nat} (hk : k < m) (h1 : p k = true) (h2 : ∀ j, j < k → ¬ p j = true) : lea p m = k := by
  obtain ⟨g1, g2, g3⟩ := lea_spec p m
  have a : ¬ lea p m < k := fun h => h2 _ h (g2 (by omega))
  have b : ¬ k < lea p m := fun h => g3 k h h1
  omega
theorem lea_no {p : Nat → Bool} {m : Nat} (h : ∀ j, j < m → ¬ p j = true) : lea p m = m := by
  obtain ⟨g1, g2, g3⟩ := lea_spec p m
  exact Classical.byContradiction fun hn => h _ (by omega) (g2 (by omega))
/-! ### Classes -/
def bwd (R : Rl) (n i j : Nat) : Bool := clB R n i j && clB R n j i
def cls (R : Rl) (n i : Nat) : Nat := lea (bwd R n i) i
def Eqv (R : Rl) (n i j : Nat) : Prop := i = j ∨ clB R n i j = true ∧ clB R n j i = true
theorem bwd_iff {i j : Nat} : bwd R n i j = true ↔ clB R n i j = true ∧ clB R n j i = true := by unfold bwd; rw [Bool.and_eq_true]
theorem Eqv.symm {i j : Nat} (h : Eqv R n i j) : Eqv R n j i := by
  rcases h with h | h
  · exact .inl h.symm
  · exact .inr ⟨h.2, h.1⟩
theorem Eqv.trans {i j k : Nat} (h : Eqv R n i j) (h' : Eqv R n j k) : Eqv R n i k := by
  rcases h with h | h
  · rw [h]; exact h'
  · rcases h' with h' | h'
    · rw [← h']; exact .inr h
    · exact .inr ⟨cl_trans h.1 h'.1, cl_trans h'.2 h.2⟩
theorem cls_spec (i : Nat) : cls R n i ≤ i ∧ Eqv R n i (cls R n i) ∧ ∀ j, Eqv R n i j → cls R n i ≤ j := by
  obtain ⟨h1, h2, h3⟩ := lea_spec (bwd R n i) i
  refine ⟨h1, ?_, fun j hj => ?_⟩
  · by_cases h : cls R n i < i
    · exact .inr (bwd_iff.1 (h2 h))
    · exact .inl (by unfold cls at h ⊢; omega)
  · rcases hj with e | e
    · rw [← e]; exact h1
    · exact Classical.byContradiction fun hn => h3 j (by unfold cls at hn; omega) (bwd_iff.2 e)
theorem cls_same {i j : Nat} : cls R n i = cls R n j ↔ Eqv R n i j := by
  obtain ⟨_, a2, a3⟩ := cls_spec (R := R) (n := n) i
  obtain ⟨_, b2, b3⟩ := cls_spec (R := R) (n := n) j
  constructor
  · intro h
    rw [h] at a2
    exact a2.trans b2.symm
  · intro h
    have h1 := a3 _ (h.trans b2)
    have h2 := b3 _ (h.symm.trans a2)
    omega
theorem cls_cls (i : Nat) : cls R n (cls R n i) = cls R n i := cls_same.2 (cls_spec i).2.1.symm
/-! ### The least number of steps -/
def dsB (R : Rl) (n i j : Nat) : Nat := lea (fun k => wk R n k i j) n
def far (R : Rl) (n i j : Nat) : Int := if dsB R n i j < n then (dsB R n i j : Int) else -1
theorem ds_spec {i j : Nat} (h : dsB R n i j < n) : wk R n (dsB R n i j) i j = true ∧ ∀ k, wk R n k i j = true → dsB R n i j ≤ k := by
  obtain ⟨h1, h2, h3⟩ := lea_spec (fun k => wk R n k i j) n
  exact ⟨h2 h, fun k hk => Classical.byContradiction fun hn => h3 k (by unfold dsB at hn; omega) hk⟩
theorem ds_ex {i j k : Nat} (hi : i < n) (h : wk R n k i j = true) : dsB R n i j < n := by
  obtain ⟨l, hl, h2⟩ := wk_short hi h
  obtain ⟨h1, h3, h4⟩ := lea_spec (fun k => wk R n k i j) n
  exact Classical.byContradiction fun hn => h4 l (by unfold dsB at hn; omega) h2
theorem far_bd (i j : Nat) : -1 ≤ far R n i j ∧ far R n i j < (n : Int) ∨ n = 0 := by
  unfold far
  split
  · exact .inl ⟨by omega, by omega⟩
  · by_cases h : n = 0
    · exact .inr h
    · exact .inl ⟨by omega, by omega⟩
theorem far_zero {i j : Nat} (hi : i < n) : far R n i j = 0 ↔ j = i := by
  unfold far
  constructor
  · intro h
    split at h
    · rename_i hd
      have := (ds_spec hd).1
      rw [show dsB R n i j = 0 by omega] at this
      exact (wk_zero.1 this).symm
    · omega
  · intro h
    subst h
    have h1 := ds_ex (R := R) hi (wk_zero (R := R) (n := n).2 rfl)
    have h2 := (ds_spec h1).2 0 (wk_zero.2 rfl)
    rw [if_pos h1]
    omega
theorem far_pos {i j : Nat} (hi : i < n) (hne : j ≠ i) : 0 < far R n i j ↔ clB R n i j = true := by
  constructor
  · intro h
    unfold far at h
    split at h
    · rename_i hd
      have := (ds_spec hd).1
      obtain ⟨k, hk⟩ : ∃ k, dsB R n i j = k + 1 := ⟨dsB R n i j - 1, by omega⟩
      rw [hk] at this
      exact cl_iff.2 ⟨k, this⟩
    · omega
  · intro h
    obtain ⟨k, h⟩ := cl_iff.1 h
    have hd := ds_ex hi h
    have h0 := (far_zero (R := R) (j := j) hi)
    unfold far at h0 ⊢
    rw [if_pos hd] at h0 ⊢
    have : ¬ ((dsB R n i j : Nat) : Int) = 0 := fun e => hne (h0.1 e)
    omega
/-- A step makes it at most one more. -/
theorem far_step {i a b : Nat} (hi : i < n) (hb : b < n) (h : R a b = true) (ha : 0 ≤ far R n i a) : 0 ≤ far R n i b ∧ far R n i b ≤ far R n i a + 1 := by
  unfold far at ha ⊢
  split at ha
  · rename_i hd
    have h1 := (ds_spec hd).1
    have h2 := wk_snoc hb h1 h
    have hd2 := ds_ex hi h2
    rw [if_pos hd2, if_pos hd]
    have := (ds_spec hd2).2 _ h2
    omega
  · omega
/-- What is further has a thing one step ahead. -/
theorem far_ahead {i j : Nat} (hi : i < n) (h : 0 < far R n i j) : ∃ a, a < n ∧ R a j = true ∧ 0 ≤ far R n i a ∧ far R n i j = far R n i a + 1 := by
  have hd : dsB R n i j < n := Classical.byContradiction fun hn => by unfold far at h; rw [if_neg hn] at h; omega
  have hf : far R n i j = (dsB R n i j : Int) := by unfold far; rw [if_pos hd]
  obtain ⟨k, hk⟩ : ∃ k, dsB R n i j = k + 1 := ⟨dsB R n i j - 1, by omega⟩
  have h1 := (ds_spec hd).1
  rw [hk] at h1
  obtain ⟨a, h2, h3, h4⟩ := wk_last h1
  have ha := wk_mid hi h2
  have hda := ds_ex hi h2
  have hle := (ds_spec hda).2 k h2
  have h5 := wk_snoc h4 (ds_spec hda).1 h3
  have h6 := (ds_spec hd).2 _ h5
  refine ⟨a, ha, h3, ?_, ?_⟩
  · unfold far; rw [if_pos hda]; omega
  · rw [hf]; unfold far; rw [if_pos hda]; omega
end
end Go.Proofs.YtgaelbgeoobgiabDoor
