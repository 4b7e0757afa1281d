/-
  Plain mathematics of orders: how many are ahead of one (Lehmer), and the one of a rank; nothing of the program.
-/
import Derived.Test.YtmbgomljofngnabPrmc
namespace Go.Proofs.Ytmbgomljofngnab
open Go.RowKit
set_option linter.unusedVariables false

def fac : Nat → Nat
  | 0 => 1
  | n + 1 => (n + 1) * fac n
theorem fac_pos : ∀ n, 0 < fac n
  | 0 => by decide
  | n + 1 => Nat.mul_pos (by omega) (fac_pos n)
/-- How many of a list are less. -/
def lsN (x : Int) (l : List Int) : Nat := l.countP fun y => decide (y < x)
theorem lsN_cons (x y : Int) (l : List Int) : lsN x (y :: l) = lsN x l + if y < x then 1 else 0 := by
  unfold lsN; rw [List.countP_cons]; simp
theorem lsN_le (x : Int) (l : List Int) : lsN x l ≤ l.length := List.countP_le_length
theorem lsN_perm {a b : List Int} (h : a.Perm b) (x : Int) : lsN x a = lsN x b := h.countP_eq _
theorem lsN_mono {x y : Int} (h : x ≤ y) : ∀ l, lsN x l ≤ lsN y l
  | [] => Nat.le_refl _
  | z :: l => by
    rw [lsN_cons, lsN_cons]
    have := lsN_mono h l
    by_cases h1 : z < x
    · rw [if_pos h1, if_pos (by omega)]; omega
    · rw [if_neg h1]; omega
theorem lsN_lt {x y : Int} (h : x < y) : ∀ {l : List Int}, x ∈ l → lsN x l + 1 ≤ lsN y l
  | [], hm => by cases hm
  | z :: l, hm => by
    rw [lsN_cons, lsN_cons]
    by_cases e : x = z
    · subst e
      have := lsN_mono (show x ≤ y by omega) l
      rw [if_neg (by omega), if_pos h]; omega
    · have ih := lsN_lt h (l := l) (by rcases List.mem_cons.1 hm with q | q; exact absurd q e; exact q)
      by_cases h1 : z < x
      · rw [if_pos h1, if_pos (by omega)]; omega
      · rw [if_neg h1]; omega
/-- How many are ahead. -/
def rk : List Int → Nat
  | [] => 0
  | x :: l => lsN x l * fac l.length + rk l
theorem rk_lt : ∀ l, rk l < fac l.length
  | [] => by decide
  | x :: l => by
    have h1 := rk_lt l
    have h2 : (lsN x l + 1) * fac l.length ≤ (l.length + 1) * fac l.length := Nat.mul_le_mul_right _ (by have := lsN_le x l; omega)
    rw [Nat.add_mul, Nat.one_mul] at h2
    show lsN x l * fac l.length + rk l < (l.length + 1) * fac l.length
    omega
/-- The first place at which they differ decides. -/
def cmpL : List Int → List Int → Int
  | x :: a, y :: b => if x < y then -1 else if y < x then 1 else cmpL a b
  | _, _ => 0
theorem rk_step {x y : Int} {p q : List Int} (h : (x :: p).Perm (y :: q)) (hx : x < y) : rk (x :: p) < rk (y :: q) := by
  have hl : p.length = q.length := by have := h.length_eq; simpa using this
  have e1 : lsN x p = lsN x (y :: q) := by rw [← lsN_perm h x, lsN_cons, if_neg (by omega)]; omega
  have e2 : lsN y (y :: q) = lsN y q := by rw [lsN_cons, if_neg (by omega)]; omega
  have h1 := lsN_lt hx (h.mem_iff.1 (List.mem_cons_self (a := x) (l := p)))
  have h2 : (lsN x p + 1) * fac q.length ≤ lsN y q * fac q.length := Nat.mul_le_mul_right _ (by omega)
  have h3 := rk_lt p
  rw [Nat.add_mul, Nat.one_mul] at h2
  show lsN x p * fac p.length + rk p < lsN y q * fac q.length + rk q
  rw [hl] at *
  omega
theorem rk_cmp : ∀ {p q : List Int}, p.Perm q → (rk p < rk q ↔ cmpL p q < 0) ∧ (rk p = rk q ↔ cmpL p q = 0) ∧ (cmpL p q = 0 → p = q)
  | [], q, h => by
    have := h.length_eq
    have : q = [] := List.eq_nil_of_length_eq_zero (by simpa using this.symm)
    subst this; simp [cmpL]
  | x :: p, [], h => by have := h.length_eq; simp at this
  | x :: p, y :: q, h => by
    simp only [cmpL]
    by_cases h1 : x < y
    · have := rk_step h h1
      rw [if_pos h1]
      exact ⟨⟨fun _ => by decide, fun _ => this⟩, ⟨fun e => by omega, fun e => absurd e (by decide)⟩, fun e => absurd e (by decide)⟩
    · rw [if_neg h1]
      by_cases h2 : y < x
      · have := rk_step h.symm h2
        rw [if_pos h2]
        exact ⟨⟨fun e => by omega, fun e => absurd e (by decide)⟩, ⟨fun e => by omega, fun e => absurd e (by decide)⟩, fun e => absurd e (by decide)⟩
      · rw [if_neg h2]
        obtain rfl : x = y := by omega
        have hp : p.Perm q := (List.perm_cons x).1 h
        obtain ⟨a, b, c⟩ := rk_cmp hp
        have hl := hp.length_eq
        show (lsN x p * fac p.length + rk p < lsN x q * fac q.length + rk q ↔ _) ∧ (lsN x p * fac p.length + rk p = lsN x q * fac q.length + rk q ↔ _) ∧ _
        rw [lsN_perm hp x, hl]
        exact ⟨⟨fun e => a.1 (by omega), fun e => by have := a.2 e; omega⟩, ⟨fun e => b.1 (by omega), fun e => by have := b.2 e; omega⟩, fun e => by rw [c e]⟩
/-! ### The one of a rank -/
def ur : Nat → List Int → Nat → List Int
  | 0, _, _ => []
  | m + 1, S, k => nth S (k / fac m) :: ur m (S.eraseIdx (k / fac m)) (k % fac m)
theorem ur_pick {m k : Nat} (h : k < fac (m + 1)) : k / fac m < m + 1 := by
  refine Nat.div_lt_of_lt_mul ?_
  rw [Nat.mul_comm]; exact h
theorem ur_length : ∀ m S k, (ur m S k).length = m
  | 0, _, _ => rfl
  | m + 1, S, k => by simp only [ur, List.length_cons, ur_length m]
theorem er_perm : ∀ {S : List Int} {c : Nat} (h : c < S.length), (S[c] :: S.eraseIdx c).Perm S
  | [], c, h => by simp at h
  | x :: t, 0, _ => List.Perm.refl _
  | x :: t, c + 1, h => by
    have hc : c < t.length := by simpa using h
    rw [List.eraseIdx_cons_succ, List.getElem_cons_succ]
    exact (List.Perm.swap x _ _).trans ((er_perm hc).cons x)
theorem ur_perm : ∀ {m : Nat} {S : List Int} {k : Nat}, S.length = m → k < fac m → (ur m S k).Perm S
  | 0, S, k, h, _ => by
    rw [List.eq_nil_of_length_eq_zero h]; exact List.Perm.refl _
  | m + 1, S, k, h, hk => by
    have hc := ur_pick hk
    have h1 := ur_perm (m := m) (S := S.eraseIdx (k / fac m)) (k := k % fac m) (by rw [List.length_eraseIdx, if_pos (by omega)]; omega) (Nat.mod_lt _ (fac_pos m))
    simp only [ur]
    rw [nth_get S _ (by omega)]
    exact (h1.cons _).trans (er_perm (by omega))
theorem ls_sorted : ∀ {S : List Int} {c : Nat}, S.Pairwise (· < ·) → c < S.length → lsN (nth S c) (S.eraseIdx c) = c
  | [], c, _, h => by simp at h
  | x :: t, 0, hs, _ => by
    rw [List.eraseIdx_cons_zero]
    show lsN x t = 0
    unfold lsN
    rw [List.countP_eq_zero]
    intro y hy
    have := (List.pairwise_cons.1 hs).1 y hy
    simp; omega
  | x :: t, c + 1, hs, h => by
    have hc : c < t.length := by simpa using h
    have e : nth (x :: t) (c + 1) = nth t c := by simp [nth]
    have hx := (List.pairwise_cons.1 hs).1 (nth t c) (nth_mem t c hc)
    rw [List.eraseIdx_cons_succ, e, lsN_cons, ls_sorted (List.pairwise_cons.1 hs).2 hc, if_pos hx]
theorem rk_ur : ∀ {m : Nat} {S : List Int} {k : Nat}, S.length = m → S.Pairwise (· < ·) → k < fac m → rk (ur m S k) = k
  | 0, S, k, _, _, hk => by simp only [fac] at hk; simp only [ur, rk]; omega
  | m + 1, S, k, h, hs, hk => by
    have hc := ur_pick hk
    have hl : (S.eraseIdx (k / fac m)).length = m := by rw [List.length_eraseIdx, if_pos (by omega)]; omega
    have h1 := ur_perm (S := S.eraseIdx (k / fac m)) (k := k % fac m) hl (Nat.mod_lt _ (fac_pos m))
    have h2 := rk_ur (S := S.eraseIdx (k / fac m)) (k := k % fac m) hl (hs.sublist (List.eraseIdx_sublist _ _)) (Nat.mod_lt _ (fac_pos m))
    simp only [ur, rk]
    rw [h2, ur_length, lsN_perm h1, ls_sorted hs (by omega), Nat.mul_comm]
    exact Nat.div_add_mod _ _
theorem ur_rk {S p : List Int} (hp : p.Perm S) (hs : S.Pairwise (· < ·)) : ur p.length S (rk p) = p := by
  have hl := hp.length_eq
  have h1 := rk_ur hl.symm hs (rk_lt p)
  have h2 := (ur_perm hl.symm (rk_lt p)).trans hp.symm
  exact (rk_cmp h2).2.2 ((rk_cmp h2).2.1.1 h1)
/-! ### Orders -/
theorem idn_sorted (n : Nat) : (idn n).Pairwise (· < ·) := by
  unfold idn
  rw [List.pairwise_map]
  exact (List.pairwise_lt_range (n := n)).imp fun h => by omega
theorem ord_perm {p : List Int} (hp : IsOrd p) : p.Perm (idn p.length) := by
  have h := (nats_perm hp).map fun i : Nat => (i : Int)
  have e : (nats p).map (fun i : Nat => (i : Int)) = p := by
    unfold nats
    rw [List.map_map]
    refine (List.map_congr_left fun x hx => ?_).trans (List.map_id p)
    obtain ⟨j, hj, rfl⟩ := List.mem_iff_getElem.1 hx
    rw [← nth_get p j hj]
    exact (ord_at hp hj).2
  rw [e] at h
  exact h
theorem perm_ord {p : List Int} {n : Nat} (h : p.Perm (idn n)) : IsOrd p ∧ p.length = n := by
  have hl : p.length = n := by rw [h.length_eq, idn_length]
  have hn : p.Nodup := h.nodup_iff.2 ((idn_sorted n).imp fun h e => by omega)
  refine ⟨⟨fun j hj => ?_, fun i j hij hj e => ?_⟩, hl⟩
  · have := h.mem_iff.1 (nth_mem p j hj)
    unfold idn at this
    obtain ⟨k, hk, e⟩ := List.mem_map.1 this
    rw [← e]
    have := List.mem_range.1 hk
    omega
  · rw [nth_get p i (by omega), nth_get p j hj] at e
    have := (List.getElem_inj hn).1 e
    omega
theorem ur_ord {n k : Nat} (hk : k < fac n) : IsOrd (ur n (idn n) k) ∧ (ur n (idn n) k).length = n ∧ rk (ur n (idn n) k) = k :=
  ⟨(perm_ord (ur_perm (idn_length n) hk)).1, ur_length _ _ _, rk_ur (idn_length n) (idn_sorted n) hk⟩
theorem ur_back {p : List Int} (hp : IsOrd p) : ur p.length (idn p.length) (rk p) = p := ur_rk (ord_perm hp) (idn_sorted _)
/-- Its rank is less just if it is ahead. -/
theorem rk_ord {p q : List Int} (hp : IsOrd p) (hq : IsOrd q) (hl : p.length = q.length) : (rk p < rk q ↔ cmpL p q < 0) ∧ (rk p = rk q ↔ cmpL p q = 0) := by
  have h := rk_cmp ((ord_perm hp).trans (hl ▸ (ord_perm hq).symm))
  exact ⟨h.1, h.2.1⟩
end Go.Proofs.Ytmbgomljofngnab
