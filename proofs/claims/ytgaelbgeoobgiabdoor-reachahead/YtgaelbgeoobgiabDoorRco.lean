/-
  Plain mathematics of ways: an order in which each is ahead of those that it leads to, or a circle.
-/
import Derived.Test.YtgaelbgeoobgiabDoorRcm
namespace Go.Proofs.YtgaelbgeoobgiabDoor
open Go.RowKit
set_option linter.unusedVariables false

/-- It may be next: it is not done, and all that lead to it are. -/
def rdy (R : Rl) (n : Nat) (l : List Nat) (i : Nat) : Bool := !l.contains i && (List.range n).all fun j => l.contains j || !R j i
def nxi (R : Rl) (n : Nat) (l : List Nat) : Nat := lea (rdy R n l) n
def tp (R : Rl) (n : Nat) : Nat → List Nat → Option (List Nat)
  | 0, l => some l
  | k + 1, l => if nxi R n l < n then tp R n k (l ++ [nxi R n l]) else none
section
variable {R : Rl} {n : Nat}
theorem rdy_iff {l : List Nat} {i : Nat} : rdy R n l i = true ↔ i ∉ l ∧ ∀ j, j < n → R j i = true → j ∈ l := by
  unfold rdy
  rw [Bool.and_eq_true, Bool.not_eq_true', List.all_eq_true]
  have e1 : l.contains i = false ↔ i ∉ l := by rw [← Bool.not_eq_true, List.contains_iff_mem]
  rw [e1]
  refine ⟨fun ⟨h1, h2⟩ => ⟨h1, fun j hj hr => ?_⟩, fun ⟨h1, h2⟩ => ⟨h1, fun j hj => ?_⟩⟩
  · have := h2 j (List.mem_range.2 hj)
    rw [hr, Bool.or_eq_true] at this
    rcases this with h | h
    · exact List.contains_iff_mem.1 h
    · exact absurd h (by decide)
  · rw [Bool.or_eq_true]
    by_cases hr : R j i = true
    · exact .inl (List.contains_iff_mem.2 (h2 j (List.mem_range.1 hj) hr))
    · exact .inr (by rw [Bool.not_eq_true']; simpa using hr)
/-- Each once, and behind all that lead to it. -/
structure Ahd (R : Rl) (n : Nat) (l : List Nat) : Prop where
  once : l.Nodup
  low : ∀ x, x ∈ l → x < n
  back : ∀ l1 x l2, l = l1 ++ x :: l2 → ∀ j, j < n → R j x = true → j ∈ l1
theorem Ahd.nil : Ahd R n [] := ⟨List.nodup_nil, fun x hx => absurd hx (by simp), fun l1 x l2 e => absurd e (by simp)⟩
theorem Ahd.snoc {l : List Nat} (h : Ahd R n l) {x : Nat} (hx : x < n) (hr : rdy R n l x = true) : Ahd R n (l ++ [x]) := by
  obtain ⟨h1, h2⟩ := rdy_iff.1 hr
  refine ⟨?_, fun y hy => ?_, fun l1 y l2 e j hj hjr => ?_⟩
  · rw [List.nodup_append]
    exact ⟨h.once, by simp, fun a ha b hb e => h1 (by rw [← List.mem_singleton.1 hb, ← e]; exact ha)⟩
  · rcases List.mem_append.1 hy with hy | hy
    · exact h.low y hy
    · rw [List.mem_singleton.1 hy]; exact hx
  · rcases List.eq_nil_or_concat l2 with e2 | ⟨l3, z, e2⟩
    · subst e2
      have e3 := List.append_inj' e rfl
      obtain ⟨e4, e5⟩ := e3
      have e6 : x = y := by simpa using e5
      rw [← e4]
      exact h2 j hj (e6 ▸ hjr)
    · have e2' : l2 = l3 ++ [z] := by rw [e2, List.concat_eq_append]
      subst e2'
      have e3 : l ++ [x] = (l1 ++ y :: l3) ++ [z] := by rw [e]; simp
      have e4 := (List.append_inj' e3 rfl).1
      exact h.back l1 y l3 e4 j hj hjr
/-- As far as it goes. -/
theorem tp_some : ∀ {k : Nat} {l p : List Nat}, Ahd R n l → tp R n k l = some p → Ahd R n p ∧ p.length = l.length + k
  | 0, l, p, h, e => by
    have : l = p := by simpa [tp] using e
    subst this
    exact ⟨h, rfl⟩
  | k + 1, l, p, h, e => by
    rw [tp] at e
    by_cases hx : nxi R n l < n
    · rw [if_pos hx] at e
      have hr := (lea_spec (rdy R n l) n).2.1 hx
      have := tp_some (h.snoc hx hr) e
      exact ⟨this.1, by rw [this.2, List.length_append]; simp; omega⟩
    · rw [if_neg hx] at e
      exact absurd e (by simp)
/-- A way leads onward. -/
theorem Ahd.way {p : List Nat} (h : Ahd R n p) : ∀ {k a b : Nat}, a < n → wk R n (k + 1) a b = true → ∀ l1 l2, p = l1 ++ b :: l2 → a ∈ l1
  | 0, a, b, ha, hw, l1, l2, e => by
    obtain ⟨m, hm, h1, h2⟩ := wk_succ.1 hw
    rw [wk_zero.1 h2] at h1
    exact h.back l1 b l2 e a ha h1
  | k + 1, a, b, ha, hw, l1, l2, e => by
    obtain ⟨m, h1, h2, h3⟩ := wk_last hw
    have hm := h.back l1 b l2 e m (wk_in h1) h2
    obtain ⟨u, v, e2⟩ := List.append_of_mem hm
    have := h.way ha h1 u (v ++ b :: l2) (by rw [e, e2]; simp)
    rw [e2]
    exact List.mem_append_left _ this
theorem Ahd.none {p : List Nat} (h : Ahd R n p) {b : Nat} (hb : b ∈ p) : ¬ clB R n b b = true := fun hc => by
  obtain ⟨k, hw⟩ := cl_iff.1 hc
  obtain ⟨u, v, e⟩ := List.append_of_mem hb
  have h1 := h.way (h.low b hb) hw u v e
  have h2 := h.once
  rw [e, List.nodup_append] at h2
  exact h2.2.2 b h1 b (by simp) rfl
theorem Ahd.less {p : List Nat} (h : Ahd R n p) {i j : Nat} (hi : i < p.length) (hj : j < p.length) (hc : clB R n (p.getD i 0) (p.getD j 0) = true) : i < j := by
  obtain ⟨k, hw⟩ := cl_iff.1 hc
  have ei : p.getD i 0 = p[i] := by simp [hi]
  have ej : p.getD j 0 = p[j] := by simp [hj]
  rw [ei, ej] at hw
  have e : p = p.take j ++ p[j] :: p.drop (j + 1) := by rw [← List.drop_eq_getElem_cons hj, List.take_append_drop]
  have h1 := h.way (h.low _ (List.getElem_mem hi)) hw _ _ e
  obtain ⟨q, hq, e2⟩ := List.mem_iff_getElem.1 h1
  rw [List.length_take] at hq
  rw [List.getElem_take] at e2
  have := (List.getElem_inj h.once).1 e2
  omega
/-! ### Where it stops there is a circle -/
theorem ct_add {p q : Nat → Bool} {x : Nat} : ∀ {n : Nat}, (∀ j, j < n → p j = true → q j = true ∨ j = x) → ctB p n ≤ ctB q n + 1
  | 0, _ => by rw [ctB]; omega
  | n + 1, h => by
    rw [ctB, ctB]
    by_cases e : x = n
    · subst e
      have := ctB_mono (p := p) (q := q) (n := x) fun j hj hp => (h j (by omega) hp).resolve_right (by omega)
      split <;> split <;> omega
    · have ih := ct_add (p := p) (q := q) (x := x) (n := n) fun j hj => h j (by omega)
      by_cases hp : p n = true
      · have := (h n (by omega) hp).resolve_right (fun e2 => e e2.symm)
        rw [if_pos hp, if_pos this]; omega
      · rw [if_neg hp]; split <;> omega
theorem ct_list (n : Nat) : ∀ l : List Nat, ctB (fun i => l.contains i) n ≤ l.length
  | [] => by
    have : ∀ n, ctB (fun i => ([] : List Nat).contains i) n = 0 := fun n => by
      induction n with
      | zero => rfl
      | succ n ih => rw [ctB, ih]; rfl
    rw [this]; exact Nat.zero_le _
  | x :: l => by
    have ih := ct_list n l
    have := ct_add (p := fun i => (x :: l).contains i) (q := fun i => l.contains i) (x := x) (n := n) fun j _ hp => by
      rcases List.mem_cons.1 (List.contains_iff_mem.1 hp) with e | e
      · exact .inr e
      · exact .inl (List.contains_iff_mem.2 e)
    rw [List.length_cons]
    omega
theorem ct_all {p : Nat → Bool} : ∀ {n : Nat}, (∀ j, j < n → p j = true) → ctB p n = n
  | 0, _ => rfl
  | n + 1, h => by rw [ctB, ct_all fun j hj => h j (by omega), if_pos (h n (by omega))]
theorem left_one {l : List Nat} (h : l.length < n) : ∃ i, i < n ∧ i ∉ l := Classical.byContradiction fun hn => by
  have h1 := ct_all (p := fun i => l.contains i) (n := n) fun j hj => Classical.byContradiction fun h2 => hn ⟨j, hj, fun hm => h2 (List.contains_iff_mem.2 hm)⟩
  have h2 := ct_list n l
  omega
theorem circle {l : List Nat} (hl : l.length < n) (hs : ∀ i, i < n → ¬ rdy R n l i = true) : ∃ i, i < n ∧ clB R n i i = true := Classical.byContradiction fun hn => by
  have hpred : ∀ i, i < n → i ∉ l → ∃ j, j < n ∧ R j i = true ∧ j ∉ l := fun i hi hil => Classical.byContradiction fun h => hs i hi (rdy_iff.2 ⟨hil, fun j hj hr => Classical.byContradiction fun h2 => h ⟨j, hj, hr, h2⟩⟩)
  have key : ∀ m i, i < n → i ∉ l → ctB (fun j => !l.contains j && clB R n j i) n ≤ m → False := fun m => by
    induction m with
    | zero =>
      intro i hi hil hc
      obtain ⟨j, hj, hr, hjl⟩ := hpred i hi hil
      have : 1 ≤ ctB (fun j => !l.contains j && clB R n j i) n := ctB_pos hj (by
        show (!l.contains j && clB R n j i) = true
        rw [cl_step hi hr, Bool.and_true, Bool.not_eq_true', ← Bool.not_eq_true, List.contains_iff_mem]
        exact hjl)
      omega
    | succ m ih =>
      intro i hi hil hc
      obtain ⟨j, hj, hr, hjl⟩ := hpred i hi hil
      refine ih j hj hjl ?_
      have := ctB_more (p := fun k => !l.contains k && clB R n k j) (q := fun k => !l.contains k && clB R n k i) (n := n) (fun k _ hp => by
        rw [Bool.and_eq_true] at hp ⊢
        exact ⟨hp.1, cl_trans hp.2 (cl_step hi hr)⟩) hj (by
        show (!l.contains j && clB R n j i) = true
        rw [cl_step hi hr, Bool.and_true, Bool.not_eq_true', ← Bool.not_eq_true, List.contains_iff_mem]
        exact hjl) (fun hp => by
        rw [Bool.and_eq_true] at hp
        exact hn ⟨j, hj, hp.2⟩)
      omega
  obtain ⟨i, hi, hil⟩ := left_one hl
  exact key _ i hi hil (Nat.le_refl _)
theorem tp_none : ∀ {k : Nat} {l : List Nat}, l.length + k = n → tp R n k l = none → ∃ i, i < n ∧ clB R n i i = true
  | 0, l, _, e => absurd e (by simp [tp])
  | k + 1, l, hl, e => by
    rw [tp] at e
    by_cases hx : nxi R n l < n
    · rw [if_pos hx] at e
      exact tp_none (by rw [List.length_append]; simp; omega) e
    · have h := lea_spec (rdy R n l) n
      exact circle (l := l) (by omega) fun i hi => h.2.2 i (by unfold nxi at hx; omega)
end
end Go.Proofs.YtgaelbgeoobgiabDoor
