/-
  Plain mathematics of ways: what tells the least numbers of steps; things met one after the other; steps asked for again and again.
-/
import Derived.Test.YtgaelbgeoobgiabBase
import Derived.Test.YtgaelbgeoobgiabRcm
namespace Go.Proofs.Ytgaelbgeoobgiab
open Go.RowKit
set_option linter.unusedVariables false

def pti (t : Nat → Int) (j : Nat) (x : Int) : Nat → Int := fun a => if a = j then x else t a
theorem pti_at (t : Nat → Int) (j : Nat) (x : Int) : pti t j x j = x := if_pos rfl
theorem pti_ne (t : Nat → Int) {j a : Nat} (x : Int) (h : a ≠ j) : pti t j x a = t a := if_neg h
theorem pti_nth {T : List Int} {j : Nat} (h : j < T.length) (x : Int) : nth (T.set j x) = pti (nth T) j x := by
  funext a
  rw [nth_set _ _ _ _ h]
  rfl
section
variable {R : Rl} {n i : Nat} {t : Nat → Int}
theorem far_yes {j : Nat} (hi : i < n) (h0 : 0 ≤ t j) (h1 : wk R n (t j).toNat i j = true) (h2 : ∀ k, wk R n k i j = true → t j ≤ k) : t j = far R n i j := by
  have hd := ds_ex hi h1
  have hs := ds_spec hd
  have a := h2 _ hs.1
  have b := hs.2 _ h1
  unfold far
  rw [if_pos hd]
  omega
theorem far_no {j : Nat} (h0 : t j = -1) (h2 : ∀ k, wk R n k i j = true → 0 ≤ t j) : t j = far R n i j := by
  unfold far
  by_cases hd : dsB R n i j < n
  · have := h2 _ (ds_spec hd).1
    omega
  · rw [if_neg hd]; exact h0
/-- What tells the least numbers of steps. -/
theorem far_cert (hi : i < n) (h0 : t i = 0) (h1 : ∀ j, j < n → t j = -1 ∨ (0 ≤ t j ∧ wk R n (t j).toNat i j = true)) (h2 : ∀ a, a < n → 0 ≤ t a → ∀ b, b < n → R a b = true → 0 ≤ t b ∧ t b ≤ t a + 1) {j : Nat} (hj : j < n) : t j = far R n i j := by
  have key : ∀ k j, wk R n k i j = true → 0 ≤ t j ∧ t j ≤ k := fun k => by
    induction k with
    | zero => intro j h; rw [← wk_zero.1 h, h0]; exact ⟨Int.le_refl _, Int.le_refl _⟩
    | succ k ih =>
      intro j h
      obtain ⟨m, h3, h4, h5⟩ := wk_last h
      have h6 := ih m h3
      have h7 := h2 m (wk_mid hi h3) h6.1 j h5 h4
      exact ⟨h7.1, by omega⟩
  rcases h1 j hj with h | h
  · exact far_no h fun k hk => (key k j hk).1
  · exact far_yes hi h.1 h.2 fun k hk => (key k j hk).2
/-! ### Things met one after the other -/
/-- The things met, each with its number of steps; k of them are done, and of the next one the steps to those below c. -/
structure Bf (R : Rl) (n i : Nat) (met : List Nat) (t : Nat → Int) (k c : Nat) : Prop where
  once : met.Nodup
  low : ∀ x, x ∈ met → x < n
  frs : t i = 0
  has : 0 < met.length
  tel : ∀ j, j < n → (j ∈ met ∧ 0 ≤ t j ∧ wk R n (t j).toNat i j = true) ∨ (j ∉ met ∧ t j = -1)
  bnd : ∀ b, b < met.length → t (met.getD b 0) ≤ b
  ris : ∀ a b, a ≤ b → b < met.length → t (met.getD a 0) ≤ t (met.getD b 0)
  top : ∀ b, b < met.length → k < met.length → t (met.getD b 0) ≤ t (met.getD k 0) + 1
  don : ∀ a, a < k → a < met.length → ∀ j, j < n → R (met.getD a 0) j = true → 0 ≤ t j ∧ t j ≤ t (met.getD a 0) + 1
  cur : k < met.length → ∀ j, j < c → j < n → R (met.getD k 0) j = true → 0 ≤ t j ∧ t j ≤ t (met.getD k 0) + 1
theorem getD_mem {l : List Nat} {k : Nat} (h : k < l.length) : l.getD k 0 ∈ l := by
  rw [List.getD_eq_getElem?_getD, List.getElem?_eq_getElem h]
  exact List.getElem_mem h
theorem mem_getD {l : List Nat} {x : Nat} (h : x ∈ l) : ∃ k, k < l.length ∧ l.getD k 0 = x := by
  obtain ⟨k, hk, e⟩ := List.mem_iff_getElem.1 h
  exact ⟨k, hk, by rw [List.getD_eq_getElem?_getD, List.getElem?_eq_getElem hk]; exact e⟩
theorem getD_app {l : List Nat} {x k : Nat} (h : k < l.length) : (l ++ [x]).getD k 0 = l.getD k 0 := by
  rw [List.getD_eq_getElem?_getD, List.getD_eq_getElem?_getD, List.getElem?_append_left h]
theorem getD_new {l : List Nat} {x : Nat} : (l ++ [x]).getD l.length 0 = x := by
  rw [List.getD_eq_getElem?_getD, List.getElem?_append_right (Nat.le_refl _), Nat.sub_self]; rfl
theorem nodup_le {n : Nat} : ∀ {l : List Nat}, l.Nodup → (∀ x, x ∈ l → x < n) → l.length ≤ n := fun {l} h1 h2 => by
  have h3 : ∀ (l : List Nat), l.Nodup → l.length ≤ ctB (fun i => l.contains i) n + (l.length - ctB (fun i => l.contains i) n) := fun l _ => by omega
  have key : ∀ l : List Nat, l.Nodup → (∀ x, x ∈ l → x < n) → l.length ≤ ctB (fun i => l.contains i) n := fun l => by
    induction l with
    | nil => intro _ _; exact Nat.zero_le _
    | cons x l ih =>
      intro h h2
      rw [List.nodup_cons] at h
      have h4 := ih h.2 fun y hy => h2 y (List.mem_cons_of_mem _ hy)
      have h5 := ctB_more (p := fun i => l.contains i) (q := fun i => (x :: l).contains i) (n := n) (fun j _ hj => List.contains_iff_mem.2 (List.mem_cons_of_mem _ (List.contains_iff_mem.1 hj))) (h2 x (List.mem_cons_self ..)) (List.contains_iff_mem.2 (List.mem_cons_self ..)) (fun hx => h.1 (List.contains_iff_mem.1 hx))
      rw [List.length_cons]
      omega
  have := key l h1 h2
  have := ctB_le (fun i => l.contains i) n
  omega
theorem Bf.len {met : List Nat} {k c : Nat} (h : Bf R n i met t k c) : met.length ≤ n := nodup_le h.once h.low
theorem Bf.start (hi : i < n) : Bf R n i [i] (pti (fun _ => -1) i 0) 0 0 where
  once := by simp
  low := fun x hx => by rw [List.mem_singleton.1 hx]; exact hi
  frs := pti_at _ _ _
  has := by simp
  tel := fun j hj => by
    by_cases e : j = i
    · subst e
      exact .inl ⟨by simp, by rw [pti_at]; exact Int.le_refl _, by rw [pti_at]; exact wk_zero.2 rfl⟩
    · exact .inr ⟨by simpa using e, pti_ne _ _ e⟩
  bnd := fun b hb => by
    have : b = 0 := by simpa using hb
    subst this
    show pti _ i 0 i ≤ _
    rw [pti_at]; exact Int.le_refl _
  ris := fun a b h hb => by
    have : b = 0 := by simpa using hb
    subst this
    have : a = 0 := by omega
    subst this
    exact Int.le_refl _
  top := fun b hb _ => by
    have : b = 0 := by simpa using hb
    subst this
    show pti _ i 0 i ≤ pti _ i 0 i + 1
    omega
  don := fun a h => absurd h (Nat.not_lt_zero _)
  cur := fun _ j h => absurd h (Nat.not_lt_zero _)
theorem Bf.mem {met : List Nat} {k c j : Nat} (h : Bf R n i met t k c) (hj : j < n) (h0 : 0 ≤ t j) : j ∈ met := by
  rcases h.tel j hj with h1 | h1
  · exact h1.1
  · have := h1.2; omega
theorem Bf.pos {met : List Nat} {k c b : Nat} (h : Bf R n i met t k c) (hb : b < met.length) : met.getD b 0 < n ∧ 0 ≤ t (met.getD b 0) := by
  have h0 := getD_mem hb
  have h1 := h.low _ h0
  refine ⟨h1, ?_⟩
  rcases h.tel _ h1 with h2 | h2
  · exact h2.2.1
  · exact absurd h0 h2.1
theorem Bf.skip {met : List Nat} {k c : Nat} (h : Bf R n i met t k c) (hs : ¬ (R (met.getD k 0) c = true ∧ t c < 0)) : Bf R n i met t k (c + 1) :=
  { h with
    cur := fun hk j hj hn hr => by
      by_cases e : j = c
      · subst e
        have h0 : 0 ≤ t j := Classical.byContradiction fun h1 => hs ⟨hr, by omega⟩
        obtain ⟨b, hb, e⟩ := mem_getD (h.mem hn h0)
        refine ⟨h0, ?_⟩
        have := h.top b hb hk
        rwa [e] at this
      · exact h.cur hk j (by omega) hn hr }
theorem Bf.add {met : List Nat} {k c : Nat} (h : Bf R n i met t k c) (hk : k < met.length) (hc : c < n) (hr : R (met.getD k 0) c = true) (h0 : t c < 0) : Bf R n i (met ++ [c]) (pti t c (t (met.getD k 0) + 1)) k (c + 1) := by
  obtain ⟨p1, p2⟩ := h.pos hk
  have hcm : c ∉ met := fun hm => by
    obtain ⟨b, hb, e⟩ := mem_getD hm
    have := (h.pos hb).2
    rw [e] at this
    omega
  have hne : ∀ b, b < met.length → met.getD b 0 ≠ c := fun b hb e => hcm (e ▸ getD_mem hb)
  have old : ∀ b, b < met.length → pti t c (t (met.getD k 0) + 1) ((met ++ [c]).getD b 0) = t (met.getD b 0) := fun b hb => by rw [getD_app hb, pti_ne _ _ (hne b hb)]
  have new : pti t c (t (met.getD k 0) + 1) ((met ++ [c]).getD met.length 0) = t (met.getD k 0) + 1 := by rw [getD_new, pti_at]
  have two : ∀ b, b < (met ++ [c]).length → b < met.length ∨ b = met.length := fun b hb => by
    rw [List.length_append] at hb
    simp only [List.length_cons, List.length_nil] at hb
    omega
  have hbk := h.bnd k hk
  refine ⟨?_, fun x hx => ?_, ?_, ?_, fun j hj => ?_, fun b hb => ?_, fun a b hab hb => ?_, fun b hb _ => ?_, fun a ha _ j hj hrj => ?_, fun _ j hj hn hrj => ?_⟩
  · rw [List.nodup_append]
    exact ⟨h.once, by simp, fun a ha b hb e => hcm (by rw [← List.mem_singleton.1 hb, ← e]; exact ha)⟩
  · rcases List.mem_append.1 hx with hx | hx
    · exact h.low x hx
    · rw [List.mem_singleton.1 hx]; exact hc
  · have := h.frs
    rw [pti_ne]; exact this
    intro e; rw [← e] at h0; omega
  · rw [List.length_append]; have := h.has; omega
  · by_cases e : j = c
    · subst e
      refine .inl ⟨by simp, by rw [pti_at]; omega, ?_⟩
      rw [pti_at]
      rcases h.tel _ p1 with h1 | h1
      · rw [show (t (met.getD k 0) + 1).toNat = (t (met.getD k 0)).toNat + 1 by omega]
        exact wk_snoc hc h1.2.2 hr
      · exact absurd (getD_mem hk) h1.1
    · rcases h.tel j hj with h1 | h1
      · exact .inl ⟨List.mem_append_left _ h1.1, by rw [pti_ne _ _ e]; exact h1.2⟩
      · refine .inr ⟨fun hm => ?_, by rw [pti_ne _ _ e]; exact h1.2⟩
        rcases List.mem_append.1 hm with hm | hm
        · exact h1.1 hm
        · exact e (List.mem_singleton.1 hm)
  · rcases two b hb with hb | hb
    · rw [old b hb]; exact h.bnd b hb
    · subst hb; rw [new]; omega
  · rcases two b hb with hb | hb
    · rw [old b hb, old a (by omega)]; exact h.ris a b hab hb
    · subst hb
      rw [new]
      rcases Nat.lt_or_ge a met.length with ha | ha
      · rw [old a ha]; exact h.top a ha hk
      · rw [show a = met.length by omega, new]; exact Int.le_refl _
  · rw [old k hk]
    rcases two b hb with hb | hb
    · rw [old b hb]; exact h.top b hb hk
    · subst hb; rw [new]; exact Int.le_refl _
  · have ha2 : a < met.length := by omega
    rw [getD_app ha2] at hrj
    rw [old a ha2]
    have := h.don a ha ha2 j hj hrj
    rw [pti_ne]; exact this
    intro e; rw [e] at this; omega
  · rw [getD_app hk] at hrj
    rw [old k hk]
    by_cases e : j = c
    · subst e; rw [pti_at]; exact ⟨by omega, Int.le_refl _⟩
    · rw [pti_ne _ _ e]; exact h.cur hk j (by omega) hn hrj
theorem Bf.next {met : List Nat} {k : Nat} (h : Bf R n i met t k n) (hk : k < met.length) : Bf R n i met t (k + 1) 0 :=
  { h with
    top := fun b hb hk1 => by
      have h1 := h.top b hb hk
      have h2 := h.ris k (k + 1) (by omega) hk1
      omega
    don := fun a ha hal j hj hr => by
      by_cases e : a = k
      · subst e; exact h.cur hk j hj hj hr
      · exact h.don a (by omega) hal j hj hr
    cur := fun _ j hj => absurd hj (Nat.not_lt_zero _) }
theorem Bf.done {met : List Nat} {k c : Nat} (h : Bf R n i met t k c) (hi : i < n) (hk : met.length ≤ k) {j : Nat} (hj : j < n) : t j = far R n i j :=
  far_cert hi h.frs (fun j hj => by
    rcases h.tel j hj with h1 | h1
    · exact .inr h1.2
    · exact .inl h1.2) (fun a ha h0 b hb hr => by
    obtain ⟨q, hq, e⟩ := mem_getD (h.mem ha h0)
    have := h.don q (by omega) hq b hb (by rw [e]; exact hr)
    rwa [e] at this) hj
/-! ### Each step is asked for again and again -/
/-- So many rounds, and in this one the pairs ahead of (a, b); q pairs in all. -/
structure Bl (R : Rl) (n i : Nat) (t : Nat → Int) (r a b q : Nat) : Prop where
  frs : t i = 0
  tel : ∀ j, j < n → t j = -1 ∨ (0 ≤ t j ∧ wk R n (t j).toNat i j = true)
  bnd : ∀ j, j < n → t j ≤ q
  rnd : ∀ k, k ≤ r → ∀ j, j < n → wk R n k i j = true → 0 ≤ t j ∧ t j ≤ k
  cur : ∀ x, x < n → ∀ y, y < n → (x < a ∨ x = a ∧ y < b) → R x y = true → ∀ k, k ≤ r → wk R n k i x = true → 0 ≤ t y ∧ t y ≤ k + 1
theorem Bl.start (hi : i < n) : Bl R n i (pti (fun _ => -1) i 0) 0 0 0 0 where
  frs := pti_at _ _ _
  tel := fun j hj => by
    by_cases e : j = i
    · subst e; exact .inr ⟨by rw [pti_at]; exact Int.le_refl _, by rw [pti_at]; exact wk_zero.2 rfl⟩
    · exact .inl (pti_ne _ _ e)
  bnd := fun j hj => by
    by_cases e : j = i
    · subst e; rw [pti_at]; exact Int.le_refl _
    · rw [pti_ne _ _ e]; decide
  rnd := fun k hk j hj h => by
    have : k = 0 := by omega
    subst this
    rw [← wk_zero.1 h, pti_at]
    exact ⟨Int.le_refl _, Int.le_refl _⟩
  cur := fun x _ y _ h => by omega
theorem Bl.skip {r a b q : Nat} (h : Bl R n i t r a b q) (hs : ¬ (R a b = true ∧ 0 ≤ t a ∧ (t b < 0 ∨ t a + 1 < t b))) : Bl R n i t r a (b + 1) (q + 1) :=
  { h with
    bnd := fun j hj => by have := h.bnd j hj; omega
    cur := fun x hx y hy hp hr k hk hw => by
      by_cases e : x = a ∧ y = b
      · obtain ⟨rfl, rfl⟩ := e
        have h1 := h.rnd k hk x hx hw
        by_cases h2 : t y < 0
        · exact absurd ⟨hr, h1.1, .inl h2⟩ hs
        · by_cases h3 : t x + 1 < t y
          · exact absurd ⟨hr, h1.1, .inr h3⟩ hs
          · omega
      · exact h.cur x hx y hy (by omega) hr k hk hw }
theorem Bl.put {r a b q : Nat} (h : Bl R n i t r a b q) (ha : a < n) (hb : b < n) (hr : R a b = true) (h0 : 0 ≤ t a) (h1 : t b < 0 ∨ t a + 1 < t b) : Bl R n i (pti t b (t a + 1)) r a (b + 1) (q + 1) := by
  have hab : a ≠ b := fun e => by rw [e] at h0 h1; omega
  have hbi : i ≠ b := fun e => by have := h.frs; rw [e] at this; rw [this] at h1; omega
  refine ⟨by rw [pti_ne _ _ hbi]; exact h.frs, fun j hj => ?_, fun j hj => ?_, fun k hk j hj hw => ?_, fun x hx y hy hp hr2 k hk hw => ?_⟩
  · by_cases e : j = b
    · subst e
      rw [pti_at]
      refine .inr ⟨by omega, ?_⟩
      rcases h.tel a ha with h2 | h2
      · omega
      · rw [show (t a + 1).toNat = (t a).toNat + 1 by omega]
        exact wk_snoc hb h2.2 hr
    · rw [pti_ne _ _ e]; exact h.tel j hj
  · by_cases e : j = b
    · subst e; rw [pti_at]; have := h.bnd a ha; omega
    · rw [pti_ne _ _ e]; have := h.bnd j hj; omega
  · have h2 := h.rnd k hk j hj hw
    by_cases e : j = b
    · subst e; rw [pti_at]; omega
    · rw [pti_ne _ _ e]; exact h2
  · by_cases e : x = a ∧ y = b
    · obtain ⟨rfl, rfl⟩ := e
      have h2 := h.rnd k hk x hx hw
      rw [pti_at]; omega
    · have h2 := h.cur x hx y hy (by omega) hr2 k hk hw
      by_cases e2 : y = b
      · subst e2; rw [pti_at]; omega
      · rw [pti_ne _ _ e2]; exact h2
theorem Bl.row {r a q : Nat} (h : Bl R n i t r a n q) : Bl R n i t r (a + 1) 0 q :=
  { h with
    cur := fun x hx y hy hp => h.cur x hx y hy (by omega) }
theorem Bl.next {r q : Nat} (hi : i < n) (h : Bl R n i t r n 0 q) : Bl R n i t (r + 1) 0 0 q :=
  { h with
    rnd := fun k hk j hj hw => by
      cases k with
      | zero => rw [← wk_zero.1 hw, h.frs]; exact ⟨Int.le_refl _, Int.le_refl _⟩
      | succ k =>
        obtain ⟨m, h1, h2, h3⟩ := wk_last hw
        have hm := wk_mid hi h1
        have := h.cur m hm j hj (by omega) h2 k (by omega) h1
        omega
    cur := fun x _ y _ hp => by omega }
theorem Bl.done {a b q : Nat} (hi : i < n) (h : Bl R n i t n a b q) {j : Nat} (hj : j < n) : t j = far R n i j := by
  rcases h.tel j hj with h1 | h1
  · exact far_no h1 fun k hk => by
      obtain ⟨l, hl, h2⟩ := wk_short hi hk
      exact (h.rnd l (by omega) j hj h2).1
  · refine far_yes hi h1.1 h1.2 fun k hk => ?_
    have hd := ds_ex hi hk
    have hs := ds_spec hd
    have := (h.rnd _ (by omega) j hj hs.1).2
    have := hs.2 k hk
    omega
end
end Go.Proofs.Ytgaelbgeoobgiab
