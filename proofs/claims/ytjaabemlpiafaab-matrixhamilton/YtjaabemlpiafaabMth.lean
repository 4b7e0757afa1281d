/-
  Plain mathematics of the characteristic: Cayley and Hamilton; Sylvester; the diagonal's sum; the determinant.
-/
import Derived.Test.YtjaabemlpiafaabMtc
namespace Go.Proofs.Ytjaabemlpiafaab
open Go.RowKit
set_option linter.unusedVariables false

/-- A matrix so many times. -/
def pwM (n : Nat) (A : Mx) : Nat → Mx
  | 0 => un
  | k + 1 => mm n (pwM n A k) A
theorem pwM_add (n : Nat) (A : Mx) (j : Nat) : ∀ k, ∀ i, i < n → ∀ l, l < n → mm n (pwM n A j) (pwM n A k) i l = pwM n A (j + k) i l
  | 0, i, hi, l, hl => un_mm _ i hl
  | k + 1, i, hi, l, hl => by
    have ih := pwM_add n A j k
    show mm n (pwM n A j) (mm n (pwM n A k) A) i l = mm n (pwM n A (j + k)) A i l
    rw [← mm_assoc]
    exact mm_ext ih (fun _ _ _ _ => rfl) i hi l hl
theorem pwM_one (n : Nat) (A : Mx) {i l : Nat} (hi : i < n) : pwM n A 1 i l = A i l := mm_un A hi l
/-- Sums of polynomials, as lists. -/
def psm : Nat → (Nat → List Int) → List Int
  | 0, _ => []
  | n + 1, g => pad (psm n g) (g n)
theorem ev_psm (g : Nat → List Int) (x : Int) : ∀ n, ev (psm n g) x = sm n fun i => ev (g i) x
  | 0 => rfl
  | n + 1 => by rw [psm, ev_pad, ev_psm g x n, sm]
theorem cf_psm (g : Nat → List Int) (t : Nat) : ∀ n, cf (psm n g) t = sm n fun i => cf (g i) t
  | 0 => cf_nil t
  | n + 1 => by rw [psm, cf_pad, cf_psm g t n, sm]
theorem bnd (f : Nat → Nat) : ∀ n, ∃ T, ∀ i, i < n → f i ≤ T
  | 0 => ⟨0, fun i hi => by omega⟩
  | n + 1 => by
    obtain ⟨T, h⟩ := bnd f n
    exact ⟨T + f n, fun i hi => by
      by_cases e : i = n
      · subst e; omega
      · have := h i (by omega); omega⟩
theorem bnd2 (f : Nat → Nat → Nat) (n : Nat) : ∃ T, ∀ i, i < n → ∀ j, j < n → f i j ≤ T := by
  have h : ∀ i, ∃ T, ∀ j, j < n → f i j ≤ T := fun i => bnd (f i) n
  obtain ⟨T, hT⟩ := bnd (fun i => Classical.choose (h i)) n
  exact ⟨T, fun i hi j hj => Nat.le_trans (Classical.choose_spec (h i) j hj) (hT i hi)⟩
theorem poly_xI (A : Mx) (i j : Nat) : Poly fun x => xI x A i j := by
  have e : (fun x => xI x A i j) = fun x => un i j * x + -A i j := funext fun x => by unfold xI; rw [Int.mul_comm]; omega
  rw [e]
  exact (Poly.id.scale (un i j)).add (Poly.const _)
theorem poly_ad (m : Nat) (A : Mx) (i j : Nat) : Poly fun x => ad m (xI x A) i j := by
  have h : Poly fun x => dt m (mnr j i (xI x A)) := Poly.dt (M := fun x => mnr j i (xI x A)) fun r _ c _ => poly_xI A _ _
  exact h.scale (sg (i + j))
/-- Cayley and Hamilton. -/
theorem hamilton (n : Nat) (A : Mx) {i k : Nat} (hi : i < n) (hk : k < n) : (sm (n + 1) fun t => chc n A (n - t) * pwM n A t i k) = 0 := by
  obtain ⟨m, rfl⟩ : ∃ m, n = m + 1 := ⟨n - 1, by omega⟩
  obtain ⟨N, hN⟩ : ∃ N, N = m + 1 := ⟨_, rfl⟩
  rw [← hN] at hi hk ⊢
  obtain ⟨l, hl⟩ : ∃ l : Nat → Nat → List Int, ∀ i j x, ad m (xI x A) i j = ev (l i j) x := ⟨fun i j => Classical.choose (poly_ad m A i j), fun i j x => Classical.choose_spec (poly_ad m A i j) x⟩
  obtain ⟨c, hc⟩ : ∃ c : Nat → Int, ∀ t, c t = if t < N + 1 then chc N A (N - t) else 0 := ⟨_, fun t => rfl⟩
  obtain ⟨b, hb⟩ : ∃ b : Nat → Mx, ∀ t i k, b t i k = cf (l i k) t := ⟨fun t i k => cf (l i k) t, fun _ _ _ => rfl⟩
  obtain ⟨b', hb'⟩ : ∃ b' : Nat → Mx, ∀ t i k, b' t i k = cf (0 :: l i k) t := ⟨fun t i k => cf (0 :: l i k) t, fun _ _ _ => rfl⟩
  have key : ∀ i, i < N → ∀ k, k < N → ∀ t, b' t i k - mm N A (b t) i k = c t * un i k := fun i hi k hk t => by
    have h1 : ∀ x, ev (pad (0 :: l i k) (psm N fun j => psc (-A i j) (l j k))) x = ev (psc (un i k) ((List.range (N + 1)).map fun t => chc N A (N - t))) x := fun x => by
      rw [ev_pad, ev_psm, ev_psc, ev_sum, ← dt_char]
      have h2 := ad_right m (xI x A) (i := i) (k := k) (by omega) (by omega)
      rw [← hN] at h2
      have h3 : mm N (xI x A) (ad m (xI x A)) i k = x * ev (l i k) x + sm N fun j => ev (psc (-A i j) (l j k)) x := by
        have e : (fun j => xI x A i j * ad m (xI x A) j k) = fun j => x * (un i j * ev (l j k) x) + ev (psc (-A i j) (l j k)) x := funext fun j => by
          rw [hl, ev_psc]
          unfold xI
          generalize ev (l j k) x = y
          generalize un i j = z
          generalize A i j = w
          grind
        show (sm N fun j => xI x A i j * ad m (xI x A) j k) = _
        rw [e, sm_lin, sm_at (p := i) hi fun j _ hne => by rw [show un i j = 0 from one_ne hne, Int.zero_mul], show un i i = 1 from one_at i, Int.one_mul]
      rw [h3] at h2
      rw [ev, Int.zero_add, h2]
      by_cases e : i = k
      · subst e; rw [if_pos rfl, show un i i = 1 from one_at i, Int.one_mul]
      · rw [if_neg e, show un i k = 0 from one_ne (fun e2 => e e2.symm), Int.zero_mul]
    have h2 := ev_same 0 (fun x _ => h1 x) t
    rw [cf_pad, cf_psm, cf_psc, cf_sum, ← hb', ← hc] at h2
    have e : (fun j => cf (psc (-A i j) (l j k)) t) = fun j => -(A i j * b t j k) := funext fun j => by rw [cf_psc, hb, Int.neg_mul]
    rw [e, sm_neg, Int.mul_comm] at h2
    unfold mm
    omega
  have step : ∀ t, c t * pwM N A t i k = mm N (pwM N A t) (b' t) i k - mm N (pwM N A (t + 1)) (b' (t + 1)) i k := fun t => by
    have e1 : mm N (pwM N A (t + 1)) (b' (t + 1)) i k = mm N (pwM N A t) (mm N A (b t)) i k := by
      rw [← mm_assoc]
      exact sm_congr fun j hj => by rw [hb', cf_succ, hb]; rfl
    rw [e1]
    unfold mm
    have e2 : (sm N fun j => pwM N A t i j * b' t j k) - (sm N fun j => pwM N A t i j * mm N A (b t) j k) = sm N fun j => pwM N A t i j * (c t * un j k) := by
      have : (fun j => pwM N A t i j * b' t j k) = fun j => pwM N A t i j * (b' t j k - mm N A (b t) j k) + pwM N A t i j * mm N A (b t) j k := funext fun j => by rw [← Int.mul_add]; congr 1; omega
      rw [this, sm_add (fun j => pwM N A t i j * (b' t j k - mm N A (b t) j k))]
      have h3 : (sm N fun j => pwM N A t i j * (b' t j k - mm N A (b t) j k)) = sm N fun j => pwM N A t i j * (c t * un j k) := sm_congr fun j hj => by rw [key j hj k hk t]
      omega
    have e3 : (sm N fun j => pwM N A t i j * (c t * un j k)) = c t * pwM N A t i k := by
      rw [sm_at (p := k) hk fun j _ hne => by rw [show un j k = 0 from one_ne (fun e => hne e.symm), Int.mul_zero, Int.mul_zero], show un k k = 1 from one_at k, Int.mul_one, Int.mul_comm]
    exact (e2.trans e3).symm
  have tele : ∀ T, (sm T fun t => c t * pwM N A t i k) = -mm N (pwM N A T) (b' T) i k := fun T => by
    induction T with
    | zero =>
      have : mm N (pwM N A 0) (b' 0) i k = 0 := sm_zero fun j _ => by rw [hb', cf_zero, Int.mul_zero]
      rw [this]; rfl
    | succ T ih => rw [sm, ih, step T]; omega
  obtain ⟨T, hT⟩ := bnd2 (fun i j => (l i j).length) N
  have h0 : (sm (N + 1 + (T + 1)) fun t => c t * pwM N A t i k) = 0 := by
    rw [tele]
    have : mm N (pwM N A (N + 1 + (T + 1))) (b' (N + 1 + (T + 1))) i k = 0 := sm_zero fun j hj => by
      have := hT j hj k hk
      rw [hb', show N + 1 + (T + 1) = (N + 1 + T) + 1 by omega, cf_succ, cf_out (by omega), Int.mul_zero]
    rw [this]; rfl
  rw [sm_app] at h0
  have h4 : (sm (T + 1) fun t => c (N + 1 + t) * pwM N A (N + 1 + t) i k) = 0 := sm_zero fun t _ => by rw [hc, if_neg (by omega), Int.zero_mul]
  rw [h4, Int.add_zero] at h0
  rw [← h0]
  exact sm_congr fun t ht => by rw [hc, if_pos ht]
/-! ### Sylvester -/
def adI (y : Int) (A : Mx) : Mx := fun i j => A i j + y * un i j
theorem syl_mul (n : Nat) (A B : Mx) (x : Int) : ∀ i, i < n → ∀ j, j < n → mm n A (xI x (mm n B A)) i j = mm n (xI x (mm n A B)) A i j := fun i hi j hj => by
  have e1 : mm n A (xI x (mm n B A)) i j = x * A i j - mm n A (mm n B A) i j := by
    have e : (fun k => A i k * xI x (mm n B A) k j) = fun k => x * (A i k * un k j) + -(A i k * mm n B A k j) := funext fun k => by
      unfold xI
      generalize mm n B A k j = m
      grind
    show (sm n fun k => A i k * xI x (mm n B A) k j) = _
    rw [e, sm_lin, sm_neg]
    have := un_mm (n := n) A i hj
    unfold mm at this ⊢
    rw [this]
    omega
  have e2 : mm n (xI x (mm n A B)) A i j = x * A i j - mm n (mm n A B) A i j := by
    have e : (fun k => xI x (mm n A B) i k * A k j) = fun k => x * (un i k * A k j) + -(mm n A B i k * A k j) := funext fun k => by
      unfold xI
      generalize mm n A B i k = m
      grind
    show (sm n fun k => xI x (mm n A B) i k * A k j) = _
    rw [e, sm_lin, sm_neg]
    have := mm_un (n := n) A hi j
    unfold mm at this ⊢
    rw [this]
    omega
  rw [e1, e2, mm_assoc]
theorem syl_dt (n : Nat) (A B : Mx) (x : Int) : dt n A * (dt n (xI x (mm n B A)) - dt n (xI x (mm n A B))) = 0 := by
  have h : dt n (mm n A (xI x (mm n B A))) = dt n (mm n (xI x (mm n A B)) A) := dt_ext (syl_mul n A B x)
  rw [dt_mul, dt_mul, Int.mul_comm (dt n (xI x (mm n A B)))] at h
  rw [Int.mul_sub, h]
  omega
theorem poly_adI (A : Mx) (i j : Nat) : Poly fun y => adI y A i j := by
  have e : (fun y => adI y A i j) = fun y => un i j * y + A i j := funext fun y => by unfold adI; rw [Int.mul_comm]; omega
  rw [e]
  exact (Poly.id.scale (un i j)).add (Poly.const _)
theorem poly_mm (n : Nat) {P Q : Int → Mx} {i j : Nat} (hP : ∀ k, Poly fun y => P y i k) (hQ : ∀ k, Poly fun y => Q y k j) : Poly fun y => mm n (P y) (Q y) i j :=
  Poly.sum (g := fun k y => P y i k * Q y k j) fun k _ => (hP k).mul (hQ k)
theorem poly_xI2 (x : Int) {P : Int → Mx} {i j : Nat} (hP : Poly fun y => P y i j) : Poly fun y => xI x (P y) i j := by
  have e : (fun y => xI x (P y) i j) = fun y => -1 * P y i j + x * un i j := funext fun y => by unfold xI; omega
  rw [e]
  exact (hP.scale (-1)).add (Poly.const _)
theorem adI_great (n : Nat) (A : Mx) : ∃ Y : Int, ∀ y, Y ≤ y → 0 < dt n (adI y A) := by
  obtain ⟨l, hl⟩ : ∃ l : List Int, l = (List.range n).map fun t => chc n (fun i j => -A i j) (n - t) := ⟨_, rfl⟩
  obtain ⟨Y, hY⟩ := ev_monic l
  refine ⟨Y, fun y hy => ?_⟩
  have h := hY y hy
  have e : dt n (adI y A) = dt n (xI y fun i j => -A i j) := dt_ext fun i _ j _ => by show A i j + y * un i j = y * un i j - -A i j; omega
  rw [e, dt_char, ← ev_sum (fun t => chc n (fun i j => -A i j) (n - t)) y (n + 1), List.range_succ, List.map_append, List.map_cons, List.map_nil, Nat.sub_self, chc_zero, ← hl]
  exact h
/-- Products in either order have one characteristic. -/
theorem syl (n : Nat) (A B : Mx) (x : Int) : dt n (xI x (mm n B A)) = dt n (xI x (mm n A B)) := by
  have hP : Poly fun y => dt n (xI x (mm n B (adI y A))) := Poly.dt (M := fun y => xI x (mm n B (adI y A))) fun i _ j _ => poly_xI2 x (P := fun y => mm n B (adI y A)) (poly_mm n (P := fun _ => B) (fun k => Poly.const _) fun k => poly_adI A k j)
  have hQ : Poly fun y => dt n (xI x (mm n (adI y A) B)) := Poly.dt (M := fun y => xI x (mm n (adI y A) B)) fun i _ j _ => poly_xI2 x (P := fun y => mm n (adI y A) B) (poly_mm n (Q := fun _ => B) (fun k => poly_adI A i k) fun k => Poly.const _)
  obtain ⟨p, hp0⟩ := hP
  obtain ⟨q, hq0⟩ := hQ
  have hp : ∀ y, dt n (xI x (mm n B (adI y A))) = ev p y := hp0
  have hq : ∀ y, dt n (xI x (mm n (adI y A) B)) = ev q y := hq0
  obtain ⟨Y, hY⟩ := adI_great n A
  have h := ev_same (l := p) (m := q) Y fun y hy => by
    rw [← hp, ← hq]
    have h1 := syl_dt n (adI y A) B x
    have h2 := hY y hy
    rcases Int.mul_eq_zero.1 h1 with e | e <;> omega
  have ev0 : ∀ l : List Int, ev l 0 = cf l 0 := fun l => by
    cases l with
    | nil => rfl
    | cons a l => rw [ev, Int.zero_mul, Int.add_zero, cf_zero]
  have e0 : adI 0 A = A := by funext i j; unfold adI; rw [Int.zero_mul, Int.add_zero]
  have h0 := hp 0
  have h1 := hq 0
  rw [e0] at h0 h1
  rw [h0, h1, ev0, ev0, h 0]
theorem sylvester (n : Nat) (A B : Mx) {k : Nat} (hk : k ≤ n) : chc n (mm n A B) k = chc n (mm n B A) k := by
  have h := sum_same (c := fun t => chc n (mm n A B) (n - t)) (d := fun t => chc n (mm n B A) (n - t)) (n := n + 1) 0 (fun x _ => by
    rw [← dt_char, ← dt_char, syl]) (t := n - k) (by omega)
  have h2 : chc n (mm n A B) (n - (n - k)) = chc n (mm n B A) (n - (n - k)) := h
  rwa [show n - (n - k) = k by omega] at h2
/-! ### Its first number, and the last but one -/
theorem dt_neg (n : Nat) (A : Mx) : dt n (fun i j => -A i j) = sg n * dt n A := by
  have h := (dt_alt n).scale (fun _ => -1) A n A (Nat.le_refl _)
  have e1 : dt n (fun i j => -A i j) = dt n fun i => if i < n then fun j => -1 * A i j else A i := dt_ext fun i hi j _ => by rw [if_pos hi]; omega
  have e2 : (dt n fun i => if i < n then A i else A i) = dt n A := dt_ext fun i hi j _ => by rw [if_pos hi]
  have e3 : ∀ m, prI (fun _ => -1) m = sg m := fun m => by
    induction m with
    | zero => rfl
    | succ m ih => rw [prI, ih, sg]; omega
  rw [e1, h, e2, e3]
theorem chc_all (n : Nat) (A : Mx) : chc n A n = sg n * dt n A := by
  have h := dt_char n A 0
  have e1 : dt n (xI 0 A) = dt n fun i j => -A i j := dt_ext fun i _ j _ => by unfold xI; rw [Int.zero_mul]; omega
  rw [e1, dt_neg, sm_first] at h
  have e2 : (sm n fun i => chc n A (n - (i + 1)) * 0 ^ (i + 1)) = 0 := sm_zero fun i _ => by rw [Int.pow_succ, Int.mul_zero, Int.mul_zero]
  rw [e2, Int.add_zero, Int.pow_zero, Int.mul_one, Nat.sub_zero] at h
  exact h.symm
theorem sel_none {S : Nat → Bool} : ∀ {m : Nat}, (∀ i, i < m → S i = false) → ∀ r, sel S m r = m + r
  | 0, _, r => by rw [sel, Nat.zero_add]
  | m + 1, h, r => by rw [sel_no (by rw [h m (by omega)]; decide), sel_none (fun i hi => h i (by omega)) r, skp_ge (by omega)]; omega
theorem bt_zero (i : Nat) : bt 0 i = false := by unfold bt; rw [Nat.zero_div]; rfl
theorem one_sets (A : Mx) (N : Nat) : ∀ m, (sm (2 ^ m) fun s => if cnt (bt s) m = 1 then A (sel (bt s) m 0) (sel (bt s) m 0) else 0) = sm m fun i => A i i
  | 0 => by
    show 0 + (if cnt (bt 0) 0 = 1 then _ else 0) = 0
    rw [if_neg (by rw [cnt]; omega)]; rfl
  | m + 1 => by
    have ih := one_sets A N m
    have hp : 0 < 2 ^ m := Nat.pow_pos (by omega)
    rw [Nat.pow_succ, Nat.mul_two, sm_app, sm, ← ih]
    congr 1
    · refine sm_congr fun s hs => ?_
      have hb := bt_low hs
      have e : ∀ r, sel (bt s) (m + 1) r = skp m (sel (bt s) m r) := fun r => sel_no (by rw [hb]; decide) r
      rw [cnt, hb, if_neg (show ¬ false = true by decide), Nat.add_zero]
      by_cases h : cnt (bt s) m = 1
      · rw [if_pos h, if_pos h, e, skp_lt (sel_in (by omega)).1]
      · rw [if_neg h, if_neg h]
    · rw [sm_at (p := 0) hp fun s hs hne => ?_]
      · have hb : bt (2 ^ m + 0) m = true := bt_high hp
        have h0 : ∀ i, i < m → bt (2 ^ m + 0) i = false := fun i hi => by rw [bt_lo hi, bt_zero]
        have hc : cnt (bt (2 ^ m + 0)) m = 0 := by rw [cnt_congr (S' := bt 0) fun i hi => bt_lo hi]; exact (cnt_none hp).2 rfl
        rw [cnt, hb, if_pos rfl, hc, if_pos rfl, sel_yes hb, sel_none h0, Nat.add_zero]
      · refine if_neg fun e => hne ?_
        rw [cnt, bt_high hs, if_pos rfl, cnt_congr (S' := bt s) fun i hi => bt_lo hi] at e
        exact (cnt_none hs).1 (by omega)
theorem chc_one (n : Nat) (A : Mx) : chc n A 1 = -sm n fun i => A i i := by
  unfold chc
  rw [← one_sets A 0 n, ← sm_neg]
  refine sm_congr fun s _ => ?_
  by_cases h : cnt (bt s) n = 1
  · rw [if_pos h, if_pos h]
    show -1 * (0 + 1 * sub (bt s) n A 0 0 * 1) = _
    unfold sub
    omega
  · rw [if_neg h, if_neg h]; rfl
/-- Rows for columns. -/
theorem chc_tr (n : Nat) (A : Mx) (k : Nat) : chc n (tr A) k = chc n A k := by
  unfold chc
  refine sm_congr fun s _ => ?_
  by_cases h : cnt (bt s) n = k
  · rw [if_pos h, if_pos h, ← dt_tr k (sub (bt s) n A)]; rfl
  · rw [if_neg h, if_neg h]
end Go.Proofs.Ytjaabemlpiafaab
