/-
  Plain mathematics of cells that stand elsewhere: an array told by where each of its cells comes from; nothing of the program.
-/
import Derived.Test.YtgaelbgeoobgiabOdo
import Derived.Test.YtgaelbgeoobgiabOrdr
import Derived.Test.YtgaelbgeoobgiabBase
namespace Go.Proofs.Ytgaelbgeoobgiab
open Go.RowKit
set_option linter.unusedVariables false

/-- An array in shape s', whose cell at indices t is that of the other one (in shape s) at 'src t'. -/
def GA (s dz s' : List Int) (src : List Int → List Int) : List Int := (List.range (prod s').toNat).map fun i => nth dz (place s (src (cr s' i))).toNat
section
variable {s s' s'' dz : List Int} {src src' src2 : List Int → List Int}
theorem GA_length : (GA s dz s' src).length = (prod s').toNat := by simp [GA]
theorem GA_nth {i : Nat} (h : i < (prod s').toNat) : nth (GA s dz s' src) i = nth dz (place s (src (cr s' i))).toNat := by simp [GA, nth, h]
theorem cr_place (he : errOf s' = 0) {t : List Int} (ht : insB s' t = true) : cr s' (place s' t).toNat = t ∧ (place s' t).toNat < (prod s').toNat := by
  have hb := place_bd ht
  have h := pl_back (plErr_zero.2 ⟨he, ht⟩)
  have e : (((place s' t).toNat : Nat) : Int) = place s' t := by omega
  refine ⟨?_, by omega⟩
  unfold cr
  rw [e, ← atVal_ok h.1]
  exact h.2.1
theorem GA_at (he : errOf s' = 0) {t : List Int} (ht : insB s' t = true) : nth (GA s dz s' src) (place s' t).toNat = nth dz (place s (src t)).toNat := by
  have h := cr_place he ht
  rw [GA_nth h.2, h.1]
theorem cr_in (he : errOf s' = 0) {i : Nat} (hi : i < (prod s').toNat) : insB s' (cr s' i) = true ∧ place s' (cr s' i) = i := cr_fact he (by omega)
theorem GA_ext (he : errOf s' = 0) {xs : List Int} (hl : xs.length = (prod s').toNat) (h : ∀ t, insB s' t = true → nth xs (place s' t).toNat = nth dz (place s (src t)).toNat) : xs = GA s dz s' src := by
  refine nth_ext (by rw [hl, GA_length]) fun i hi => ?_
  rw [hl] at hi
  have hc := cr_in he hi
  rw [GA_nth hi, ← h _ hc.1, hc.2, Int.toNat_natCast]
theorem GA_comp (he' : errOf s' = 0) (he'' : errOf s'' = 0) (h : ∀ t, insB s'' t = true → insB s' (src2 t) = true) : GA s' (GA s dz s' src) s'' src2 = GA s dz s'' (fun t => src (src2 t)) :=
  GA_ext he'' GA_length fun t ht => by rw [GA_at he'' ht, GA_at he' (h t ht)]
theorem GA_congr (he : errOf s' = 0) (h : ∀ t, insB s' t = true → src t = src' t) : GA s dz s' src = GA s dz s' src' :=
  GA_ext he GA_length fun t ht => by rw [GA_at he ht, h t ht]
theorem GA_id (he : errOf s = 0) (hd : (dz.length : Int) = prod s) (h : ∀ t, insB s t = true → src t = t) : GA s dz s src = dz :=
  (GA_ext he (by omega) fun t ht => by rw [h t ht]).symm
/-- Nothing is wrong with what is told. -/
theorem GA_in (hs : ∀ t, insB s' t = true → insB s (src t) = true) (he' : errOf s' = 0) (hd : (dz.length : Int) = prod s) {j : Nat} (hj : j < (prod s').toNat) : ∃ k, k < dz.length ∧ nth (GA s dz s' src) j = nth dz k := by
  have hc := cr_in he' hj
  have hb := place_bd (hs _ hc.1)
  exact ⟨_, by omega, GA_nth hj⟩
theorem GA_64 (T : ∀ j, In64 (nth dz j)) : ∀ j, In64 (nth (GA s dz s' src) j) := fun j => by
  by_cases hj : j < (prod s').toNat
  · rw [GA_nth hj]; exact T _
  · have : nth (GA s dz s' src) j = 0 := by simp [nth, List.getElem?_eq_none (show (GA s dz s' src).length ≤ j by rw [GA_length]; omega)]
    rw [this]; unfold In64; decide
theorem GA_flaw {c : Bool} (hf : flawE c s dz = 0) (he' : errOf s' = 0) (hs : ∀ t, insB s' t = true → insB s (src t) = true) : flawE c s' (GA s dz s' src) = 0 := by
  obtain ⟨h1, h2, h3⟩ := flawE_zero hf
  have hz := errOf_zero.1 he'
  have hp := prod_nonneg hz.2.1
  have hl : ((GA s dz s' src).length : Int) = prod s' := by rw [GA_length]; omega
  cases c
  · exact flawE_okn he' hl
  · refine flawE_okc he' hl ?_
    have hc := h3 rfl
    unfold chAll at *
    rw [List.all_eq_true] at *
    intro x hx
    obtain ⟨j, hj, rfl⟩ := List.mem_iff_getElem.1 hx
    rw [GA_length] at hj
    obtain ⟨k, hk, e⟩ := GA_in (dz := dz) hs he' h2 hj
    rw [← nth_get _ j (by rw [GA_length]; exact hj), e]
    exact hc _ (nth_mem dz k hk)
end
/-! ### The other way round, moved round, other axes -/
def revT (s : List Int) (x : Nat) (t : List Int) : List Int := t.set x (nth s x - 1 - nth t x)
def rotT (s : List Int) (n : Int) (x : Nat) (t : List Int) : List Int := t.set x ((nth t x + n) % nth s x)
def flpT (p : List Int) (t : List Int) : List Int := p.map fun k => nth t k.toNat
theorem flpT_nth (p t : List Int) {k : Nat} (h : k < p.length) : nth (flpT p t) k = nth t (nth p k).toNat := by simp [flpT, nth, h]
theorem flpT_length (p t : List Int) : (flpT p t).length = p.length := by simp [flpT]
section
variable {s t : List Int} {x y : Nat} {n m : Int}
theorem ins_at (h : insB s t = true) (hx : x < s.length) : 0 ≤ nth t x ∧ nth t x < nth s x := (insB_iff (insB_len h)).1 h x hx
theorem ins_set {v : Int} (h : insB s t = true) (hx : x < s.length) (hv : 0 ≤ v ∧ v < nth s x) : insB s (t.set x v) = true := by
  have hl := insB_len h
  rw [insB_iff (by rw [List.length_set]; exact hl)]
  intro k hk
  rw [nth_set _ _ _ _ (by omega)]
  split
  · rename_i e; rw [e]; exact hv
  · exact ins_at h hk
theorem revT_in (h : insB s t = true) (hx : x < s.length) : insB s (revT s x t) = true := ins_set h hx (by have := ins_at h hx; omega)
theorem rotT_in (h : insB s t = true) (hx : x < s.length) : insB s (rotT s n x t) = true := by
  have hb := ins_at h hx
  exact ins_set h hx ⟨Int.emod_nonneg _ (by omega), Int.emod_lt_of_pos _ (by omega)⟩
theorem revT_nth (h : insB s t = true) (hx : x < s.length) (k : Nat) : nth (revT s x t) k = if k = x then nth s x - 1 - nth t x else nth t k := nth_set _ _ _ _ (by rw [insB_len h]; exact hx)
theorem rotT_nth (h : insB s t = true) (hx : x < s.length) (k : Nat) : nth (rotT s n x t) k = if k = x then (nth t x + n) % nth s x else nth t k := nth_set _ _ _ _ (by rw [insB_len h]; exact hx)
theorem revT_length : (revT s x t).length = t.length := by simp [revT]
theorem rotT_length : (rotT s n x t).length = t.length := by simp [rotT]
theorem revT_twice (h : insB s t = true) (hx : x < s.length) : revT s x (revT s x t) = t := by
  refine nth_ext (by rw [revT_length, revT_length]) fun k _ => ?_
  rw [revT_nth (revT_in h hx) hx, revT_nth h hx, revT_nth h hx, if_pos rfl]
  split
  · rename_i e; rw [e]; omega
  · rfl
theorem revT_swap (h : insB s t = true) (hx : x < s.length) (hy : y < s.length) : revT s x (revT s y t) = revT s y (revT s x t) := by
  refine nth_ext (by simp only [revT_length]) fun k _ => ?_
  rw [revT_nth (revT_in h hy) hx, revT_nth (revT_in h hx) hy, revT_nth h hy, revT_nth h hy, revT_nth h hx, revT_nth h hx]
  by_cases e : x = y
  · subst e; rfl
  · by_cases a : k = x
    · subst a; rw [if_pos rfl, if_neg e, if_neg e, if_pos rfl]
    · rw [if_neg a]
      by_cases b : k = y
      · subst b; rw [if_pos rfl, if_pos rfl, if_neg a]
      · rw [if_neg b, if_neg b, if_neg a]
theorem rotT_add (h : insB s t = true) (hx : x < s.length) : rotT s m x (rotT s n x t) = rotT s (m + n) x t := by
  refine nth_ext (by simp only [rotT_length]) fun k _ => ?_
  rw [rotT_nth (rotT_in h hx) hx, rotT_nth h hx, rotT_nth h hx, rotT_nth h hx, if_pos rfl]
  split
  · rw [Int.emod_add_emod]
    congr 1
    omega
  · rfl
theorem rotT_len (h : insB s t = true) (hx : x < s.length) : rotT s (nth s x) x t = t := by
  have hb := ins_at h hx
  refine nth_ext rotT_length fun k _ => ?_
  rw [rotT_nth h hx]
  split
  · rename_i e
    rw [Int.add_emod_right, Int.emod_eq_of_lt hb.1 hb.2, e]
  · rfl
/-- One number below the length that differs from another one by some lengths is what is left of it. -/
theorem emod_is {a b L : Int} (h0 : 0 ≤ a) (h1 : a < L) (k : Int) (h : b = a + L * k) : b % L = a := by
  rw [h, Int.add_mul_emod_self_left, Int.emod_eq_of_lt h0 h1]
theorem rotT_mirror (h : insB s t = true) (hx : x < s.length) : revT s x (rotT s n x (revT s x t)) = rotT s (-n) x t := by
  have hb := ins_at h hx
  have h1 := revT_in h hx
  have hL : nth s x ≠ 0 := by omega
  refine nth_ext (by simp only [revT_length, rotT_length]) fun k _ => ?_
  rw [revT_nth (rotT_in h1 hx) hx, rotT_nth h1 hx, rotT_nth h1 hx, revT_nth h hx, revT_nth h hx, rotT_nth h hx, if_pos rfl, if_pos rfl]
  split
  · have e1 := Int.emod_nonneg (nth s x - 1 - nth t x + n) hL
    have e2 := Int.emod_lt_of_pos (nth s x - 1 - nth t x + n) (show 0 < nth s x by omega)
    have e3 := Int.mul_ediv_add_emod (nth s x - 1 - nth t x + n) (nth s x)
    refine (emod_is (by omega) (by omega) ((nth s x - 1 - nth t x + n) / nth s x * -1 ) ?_).symm
    have e4 : nth s x * ((nth s x - 1 - nth t x + n) / nth s x * -1) = - (nth s x * ((nth s x - 1 - nth t x + n) / nth s x)) := by rw [← Int.mul_assoc, Int.mul_neg, Int.mul_one]
    omega
  · rfl
end
/-! ### Orders of axes -/
section
variable {s s' p t : List Int}
theorem flpT_in (ho : IsOrd p) (hl : p.length = s.length) (ha : AxSpec s p s') (h : insB s' t = true) : insB s (flpT p t) = true := by
  have hl' := insB_len h
  rw [insB_iff (by rw [flpT_length]; exact hl)]
  intro k hk
  rw [flpT_nth p t (by omega), ← ha.2 k hk]
  have := ho.1 k (by omega)
  exact ins_at h (by have := ha.1; omega)
theorem flpT_comp {q r : List Int} (ho : IsOrd p) (hq : q.length = p.length) (hr : r.length = p.length) (h : ∀ k, k < p.length → nth r k = nth q (nth p k).toNat) : flpT p (flpT q t) = flpT r t := by
  refine nth_ext (by rw [flpT_length, flpT_length, hr]) fun k hk => ?_
  rw [flpT_length] at hk
  have := ho.1 k hk
  rw [flpT_nth p _ hk, flpT_nth q t (by omega), flpT_nth r t (by omega), h k hk]
theorem flpT_back {q : List Int} (ho : IsOrd p) (hq : BkSpec p q) (hl : t.length = p.length) : flpT p (flpT q t) = t := by
  refine nth_ext (by rw [flpT_length, hl]) fun k hk => ?_
  rw [flpT_length] at hk
  have := ho.1 k hk
  rw [flpT_nth p _ hk, flpT_nth q t (by have := hq.1; omega), hq.2 k hk, Int.toNat_natCast]
theorem ax_err {s' : List Int} (ho : IsOrd p) (hl : p.length = s.length) (ha : AxSpec s p s') (he : errOf s = 0) : errOf s' = 0 := errOf_perm (ha.perm ho hl).symm he
theorem ax_prod {s' : List Int} (ho : IsOrd p) (hl : p.length = s.length) (ha : AxSpec s p s') : prod s' = prod s := prod_perm (ha.perm ho hl)
/-- By one order and then by another one: the order of both. -/
theorem ax_comp {s' s'' q r : List Int} (hop : IsOrd p) (hoq : IsOrd q) (hl : p.length = s.length) (hq : q.length = p.length) (hr : r.length = p.length) (h : ∀ k, k < p.length → nth r k = nth q (nth p k).toNat) (ha : AxSpec s p s') (hb : AxSpec s' q s'') :
    IsOrd r ∧ AxSpec s r s'' := by
  refine ⟨⟨fun j hj => ?_, fun i j hij hj e => ?_⟩, hb.1.trans ha.1, fun k hk => ?_⟩
  · have b := hop.1 j (by omega)
    rw [h j (by omega)]
    have := hoq.1 (nth p j).toNat (by omega)
    omega
  · have bi := hop.1 i (by omega)
    have bj := hop.1 j (by omega)
    rw [h i (by omega), h j (by omega)] at e
    have := hoq.inj (by omega) (by omega) e
    exact absurd (hop.inj (i := i) (j := j) (by omega) (by omega) (by omega)) (by omega)
  · have b := hop.1 k (by omega)
    rw [h k (by omega), hb.2 _ (by have := ha.1; omega), ha.2 k hk]
end
end Go.Proofs.Ytgaelbgeoobgiab
