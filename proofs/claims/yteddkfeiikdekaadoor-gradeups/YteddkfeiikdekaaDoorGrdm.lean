/-
  Plain mathematics of a grade: numbers put in the order of a strict, total relation; nothing of the program.
-/
import Derived.Test.YteddkfeiikdekaaDoorPrmo
namespace Go.Proofs.YteddkfeiikdekaaDoor
open Go.RowKit
set_option linter.unusedVariables false

theorem su_le {g h : Nat → Nat} : ∀ {n : Nat}, (∀ i, i < n → g i ≤ h i) → su g n ≤ su h n
  | 0, _ => Nat.le_refl _
  | n + 1, e => by
    have h1 := su_le (g := g) (h := h) (n := n) fun i hi => e i (by omega)
    have h2 := e n (by omega)
    simp only [su]; omega
theorem su_less {g h : Nat → Nat} {k : Nat} (hk : g k < h k) : ∀ {n : Nat}, (∀ i, i < n → g i ≤ h i) → k < n → su g n < su h n
  | 0, _, h0 => by omega
  | n + 1, e, h0 => by
    simp only [su]
    have h2 := e n (by omega)
    by_cases hn : k = n
    · have h1 := su_le (g := g) (h := h) (n := n) fun i hi => e i (by omega)
      subst hn; omega
    · have h1 := su_less hk (n := n) (fun i hi => e i (by omega)) (by omega)
      omega
theorem su_one : ∀ n, su (fun _ => 1) n = n
  | 0 => rfl
  | n + 1 => by simp only [su]; rw [su_one n]
theorem su_below {a : Nat} : ∀ n, su (fun i => if i < a then 1 else 0) n = min n a
  | 0 => by simp [su]
  | n + 1 => by
    simp only [su]
    rw [su_below n]
    by_cases h : n < a
    · rw [if_pos h]; omega
    · rw [if_neg h]; omega
/-- A strict, total relation of the numbers below a bound. -/
structure Tot (lt : Nat → Nat → Bool) (n : Nat) : Prop where
  irr : ∀ i, i < n → lt i i = false
  tr : ∀ i j k, i < n → j < n → k < n → lt i j = true → lt j k = true → lt i k = true
  tot : ∀ i j, i < n → j < n → i ≠ j → lt i j = true ∨ lt j i = true
/-- How many are ahead of one. -/
def ahd (lt : Nat → Nat → Bool) (n i : Nat) : Nat := su (fun j => if lt j i = true then 1 else 0) n
/-- Those places, and the numbers in that order. -/
def ahL (lt : Nat → Nat → Bool) (n : Nat) : List Int := (List.range n).map fun i => (ahd lt n i : Int)
def grd (lt : Nat → Nat → Bool) (n : Nat) : List Int := tnd (ahL lt n)
section
variable {lt : Nat → Nat → Bool} {n : Nat}
theorem ahd_less (T : Tot lt n) {i k : Nat} (hi : i < n) (hk : k < n) (h : lt i k = true) : ahd lt n i < ahd lt n k := by
  refine su_less (k := i) ?_ (fun j hj => ?_) hi
  · rw [if_neg (by rw [T.irr i hi]; decide), if_pos h]; omega
  · by_cases e : lt j i = true
    · rw [if_pos e, if_pos (T.tr j i k hj hi hk e h)]; exact Nat.le_refl _
    · rw [if_neg e]; exact Nat.zero_le _
theorem ahd_lt (T : Tot lt n) {i : Nat} (hi : i < n) : ahd lt n i < n := by
  have h := su_less (g := fun j => if lt j i = true then 1 else 0) (h := fun _ => 1) (k := i) (n := n) (by show (if lt i i = true then 1 else 0) < 1; rw [if_neg (by rw [T.irr i hi]; decide)]; omega) (fun j _ => by show (if lt j i = true then 1 else 0) ≤ 1; split <;> omega) hi
  rw [su_one] at h
  exact h
theorem ahd_iff (T : Tot lt n) {i k : Nat} (hi : i < n) (hk : k < n) : ahd lt n i < ahd lt n k ↔ lt i k = true := by
  refine ⟨fun h => ?_, ahd_less T hi hk⟩
  by_cases e : i = k
  · subst e; omega
  · rcases T.tot i k hi hk e with q | q
    · exact q
    · have := ahd_less T hk hi q; omega
theorem ahL_length : (ahL lt n).length = n := by simp [ahL]
theorem ahL_nth {i : Nat} (h : i < n) : nth (ahL lt n) i = (ahd lt n i : Int) := by
  rw [nth_get _ _ (by rw [ahL_length]; exact h)]; simp [ahL]
theorem ahL_ord (T : Tot lt n) : IsOrd (ahL lt n) := by
  refine ⟨fun j hj => ?_, fun i j hij hj e => ?_⟩
  · rw [ahL_length] at *
    have := ahd_lt T hj
    rw [ahL_nth hj]; omega
  · rw [ahL_length] at hj
    rw [ahL_nth hj, ahL_nth (by omega)] at e
    rcases T.tot i j (by omega) hj (by omega) with q | q
    · have := ahd_less T (by omega) hj q; omega
    · have := ahd_less T hj (by omega) q; omega
theorem grd_length : (grd lt n).length = n := by unfold grd; rw [tnd_length, ahL_length]
theorem grd_ord (T : Tot lt n) : IsOrd (grd lt n) := tnd_ord (ahL_ord T)
theorem grd_at (T : Tot lt n) {i : Nat} (h : i < n) : nth (grd lt n) (ahd lt n i) = i := by
  have := tnd_at (ahL_ord T) (i := i) (by rw [ahL_length]; exact h)
  rw [ahL_nth h, Int.toNat_natCast] at this
  exact this
theorem at_grd (T : Tot lt n) {k : Nat} (h : k < n) : ∃ i, i < n ∧ nth (grd lt n) k = i ∧ ahd lt n i = k := by
  have h1 := ord_at (grd_ord T) (i := k) (by rw [grd_length]; exact h)
  rw [grd_length] at h1
  refine ⟨(nth (grd lt n) k).toNat, h1.1, h1.2.symm, ?_⟩
  have h2 := (at_tnd (ahL_ord T) (k := k) (by rw [ahL_length]; exact h)).1
  change nth (ahL lt n) (nth (grd lt n) k).toNat = k at h2
  rw [ahL_nth h1.1] at h2
  omega
/-- It rises. -/
theorem grd_rises (T : Tot lt n) {a b : Nat} (hab : a < b) (hb : b < n) : lt (nth (grd lt n) a).toNat (nth (grd lt n) b).toNat = true := by
  obtain ⟨i, hi, e1, e2⟩ := at_grd T (show a < n by omega)
  obtain ⟨j, hj, e3, e4⟩ := at_grd T hb
  rw [e1, e3, Int.toNat_natCast, Int.toNat_natCast]
  exact (ahd_iff T hi hj).1 (by omega)
/-- .. and whatever order rises is it. -/
theorem grd_only (T : Tot lt n) {p : List Int} (hp : IsOrd p) (hl : p.length = n) (hr : ∀ i, i + 1 < n → lt (nth p i).toNat (nth p (i + 1)).toNat = true) : p = grd lt n := by
  subst hl
  have hat : ∀ i, i < p.length → (nth p i).toNat < p.length := fun i hi => (ord_at hp hi).1
  have hall : ∀ d a, a + d + 1 < p.length → lt (nth p a).toNat (nth p (a + d + 1)).toNat = true := by
    intro d
    induction d with
    | zero => exact fun a h => hr a h
    | succ d ih => exact fun a h => T.tr _ _ _ (hat a (by omega)) (hat (a + d + 1) (by omega)) (hat (a + (d + 1) + 1) (by omega)) (ih a (by omega)) (hr (a + d + 1) (by omega))
  have hlt : ∀ a b, a < b → b < p.length → lt (nth p a).toNat (nth p b).toNat = true := fun a b h1 h2 => by
    have := hall (b - a - 1) a (by omega)
    rwa [show a + (b - a - 1) + 1 = b by omega] at this
  have hn : (List.range p.length).map (fun i => (nth p i).toNat) = nats p := by
    unfold nats
    rw [← range_nth p, List.map_map, List.length_map, List.length_range, range_nth]; rfl
  have hP : ((List.range p.length).map (fun i => (nth p i).toNat)).Perm (List.range p.length) := by rw [hn]; exact nats_perm hp
  have hah : ∀ a, a < p.length → ahd lt p.length (nth p a).toNat = a := fun a ha => by
    unfold ahd
    rw [← su_perm (g := fun j => if lt j (nth p a).toNat = true then 1 else 0) hP]
    rw [su_congr (h := fun b => if b < a then 1 else 0) (fun b hb => ?_), su_below]
    · omega
    · by_cases h1 : b < a
      · rw [if_pos h1, if_pos (hlt b a h1 ha)]
      · rw [if_neg h1, if_neg]
        intro hc
        by_cases h2 : a = b
        · subst h2; rw [T.irr _ (hat a ha)] at hc; cases hc
        · have h3 := T.tr _ _ _ (hat a ha) (hat b hb) (hat a ha) (hlt a b (by omega) hb) hc
          rw [T.irr _ (hat a ha)] at h3; cases h3
  refine nth_ext (by rw [grd_length]) fun a ha => ?_
  have h1 := grd_at T (hat a ha)
  rw [hah a ha] at h1
  rw [h1]; exact (ord_at hp ha).2.symm
/-- The grade of an order is the order turned round. -/
theorem grd_ord_tnd {p : List Int} (hp : IsOrd p) : Tot (fun i j => decide (nth p i < nth p j)) p.length ∧ grd (fun i j => decide (nth p i < nth p j)) p.length = tnd p := by
  have T : Tot (fun i j => decide (nth p i < nth p j)) p.length := by
    refine ⟨fun i _ => by simp, fun i j k _ _ _ h1 h2 => ?_, fun i j hi hj hne => ?_⟩
    · simp at *; omega
    · have : nth p i ≠ nth p j := fun e => hne (hp.inj hi hj e)
      simp; omega
  refine ⟨T, ?_⟩
  refine (grd_only T (tnd_ord hp) tnd_length fun i hi => ?_).symm
  have h1 := (at_tnd hp (show i < p.length by omega)).1
  have h2 := (at_tnd hp hi).1
  show decide (nth p (nth (tnd p) i).toNat < nth p (nth (tnd p) (i + 1)).toNat) = true
  rw [h1, h2]; simp; omega
end
end Go.Proofs.YteddkfeiikdekaaDoor
