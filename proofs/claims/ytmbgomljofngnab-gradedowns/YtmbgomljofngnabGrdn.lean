/-
  Grdm Grdn, together.
-/
import Derived.Test.YtmbgomljofngnabPrmc
import Derived.Test.YtmbgomljofngnabPrml
/-! Grdm: Plain mathematics of a grade: numbers put in the order of a strict, total relation; nothing of the program. -/
namespace Go.Proofs.Ytmbgomljofngnab
open Go.RowKit
set_option linter.unusedVariables false

theorem su_le {g h : Nat → Nat} : ∀ {n : Nat}, (∀ i, i < n → g i ≤ h i) → su g n ≤ su h n
  | 0, _ => Nat.le_refl _
  | n + 1, e => by
    have h1 := su_le (g := g) (h := h) (n := n) fun i hi => e i (by omega)
    have h2 := e n (by omega)
    simp only [su]; omega
theorem su_less {g h : Nat → Nat} {k : Nat} (hk : g k < h k) : ∀ {n : Nat}, (∀ i, i < n → g i ≤ h i) → k < n → su g n < su h n
  | 0, _, h0 => by omega
  | n + 1, e, h0 => by
    simp only [su]
    have h2 := e n (by omega)
    by_cases hn : k = n
    · have h1 := su_le (g := g) (h := h) (n := n) fun i hi => e i (by omega)
      subst hn; omega
    · have h1 := su_less hk (n := n) (fun i hi => e i (by omega)) (by omega)
      omega
theorem su_one : ∀ n, su (fun _ => 1) n = n
  | 0 => rfl
  | n + 1 => by simp only [su]; rw [su_one n]
theorem su_below {a : Nat} : ∀ n, su (fun i => if i < a then 1 else 0) n = min n a
  | 0 => by simp [su]
  | n + 1 => by
    simp only [su]
    rw [su_below n]
    by_cases h : n < a
    · rw [if_pos h]; omega
    · rw [if_neg h]; omega
/-- A strict, total relation of the numbers below a bound. -/
structure Tot (lt : Nat → Nat → Bool) (n : Nat) : Prop where
  irr : ∀ i, i < n → lt i i = false
  tr : ∀ i j k, i < n → j < n → k < n → lt i j = true → lt j k = true → lt i k = true
  tot : ∀ i j, i < n → j < n → i ≠ j → lt i j = true ∨ lt j i = true
/-- How many are ahead of one. -/
def ahd (lt : Nat → Nat → Bool) (n i : Nat) : Nat := su (fun j => if lt j i = true then 1 else 0) n
/-- Those places, and the numbers in that order. -/
def ahL (lt : Nat → Nat → Bool) (n : Nat) : List Int := (List.range n).map fun i => (ahd lt n i : Int)
def grd (lt : Nat → Nat → Bool) (n : Nat) : List Int := tnd (ahL lt n)
section
variable {lt : Nat → Nat → Bool} {n : Nat}
theorem ahd_less (T : Tot lt n) {i k : Nat} (hi : i < n) (hk : k < n) (h : lt i k = true) : ahd lt n i < ahd lt n k := by
  refine su_less (k := i) ?_ (fun j hj => ?_) hi
  · rw [if_neg (by rw [T.irr i hi]; decide), if_pos h]; omega
  · by_cases e : lt j i = true
    · rw [if_pos e, if_pos (T.tr j i k hj hi hk e h)]; exact Nat.le_refl _
    · rw [if_neg e]; exact Nat.zero_le _
theorem ahd_lt (T : Tot lt n) {i : Nat} (hi : i < n) : ahd lt n i < n := by
  have h := su_less (g := fun j => if lt j i = true then 1 else 0) (h := fun _ => 1) (k := i) (n := n) (by show (if lt i i = true then 1 else 0) < 1; rw [if_neg (by rw [T.irr i hi]; decide)]; omega) (fun j _ => by show (if lt j i = true then 1 else 0) ≤ 1; split <;> omega) hi
  rw [su_one] at h
  exact h
theorem ahd_iff (T : Tot lt n) {i k : Nat} (hi : i < n) (hk : k < n) : ahd lt n i < ahd lt n k ↔ lt i k = true := by
  refine ⟨fun h => ?_, ahd_less T hi hk⟩
  by_cases e : i = k
  · subst e; omega
  · rcases T.tot i k hi hk e with q | q
    · exact q
    · have := ahd_less T hk hi q; omega
theorem ahL_length : (ahL lt n).length = n := by simp [ahL]
theorem ahL_nth {i : Nat} (h : i < n) : nth (ahL lt n) i = (ahd lt n i : Int) := by
  rw [nth_get _ _ (by rw [ahL_length]; exact h)]; simp [ahL]
theorem ahL_ord (T : Tot lt n) : IsOrd (ahL lt n) := by
  refine ⟨fun j hj => ?_, fun i j hij hj e => ?_⟩
  · rw [ahL_length] at *
    have := ahd_lt T hj
    rw [ahL_nth hj]; omega
  · rw [ahL_length] at hj
    rw [ahL_nth hj, ahL_nth (by omega)] at e
    rcases T.tot i j (by omega) hj (by omega) with q | q
    · have := ahd_less T (by omega) hj q; omega
    · have := ahd_less T hj (by omega) q; omega
theorem grd_length : (grd lt n).length = n := by unfold grd; rw [tnd_length, ahL_length]
theorem grd_ord (T : Tot lt n) : IsOrd (grd lt n) := tnd_ord (ahL_ord T)
theorem grd_at (T : Tot lt n) {i : Nat} (h : i < n) : nth (grd lt n) (ahd lt n i) = i := by
  have := tnd_at (ahL_ord T) (i := i) (by rw [ahL_length]; exact h)
  rw [ahL_nth h, Int.toNat_natCast] at this
  exact this
theorem at_grd (T : Tot lt n) {k : Nat} (h : k < n) : ∃ i, i < n ∧ nth (grd lt n) k = i ∧ ahd lt n i = k := by
  have h1 := ord_at (grd_ord T) (i := k) (by rw [grd_length]; exact h)
  rw [grd_length] at h1
  refine ⟨(nth (grd lt n) k).toNat, h1.1, h1.2.symm, ?_⟩
  have h2 := (at_tnd (ahL_ord T) (k := k) (by rw [ahL_length]; exact h)).1
  change nth (ahL lt n) (nth (grd lt n) k).toNat = k at h2
  rw [ahL_nth h1.1] at h2
  omega
/-- It rises. -/
theorem grd_rises (T : Tot lt n) {a b : Nat} (hab : a < b) (hb : b < n) : lt (nth (grd lt n) a).toNat (nth (grd lt n) b).toNat = true := by
  obtain ⟨i, hi, e1, e2⟩ := at_grd T (show a < n by omega)
  obtain ⟨j, hj, e3, e4⟩ := at_grd T hb
  rw [e1, e3, Int.toNat_natCast, Int.toNat_natCast]
  exact (ahd_iff T hi hj).1 (by omega)
/-- .. and whatever order rises is it. -/
theorem grd_only (T : Tot lt n) {p : List Int} (hp : IsOrd p) (hl : p.length = n) (hr : ∀ i, i + 1 < n → lt (nth p i).toNat (nth p (i + 1)).toNat = true) : p = grd lt n := by
  subst hl
  have hat : ∀ i, i < p.length → (nth p i).toNat < p.length := fun i hi => (ord_at hp hi).1
  have hall : ∀ d a, a + d + 1 < p.length → lt (nth p a).toNat (nth p (a + d + 1)).toNat = true := by
    intro d
    induction d with
    | zero => exact fun a h => hr a h
    | succ d ih => exact fun a h => T.tr _ _ _ (hat a (by omega)) (hat (a + d + 1) (by omega)) (hat (a + (d + 1) + 1) (by omega)) (ih a (by omega)) (hr (a + d + 1) (by omega))
  have hlt : ∀ a b, a < b → b < p.length → lt (nth p a).toNat (nth p b).toNat = true := fun a b h1 h2 => by
    have := hall (b - a - 1) a (by omega)
    rwa [show a + (b - a - 1) + 1 = b by omega] at this
  have hn : (List.range p.length).map (fun i => (nth p i).toNat) = nats p := by
    unfold nats
    rw [← range_nth p, List.map_map, List.length_map, List.length_range, range_nth]; rfl
  have hP : ((List.range p.length).map (fun i => (nth p i).toNat)).Perm (List.range p.length) := by rw [hn]; exact nats_perm hp
  have hah : ∀ a, a < p.length → ahd lt p.length (nth p a).toNat = a := fun a ha => by
    unfold ahd
    rw [← su_perm (g := fun j => if lt j (nth p a).toNat = true then 1 else 0) hP]
    rw [su_congr (h := fun b => if b < a then 1 else 0) (fun b hb => ?_), su_below]
    · omega
    · by_cases h1 : b < a
      · rw [if_pos h1, if_pos (hlt b a h1 ha)]
      · rw [if_neg h1, if_neg]
        intro hc
        by_cases h2 : a = b
        · subst h2; rw [T.irr _ (hat a ha)] at hc; cases hc
        · have h3 := T.tr _ _ _ (hat a ha) (hat b hb) (hat a ha) (hlt a b (by omega) hb) hc
          rw [T.irr _ (hat a ha)] at h3; cases h3
  refine nth_ext (by rw [grd_length]) fun a ha => ?_
  have h1 := grd_at T (hat a ha)
  rw [hah a ha] at h1
  rw [h1]; exact (ord_at hp ha).2.symm
/-- The grade of an order is the order turned round. -/
theorem grd_ord_tnd {p : List Int} (hp : IsOrd p) : Tot (fun i j => decide (nth p i < nth p j)) p.length ∧ grd (fun i j => decide (nth p i < nth p j)) p.length = tnd p := by
  have T : Tot (fun i j => decide (nth p i < nth p j)) p.length := by
    refine ⟨fun i _ => by simp, fun i j k _ _ _ h1 h2 => ?_, fun i j hi hj hne => ?_⟩
    · simp at *; omega
    · have : nth p i ≠ nth p j := fun e => hne (hp.inj hi hj e)
      simp; omega
  refine ⟨T, ?_⟩
  refine (grd_only T (tnd_ord hp) tnd_length fun i hi => ?_).symm
  have h1 := (at_tnd hp (show i < p.length by omega)).1
  have h2 := (at_tnd hp hi).1
  show decide (nth p (nth (tnd p) i).toNat < nth p (nth (tnd p) (i + 1)).toNat) = true
  rw [h1, h2]; simp; omega
end
end Go.Proofs.Ytmbgomljofngnab
/-! Grdn: Plain mathematics of rows: which of two is less, and the order of them all; nothing of the program. -/
namespace Go.Proofs.Ytmbgomljofngnab
open Go.RowKit
set_option linter.unusedVariables false

theorem cmpL_self : ∀ a : List Int, cmpL a a = 0
  | [] => rfl
  | x :: a => by
    show (if x < x then (-1 : Int) else if x < x then 1 else cmpL a a) = 0
    rw [if_neg (by omega), if_neg (by omega), cmpL_self a]
theorem cmpL_swap : ∀ a b : List Int, cmpL b a = - cmpL a b
  | [], [] => rfl
  | [], _ :: _ => rfl
  | _ :: _, [] => rfl
  | x :: a, y :: b => by
    show (if y < x then (-1 : Int) else if x < y then 1 else cmpL b a) = - (if x < y then (-1 : Int) else if y < x then 1 else cmpL a b)
    by_cases h1 : x < y
    · rw [if_neg (by omega), if_pos h1, if_pos h1]; rfl
    · by_cases h2 : y < x
      · rw [if_pos h2, if_neg h1, if_pos h2]
      · rw [if_neg h2, if_neg h1, if_neg h1, if_neg h2, cmpL_swap a b]
theorem cmpL_zero : ∀ {a b : List Int}, a.length = b.length → cmpL a b = 0 → a = b
  | [], [], _, _ => rfl
  | [], _ :: _, h, _ => by simp at h
  | _ :: _, [], h, _ => by simp at h
  | x :: a, y :: b, h, e => by
    change (if x < y then (-1 : Int) else if y < x then 1 else cmpL a b) = 0 at e
    by_cases h1 : x < y
    · rw [if_pos h1] at e; exact absurd e (by decide)
    · by_cases h2 : y < x
      · rw [if_neg h1, if_pos h2] at e; exact absurd e (by decide)
      · rw [if_neg h1, if_neg h2] at e
        rw [cmpL_zero (by simpa using h) e, show x = y by omega]
theorem cmpL_trans : ∀ {a b c : List Int}, a.length = b.length → b.length = c.length → cmpL a b ≤ 0 → cmpL b c ≤ 0 → cmpL a c ≤ 0 ∧ (cmpL a b < 0 ∨ cmpL b c < 0 → cmpL a c < 0)
  | [], [], [], _, _, _, _ => ⟨by decide, fun h => by rcases h with h | h <;> exact absurd h (by decide)⟩
  | [], _ :: _, _, h, _, _, _ => by simp at h
  | _ :: _, [], _, h, _, _, _ => by simp at h
  | _, [], _ :: _, _, h, _, _ => by simp at h
  | _, _ :: _, [], _, h, _, _ => by simp at h
  | x :: a, y :: b, z :: c, h1, h2, e1, e2 => by
    change (if x < y then (-1 : Int) else if y < x then 1 else cmpL a b) ≤ 0 at e1
    change (if y < z then (-1 : Int) else if z < y then 1 else cmpL b c) ≤ 0 at e2
    show (if x < z then (-1 : Int) else if z < x then 1 else cmpL a c) ≤ 0 ∧ ((if x < y then (-1 : Int) else if y < x then 1 else cmpL a b) < 0 ∨ (if y < z then (-1 : Int) else if z < y then 1 else cmpL b c) < 0 → (if x < z then (-1 : Int) else if z < x then 1 else cmpL a c) < 0)
    have hxy : x ≤ y := by
      by_cases q : y < x
      · rw [if_neg (by omega), if_pos q] at e1; exact absurd e1 (by decide)
      · omega
    have hyz : y ≤ z := by
      by_cases q : z < y
      · rw [if_neg (by omega), if_pos q] at e2; exact absurd e2 (by decide)
      · omega
    by_cases q1 : x < z
    · rw [if_pos q1]; exact ⟨by decide, fun _ => by decide⟩
    · rw [if_neg q1, if_neg (by omega)]
      rw [if_neg (by omega), if_neg (by omega)] at e1 e2
      rw [if_neg (by omega), if_neg (by omega), if_neg (by omega), if_neg (by omega)]
      exact cmpL_trans (by simpa using h1) (by simpa using h2) e1 e2
/-- A row. -/
def rwL (dz : List Int) (long i : Nat) : List Int := (dz.drop (i * long)).take long
theorem rwL_length {dz : List Int} {n long i : Nat} (h : n * long ≤ dz.length) (hi : i < n) : (rwL dz long i).length = long := by
  unfold rwL
  have h1 : i * long + long ≤ n * long := by
    have := Nat.mul_le_mul_right long (show i + 1 ≤ n by omega)
    rw [Nat.add_mul, Nat.one_mul] at this; exact this
  rw [List.length_take, List.length_drop]; omega
theorem rwL_nth {dz : List Int} {long i j : Nat} (hj : j < long) : nth (rwL dz long i) j = nth dz (i * long + j) := by
  unfold rwL nth
  rw [List.getD_eq_getElem?_getD, List.getD_eq_getElem?_getD, List.getElem?_take, if_pos hj, List.getElem?_drop]
/-- How two rows stand, from the least or from the greatest. -/
def cmR (dn : Bool) (dz : List Int) (long i j : Nat) : Int := if dn = true then - cmpL (rwL dz long i) (rwL dz long j) else cmpL (rwL dz long i) (rwL dz long j)
/-- Is one ahead of the other? -/
def ltR (dn : Bool) (dz : List Int) (long i j : Nat) : Bool := decide (cmR dn dz long i j < 0) || (decide (cmR dn dz long i j = 0) && decide (i < j))
theorem ltR_iff {dn : Bool} {dz : List Int} {long i j : Nat} : ltR dn dz long i j = true ↔ cmR dn dz long i j < 0 ∨ (cmR dn dz long i j = 0 ∧ i < j) := by unfold ltR; simp
theorem cmR_swap (dn : Bool) (dz : List Int) (long i j : Nat) : cmR dn dz long j i = - cmR dn dz long i j := by
  unfold cmR
  rw [cmpL_swap (rwL dz long i)]
  split <;> rfl
theorem cmR_trans {dn : Bool} {dz : List Int} {n long i j k : Nat} (h : n * long ≤ dz.length) (hi : i < n) (hj : j < n) (hk : k < n) (e1 : cmR dn dz long i j ≤ 0) (e2 : cmR dn dz long j k ≤ 0) : cmR dn dz long i k ≤ 0 ∧ (cmR dn dz long i j < 0 ∨ cmR dn dz long j k < 0 → cmR dn dz long i k < 0) := by
  have l1 := rwL_length h hi
  have l2 := rwL_length h hj
  have l3 := rwL_length h hk
  cases dn with
  | false =>
    simp only [cmR, Bool.false_eq_true, if_false] at *
    exact cmpL_trans (by omega) (by omega) e1 e2
  | true =>
    simp only [cmR, if_true] at *
    have s1 := cmpL_swap (rwL dz long i) (rwL dz long j)
    have s2 := cmpL_swap (rwL dz long j) (rwL dz long k)
    have s3 := cmpL_swap (rwL dz long i) (rwL dz long k)
    have := cmpL_trans (a := rwL dz long k) (b := rwL dz long j) (c := rwL dz long i) (by omega) (by omega) (by omega) (by omega)
    exact ⟨by omega, fun q => by have := this.2 (by omega); omega⟩
theorem ltR_tot {dn : Bool} {dz : List Int} {n long : Nat} (h : n * long ≤ dz.length) : Tot (ltR dn dz long) n := by
  refine ⟨fun i hi => ?_, fun i j k hi hj hk h1 h2 => ?_, fun i j hi hj hne => ?_⟩
  · rw [← Bool.not_eq_true, ltR_iff]
    have : cmR dn dz long i i = 0 := by unfold cmR; rw [cmpL_self]; split <;> rfl
    omega
  · rw [ltR_iff] at *
    have := cmR_trans h hi hj hk (dn := dn) (by omega) (by omega)
    by_cases q : cmR dn dz long i j < 0 ∨ cmR dn dz long j k < 0
    · exact .inl (this.2 q)
    · have := this.1; omega
  · rw [ltR_iff, ltR_iff, cmR_swap dn dz long i j]; omega
/-- The order of all rows. -/
def grO (dn : Bool) (dz : List Int) (n long : Nat) : List Int := grd (ltR dn dz long) n
theorem grO_length {dn : Bool} {dz : List Int} {n long : Nat} : (grO dn dz n long).length = n := grd_length
theorem grO_ord {dn : Bool} {dz : List Int} {n long : Nat} (h : n * long ≤ dz.length) : IsOrd (grO dn dz n long) := grd_ord (ltR_tot h)
/-- How many rows there are, and how long each one is. -/
def nR (sz : List Int) : Nat := (nth sz 0).toNat
def lR (sz dz : List Int) : Nat := if nR sz = 0 then 0 else dz.length / nR sz
theorem lR_le (sz dz : List Int) : nR sz * lR sz dz ≤ dz.length := by
  unfold lR
  split
  · rw [Nat.mul_zero]; exact Nat.zero_le _
  · exact Nat.mul_div_le _ _
/-! ### One number a row -/
theorem cmpL_one {x y : Int} : cmpL [x] [y] = if x < y then -1 else if y < x then 1 else 0 := rfl
theorem rwL_one {dz : List Int} {i : Nat} (h : i < dz.length) : rwL dz 1 i = [nth dz i] := by
  unfold rwL
  rw [Nat.mul_one]
  rw [nth_get dz i h, List.drop_eq_getElem_cons h]; rfl
/-- The grade of an order is the order turned round. -/
theorem grO_ord_tnd {p : List Int} (hp : IsOrd p) : grO false p p.length 1 = tnd p := by
  obtain ⟨T, e⟩ := grd_ord_tnd hp
  rw [← e]
  unfold grO
  refine (grd_only (ltR_tot (by omega)) (grd_ord T) grd_length fun i hi => ?_).symm
  have h1 := grd_rises T (show i < i + 1 by omega) hi
  have o1 := ord_at (grd_ord T) (i := i) (by rw [grd_length]; omega)
  have o2 := ord_at (grd_ord T) (i := i + 1) (by rw [grd_length]; omega)
  rw [grd_length] at o1 o2
  rw [ltR_iff]
  left
  unfold cmR
  rw [if_neg (by decide), rwL_one o1.1, rwL_one o2.1, cmpL_one, if_pos (by simpa using h1)]; decide
/-! ### Down is up of the opposite -/
theorem cmpL_neg : ∀ {a b : List Int}, cmpL (a.map fun x => -1 - x) (b.map fun x => -1 - x) = - cmpL a b
  | [], [] => rfl
  | [], _ :: _ => rfl
  | _ :: _, [] => rfl
  | x :: a, y :: b => by
    show (if -1 - x < -1 - y then (-1 : Int) else if -1 - y < -1 - x then 1 else cmpL (a.map fun x => -1 - x) (b.map fun x => -1 - x)) = - (if x < y then (-1 : Int) else if y < x then 1 else cmpL a b)
    by_cases h1 : x < y
    · rw [if_neg (by omega), if_pos (by omega), if_pos h1]; rfl
    · by_cases h2 : y < x
      · rw [if_pos (by omega), if_neg h1, if_pos h2]
      · rw [if_neg (by omega), if_neg (by omega), if_neg h1, if_neg h2, cmpL_neg]
theorem grO_neg (dz : List Int) (n long : Nat) : grO false (dz.map fun x => -1 - x) n long = grO true dz n long := by
  have e : ∀ i, rwL (dz.map fun x => -1 - x) long i = (rwL dz long i).map fun x => -1 - x := fun i => by
    unfold rwL; rw [← List.map_drop, ← List.map_take]
  unfold grO
  congr 1
  funext i j
  unfold ltR cmR
  rw [e, e, cmpL_neg, if_neg (by decide), if_pos rfl]
/-! ### Rows in order -/
def srD (dz : List Int) (long : Nat) (p : List Int) : List Int := (p.map fun x => rwL dz long x.toNat).flatten
theorem flat_length {L : List (List Int)} {long : Nat} (h : ∀ r ∈ L, r.length = long) : L.flatten.length = L.length * long := by
  induction L with
  | nil => simp
  | cons r t ih =>
    rw [List.flatten_cons, List.length_append, h r List.mem_cons_self, ih (fun q hq => h q (List.mem_cons_of_mem _ hq)), List.length_cons, Nat.add_mul, Nat.one_mul, Nat.add_comm]
theorem flat_row {long : Nat} : ∀ {L : List (List Int)}, (∀ r ∈ L, r.length = long) → ∀ {i : Nat} (hi : i < L.length), rwL L.flatten long i = L[i]
  | [], _, i, hi => by simp at hi
  | r :: t, h, 0, _ => by
    unfold rwL
    rw [Nat.zero_mul, List.drop_zero, List.flatten_cons, List.take_append_of_le_length (by rw [h r List.mem_cons_self]; exact Nat.le_refl _), List.take_of_length_le (by rw [h r List.mem_cons_self]; exact Nat.le_refl _)]; rfl
  | r :: t, h, i + 1, hi => by
    have ih := flat_row (L := t) (fun q hq => h q (List.mem_cons_of_mem _ hq)) (i := i) (by simpa using hi)
    unfold rwL at ih ⊢
    rw [List.flatten_cons, Nat.add_mul, Nat.one_mul, List.drop_append, h r List.mem_cons_self, show i * long + long - long = i * long by omega, List.drop_eq_nil_of_le (by rw [h r List.mem_cons_self]; omega), List.nil_append, ih]; rfl
section
variable {dz : List Int} {n long : Nat} {p : List Int}
theorem srD_rows (h : n * long ≤ dz.length) (hp : IsOrd p) (hl : p.length = n) : ∀ r ∈ p.map (fun x => rwL dz long x.toNat), r.length = long := by
  intro r hr
  obtain ⟨x, hx, rfl⟩ := List.mem_map.1 hr
  obtain ⟨j, hj, rfl⟩ := List.mem_iff_getElem.1 hx
  have := ord_at hp hj
  rw [← nth_get p j hj]
  exact rwL_length h (by omega)
theorem srD_length (h : n * long ≤ dz.length) (hp : IsOrd p) (hl : p.length = n) : (srD dz long p).length = n * long := by
  unfold srD
  rw [flat_length (srD_rows h hp hl), List.length_map, hl]
/-- A row of rows in order. -/
theorem srD_row (h : n * long ≤ dz.length) (hp : IsOrd p) (hl : p.length = n) {i : Nat} (hi : i < n) : rwL (srD dz long p) long i = rwL dz long (nth p i).toNat := by
  unfold srD
  rw [flat_row (srD_rows h hp hl) (i := i) (by rw [List.length_map, hl]; exact hi), List.getElem_map, nth_get p i (by omega)]
theorem rows_all : ∀ {n : Nat} {dz : List Int}, dz.length = n * long → ((List.range n).map fun i => rwL dz long i).flatten = dz
  | 0, dz, h => by simp at h; subst h; rfl
  | n + 1, dz, h => by
    rw [List.range_succ, List.map_append, List.flatten_append]
    have h1 : (dz.take (n * long)).length = n * long := by rw [List.length_take, h, Nat.add_mul]; omega
    have ih := rows_all h1
    have e : (List.range n).map (fun i => rwL dz long i) = (List.range n).map (fun i => rwL (dz.take (n * long)) long i) := by
      refine List.map_congr_left fun i hi => ?_
      have hi := List.mem_range.1 hi
      have h2 : i * long + long ≤ n * long := by
        have := Nat.mul_le_mul_right long (show i + 1 ≤ n by omega)
        rw [Nat.add_mul, Nat.one_mul] at this; exact this
      unfold rwL
      rw [List.drop_take, List.take_take, Nat.min_eq_left (by omega)]
    rw [e, ih]
    simp only [List.map_cons, List.map_nil, List.flatten_cons, List.flatten_nil, List.append_nil]
    unfold rwL
    have e2 : (dz.drop (n * long)).take long = dz.drop (n * long) := List.take_of_length_le (by rw [List.length_drop, h, Nat.add_mul]; omega)
    rw [e2, List.take_append_drop]
theorem srD_idn (h : dz.length = n * long) : srD dz long (idn n) = dz := by
  unfold srD idn
  rw [List.map_map]
  exact rows_all h
/-! ### It does not matter how they stood -/
theorem perm_sorted {le : List Int → List Int → Prop} : ∀ {A B : List (List Int)}, A.Perm B → A.Pairwise le → B.Pairwise le → (∀ a b, a ∈ A → b ∈ A → le a b → le b a → a = b) → A = B
  | [], B, h, _, _, _ => (List.eq_nil_of_length_eq_zero (by simpa using h.length_eq.symm)).symm
  | a :: A, [], h, _, _, _ => by have := h.length_eq; simp at this
  | a :: A, b :: B, h, hA, hB, hs => by
    have hA' := List.pairwise_cons.1 hA
    have hB' := List.pairwise_cons.1 hB
    have e : a = b := by
      by_cases e : a = b
      · exact e
      · have m1 : a ∈ B := by
          rcases List.mem_cons.1 (h.mem_iff.1 (List.mem_cons_self (a := a) (l := A))) with q | q
          · exact absurd q e
          · exact q
        have m2 : b ∈ A := by
          rcases List.mem_cons.1 (h.mem_iff.2 (List.mem_cons_self (a := b) (l := B))) with q | q
          · exact absurd q.symm e
          · exact q
        exact hs a b List.mem_cons_self (List.mem_cons_of_mem _ m2) (hA'.1 b m2) (hB'.1 a m1)
    subst e
    rw [perm_sorted ((List.perm_cons a).1 h) hA'.2 hB'.2 fun x y hx hy => hs x y (List.mem_cons_of_mem _ hx) (List.mem_cons_of_mem _ hy)]
theorem map_rows (p : List Int) (f : Nat → List Int) : (p.map fun x => f x.toNat) = (List.range p.length).map fun i => f (nth p i).toNat := by
  refine List.ext_getElem (by simp) fun i h1 h2 => ?_
  simp only [List.getElem_map, List.getElem_range]
  rw [nth_get p i (by simpa using h1)]
/-- The rows of an order that rises. -/
def RisR (dz : List Int) (long n : Nat) (p : List Int) : Prop := ∀ a b, a < b → b < n → cmpL (rwL dz long (nth p a).toNat) (rwL dz long (nth p b).toNat) ≤ 0
theorem grO_ris (h : n * long ≤ dz.length) : RisR dz long n (grO false dz n long) := fun a b hab hb => by
  have := grd_rises (ltR_tot (dn := false) h) hab hb
  rw [ltR_iff] at this
  simp only [cmR, Bool.false_eq_true, if_false] at this
  unfold grO
  omega
theorem ris_only {q : List Int} (h : n * long ≤ dz.length) (hp : IsOrd p) (hl : p.length = n) (hq : IsOrd q) (hl' : q.length = n) (r1 : RisR dz long n p) (r2 : RisR dz long n q) : srD dz long p = srD dz long q := by
  unfold srD
  congr 1
  have P1 : (p.map fun x => rwL dz long x.toNat).Perm (q.map fun x => rwL dz long x.toNat) := ((ord_perm hp).trans (by rw [hl, ← hl']; exact (ord_perm hq).symm)).map _
  have hpw : ∀ {p : List Int}, p.length = n → RisR dz long n p → (p.map fun x => rwL dz long x.toNat).Pairwise (fun a b => cmpL a b ≤ 0) := fun {p} hl r => by
    rw [map_rows, List.pairwise_map]
    refine List.Pairwise.imp_of_mem (fun {a b} ha hb hab => ?_) (List.pairwise_lt_range (n := p.length))
    exact r a b hab (by have := List.mem_range.1 hb; omega)
  refine perm_sorted P1 (hpw hl r1) (hpw hl' r2) fun a b ha hb h1 h2 => ?_
  have l1 := srD_rows h hp hl a ha
  have l2 := srD_rows h hp hl b hb
  have := cmpL_swap a b
  exact cmpL_zero (by omega) (by omega)
theorem srD_aft {q : List Int} (h : n * long ≤ dz.length) (hp : IsOrd p) (hl : p.length = n) (hq : IsOrd q) (hl' : q.length = n) : srD (srD dz long p) long q = srD dz long (aft p q) := by
  unfold srD
  congr 1
  unfold aft
  rw [List.map_map]
  refine List.map_congr_left fun x hx => ?_
  obtain ⟨j, hj, rfl⟩ := List.mem_iff_getElem.1 hx
  have o := ord_at hq hj
  rw [← nth_get q j hj]
  have := srD_row h hp hl (i := (nth q j).toNat) (by omega)
  unfold srD at this
  rw [this]; rfl
/-- Rows in any other order are the same when they are sorted. -/
theorem mixed (h : dz.length = n * long) (hp : IsOrd p) (hl : p.length = n) : srD (srD dz long p) long (grO false (srD dz long p) n long) = srD dz long (grO false dz n long) := by
  have h0 : n * long ≤ dz.length := by omega
  have hz : n * long ≤ (srD dz long p).length := by rw [srD_length h0 hp hl]; exact Nat.le_refl _
  have hg := grO_ord (dn := false) hz
  rw [srD_aft h0 hp hl hg grO_length]
  refine ris_only h0 (aft_ord hp hg (by rw [hl, grO_length])) (by rw [aft_length, grO_length]) (grO_ord h0) grO_length (fun a b hab hb => ?_) (grO_ris h0)
  have r := grO_ris hz a b hab hb
  have o1 := ord_at hg (i := a) (by rw [grO_length]; omega)
  have o2 := ord_at hg (i := b) (by rw [grO_length]; exact hb)
  rw [grO_length] at o1 o2
  rw [srD_row h0 hp hl o1.1, srD_row h0 hp hl o2.1] at r
  rw [aft_nth (by rw [grO_length]; omega), aft_nth (by rw [grO_length]; exact hb)]
  exact r
/-- Sorted again they stay. -/
theorem sorted_stays (h : dz.length = n * long) : srD (srD dz long (grO false dz n long)) long (grO false (srD dz long (grO false dz n long)) n long) = srD dz long (grO false dz n long) :=
  mixed h (grO_ord (by omega)) grO_length
end
end Go.Proofs.Ytmbgomljofngnab
