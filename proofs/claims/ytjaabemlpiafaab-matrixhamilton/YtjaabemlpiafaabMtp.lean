/-
  Plain mathematics of polynomials in one whole number, by what they tell of each number.
-/
import Derived.Test.YtjaabemlpiafaabMtn
namespace Go.Proofs.Ytjaabemlpiafaab
open Go.RowKit
set_option linter.unusedVariables false

def ev : List Int → Int → Int
  | [], _ => 0
  | a :: l, x => a + x * ev l x
def cf (l : List Int) (t : Nat) : Int := l.getD t 0
theorem cf_zero (a : Int) (l : List Int) : cf (a :: l) 0 = a := rfl
theorem cf_succ (a : Int) (l : List Int) (t : Nat) : cf (a :: l) (t + 1) = cf l t := by simp [cf]
theorem cf_nil (t : Nat) : cf [] t = 0 := by simp [cf]
theorem cf_out {l : List Int} {t : Nat} (h : l.length ≤ t) : cf l t = 0 := by simp [cf, List.getElem?_eq_none h]
/-- What is 0 at all great numbers has no numbers. -/
theorem ev_null : ∀ {l : List Int} (X : Int), (∀ x, X ≤ x → ev l x = 0) → ∀ t, cf l t = 0
  | [], _, _, t => cf_nil t
  | a :: l, X, h, t => by
    have h0 : a = 0 := by
      obtain ⟨x, hx⟩ : ∃ x : Int, x = (X.natAbs : Int) + a.natAbs + 1 := ⟨_, rfl⟩
      have h1 := h x (by omega)
      rw [ev] at h1
      have hd : x ∣ a := ⟨-ev l x, by rw [Int.mul_neg]; omega⟩
      exact Classical.byContradiction fun hn => by
        have := Nat.le_of_dvd (by omega) (Int.natAbs_dvd_natAbs.2 hd)
        omega
    have h2 : ∀ t, cf l t = 0 := ev_null (max X 1) fun x hx => by
      have h1 := h x (by omega)
      rw [ev, h0, Int.zero_add] at h1
      rcases Int.mul_eq_zero.1 h1 with e | e
      · omega
      · exact e
    cases t with
    | zero => rw [cf_zero, h0]
    | succ t => rw [cf_succ]; exact h2 t
/-- Sums, products. -/
def pad : List Int → List Int → List Int
  | [], m => m
  | a :: l, [] => a :: l
  | a :: l, b :: m => (a + b) :: pad l m
theorem ev_pad (x : Int) : ∀ l m : List Int, ev (pad l m) x = ev l x + ev m x
  | [], m => by rw [pad, ev, Int.zero_add]
  | a :: l, [] => by rw [pad, ev, ev, Int.add_zero]
  | a :: l, b :: m => by rw [pad, ev, ev, ev, ev_pad x l m, Int.mul_add]; omega
def psc (c : Int) (l : List Int) : List Int := l.map fun a => c * a
theorem ev_psc (c x : Int) : ∀ l : List Int, ev (psc c l) x = c * ev l x
  | [] => by show (0 : Int) = c * 0; rw [Int.mul_zero]
  | a :: l => by
    show c * a + x * ev (psc c l) x = c * (a + x * ev l x)
    rw [ev_psc c x l]
    grind
theorem cf_pad : ∀ (l m : List Int) (t : Nat), cf (pad l m) t = cf l t + cf m t
  | [], m, t => by rw [pad, cf_nil, Int.zero_add]
  | a :: l, [], t => by rw [pad, cf_nil, Int.add_zero]
  | a :: l, b :: m, 0 => rfl
  | a :: l, b :: m, t + 1 => by rw [pad, cf_succ, cf_succ, cf_succ, cf_pad l m t]
theorem cf_psc (c : Int) : ∀ (l : List Int) (t : Nat), cf (psc c l) t = c * cf l t
  | [], t => by show cf [] t = _; rw [cf_nil, Int.mul_zero]
  | a :: l, 0 => rfl
  | a :: l, t + 1 => by show cf (c * a :: psc c l) (t + 1) = _; rw [cf_succ, cf_succ, cf_psc c l t]
/-- Told by the same everywhere, the same numbers. -/
theorem ev_same {l m : List Int} (X : Int) (h : ∀ x, X ≤ x → ev l x = ev m x) (t : Nat) : cf l t = cf m t := by
  have h1 := ev_null (l := pad l (psc (-1) m)) X (fun x hx => by rw [ev_pad, ev_psc, h x hx]; omega) t
  rw [cf_pad, cf_psc] at h1
  omega
def Poly (g : Int → Int) : Prop := ∃ l, ∀ x, g x = ev l x
theorem Poly.const (c : Int) : Poly fun _ => c := ⟨[c], fun x => by show c = c + x * 0; rw [Int.mul_zero, Int.add_zero]⟩
theorem Poly.id : Poly fun x => x := ⟨[0, 1], fun x => by show x = 0 + x * (1 + x * 0); rw [Int.mul_zero, Int.add_zero, Int.mul_one, Int.zero_add]⟩
theorem Poly.add {g h : Int → Int} : Poly g → Poly h → Poly fun x => g x + h x
  | ⟨l, hl⟩, ⟨m, hm⟩ => ⟨pad l m, fun x => by show g x + h x = _; rw [ev_pad, hl x, hm x]⟩
theorem Poly.scale (c : Int) {g : Int → Int} : Poly g → Poly fun x => c * g x
  | ⟨l, hl⟩ => ⟨psc c l, fun x => by show c * g x = _; rw [ev_psc, hl x]⟩
theorem Poly.mulx {g : Int → Int} : Poly g → Poly fun x => x * g x
  | ⟨l, hl⟩ => ⟨0 :: l, fun x => by show x * g x = _; rw [ev, Int.zero_add, hl x]⟩
theorem Poly.mul {g h : Int → Int} (hg : Poly g) : Poly h → Poly fun x => g x * h x
  | ⟨m, hm⟩ => by
    have key : ∀ m : List Int, Poly fun x => g x * ev m x := fun m => by
      induction m with
      | nil =>
        have : (fun x => g x * ev [] x) = fun _ => 0 := funext fun x => Int.mul_zero _
        rw [this]; exact Poly.const 0
      | cons a m ih =>
        have : (fun x => g x * ev (a :: m) x) = fun x => a * g x + x * (g x * ev m x) := funext fun x => by
          rw [ev]
          generalize ev m x = e
          generalize g x = y
          grind
        rw [this]
        exact (hg.scale a).add ih.mulx
    have : (fun x => g x * h x) = fun x => g x * ev m x := funext fun x => by rw [hm x]
    rw [this]
    exact key m
theorem Poly.sum {g : Nat → Int → Int} : ∀ {n : Nat}, (∀ i, i < n → Poly (g i)) → Poly fun x => sm n fun i => g i x
  | 0, _ => Poly.const 0
  | n + 1, h => (Poly.sum fun i hi => h i (by omega)).add (h n (by omega))
theorem Poly.dt {M : Int → Mx} : ∀ {n : Nat}, (∀ i, i < n → ∀ j, j < n → Poly fun x => M x i j) → Poly fun x => Go.Proofs.Ytjaabemlpiafaab.dt n (M x)
  | 0, _ => Poly.const 1
  | n + 1, h => by
    show Poly fun x => sm (n + 1) fun i => sg i * M x 0 i * Go.Proofs.Ytjaabemlpiafaab.dt n fun j k => M x (j + 1) (skp i k)
    exact Poly.sum (g := fun i x => sg i * M x 0 i * Go.Proofs.Ytjaabemlpiafaab.dt n fun j k => M x (j + 1) (skp i k)) fun i hi => ((h 0 (by omega) i hi).scale (sg i)).mul (Poly.dt (M := fun x j k => M x (j + 1) (skp i k)) fun j hj k hk => h (j + 1) (by omega) _ (skp_bd hk))
/-- What begins with 1 is above 0 at great numbers. -/
theorem ev_monic : ∀ (l : List Int), ∃ X : Int, ∀ x, X ≤ x → 0 < ev (l ++ [1]) x
  | [] => ⟨0, fun x _ => by show 0 < 1 + x * 0; omega⟩
  | a :: l => by
    obtain ⟨X, h⟩ := ev_monic l
    refine ⟨max X ((a.natAbs : Int) + 1), fun x hx => ?_⟩
    have h1 := h x (by omega)
    show 0 < a + x * ev (l ++ [1]) x
    have h2 : x * 1 ≤ x * ev (l ++ [1]) x := Int.mul_le_mul_of_nonneg_left (by omega) (by omega)
    omega
/-- A sum of powers is such. -/
theorem ev_sum (c : Nat → Int) (x : Int) : ∀ n, ev ((List.range n).map c) x = sm n fun t => c t * x ^ t
  | 0 => rfl
  | n + 1 => by
    have key : ∀ (l : List Int) (a : Int), ev (l ++ [a]) x = ev l x + a * x ^ l.length := fun l a => by
      induction l with
      | nil => show a + x * 0 = 0 + a * x ^ 0; rw [Int.pow_zero]; omega
      | cons b l ih =>
        show b + x * ev (l ++ [a]) x = b + x * ev l x + a * x ^ (l.length + 1)
        rw [ih, Int.pow_succ]
        generalize x ^ l.length = p
        generalize ev l x = e
        grind
    rw [List.range_succ, List.map_append, List.map_cons, List.map_nil, key, ev_sum c x n, sm]
    simp
theorem cf_sum (c : Nat → Int) (n : Nat) (t : Nat) : cf ((List.range n).map c) t = if t < n then c t else 0 := by
  by_cases h : t < n
  · rw [if_pos h]; simp [cf, h]
  · rw [if_neg h, cf_out (by simp; omega)]
/-- Two sums of powers that are the same everywhere. -/
theorem sum_same {c d : Nat → Int} {n : Nat} (X : Int) (h : ∀ x, X ≤ x → (sm n fun t => c t * x ^ t) = sm n fun t => d t * x ^ t) {t : Nat} (ht : t < n) : c t = d t := by
  have h1 := ev_same (l := (List.range n).map c) (m := (List.range n).map d) X (fun x hx => by rw [ev_sum, ev_sum, h x hx]) t
  rwa [cf_sum, cf_sum, if_pos ht, if_pos ht] at h1
end Go.Proofs.Ytjaabemlpiafaab
