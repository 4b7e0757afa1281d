/-
  Arrb Onem Cycm Eachm, together.
-/
import Derived.Test.YtgaelbgeoobgiaaBase
import Derived.Test.YtgaelbgeoobgiaaCutn
/-! Arrb: Plain words on two arrays: are they the same, which fault comes first. -/
namespace Go.Proofs.Ytgaelbgeoobgiaa
open Go.RowKit
set_option linter.unusedVariables false

def flawsE (c : Bool) (sz dz : List Int) (c' : Bool) (sz' dz' : List Int) : Int := if flawE c sz dz = 0 then flawE c' sz' dz' else flawE c sz dz
def arrB (c : Bool) (sz dz : List Int) (c' : Bool) (sz' dz' : List Int) : Bool := (c == c') && (eqB sz sz' && eqB dz dz')
/-- What Match tells. -/
def mtB (c : Bool) (sz dz : List Int) (c' : Bool) (sz' dz' : List Int) : Bool := decide (flawsE c sz dz c' sz' dz' = 0) && arrB c sz dz c' sz' dz'
theorem flawsE_zero {c c' : Bool} {sz dz sz' dz' : List Int} : flawsE c sz dz c' sz' dz' = 0 ↔ flawE c sz dz = 0 ∧ flawE c' sz' dz' = 0 := by
  unfold flawsE
  split
  · rename_i h; exact ⟨fun h' => ⟨h, h'⟩, fun h' => h'.2⟩
  · rename_i h; exact ⟨fun h' => absurd h' h, fun h' => absurd h'.1 h⟩
theorem mtB_ok {c c' : Bool} {sz dz sz' dz' : List Int} (h : flawE c sz dz = 0) (h' : flawE c' sz' dz' = 0) : mtB c sz dz c' sz' dz' = arrB c sz dz c' sz' dz' := by
  unfold mtB; rw [flawsE_zero.2 ⟨h, h'⟩]; rfl
theorem arrB_iff {c c' : Bool} {sz dz sz' dz' : List Int} : arrB c sz dz c' sz' dz' = true ↔ c = c' ∧ sz = sz' ∧ dz = dz' := by
  unfold arrB eqB
  simp
theorem arrB_self (c : Bool) (sz dz : List Int) : arrB c sz dz c sz dz = true := arrB_iff.2 ⟨rfl, rfl, rfl⟩
end Go.Proofs.Ytgaelbgeoobgiaa
/-! Onem: Plain mathematics of one number: what is told of it; nothing of the program. -/
namespace Go.Proofs.Ytgaelbgeoobgiaa
open Go.RowKit
set_option linter.unusedVariables false

/-- The error of one number: 0: none. -/
def oneE (f a : Int) : Int := if f = 1 ∨ f = 2 ∨ f = 3 ∨ f = 5 then 0 else if f = 17 then (if a = 0 ∨ a = 1 then 0 else 6) else 1
def oneV (f a : Int) : Int := if f = 1 then a else if f = 2 then wrap64 (-a) else if f = 3 then (if a = 0 then 0 else if 0 < a then 1 else -1)
  else if f = 5 then (if 0 ≤ a then a else wrap64 (-a)) else if f = 17 then (if a = 0 then 1 else 0) else 0
end Go.Proofs.Ytgaelbgeoobgiaa
/-! Cycm: Cells round and round: what a list's own length tells; arrays on one axis. -/
namespace Go.Proofs.Ytgaelbgeoobgiaa
open Go.RowKit
set_option linter.unusedVariables false

theorem cyc_self (zs : List Int) (d : Int) : cyc zs zs.length d = zs := by
  refine nth_ext (cyc_length _ _ _) fun j hj => ?_
  rw [cyc_length] at hj
  rw [cyc_nth _ _ _ hj]
  unfold cyA
  rw [if_neg (by omega), Nat.mod_eq_of_lt hj]
theorem errOf_line {n : Nat} (h : n ≤ 4096) : errOf [(n : Int)] = 0 := by
  refine errOf_zero.2 ⟨by simp, ?_, by simp [prod]; omega⟩
  intro x hx
  rw [List.mem_singleton] at hx
  omega
theorem prod_line (n : Int) : prod [n] = n := by simp [prod]
theorem flaw_line {c : Bool} {sz dz : List Int} (h : flawE c sz dz = 0) : flawE c [(dz.length : Int)] dz = 0 := by
  have h4 := (flawE_short h).2
  obtain ⟨_, _, hc⟩ := flawE_zero h
  have e := errOf_line h4
  have p := prod_line (dz.length : Int)
  cases c
  · exact flawE_okn e p.symm
  · exact flawE_okc e p.symm (hc rfl)
end Go.Proofs.Ytgaelbgeoobgiaa
/-! Eachm: Plain mathematics of what is done cell by cell: errors and cells; nothing of the program. -/
namespace Go.Proofs.Ytgaelbgeoobgiaa
open Go.RowKit
set_option linter.unusedVariables false

theorem allN {p : Nat → Prop} {k : Nat} (h : ∀ j, j < k → p j) (hk : p k) : ∀ j, j < k + 1 → p j := fun j hj => by
  by_cases e : j = k
  · rw [e]; exact hk
  · exact h j (by omega)
/-- The error of One of an array. -/
def e1E (f : Int) (c : Bool) (sz dz : List Int) : Int := if oneE f 0 ≠ 0 then oneE f 0 else if flawE c sz dz ≠ 0 then flawE c sz dz else if c = true then 6 else if dz.all (fun x => oneE f x == 0) = true then 0 else 6
def e1V (f : Int) (dz : List Int) : List Int := dz.map (oneV f)
theorem e1V_length (f : Int) (dz : List Int) : (e1V f dz).length = dz.length := by simp [e1V]
theorem e1V_nth (f : Int) (dz : List Int) {j : Nat} (h : j < dz.length) : nth (e1V f dz) j = oneV f (nth dz j) := by simp [e1V, nth, h]
theorem oneE_cell {f : Int} (h : oneE f 0 = 0) (x : Int) : oneE f x = 0 ∨ oneE f x = 6 := by
  unfold oneE at *
  split
  · simp
  · split
    · split <;> simp
    · rename_i h1 h2; rw [if_neg h1, if_neg h2] at h; cases h
/-- The cells of two arrays with one another. -/
def tcE (f : Int) (alike : Bool) (a b : Int) : Int := if alike = true then twoE f a b else 0
def tcV (f : Int) (alike : Bool) (a b : Int) : Int := if alike = true then twoV f a b else ifV (decide (f = 9))
/-- The shape that is told. -/
def shp (sz sz' : List Int) : List Int := if sz.length = 0 then sz' else sz
/-- The error of Two of arrays, ahead of the cells'. -/
def e2F (f : Int) (c : Bool) (sz dz : List Int) (c' : Bool) (sz' dz' : List Int) : Int :=
  if f < 1 ∨ 16 < f then 1 else if flawsE c sz dz c' sz' dz' ≠ 0 then flawsE c sz dz c' sz' dz' else if sz.length ≠ 0 ∧ sz'.length ≠ 0 ∧ sz.length ≠ sz'.length then 3 else if sz.length ≠ 0 ∧ sz'.length ≠ 0 ∧ sz ≠ sz' then 4
  else if (c = true ∨ c' = true) ∧ f ≠ 8 ∧ f ≠ 9 then 6 else 0
/-- How many cells are told. -/
def e2N (sz sz' : List Int) : Nat := (prod (shp sz sz')).toNat
/-- The cells of each, as often as is needed. -/
def e2C (dz : List Int) (i : Nat) : Int := cyA dz 0 i
def e2O (f : Int) (c : Bool) (sz dz : List Int) (c' : Bool) (sz' dz' : List Int) : Bool := (List.range (e2N sz sz')).all fun i => tcE f (c == c') (e2C dz i) (e2C dz' i) == 0
def e2E (f : Int) (c : Bool) (sz dz : List Int) (c' : Bool) (sz' dz' : List Int) : Int := if e2F f c sz dz c' sz' dz' ≠ 0 then e2F f c sz dz c' sz' dz' else if e2O f c sz dz c' sz' dz' = true then 0 else 6
def e2V (f : Int) (c : Bool) (sz dz : List Int) (c' : Bool) (sz' dz' : List Int) : List Int := (List.range (e2N sz sz')).map fun i => tcV f (c == c') (e2C dz i) (e2C dz' i)
theorem e2V_length (f : Int) (c : Bool) (sz dz : List Int) (c' : Bool) (sz' dz' : List Int) : (e2V f c sz dz c' sz' dz').length = e2N sz sz' := by simp [e2V]
theorem e2V_nth (f : Int) (c : Bool) (sz dz : List Int) (c' : Bool) (sz' dz' : List Int) {i : Nat} (h : i < e2N sz sz') : nth (e2V f c sz dz c' sz' dz') i = tcV f (c == c') (e2C dz i) (e2C dz' i) := by simp [e2V, nth, h]
theorem twoE_cell {f : Int} (h : ¬ (f < 1 ∨ 16 < f)) (a b : Int) : twoE f a b = 0 ∨ twoE f a b = 6 := by
  unfold twoE
  rw [if_neg h]
  split
  · simp
  · split <;> simp
theorem tcE_cell {f : Int} (h : ¬ (f < 1 ∨ 16 < f)) (t : Bool) (a b : Int) : tcE f t a b = 0 ∨ tcE f t a b = 6 := by
  unfold tcE
  split
  · exact twoE_cell h a b
  · simp
/-- Nothing is wrong with the two, ahead of their cells. -/
theorem e2F_zero {f : Int} {c : Bool} {sz dz : List Int} {c' : Bool} {sz' dz' : List Int} : e2F f c sz dz c' sz' dz' = 0 ↔ ¬ (f < 1 ∨ 16 < f) ∧ flawE c sz dz = 0 ∧ flawE c' sz' dz' = 0 ∧ (sz.length = 0 ∨ sz'.length = 0 ∨ sz = sz') ∧ ¬ ((c = true ∨ c' = true) ∧ f ≠ 8 ∧ f ≠ 9) := by
  unfold e2F
  by_cases h1 : f < 1 ∨ 16 < f
  · rw [if_pos h1]; exact ⟨(fun h => absurd h (by decide)), fun h => absurd h1 h.1⟩
  · rw [if_neg h1]
    by_cases h2 : flawsE c sz dz c' sz' dz' = 0
    · rw [if_neg (by simpa using h2)]
      have h2' := flawsE_zero.1 h2
      by_cases h3 : sz.length ≠ 0 ∧ sz'.length ≠ 0 ∧ sz.length ≠ sz'.length
      · rw [if_pos h3]; exact ⟨(fun h => absurd h (by decide)), fun h => by
          rcases h.2.2.2.1 with e | e | e
          · exact absurd e h3.1
          · exact absurd e h3.2.1
          · exact absurd (by rw [e]) h3.2.2⟩
      · rw [if_neg h3]
        by_cases h4 : sz.length ≠ 0 ∧ sz'.length ≠ 0 ∧ sz ≠ sz'
        · rw [if_pos h4]; exact ⟨(fun h => absurd h (by decide)), fun h => by
            rcases h.2.2.2.1 with e | e | e
            · exact absurd e h4.1
            · exact absurd e h4.2.1
            · exact absurd e h4.2.2⟩
        · rw [if_neg h4]
          have h4' : sz.length = 0 ∨ sz'.length = 0 ∨ sz = sz' := by
            by_cases a : sz.length = 0
            · exact .inl a
            · by_cases b : sz'.length = 0
              · exact .inr (.inl b)
              · by_cases d : sz = sz'
                · exact .inr (.inr d)
                · exact absurd ⟨a, b, d⟩ h4
          by_cases h5 : (c = true ∨ c' = true) ∧ f ≠ 8 ∧ f ≠ 9
          · rw [if_pos h5]; exact ⟨(fun h => absurd h (by decide)), fun h => absurd h5 h.2.2.2.2⟩
          · rw [if_neg h5]; exact ⟨fun _ => ⟨h1, h2'.1, h2'.2, h4', h5⟩, fun _ => rfl⟩
    · rw [if_pos h2]; exact ⟨fun h => absurd h h2, fun h => absurd (flawsE_zero.2 ⟨h.2.1, h.2.2.1⟩) h2⟩
/-- The shape that is told has no fault; its cells. -/
theorem shp_ok {f : Int} {c : Bool} {sz dz : List Int} {c' : Bool} {sz' dz' : List Int} (h : e2F f c sz dz c' sz' dz' = 0) : errOf (shp sz sz') = 0 ∧ ((e2N sz sz' : Nat) : Int) = prod (shp sz sz') ∧ e2N sz sz' ≤ 4096 := by
  obtain ⟨_, h1, h2, _, _⟩ := e2F_zero.1 h
  have e : errOf (shp sz sz') = 0 := by
    unfold shp
    split
    · exact (flawE_zero h2).1
    · exact (flawE_zero h1).1
  have hz := errOf_zero.1 e
  have := prod_nonneg hz.2.1
  unfold e2N
  exact ⟨e, by omega, by omega⟩
/-- The first k of one list, and those of another one behind them. -/
def mixL (V X : List Int) (k : Nat) : List Int := V.take k ++ X.drop k
theorem mixL_length {V X : List Int} {k n : Nat} (hV : V.length = n) (hX : X.length = n) (hk : k ≤ n) : (mixL V X k).length = n := by unfold mixL; rw [List.length_append, List.length_take, List.length_drop]; omega
theorem mixL_zero (V X : List Int) : mixL V X 0 = X := by simp [mixL]
theorem mixL_end {V X : List Int} {n : Nat} (hV : V.length = n) (hX : X.length = n) : mixL V X n = V := by
  unfold mixL
  rw [List.take_of_length_le (by omega), List.drop_eq_nil_of_le (by omega), List.append_nil]
theorem mixL_nth {V X : List Int} {k n : Nat} (hV : V.length = n) (hk : k < n) : nth (mixL V X k) k = nth X k := by
  have ht : (V.take k).length = k := by rw [List.length_take]; omega
  simp [mixL, nth, List.getElem?_append, ht]
theorem mixL_set {V X : List Int} {k n : Nat} (hV : V.length = n) (hX : X.length = n) (hk : k < n) : (mixL V X k).set k (nth V k) = mixL V X (k + 1) := by
  refine nth_ext (by rw [List.length_set, mixL_length hV hX (by omega), mixL_length hV hX (by omega)]) fun j hj => ?_
  rw [List.length_set, mixL_length hV hX (by omega)] at hj
  rw [nth_set _ _ _ _ (by rw [mixL_length hV hX (by omega)]; exact hk)]
  have t1 : (V.take k).length = k := by rw [List.length_take]; omega
  have t2 : (V.take (k + 1)).length = k + 1 := by rw [List.length_take]; omega
  by_cases e : j = k
  · subst e
    rw [if_pos rfl]
    have hjV : j < V.length := by omega
    simp [mixL, nth, List.getElem?_append, t2, hjV]
  · rw [if_neg e]
    by_cases h : j < k
    · simp [mixL, nth, List.getElem?_append, t1, t2, h, show j < k + 1 by omega]
    · simp [mixL, nth, List.getElem?_append, t1, t2, h, show ¬ j < k + 1 by omega]
      congr 1
      congr 1
      omega
/-- Where cells are told, there are some. -/
theorem e2_some {f : Int} {c : Bool} {sz dz : List Int} {c' : Bool} {sz' dz' : List Int} (h : e2F f c sz dz c' sz' dz' = 0) {i : Nat} (hi : i < e2N sz sz') : dz.length ≠ 0 ∧ dz'.length ≠ 0 := by
  obtain ⟨_, h1, h2, h3, _⟩ := e2F_zero.1 h
  have hn := (shp_ok h).2.1
  have p1 := (flawE_zero h1).2.1
  have p2 := (flawE_zero h2).2.1
  unfold shp at hn
  have z0 : ∀ l : List Int, l.length = 0 → prod l = 1 := fun l hl => by rw [List.eq_nil_of_length_eq_zero hl]; rfl
  constructor
  · intro hd
    rw [hd] at p1
    by_cases hz : sz.length = 0
    · have := z0 sz hz; omega
    · rw [if_neg hz] at hn; omega
  · intro hd
    rw [hd] at p2
    by_cases hz : sz'.length = 0
    · have := z0 sz' hz; omega
    · by_cases hy : sz.length = 0
      · rw [if_pos hy] at hn; omega
      · rw [if_neg hy] at hn
        rcases h3 with q | q | q
        · exact hy q
        · exact hz q
        · have : prod sz = prod sz' := by rw [q]
          omega
theorem cyA_any {dz : List Int} (h : dz.length ≠ 0) (d d' : Int) (i : Nat) : cyA dz d i = cyA dz d' i := by unfold cyA; rw [if_neg h, if_neg h]
theorem In64.cyA {dz : List Int} (h : ∀ j, In64 (nth dz j)) (hl : dz.length ≠ 0) (d : Int) (i : Nat) : In64 (cyA dz d i) := by unfold Go.Proofs.Ytgaelbgeoobgiaa.cyA; rw [if_neg hl]; exact h _
end Go.Proofs.Ytgaelbgeoobgiaa
