/-
  What the program's Take, Drop, Join, Keep and Spread tell, in one form.
-/
import Derived.Test.YtgaelbgeoobgiabCutn
namespace Go.Proofs.Ytgaelbgeoobgiab
open Go.ChangeShapes Go.WideShapes Go.ChangeAt Go.RowKit Go.Deep
set_option linter.unusedVariables false

/-- The lengths and the cells of an array that came in, and that its shape and its cells have room. -/
def IsArrD (W : World) (sa : Option Addr) (sz : List Int) (sc : Nat) (da : Option Addr) (dz : List Int) (dc : Nat) : Prop :=
  sz.length ≤ 9223372036854775807 ∧ dz.length ≤ 9223372036854775807 ∧ IsC W.heap.size W sa sz sc ∧ IsC W.heap.size W da dz dc ∧ (∀ j, In64 (nth sz j)) ∧ ∀ j, In64 (nth dz j)
theorem IsArrD.c {W : World} {sa : Option Addr} {sz : List Int} {sc : Nat} {da : Option Addr} {dz : List Int} {dc : Nat} (h : IsArrD W sa sz sc da dz dc) : IsArrC W sa sz sc da dz := ⟨h.1, h.2.1, h.2.2.1, h.2.2.2.1.1, h.2.2.2.2⟩
set_option maxRecDepth 100000 in
theorem open_arrD {H : Type} {enc : TypeId × Value → H} {W : World} {base : Nat} {v : Value} {d : DataW H} {p : List MemPlace} (hv : Value.okWide Try.prog W .any base 24 v)
    (h : DataW.Trod enc Try.prog W 0 (fun _ => true) true 24 v d p) :
    ∃ (c : Bool) (sa : Option Addr) (sc : Nat) (sz : List Int) (da : Option Addr) (dc : Nat) (dz : List Int), v = .agg #[.bool c, .slice sa sz.length sc, .slice da dz.length dc] ∧ IsArrD W sa sz sc da dz dc := by
  obtain ⟨cs, rfl, hsz⟩ := okWide_struct Try.underlying24 hv
  rw [show Try.prog.cellsOf 24 = 3 by kernel_rfl] at hsz
  obtain ⟨x0, x1, x2, rfl⟩ := three hsz
  obtain ⟨fuel, hf⟩ := h
  obtain ⟨y0, y1, y2, n, _, _, h0, h1, h2⟩ := trod_struct3 Try.underlying24 hf
  have e0 : DataW.trod enc Try.prog W 0 (fun _ => true) true n 4 [x0] = some y0 := by
    have := h0
    rw [show Try.prog.cellsOf 4 = 1 by kernel_rfl] at this
    exact this
  have e1 : DataW.trod enc Try.prog W 0 (fun _ => true) true n 22 [x1] = some y1 := by
    have := h1
    rw [show Try.prog.cellsOf 22 = 1 by kernel_rfl] at this
    exact this
  have e2 : DataW.trod enc Try.prog W 0 (fun _ => true) true n 22 [x2] = some y2 := by
    have := h2
    rw [show Try.prog.cellsOf 22 = 1 by kernel_rfl] at this
    exact this
  obtain ⟨sa, sc, sz, rfl, s1, s2, s3, s4⟩ := open_slC e1
  obtain ⟨da, dc, dz, rfl, d1, d2, d3, d4⟩ := open_slC e2
  obtain ⟨c, hc, _⟩ := DataW.trod_bool Try.underlying4 e0
  obtain rfl := (List.cons.inj hc).1
  exact ⟨c, sa, sc, sz, da, dc, dz, rfl, s1, d1, ⟨s2, s4⟩, ⟨d2, d4⟩, s3, d3⟩
theorem row_cap {w : World} {a : Option Addr} {len cap : Nat} {z : List Int}
    (h : (a = none ∧ len = 0 ∧ cap = 0 ∧ z = []) ∨ ∃ x, a = some x ∧ len ≤ cap ∧ cap ≤ maxLen ∧ z.length = cap ∧ (∀ i, i < z.length → w.cell? (x.add i) = some (.int .i64 (z.getD i 0))) ∧ ∀ n ∈ z, (Lit.int .i64 n).wf = true) : len ≤ cap := by
  rcases h with ⟨_, rfl, rfl, _⟩ | ⟨x, _, h, _⟩
  · exact Nat.le_refl _
  · exact h
/-- An array and an error, whichever it is: both lists have room. -/
def UB (e : Int) (c : Bool) (S D : List Int) (w : World) (r : Ending) (w' : World) : Prop :=
  ∃ xa xc ya yc, r = .returned (.tuple #[.agg #[.bool c, .slice xa S.length xc, .slice ya D.length yc], errV e]) ∧ NewC w.heap.size w' xa S xc ∧ NewC w.heap.size w' ya D yc ∧ Below w.heap.size w w'
theorem UB.ua {e : Int} {c : Bool} {S D : List Int} {w w' : World} {r : Ending} : UB e c S D w r w' → UA e c S D w r w'
  | ⟨xa, xc, ya, yc, e, hX, hY, hB⟩ => ⟨xa, xc, ya, yc, e, hX, hY.1, hB⟩
section
variable (n m : List Int) (x : Int) (c : Bool) (sz dz : List Int) (c' : Bool) (sz' dz' : List Int)
def tkS6 : List Int := onl (tkE n c sz dz) (tkS n)
def tkD6 : List Int := onl (tkE n c sz dz) (tkD n c sz dz)
def drS6 : List Int := onl (drE n c sz dz) (drS sz n)
def drD6 : List Int := onl (drE n c sz dz) (drD n c sz dz)
def jnS6 : List Int := onl (jnE x c sz dz c' sz' dz') (jnS x.toNat sz sz')
def jnD6 : List Int := onl (jnE x c sz dz c' sz' dz') (jnD x.toNat sz dz sz' dz')
def kpS6 : List Int := onl (kpE m x c sz dz) (kpS m x.toNat sz)
def kpD6 : List Int := onl (kpE m x c sz dz) (kpD m x.toNat sz dz)
def spS6 : List Int := onl (spE m x c sz dz) (spS m x.toNat sz)
def spD6 : List Int := onl (spE m x c sz dz) (spD m x.toNat c sz dz)
end
/-! ### No answer is long -/
theorem onl_le6 {e : Int} {xs : List Int} {n : Nat} (h : e = 0 → xs.length ≤ n) : (onl e xs).length ≤ n := by
  unfold onl
  split
  · rename_i q; exact h q
  · simp
section
variable (n m : List Int) (x : Int) (c : Bool) (sz dz : List Int) (c' : Bool) (sz' dz' : List Int)
theorem errS {s : List Int} (h : errOf s = 0) : s.length ≤ 4096 ∧ (prod s).toNat ≤ 4096 := by have := errOf_zero.1 h; omega
theorem tk6_len : (tkS6 n c sz dz).length ≤ 4096 ∧ (tkD6 n c sz dz).length ≤ 4096 :=
  ⟨onl_le6 fun h => (errS (tkE_zero.1 h).2.2.2).1, onl_le6 fun h => by unfold tkD ptD; rw [TA_length]; exact (errS (tkE_zero.1 h).2.2.2).2⟩
theorem dr6_len : (drS6 n c sz dz).length ≤ 4096 ∧ (drD6 n c sz dz).length ≤ 4096 :=
  ⟨onl_le6 fun h => (errS (dr_err h)).1, onl_le6 fun h => by unfold drD ptD; rw [TA_length]; exact (errS (dr_err h)).2⟩
theorem jn6_len : (jnS6 x c sz dz c' sz' dz').length ≤ 4096 ∧ (jnD6 x c sz dz c' sz' dz').length ≤ 4096 :=
  ⟨onl_le6 fun h => (errS (jnE_zero.1 h).2.2.2.2.2.2.2).1, onl_le6 fun h => by unfold jnD; rw [TA_length]; exact (errS (jnE_zero.1 h).2.2.2.2.2.2.2).2⟩
theorem kp_e6 (h : kpE m x c sz dz = 0) : errOf (kpS m x.toNat sz) = 0 := by
  have hx : ((x.toNat : Nat) : Int) = x := by
    by_cases ha : axE x c sz dz = 0
    · have := (axE_zero.1 ha).2.1; omega
    · unfold kpE at h; rw [if_pos ha] at h; exact absurd h ha
  rw [← hx] at h
  exact kp_err h
theorem sp_e6 (h : spE m x c sz dz = 0) : errOf (spS m x.toNat sz) = 0 := by
  have hx : ((x.toNat : Nat) : Int) = x := by
    by_cases ha : axE x c sz dz = 0
    · have := (axE_zero.1 ha).2.1; omega
    · unfold spE at h; rw [if_pos ha] at h; exact absurd h ha
  rw [← hx] at h
  exact (spZ.1 h).2.2.2.2
theorem kp6_len : (kpS6 m x c sz dz).length ≤ 4096 ∧ (kpD6 m x c sz dz).length ≤ 4096 :=
  ⟨onl_le6 fun h => (errS (kp_e6 m x c sz dz h)).1, onl_le6 fun h => by unfold kpD; rw [TA_length]; exact (errS (kp_e6 m x c sz dz h)).2⟩
theorem sp6_len : (spS6 m x c sz dz).length ≤ 4096 ∧ (spD6 m x c sz dz).length ≤ 4096 :=
  ⟨onl_le6 fun h => (errS (sp_e6 m x c sz dz h)).1, onl_le6 fun h => by unfold spD; rw [TA_length]; exact (errS (sp_e6 m x c sz dz h)).2⟩
end
end Go.Proofs.Ytgaelbgeoobgiab
