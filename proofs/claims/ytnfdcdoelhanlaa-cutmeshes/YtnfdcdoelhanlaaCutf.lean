/-
  A slice of slices of integers.
-/
import Derived.Test.YtnfdcdoelhanlaaTurnq
import Derived.Test.YtnfdcdoelhanlaaBase
import Derived.Test.YtnfdcdoelhanlaaCutg
namespace Go.Proofs.Ytnfdcdoelhanlaa
open Go.RowKit
set_option linter.unusedVariables false

abbrev Rw : Type := (Option Addr × Nat) × List Int
def rv (r : Rw) : Value := .slice r.1.1 r.2.length r.1.2
def rwa (rs : List Rw) (j : Nat) : Rw := rs.getD j ((none, 0), [])
def rwl (rs : List Rw) : List (List Int) := rs.map fun r => r.2
theorem rwl_length (rs : List Rw) : (rwl rs).length = rs.length := by simp [rwl]
theorem rwl_at (rs : List Rw) (j : Nat) : rl (rwl rs) j = (rwa rs j).2 := by
  unfold rl rwl rwa
  simp only [List.getD_eq_getElem?_getD, List.getElem?_map]
  cases rs[j]? <;> rfl
theorem rwa_out (rs : List Rw) {j : Nat} (h : rs.length ≤ j) : rwa rs j = ((none, 0), []) := by
  unfold rwa; rw [List.getD_eq_getElem?_getD, List.getElem?_eq_none h]; rfl
theorem rwa_snoc (rs : List Rw) (r : Rw) (j : Nat) : rwa (rs ++ [r]) j = if j = rs.length then r else rwa rs j := by
  unfold rwa
  simp only [List.getD_eq_getElem?_getD]
  by_cases h : j < rs.length
  · rw [List.getElem?_append_left h, if_neg (by omega)]
  · by_cases e : j = rs.length
    · subst e; simp
    · rw [List.getElem?_eq_none (by simp; omega), if_neg e, List.getElem?_eq_none (by omega)]
theorem rwa_set (rs : List Rw) (x : Nat) (r : Rw) (h : x < rs.length) (j : Nat) : rwa (rs.set x r) j = if j = x then r else rwa rs j := by
  unfold rwa
  simp only [List.getD_eq_getElem?_getD, List.getElem?_set]
  by_cases e : x = j
  · subst e; simp [h]
  · rw [if_neg e, if_neg (Ne.symm e)]
theorem rwl_set (rs : List Rw) (x : Nat) (r : Rw) : rwl (rs.set x r) = (rwl rs).set x r.2 := by simp [rwl]
theorem rwl_snoc (rs : List Rw) (r : Rw) : rwl (rs ++ [r]) = rwl rs ++ [r.2] := by simp [rwl]
theorem rv_out : rv ((none, 0), []) = .slice none 0 0 := rfl
/-- Each of the lists lies in blocks from lo on. -/
def NewR (lo : Nat) (W : World) (rs : List Rw) : Prop := ∀ j, j < rs.length → NewC lo W (rwa rs j).1.1 (rwa rs j).2 (rwa rs j).1.2
def IsR (n : Nat) (W : World) (a : Option Addr) (rs : List Rw) : Prop :=
  (rs = [] ∨ ∃ b off, a = some ⟨b, off, none⟩ ∧ b < n ∧ ∀ j, j < rs.length → W.cell? ⟨b, off + j, none⟩ = some (rv (rwa rs j))) ∧ ∀ j, j < rs.length → IsC n W (rwa rs j).1.1 (rwa rs j).2 (rwa rs j).1.2
section
variable {n n' lo : Nat} {W W' : World} {a : Option Addr} {rs : List Rw}
theorem IsR.below (hB : Below n W W') (h : IsR n W a rs) : IsR n W' a rs := by
  refine ⟨?_, fun j hj => (h.2 j hj).below hB⟩
  rcases h.1 with e | ⟨b, off, e, hb, hc⟩
  · exact .inl e
  · exact .inr ⟨b, off, e, hb, fun j hj => (hB.cell (p := ⟨b, off + j, none⟩) hb).trans (hc j hj)⟩
theorem IsR.mono (h : n ≤ n') (k : IsR n W a rs) : IsR n' W a rs := by
  refine ⟨?_, fun j hj => (k.2 j hj).mono h⟩
  rcases k.1 with e | ⟨b, off, e, hb, hc⟩
  · exact .inl e
  · exact .inr ⟨b, off, e, by omega, hc⟩
theorem IsR.at (h : IsR n W a rs) {j : Nat} (hj : j < rs.length) : ∃ b off, a = some ⟨b, off, none⟩ ∧ b < n ∧ ∀ j, j < rs.length → W.cell? ⟨b, off + j, none⟩ = some (rv (rwa rs j)) := by
  rcases h.1 with e | h
  · subst e; simp at hj
  · exact h
theorem IsR.row (h : IsR n W a rs) {j : Nat} (hj : j < rs.length) : IsC n W (rwa rs j).1.1 (rwa rs j).2 (rwa rs j).1.2 := h.2 j hj
theorem IsR.kept {Bs : Nat} (hk : Kpt n Bs W W') (h : IsR n W a rs) : IsR n W' a rs := by
  refine ⟨?_, fun j hj => ⟨(h.2 j hj).1.kept hk, (h.2 j hj).2⟩⟩
  rcases h.1 with e | ⟨b, off, e, hb, hc⟩
  · exact .inl e
  · exact .inr ⟨b, off, e, hb, fun j hj => (World.cell?_of_block (w := W) (hk b (.inl hb))).trans (hc j hj)⟩
theorem NewR.nil (lo : Nat) (W : World) : NewR lo W [] := fun j hj => by simp at hj
theorem NewR.go (hB : Below W.heap.size W W') (h : NewR lo W rs) : NewR lo W' rs := fun j hj => (h j hj).go hB
theorem NewR.set {p : Addr} (hp : p.block < lo) (v : Value) (h : NewR lo W rs) : NewR lo (W.setCell p v) rs := fun j hj => ⟨(h j hj).1.set hp v, (h j hj).2⟩
theorem NewR.snoc {g : Option Addr} {c : Nat} {z : List Int} (h : NewR lo W rs) (hz : NewC lo W g z c) : NewR lo W (rs ++ [((g, c), z)]) := fun j hj => by
  rw [rwa_snoc]
  split
  · exact hz
  · rename_i e
    simp only [List.length_append, List.length_cons, List.length_nil] at hj
    exact h j (by omega)
/-- A row of slices that is whole, as a slice of slices. -/
theorem NewR.is {B : Nat} {t : TypeId} (h : NewR lo W rs) (hr : W.rowIs B t rs.length (fun j => rv (rwa rs j))) : IsR W.heap.size W (some ⟨B, 0, none⟩) rs :=
  ⟨.inr ⟨B, 0, rfl, hr.lt, fun j hj => by rw [Nat.zero_add]; exact hr.cell hj⟩, fun j hj => (h j hj).ints⟩
theorem row_snoc {B n : Nat} {t : TypeId} (g : Option Addr) (c : Nat) (z : List Int) (h : W.rowIs B t n (fun j => rv (rwa rs j))) : (W.setCell ⟨B, rs.length, none⟩ (.slice g z.length c)).rowIs B t n (fun j => rv (rwa (rs ++ [((g, c), z)]) j)) := by
  refine (h.set rs.length _).congr fun j hj => ?_
  rw [rwa_snoc]
  by_cases e : j = rs.length
  · rw [if_pos e, if_pos e]; rfl
  · rw [if_neg e, if_neg e]
theorem row_setR {B n : Nat} {t : TypeId} (g : Option Addr) (c : Nat) (z : List Int) {x : Nat} (hx : x < rs.length) (h : W.rowIs B t n (fun j => rv (rwa rs j))) : (W.setCell ⟨B, x, none⟩ (.slice g z.length c)).rowIs B t n (fun j => rv (rwa (rs.set x ((g, c), z)) j)) := by
  refine (h.set x _).congr fun j hj => ?_
  rw [rwa_set _ _ _ hx]
  by_cases e : j = x
  · rw [if_pos e, if_pos e]; rfl
  · rw [if_neg e, if_neg e]
end
end Go.Proofs.Ytnfdcdoelhanlaa
