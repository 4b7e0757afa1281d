/-
  What the program's functions on orders tell, in one form; the answers' words.
-/
import Derived.Test.YtmbgomljofngnabPrmc
import Derived.Test.YtmbgomljofngnabPrml
import Derived.Test.YtmbgomljofngnabCapi
import Derived.Test.YtmbgomljofngnabBase
namespace Go.Proofs.Ytmbgomljofngnab
open Go.RowKit
set_option linter.unusedVariables false

/-- How a list may be wrong as an order. -/
def orE (p : List Int) : Int := if 4096 < p.length then 7 else if ordB p = true then 0 else 6
def afE (p q : List Int) : Int := if orE p ≠ 0 then orE p else if orE q ≠ 0 then orE q else if p.length ≠ q.length then 4 else 0
def rkE (p : List Int) : Int := if orE p ≠ 0 then orE p else if 12 < p.length then 7 else 0
def urE (n k : Int) : Int := if n < 0 then 6 else if 12 < n then 7 else if k < 0 ∨ (fac n.toNat : Int) ≤ k then 5 else 0
def onL (e : Int) (xs : List Int) : List Int := if e = 0 then xs else []
def onZ (e x : Int) : Int := if e = 0 then x else 0
section
variable {p q : List Int}
theorem orE_zero : orE p = 0 ↔ p.length ≤ 4096 ∧ IsOrd p := by
  unfold orE
  by_cases h : 4096 < p.length
  · rw [if_pos h]; exact ⟨fun e => absurd e (by decide), fun e => by omega⟩
  · rw [if_neg h]
    by_cases h1 : ordB p = true
    · rw [if_pos h1]; exact ⟨fun _ => ⟨by omega, (ordB_iff p).1 h1⟩, fun _ => rfl⟩
    · rw [if_neg h1]; exact ⟨fun e => absurd e (by decide), fun e => absurd ((ordB_iff p).2 e.2) h1⟩
theorem afE_zero : afE p q = 0 ↔ orE p = 0 ∧ orE q = 0 ∧ p.length = q.length := by
  unfold afE
  by_cases h : orE p = 0
  · rw [if_neg (not_not_intro h)]
    by_cases h1 : orE q = 0
    · rw [if_neg (not_not_intro h1)]
      by_cases h2 : p.length = q.length
      · rw [if_neg (not_not_intro h2)]; exact ⟨fun _ => ⟨h, h1, h2⟩, fun _ => rfl⟩
      · rw [if_pos h2]; exact ⟨fun e => absurd e (by decide), fun e => absurd e.2.2 h2⟩
    · rw [if_pos h1]; exact ⟨fun e => absurd e h1, fun e => absurd e.2.1 h1⟩
  · rw [if_pos h]; exact ⟨fun e => absurd e h, fun e => absurd e.1 h⟩
theorem rkE_zero : rkE p = 0 ↔ orE p = 0 ∧ p.length ≤ 12 := by
  unfold rkE
  by_cases h : orE p = 0
  · rw [if_neg (not_not_intro h)]
    by_cases h2 : 12 < p.length
    · rw [if_pos h2]; exact ⟨fun e => absurd e (by decide), fun e => by omega⟩
    · rw [if_neg h2]; exact ⟨fun _ => ⟨h, by omega⟩, fun _ => rfl⟩
  · rw [if_pos h]; exact ⟨fun e => absurd e h, fun e => absurd e.1 h⟩
theorem urE_zero {n k : Int} : urE n k = 0 ↔ 0 ≤ n ∧ n ≤ 12 ∧ 0 ≤ k ∧ k < fac n.toNat := by
  unfold urE
  by_cases h : n < 0
  · rw [if_pos h]; exact ⟨fun e => absurd e (by decide), fun e => by omega⟩
  · rw [if_neg h]
    by_cases h1 : 12 < n
    · rw [if_pos h1]; exact ⟨fun e => absurd e (by decide), fun e => by omega⟩
    · rw [if_neg h1]
      by_cases h2 : k < 0 ∨ (fac n.toNat : Int) ≤ k
      · rw [if_pos h2]; exact ⟨fun e => absurd e (by decide), fun e => by omega⟩
      · rw [if_neg h2]; exact ⟨fun _ => by omega, fun _ => rfl⟩
end
theorem onL_ok {e : Int} {xs : List Int} (h : e = 0) : onL e xs = xs := by unfold onL; rw [if_pos h]
theorem onL_no {e : Int} {xs : List Int} (h : e ≠ 0) : onL e xs = [] := by unfold onL; rw [if_neg h]
theorem onZ_ok {e x : Int} (h : e = 0) : onZ e x = x := by unfold onZ; rw [if_pos h]
theorem onZ_no {e x : Int} (h : e ≠ 0) : onZ e x = 0 := by unfold onZ; rw [if_neg h]
theorem onL_len {e : Int} {xs : List Int} {n : Nat} (h : e = 0 → xs.length ≤ n) : (onL e xs).length ≤ n := by
  unfold onL
  split
  · rename_i q; exact h q
  · simp
/-- An answer that is a list, or an error. -/
def UL (e : Int) (L : List Int) (w : World) (r : Ending) (w' : World) : Prop := ∃ g gc, r = .returned (.tuple #[.slice g L.length gc, errV e]) ∧ NewC w.heap.size w' g L gc ∧ Below w.heap.size w w'
/-- An answer that is a number, or an error. -/
def UZ (e x : Int) (w : World) (r : Ending) (w' : World) : Prop := r = .returned (.tuple #[.int .i64 x, errV e]) ∧ Below w.heap.size w w'
theorem UL.mkok {e : Int} {L : List Int} {w w' : World} {g : Option Addr} {gc : Nat} (h : e = 0) (hN : NewC w.heap.size w' g L gc) (hB : Below w.heap.size w w') : UL e (onL e L) w (.returned (.tuple #[.slice g L.length gc, .nilIface])) w' := by
  subst h
  exact ⟨g, gc, rfl, hN, hB⟩
theorem UL.mkno {e : Int} {L : List Int} {w w' : World} {e' : Int} (h : e = e') (h0 : e' ≠ 0) (hB : Below w.heap.size w w') : UL e (onL e L) w (.returned (.tuple #[.slice none 0 0, .iface 43 (.int .i64 e')])) w' := by
  subst h
  rw [onL_no h0]
  exact ⟨none, 0, by rw [errV_pos h0]; rfl, ⟨.inl rfl, Nat.le_refl _⟩, hB⟩
theorem UZ.mkok {e x : Int} {w w' : World} (h : e = 0) (hB : Below w.heap.size w w') : UZ e (onZ e x) w (.returned (.tuple #[.int .i64 x, .nilIface])) w' := by
  subst h
  exact ⟨rfl, hB⟩
theorem UZ.mkno {e x : Int} {w w' : World} {e' : Int} (h : e = e') (h0 : e' ≠ 0) (hB : Below w.heap.size w w') : UZ e (onZ e x) w (.returned (.tuple #[.int .i64 0, .iface 43 (.int .i64 e')])) w' := by
  subst h
  rw [onZ_no h0]
  exact ⟨by rw [errV_pos h0], hB⟩
/-- A slice of lists. -/
abbrev RwV : Type := (Option Addr × Nat) × List Int
def RwV.v (r : RwV) : Value := .slice r.1.1 r.2.length r.1.2
def rwz (rs : List RwV) (j : Nat) : RwV := rs.getD j ((none, 0), [])
def IsRs (n : Nat) (W : World) (a : Option Addr) (rs : List RwV) : Prop :=
  (rs = [] ∨ ∃ b off, a = some ⟨b, off, none⟩ ∧ b < n ∧ ∀ j, j < rs.length → W.cell? ⟨b, off + j, none⟩ = some (rwz rs j).v) ∧ ∀ j, j < rs.length → IsInts n W (rwz rs j).1.1 (rwz rs j).2
section
variable {n n' : Nat} {W W' : World} {a : Option Addr} {rs : List RwV}
theorem IsRs.below (hB : Below n W W') (h : IsRs n W a rs) : IsRs n W' a rs := by
  refine ⟨?_, fun j hj => (h.2 j hj).below hB⟩
  rcases h.1 with e | ⟨b, off, e, hb, hc⟩
  · exact .inl e
  · exact .inr ⟨b, off, e, hb, fun j hj => (hB.cell (p := ⟨b, off + j, none⟩) hb).trans (hc j hj)⟩
theorem IsRs.mono (hn : n ≤ n') (h : IsRs n W a rs) : IsRs n' W a rs := by
  refine ⟨?_, fun j hj => (h.2 j hj).mono hn⟩
  rcases h.1 with e | ⟨b, off, e, hb, hc⟩
  · exact .inl e
  · exact .inr ⟨b, off, e, by omega, hc⟩
theorem IsRs.go (h : IsRs W.heap.size W a rs) (hB : Below W.heap.size W W') : IsRs W'.heap.size W' a rs := (h.below hB).mono hB.size
theorem IsRs.at (h : IsRs n W a rs) {j : Nat} (hj : j < rs.length) : ∃ b off, a = some ⟨b, off, none⟩ ∧ b < n ∧ ∀ j, j < rs.length → W.cell? ⟨b, off + j, none⟩ = some (rwz rs j).v := by
  rcases h.1 with e | h
  · subst e; simp at hj
  · exact h
end
theorem rwz_get {rs : List RwV} {j : Nat} (h : j < rs.length) : rwz rs j = rs[j] := by unfold rwz; rw [List.getD_eq_getElem?_getD, List.getElem?_eq_getElem h]; rfl
def rws (rs : List RwV) : List (List Int) := rs.map fun r => r.2
/-- An answer that is a list of lists, or an error. -/
def UR9 (e : Int) (R : List (List Int)) (w : World) (r : Ending) (w' : World) : Prop :=
  ∃ g gc rs, r = .returned (.tuple #[.slice g rs.length gc, errV e]) ∧ rws rs = (if e = 0 then R else []) ∧ IsRs w'.heap.size w' g rs ∧ Below w.heap.size w w'
end Go.Proofs.Ytmbgomljofngnab
