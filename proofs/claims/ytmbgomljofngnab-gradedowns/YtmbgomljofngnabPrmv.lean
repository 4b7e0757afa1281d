/-
  What the functions on orders tell, where nothing is wrong and where something is; the lengths told apart.
-/
import Derived.Test.YtmbgomljofngnabPrmq
import Derived.Test.YtmbgomljofngnabMidc
namespace Go.Proofs.Ytmbgomljofngnab
open Go.RowKit
set_option linter.unusedVariables false

theorem ord_64 {p : List Int} (hp : IsOrd p) (h : p.length ≤ 4096) : ∀ j, In64 (nth p j) := fun j => by
  by_cases hj : j < p.length
  · have := hp.1 j hj; unfold In64; omega
  · have : nth p j = 0 := by simp [nth, List.getElem?_eq_none (show p.length ≤ j by omega)]
    rw [this]; unfold In64; decide
theorem orE_of {p : List Int} (hp : IsOrd p) (h : p.length ≤ 4096) : orE p = 0 := orE_zero.2 ⟨h, hp⟩
theorem afE_of {p q : List Int} (hp : IsOrd p) (hq : IsOrd q) (h : p.length ≤ 4096) (hl : p.length = q.length) : afE p q = 0 := afE_zero.2 ⟨orE_of hp h, orE_of hq (by omega), hl⟩
/-- A list is told. -/
def OkL (L : List Int) (w : World) (r : Ending) (w' : World) : Prop := ∃ g gc, r = .returned (.tuple #[.slice g L.length gc, .nilIface]) ∧ NewC w.heap.size w' g L gc ∧ Below w.heap.size w w'
/-- An error is told, and an empty list. -/
def NoL (e : Int) (w : World) (r : Ending) (w' : World) : Prop := ∃ g gc, r = .returned (.tuple #[.slice g 0 gc, .iface 43 (.int .i64 e)]) ∧ NewC w.heap.size w' g [] gc ∧ Below w.heap.size w w'
def OkZ (x : Int) (w : World) (r : Ending) (w' : World) : Prop := r = .returned (.tuple #[.int .i64 x, .nilIface]) ∧ Below w.heap.size w w'
def NoZ (e : Int) (w : World) (r : Ending) (w' : World) : Prop := r = .returned (.tuple #[.int .i64 0, .iface 43 (.int .i64 e)]) ∧ Below w.heap.size w w'
theorem UL.ok {e : Int} {L M : List Int} {w w' : World} {r : Ending} (h : e = 0 ∧ L = M) (H : UL e (onL e L) w r w') : OkL M w r w' := by
  obtain ⟨h0, h1⟩ := h
  subst h0 h1
  exact H
theorem UL.no {e : Int} {L : List Int} {w w' : World} {r : Ending} (h : e ≠ 0) (H : UL e (onL e L) w r w') : NoL e w r w' := by
  rw [onL_no h] at H
  obtain ⟨g, gc, hr, hN, hB⟩ := H
  exact ⟨g, gc, by rw [hr, errV_pos h]; rfl, hN, hB⟩
theorem UZ.ok {e x y : Int} {w w' : World} {r : Ending} (h : e = 0 ∧ x = y) (H : UZ e (onZ e x) w r w') : OkZ y w r w' := by
  obtain ⟨h0, h1⟩ := h
  subst h0 h1
  exact H
theorem UZ.no {e x : Int} {w w' : World} {r : Ending} (h : e ≠ 0) (H : UZ e (onZ e x) w r w') : NoZ e w r w' := by
  rw [onZ_no h] at H
  exact ⟨by rw [H.1, errV_pos h], H.2⟩
set_option maxRecDepth 100000 in
set_option maxHeartbeats 1000000 in
/-- Two lists that are the same, told without errors. -/
theorem list_eq (a : Option Addr) (cap : Nat) (zs : List Int) (l : Nat) (hl : zs.length = l) (b : Option Addr) (bap : Nat) (l' : Nat) (hl' : zs.length = l') (w : World) (h1 : l ≤ 9223372036854775807) (hs : IsInts w.heap.size w a zs) (hd : IsInts w.heap.size w b zs) :
    Calls Try.prog 15 #[.slice a l cap, .nilIface, .slice b l' bap, .nilIface] w fun e w' => e = .returned (.bool true) ∧ Below w.heap.size w w' := by
  subst hl hl'
  have HI : Hid (IsInts w.heap.size w a zs ∧ IsInts w.heap.size w b zs) := ⟨hs, hd⟩
  clear hs hd
  go_enter Try.func15, Try.ntmps15
  go_wp2_with fail
  refine (ints_any a cap zs b bap zs h1 _ w HI.out.1 HI.out.2).mono ?_
  rintro e w1 ⟨rfl, hB⟩
  rw [eqB_true rfl]
  go_wp2_with fail
  go_ret
  exact ⟨rfl, hB⟩
end Go.Proofs.Ytmbgomljofngnab
