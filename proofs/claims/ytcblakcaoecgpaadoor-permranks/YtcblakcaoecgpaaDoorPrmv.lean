/-
  What the functions on orders tell, where nothing is wrong and where something is; the lengths told apart.
-/
import Derived.Test.YtcblakcaoecgpaaDoorPrmq
import Derived.Test.YtcblakcaoecgpaaDoorMidc
namespace Go.Proofs.YtcblakcaoecgpaaDoor
open Go.RowKit
set_option linter.unusedVariables false

theorem ord_64 {p : List Int} (hp : IsOrd p) (h : p.length ≤ 4096) : ∀ j, In64 (nth p j) := fun j => by
  by_cases hj : j < p.length
  · have := hp.1 j hj; unfold In64; omega
  · have : nth p j = 0 := by simp [nth, List.getElem?_eq_none (show p.length ≤ j by omega)]
    rw [this]; unfold In64; decide
theorem orE_of {p : List Int} (hp : IsOrd p) (h : p.length ≤ 4096) : orE p = 0 := orE_zero.2 ⟨h, hp⟩
theorem afE_of {p q : List Int} (hp : IsOrd p) (hq : IsOrd q) (h : p.length ≤ 4096) (hl : p.length = q.length) : afE p q = 0 := afE_zero.2 ⟨orE_of hp h, orE_of hq (by omega), hl⟩
/-- A list is told. -/
def OkL (L : List Int) (w : World) (r : Ending) (w' : World) : Prop := ∃ g gc, r = .returned (.tuple #[.slice g L.length gc, .nilIface]) ∧ NewC w.heap.size w' g L gc ∧ Below w.heap.size w w'
/-- An error is told, and an empty list. -/
def NoL (e : Int) (w : World) (r : Ending) (w' : World) : Prop := ∃ g gc, r = .returned (.tuple #[.slice g 0 gc, .iface 23 (.int .i64 e)]) ∧ NewC w.heap.size w' g [] gc ∧ Below w.heap.size w w'
def OkZ (x : Int) (w : World) (r : Ending) (w' : World) : Prop := r = .returned (.tuple #[.int .i64 x, .nilIface]) ∧ Below w.heap.size w w'
def NoZ (e : Int) (w : World) (r : Ending) (w' : World) : Prop := r = .returned (.tuple #[.int .i64 0, .iface 23 (.int .i64 e)]) ∧ Below w.heap.size w w'
theorem UL.ok {e : Int} {L M : List Int} {w w' : World} {r : Ending} (h : e = 0 ∧ L = M) (H : UL e (onL e L) w r w') : OkL M w r w' := by
  obtain ⟨h0, h1⟩ := h
  subst h0 h1
  exact H
theorem UL.no {e : Int} {L : List Int} {w w' : World} {r : Ending} (h : e ≠ 0) (H : UL e (onL e L) w r w') : NoL e w r w' := by
  rw [onL_no h] at H
  obtain ⟨g, gc, hr, hN, hB⟩ := H
  exact ⟨g, gc, by rw [hr, errV_pos h]; rfl, hN, hB⟩
theorem UZ.ok {e x y : Int} {w w' : World} {r : Ending} (h : e = 0 ∧ x = y) (H : UZ e (onZ e x) w r w') : OkZ y w r w' := by
  obtain ⟨h0, h1⟩ := h
  subst h0 h1
  exact H
theorem UZ.no {e x : Int} {w w' : World} {r : Ending} (h : e ≠ 0) (H : UZ e (onZ e x) w r w') : NoZ e w r w' := by
  rw [onZ_no h] at H
  exact ⟨by rw [H.1, errV_pos h], H.2⟩
theorem iv_ok (a : Option Addr) (cap : Nat) (p : List Int) (l : Nat) (hl : p.length = l) (w : World) (h1 : l ≤ 9223372036854775807) (hs : IsInts w.heap.size w a p) (T : ∀ j, In64 (nth p j)) (L : List Int) (H : CPi) (h : orE p = 0 ∧ tnd p = L) :
    Calls Tryd.prog 11 #[.slice a l cap] w (OkL L w) := by
  subst hl
  exact (H a cap p w h1 hs T).mono fun r w' h' => UL.ok h h'
theorem iv_no (a : Option Addr) (cap : Nat) (p : List Int) (l : Nat) (hl : p.length = l) (w : World) (h1 : l ≤ 9223372036854775807) (hs : IsInts w.heap.size w a p) (T : ∀ j, In64 (nth p j)) (H : CPi) (h : orE p ≠ 0) :
    Calls Tryd.prog 11 #[.slice a l cap] w (NoL (orE p) w) := by
  subst hl
  exact (H a cap p w h1 hs T).mono fun r w' h' => UL.no h h'
theorem af_any (a : Option Addr) (cap : Nat) (p : List Int) (l : Nat) (hl : p.length = l) (b : Option Addr) (bap : Nat) (q : List Int) (m : Nat) (hm : q.length = m) (w : World) (h1 : l ≤ 9223372036854775807) (h2 : m ≤ 9223372036854775807) (hs : IsInts w.heap.size w a p) (hd : IsInts w.heap.size w b q) (T : ∀ j, In64 (nth p j)) (T' : ∀ j, In64 (nth q j)) (H : CPa) :
    Calls Tryd.prog 15 #[.slice a l cap, .slice b m bap] w (UL (afE p q) (onL (afE p q) (aft p q)) w) := by
  subst hl hm
  exact H a cap p b bap q w h1 h2 hs hd T T'
theorem af_ok (a : Option Addr) (cap : Nat) (p : List Int) (l : Nat) (hl : p.length = l) (b : Option Addr) (bap : Nat) (q : List Int) (m : Nat) (hm : q.length = m) (w : World) (h1 : l ≤ 9223372036854775807) (h2 : m ≤ 9223372036854775807) (hs : IsInts w.heap.size w a p) (hd : IsInts w.heap.size w b q) (T : ∀ j, In64 (nth p j)) (T' : ∀ j, In64 (nth q j)) (L : List Int) (H : CPa) (h : afE p q = 0 ∧ aft p q = L) :
    Calls Tryd.prog 15 #[.slice a l cap, .slice b m bap] w (OkL L w) := by
  subst hl hm
  exact (H a cap p b bap q w h1 h2 hs hd T T').mono fun r w' h' => UL.ok h h'
theorem af_no (a : Option Addr) (cap : Nat) (p : List Int) (l : Nat) (hl : p.length = l) (b : Option Addr) (bap : Nat) (q : List Int) (m : Nat) (hm : q.length = m) (w : World) (h1 : l ≤ 9223372036854775807) (h2 : m ≤ 9223372036854775807) (hs : IsInts w.heap.size w a p) (hd : IsInts w.heap.size w b q) (T : ∀ j, In64 (nth p j)) (T' : ∀ j, In64 (nth q j)) (H : CPa) (h : afE p q ≠ 0) :
    Calls Tryd.prog 15 #[.slice a l cap, .slice b m bap] w (NoL (afE p q) w) := by
  subst hl hm
  exact (H a cap p b bap q w h1 h2 hs hd T T').mono fun r w' h' => UL.no h h'
theorem pw_ok (a : Option Addr) (cap : Nat) (p : List Int) (l : Nat) (hl : p.length = l) (k : Int) (w : World) (h1 : l ≤ 9223372036854775807) (hs : IsInts w.heap.size w a p) (T : ∀ j, In64 (nth p j)) (hk : In64 k) (L : List Int) (H : CPw) (h : orE p = 0 ∧ pwI p k = L) :
    Calls Tryd.prog 17 #[.slice a l cap, .int .i64 k] w (OkL L w) := by
  subst hl
  exact (H a cap p k w h1 hs T hk).mono fun r w' h' => UL.ok h h'
theorem pw_no (a : Option Addr) (cap : Nat) (p : List Int) (l : Nat) (hl : p.length = l) (k : Int) (w : World) (h1 : l ≤ 9223372036854775807) (hs : IsInts w.heap.size w a p) (T : ∀ j, In64 (nth p j)) (hk : In64 k) (H : CPw) (h : orE p ≠ 0) :
    Calls Tryd.prog 17 #[.slice a l cap, .int .i64 k] w (NoL (orE p) w) := by
  subst hl
  exact (H a cap p k w h1 hs T hk).mono fun r w' h' => UL.no h h'
theorem sg_ok (a : Option Addr) (cap : Nat) (p : List Int) (l : Nat) (hl : p.length = l) (w : World) (h1 : l ≤ 9223372036854775807) (hs : IsInts w.heap.size w a p) (T : ∀ j, In64 (nth p j)) (x : Int) (H : CPs) (h : orE p = 0 ∧ sgV p = x) :
    Calls Tryd.prog 22 #[.slice a l cap] w (OkZ x w) := by
  subst hl
  exact (H a cap p w h1 hs T).mono fun r w' h' => UZ.ok h h'
theorem rn_ok (a : Option Addr) (cap : Nat) (p : List Int) (l : Nat) (hl : p.length = l) (w : World) (h1 : l ≤ 9223372036854775807) (hs : IsC w.heap.size w a p cap) (T : ∀ j, In64 (nth p j)) (x : Int) (H : CPr) (h : rkE p = 0 ∧ (rk p : Int) = x) :
    Calls Tryd.prog 24 #[.slice a l cap] w (OkZ x w) := by
  subst hl
  exact (H a cap p w h1 hs T).mono fun r w' h' => UZ.ok h h'
theorem rn_no (a : Option Addr) (cap : Nat) (p : List Int) (l : Nat) (hl : p.length = l) (w : World) (h1 : l ≤ 9223372036854775807) (hs : IsC w.heap.size w a p cap) (T : ∀ j, In64 (nth p j)) (H : CPr) (h : rkE p ≠ 0) :
    Calls Tryd.prog 24 #[.slice a l cap] w (NoZ (rkE p) w) := by
  subst hl
  exact (H a cap p w h1 hs T).mono fun r w' h' => UZ.no h h'
theorem un_ok (n k : Int) (w : World) (hn : In64 n) (hk : In64 k) (L : List Int) (H : CPu) (h : urE n k = 0 ∧ ur n.toNat (idn n.toNat) k.toNat = L) :
    Calls Tryd.prog 27 #[.int .i64 n, .int .i64 k] w (OkL L w) :=
  (H n k w hn hk).mono fun r w' h' => UL.ok h h'
theorem un_no (n k : Int) (w : World) (hn : In64 n) (hk : In64 k) (H : CPu) (h : urE n k ≠ 0) :
    Calls Tryd.prog 27 #[.int .i64 n, .int .i64 k] w (NoL (urE n k) w) :=
  (H n k w hn hk).mono fun r w' h' => UL.no h h'
end Go.Proofs.YtcblakcaoecgpaaDoor
