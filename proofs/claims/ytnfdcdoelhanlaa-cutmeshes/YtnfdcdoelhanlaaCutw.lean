/-
  What Take, Drop, Join, Keep and Spread tell, where nothing is wrong and where something is.
-/
import Derived.Test.YtnfdcdoelhanlaaTurnw
import Derived.Test.YtnfdcdoelhanlaaCutq
namespace Go.Proofs.Ytnfdcdoelhanlaa
open Go.RowKit
set_option linter.unusedVariables false

/-- An array, where nothing is wrong; both lists have room. -/
def OkB (c : Bool) (S D : List Int) (w : World) (r : Ending) (w' : World) : Prop :=
  ∃ xa xc ya yc, r = .returned (.tuple #[.agg #[.bool c, .slice xa S.length xc, .slice ya D.length yc], .nilIface]) ∧ NewC w.heap.size w' xa S xc ∧ NewC w.heap.size w' ya D yc ∧ Below w.heap.size w w'
theorem UB.ok {e : Int} {c : Bool} {S D S' D' : List Int} {w w' : World} {r : Ending} (h0 : e = 0 ∧ S = S' ∧ D = D') (h : UB e (onc e c) (onl e S) (onl e D) w r w') : OkB c S' D' w r w' := by
  obtain ⟨rfl, rfl, rfl⟩ := h0
  exact h
theorem UB.no {e : Int} {c : Bool} {S D : List Int} {w w' : World} {r : Ending} (h0 : e ≠ 0) (h : UB e (onc e c) (onl e S) (onl e D) w r w') : NoA e w r w' := UA.no h0 h.ua
theorem kp_ok (na : Option Addr) (nc : Nat) (n : List Int) (x : Int) (hx : In64 x) (c : Bool) (sa : Option Addr) (sc : Nat) (sz : List Int) (da : Option Addr) (dc : Nat) (dz : List Int) (w : World) (hl : n.length ≤ 9223372036854775807) (Tn : ∀ j, In64 (nth n j)) (hn : IsC w.heap.size w na n nc) (h1 : sz.length ≤ 9223372036854775807) (h2 : dz.length ≤ 9223372036854775807) (hs : IsC w.heap.size w sa sz sc) (hd : IsC w.heap.size w da dz dc) (T : ∀ j, In64 (nth dz j)) (S D : List Int) (H : CKp) (h : kpE n x c sz dz = 0 ∧ kpS n x.toNat sz = S ∧ kpD n x.toNat sz dz = D) : Calls Try.prog 12 #[.slice na n.length nc, .int .i64 x, .agg #[.bool c, .slice sa sz.length sc, .slice da dz.length dc]] w (OkB c S D w) :=
  (H na nc n x c sa sc sz da dc dz w hl Tn hx h1 h2 hn hs hd T).mono fun r w' h' => UB.ok h h'
theorem kp_no (na : Option Addr) (nc : Nat) (n : List Int) (x : Int) (hx : In64 x) (c : Bool) (sa : Option Addr) (sc : Nat) (sz : List Int) (da : Option Addr) (dc : Nat) (dz : List Int) (w : World) (hl : n.length ≤ 9223372036854775807) (Tn : ∀ j, In64 (nth n j)) (hn : IsC w.heap.size w na n nc) (h1 : sz.length ≤ 9223372036854775807) (h2 : dz.length ≤ 9223372036854775807) (hs : IsC w.heap.size w sa sz sc) (hd : IsC w.heap.size w da dz dc) (T : ∀ j, In64 (nth dz j)) (H : CKp) (h : kpE n x c sz dz ≠ 0) : Calls Try.prog 12 #[.slice na n.length nc, .int .i64 x, .agg #[.bool c, .slice sa sz.length sc, .slice da dz.length dc]] w (NoA (kpE n x c sz dz) w) :=
  (H na nc n x c sa sc sz da dc dz w hl Tn hx h1 h2 hn hs hd T).mono fun r w' h' => UB.no h h'
theorem sp_ok (na : Option Addr) (nc : Nat) (n : List Int) (x : Int) (hx : In64 x) (c : Bool) (sa : Option Addr) (sc : Nat) (sz : List Int) (da : Option Addr) (dc : Nat) (dz : List Int) (w : World) (hl : n.length ≤ 9223372036854775807) (Tn : ∀ j, In64 (nth n j)) (hn : IsC w.heap.size w na n nc) (h1 : sz.length ≤ 9223372036854775807) (h2 : dz.length ≤ 9223372036854775807) (hs : IsC w.heap.size w sa sz sc) (hd : IsC w.heap.size w da dz dc) (T : ∀ j, In64 (nth dz j)) (S D : List Int) (H : CSp) (h : spE n x c sz dz = 0 ∧ spS n x.toNat sz = S ∧ spD n x.toNat c sz dz = D) : Calls Try.prog 13 #[.slice na n.length nc, .int .i64 x, .agg #[.bool c, .slice sa sz.length sc, .slice da dz.length dc]] w (OkB c S D w) :=
  (H na nc n x c sa sc sz da dc dz w hl Tn hx h1 h2 hn hs hd T).mono fun r w' h' => UB.ok h h'
theorem sp_no (na : Option Addr) (nc : Nat) (n : List Int) (x : Int) (hx : In64 x) (c : Bool) (sa : Option Addr) (sc : Nat) (sz : List Int) (da : Option Addr) (dc : Nat) (dz : List Int) (w : World) (hl : n.length ≤ 9223372036854775807) (Tn : ∀ j, In64 (nth n j)) (hn : IsC w.heap.size w na n nc) (h1 : sz.length ≤ 9223372036854775807) (h2 : dz.length ≤ 9223372036854775807) (hs : IsC w.heap.size w sa sz sc) (hd : IsC w.heap.size w da dz dc) (T : ∀ j, In64 (nth dz j)) (H : CSp) (h : spE n x c sz dz ≠ 0) : Calls Try.prog 13 #[.slice na n.length nc, .int .i64 x, .agg #[.bool c, .slice sa sz.length sc, .slice da dz.length dc]] w (NoA (spE n x c sz dz) w) :=
  (H na nc n x c sa sc sz da dc dz w hl Tn hx h1 h2 hn hs hd T).mono fun r w' h' => UB.no h h'
end Go.Proofs.Ytnfdcdoelhanlaa
