/-
  What Take, Drop, Keep and Spread tell, the list's length told apart.
-/
import Derived.Test.YtnfdcdoelhanlaaCutw
namespace Go.Proofs.Ytnfdcdoelhanlaa
open Go.RowKit
set_option linter.unusedVariables false

theorem kp_okl (na : Option Addr) (nc : Nat) (n : List Int) (l : Nat) (hnl : n.length = l) (x : Int) (hx : In64 x) (c : Bool) (sa : Option Addr) (sc : Nat) (sz : List Int) (da : Option Addr) (dc : Nat) (dz : List Int) (w : World) (hl : n.length ≤ 9223372036854775807) (Tn : ∀ j, In64 (nth n j)) (hn : IsC w.heap.size w na n nc) (h1 : sz.length ≤ 9223372036854775807) (h2 : dz.length ≤ 9223372036854775807) (hs : IsC w.heap.size w sa sz sc) (hd : IsC w.heap.size w da dz dc) (T : ∀ j, In64 (nth dz j)) (S D : List Int) (H : CKp) (h : kpE n x c sz dz = 0 ∧ kpS n x.toNat sz = S ∧ kpD n x.toNat sz dz = D) : Calls Try.prog 12 #[.slice na l nc, .int .i64 x, .agg #[.bool c, .slice sa sz.length sc, .slice da dz.length dc]] w (OkB c S D w) := by
  subst hnl
  exact kp_ok na nc n x hx c sa sc sz da dc dz w hl Tn hn h1 h2 hs hd T S D H h
theorem sp_okl (na : Option Addr) (nc : Nat) (n : List Int) (l : Nat) (hnl : n.length = l) (x : Int) (hx : In64 x) (c : Bool) (sa : Option Addr) (sc : Nat) (sz : List Int) (da : Option Addr) (dc : Nat) (dz : List Int) (w : World) (hl : n.length ≤ 9223372036854775807) (Tn : ∀ j, In64 (nth n j)) (hn : IsC w.heap.size w na n nc) (h1 : sz.length ≤ 9223372036854775807) (h2 : dz.length ≤ 9223372036854775807) (hs : IsC w.heap.size w sa sz sc) (hd : IsC w.heap.size w da dz dc) (T : ∀ j, In64 (nth dz j)) (S D : List Int) (H : CSp) (h : spE n x c sz dz = 0 ∧ spS n x.toNat sz = S ∧ spD n x.toNat c sz dz = D) : Calls Try.prog 13 #[.slice na l nc, .int .i64 x, .agg #[.bool c, .slice sa sz.length sc, .slice da dz.length dc]] w (OkB c S D w) := by
  subst hnl
  exact sp_ok na nc n x hx c sa sc sz da dc dz w hl Tn hn h1 h2 hs hd T S D H h
end Go.Proofs.Ytnfdcdoelhanlaa
