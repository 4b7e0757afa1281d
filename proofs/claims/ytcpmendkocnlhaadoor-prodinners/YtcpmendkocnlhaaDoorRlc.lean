/-
  The reference's parts of a shape, with their lengths told apart; two lists joined.
-/
import Derived.Test.YtcpmendkocnlhaaDoorRmove
import Derived.Test.YtcpmendkocnlhaaDoorPapp
import Derived.Test.YtcpmendkocnlhaaDoorMidc
import Derived.Test.YtcpmendkocnlhaaDoorRtc
import Derived.Test.YtcpmendkocnlhaaDoorCounted
namespace Go.Proofs.YtcpmendkocnlhaaDoor
open Go.RowKit
set_option linter.unusedVariables false

theorem cells_l (a : Option Addr) (cap : Nat) (zs : List Int) (n q : Nat) (hn : zs.length = n) (hq : prod zs = q) (hreach : n ≤ 9223372036854775807) (he : errOf zs = 0) (n₀ : Nat) (w : World) (hI : IsInts n₀ w a zs) :
    Calls Tryd.prog 14 #[.slice a n cap] w fun e w' => e = .returned (.int .i64 (q : Nat)) ∧ w' = w := by
  subst hn
  have h := cells_any a cap zs hreach he n₀ w hI
  rw [hq] at h
  exact h
theorem ur12_no {e : Int} {S D : List Int} {w w' : World} {e' : Int} (h : e = e') (h0 : e' ≠ 0) (hB : Below w.heap.size w w') : UR e false (onl e S) (onl e D) w (.returned (.tuple #[.agg #[.bool false, .slice none 0 0, .slice none 0 0], .int .i64 e'])) w' := by
  subst h
  rw [onl_no h0, onl_no h0]
  exact ⟨none, 0, none, 0, rfl, .inl rfl, .inl rfl, hB⟩
theorem ur12_ok {e : Int} {S D : List Int} {w w' : World} {xa : Option Addr} {xc : Nat} {ya : Option Addr} {yc n m : Nat} (h : e = 0) (hn : S.length = n) (hm : D.length = m) (hX : NewInts w.heap.size w' xa S) (hY : NewInts w.heap.size w' ya D) (hB : Below w.heap.size w w') :
    UR e false (onl e S) (onl e D) w (.returned (.tuple #[.agg #[.bool false, .slice xa n xc, .slice ya m yc], .int .i64 0])) w' := by
  subst h hn hm
  exact ⟨xa, xc, ya, yc, rfl, hX, hY, hB⟩
theorem row_goR {w w' : World} {b : Nat} {t : TypeId} {n B : Nat} {f : Nat → Value} (h : w.rowIs b t n f) (hB : Below B w w') (hb : b < B) : w'.rowIs b t n f := h.of_block (hB.block b hb)
theorem fault_l (a : Option Addr) (cap : Nat) (zs : List Int) (n : Nat) (hn : zs.length = n) (hreach : n ≤ 9223372036854775807) (n₀ : Nat) (w : World) (hI : IsInts n₀ w a zs) :
    Calls Tryd.prog 12 #[.slice a n cap] w fun e w' => e = .returned (.int .i64 (errOf zs)) ∧ w' = w := by
  subst hn
  exact fault_any a cap zs hreach n₀ w hI
theorem coords_c (a : Option Addr) (cap : Nat) (zs : List Int) (n p : Nat) (hn : zs.length = n) (he : errOf zs = 0) (hp : (p : Int) < prod zs) (w : World) (hI : IsInts w.heap.size w a zs) :
    Calls Tryd.prog 15 #[.slice a n cap, .int .i64 (p : Int)] w fun e w' => ∃ g, e = .returned (.slice (some ⟨g, 0, none⟩) n n) ∧ w.heap.size ≤ g ∧ w'.rowIs g 3 n (fun j => .int .i64 (nth (cr zs p) j)) ∧ Below w.heap.size w w' := by
  subst hn
  exact coords_at a cap zs p he hp w hI
set_option maxRecDepth 100000 in
set_option maxHeartbeats 2000000 in
theorem joined_r (a : Option Addr) (ac : Nat) (xs : List Int) (n : Nat) (hn : xs.length = n) (b : Option Addr) (bc : Nat) (ys : List Int) (m : Nat) (hm : ys.length = m) (h : n + m ≤ 1000000) (w : World) (hI : IsInts w.heap.size w a xs) (hI' : IsInts w.heap.size w b ys) :
    Calls Tryd.prog 11 #[.slice a n ac, .slice b m bc] w fun e w' => ∃ g gc, e = .returned (.slice g (n + m) gc) ∧ NewC w.heap.size w' g (xs ++ ys) gc ∧ Below w.heap.size w w' := by
  have HI : Hid (IsInts w.heap.size w a xs ∧ IsInts w.heap.size w b ys) := ⟨hI, hI'⟩
  clear hI hI'
  go_enter Tryd.func11, Tryd.ntmps11
  go_wp2_with (at_builtin; first | (refine app_all rfl _ _ rfl _ w.heap.size (.slice none 0 0) [] 0 rfl a xs n ac hn rfl rfl (World.ownsRow_nil _ _ _ _) HI.out.1 (by omega) (Nat.le_refl _) ?_; intro g1 gc1 w1 ho1 hN1 hB1; simp only [Nat.zero_add, List.nil_append] at ho1 hN1 ⊢; have HO1 : Hid (w1.ownsRow w.heap.size 3 1 (.slice g1 n gc1) n (xs.map (Value.int .i64)) ∧ Below w.heap.size w w1) := ⟨ho1, hB1⟩; clear ho1 hN1 hB1) | (refine app_all rfl _ _ rfl _ w.heap.size (.slice g1 n gc1) xs n hn b ys m bc hm rfl rfl HO1.out.1 ((HI.out.2.below HO1.out.2).mono HO1.out.2.size) (by omega) HO1.out.2.size ?_; intro g2 gc2 w2 ho2 hN2 hB2; have HO2 : Hid (NewC w.heap.size w2 g2 (xs ++ ys) gc2 ∧ Below w.heap.size w w2) := ⟨hN2, HO1.out.2.trans hB2⟩; clear ho2 hN2 hB2))
  go_ret
  exact ⟨g2, gc2, rfl, HO2.out.1, HO2.out.2⟩
end Go.Proofs.YtcpmendkocnlhaaDoor
