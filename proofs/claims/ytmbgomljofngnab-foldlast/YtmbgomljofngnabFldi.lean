/-
  Helpers of FoldLast: two lists that are the same, told without errors; a list of zeros of which one is set; Drop by such.
-/
import Derived.Test.YtmbgomljofngnabSarr
import Derived.Test.YtmbgomljofngnabCutw
import Derived.Test.YtmbgomljofngnabCutq
namespace Go.Proofs.Ytmbgomljofngnab
open Go.RowKit
set_option linter.unusedVariables false

set_option maxRecDepth 100000 in
set_option maxHeartbeats 1000000 in
/-- Two lists that are the same, told without errors. -/
theorem list_same12 (a : Option Addr) (cap : Nat) (zs : List Int) (l : Nat) (hl : zs.length = l) (b : Option Addr) (bap : Nat) (l' : Nat) (hl' : zs.length = l') (w : World) (h1 : l ≤ 9223372036854775807) (hs : IsInts w.heap.size w a zs) (hd : IsInts w.heap.size w b zs) :
    Calls Try.prog 15 #[.slice a l cap, .nilIface, .slice b l' bap, .nilIface] w fun e w' => e = .returned (.bool true) ∧ Below w.heap.size w w' := by
  subst hl hl'
  have HI : Hid (IsInts w.heap.size w a zs ∧ IsInts w.heap.size w b zs) := ⟨hs, hd⟩
  clear hs hd
  go_enter Try.func15, Try.ntmps15
  go_wp2_with fail
  refine (ints_any a cap zs b bap zs h1 _ w HI.out.1 HI.out.2).mono ?_
  rintro e w1 ⟨rfl, hB⟩
  rw [eqB_true rfl]
  go_wp2_with fail
  go_ret
  exact ⟨rfl, hB⟩
theorem dr_okl12 (na : Option Addr) (nc : Nat) (n : List Int) (l : Nat) (hnl : n.length = l) (c : Bool) (sa : Option Addr) (sc : Nat) (sz : List Int) (da : Option Addr) (dc : Nat) (dz : List Int) (w : World) (hl : n.length ≤ 9223372036854775807) (Tn : ∀ j, In64 (nth n j)) (hn : IsC w.heap.size w na n nc) (h1 : sz.length ≤ 9223372036854775807) (h2 : dz.length ≤ 9223372036854775807) (hs : IsC w.heap.size w sa sz sc) (hd : IsC w.heap.size w da dz dc) (T : ∀ j, In64 (nth dz j)) (S D : List Int) (H : CDr) (h : drE n c sz dz = 0 ∧ drS sz n = S ∧ drD n c sz dz = D) : Calls Try.prog 18 #[.slice na l nc, .agg #[.bool c, .slice sa sz.length sc, .slice da dz.length dc]] w (OkB c S D w) := by
  subst hnl
  exact dr_ok na nc n c sa sc sz da dc dz w hl Tn hn h1 h2 hs hd T S D H h
theorem zer_64 {n x : Nat} {v : Int} (hx : x < n) (hv : In64 v) : ∀ j, In64 (nth ((zer n).set x v) j) := fun j => by
  rw [nth_set _ _ _ _ (by unfold zer; rw [List.length_replicate]; exact hx)]
  split
  · exact hv
  · rw [zer_nth]; unfold In64; omega
theorem zer_len {n x : Nat} {v : Int} : ((zer n).set x v).length = n := by rw [List.length_set]; unfold zer; rw [List.length_replicate]
end Go.Proofs.Ytmbgomljofngnab
