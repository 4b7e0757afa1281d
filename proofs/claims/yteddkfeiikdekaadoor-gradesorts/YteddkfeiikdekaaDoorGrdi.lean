/-
  A list and an error, told as the document says; what Up and Down tell in one form.
-/
import Derived.Test.YteddkfeiikdekaaDoorErr
import Derived.Test.YteddkfeiikdekaaDoorGrdq
import Derived.Test.YteddkfeiikdekaaDoorRgrd
import Derived.Test.YteddkfeiikdekaaDoorMidc
import Derived.Test.YteddkfeiikdekaaDoorBase
namespace Go.Proofs.YteddkfeiikdekaaDoor
open Go.RowKit
set_option linter.unusedVariables false

set_option maxRecDepth 100000 in
set_option maxHeartbeats 1000000 in
theorem ints_same10 (e : Int) (a : Option Addr) (cap : Nat) (zs : List Int) (l : Nat) (hl : zs.length = l) (b : Option Addr) (bap : Nat) (l' : Nat) (hl' : zs.length = l') (w : World) (hg : HasErr w) (h1 : l ≤ 9223372036854775807) (hs : IsInts w.heap.size w a zs) (hd : IsInts w.heap.size w b zs) :
    Calls Tryd.prog 7 #[.slice a l cap, errV e, .slice b l' bap, .int .i64 e] w fun r w' => r = .returned (.bool true) ∧ Below w.heap.size w w' := by
  subst hl hl'
  have HI : Hid (IsInts w.heap.size w a zs ∧ IsInts w.heap.size w b zs) := ⟨hs, hd⟩
  clear hs hd
  go_enter Tryd.func7, Tryd.ntmps7
  go_wp2_with fail
  refine (error_same e w hg).mono ?_
  rintro r w1 ⟨rfl, hB⟩
  have HB : Hid (Below w.heap.size w w1) := hB
  clear hB hg
  go_wp2_with fail
  refine (ints_any a cap zs b bap zs h1 _ w1 ((HI.out.1.below HB.out).mono HB.out.size) ((HI.out.2.below HB.out).mono HB.out.size)).mono ?_
  rintro r w2 ⟨rfl, hB2⟩
  rw [eqB_true rfl]
  go_wp2_with fail
  go_ret
  exact ⟨rfl, HB.out.trans (hB2.mono HB.out.size)⟩
theorem upg (H : CUp) (c : Bool) (sa : Option Addr) (sc : Nat) (sz : List Int) (da : Option Addr) (dc : Nat) (dz : List Int) (w : World) (h1 : sz.length ≤ 9223372036854775807) (h2 : dz.length ≤ 9223372036854775807) (hs : IsC w.heap.size w sa sz sc) (hd : IsC w.heap.size w da dz dc) (E : Int) (L : List Int) (h : gdE c sz dz = E ∧ onL (gdE c sz dz) (gdO false sz dz) = L) :
    Calls Tryd.prog 6 #[.agg #[.bool c, .slice sa sz.length sc, .slice da dz.length dc]] w (UL E L w) := by
  rw [← h.2, ← h.1]; exact H c sa sc sz da dc dz w h1 h2 hs hd
theorem dng (H : CDn) (c : Bool) (sa : Option Addr) (sc : Nat) (sz : List Int) (da : Option Addr) (dc : Nat) (dz : List Int) (w : World) (h1 : sz.length ≤ 9223372036854775807) (h2 : dz.length ≤ 9223372036854775807) (hs : IsC w.heap.size w sa sz sc) (hd : IsC w.heap.size w da dz dc) (E : Int) (L : List Int) (h : gdE c sz dz = E ∧ onL (gdE c sz dz) (gdO true sz dz) = L) :
    Calls Tryd.prog 8 #[.agg #[.bool c, .slice sa sz.length sc, .slice da dz.length dc]] w (UL E L w) := by
  rw [← h.2, ← h.1]; exact H c sa sc sz da dc dz w h1 h2 hs hd
theorem grg (dn : Bool) (c : Bool) (sa : Option Addr) (sc : Nat) (sz : List Int) (da : Option Addr) (dc : Nat) (dz : List Int) (w : World) (h1 : sz.length ≤ 9223372036854775807) (h2 : dz.length ≤ 9223372036854775807) (hs : IsC w.heap.size w sa sz sc) (hd : IsC w.heap.size w da dz dc) (E : Int) (L : List Int) (h : gdE c sz dz = E ∧ onL (gdE c sz dz) (gdO dn sz dz) = L) :
    Calls Tryd.prog 5 #[.agg #[.bool c, .slice sa sz.length sc, .slice da dz.length dc], .bool dn] w (UG E L w) := by
  rw [← h.2, ← h.1]; exact rgrd_any dn c sa sc sz da dc dz w h1 h2 hs hd
theorem gd_len {dn : Bool} {c : Bool} {sz dz : List Int} {L : List Int} (h : onL (gdE c sz dz) (gdO dn sz dz) = L) : L.length ≤ 4096 := by
  rw [← h]
  exact onL_len fun he => by rw [gdO_length]; exact (nR_is he).2
end Go.Proofs.YteddkfeiikdekaaDoor
