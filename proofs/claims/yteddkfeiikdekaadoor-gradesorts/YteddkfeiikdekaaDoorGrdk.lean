/-
  What the walk of GradeSorts takes besides.
-/
import Derived.Test.YteddkfeiikdekaaDoorGrdi
import Derived.Test.YteddkfeiikdekaaDoorGrdw
import Derived.Test.YteddkfeiikdekaaDoorSrdt
import Derived.Test.YteddkfeiikdekaaDoorIsw
import Derived.Test.YteddkfeiikdekaaDoorJoinc
import Derived.Test.YteddkfeiikdekaaDoorPapp
import Derived.Deep.DeepCutAuto
namespace Go.Proofs.YteddkfeiikdekaaDoor
open Go.RowKit
set_option linter.unusedVariables false

section
variable {lo hi : Nat} {W W' : World} {a : Option Addr} {zs : List Int} {cap : Nat}
theorem MidC.wider10 {lo' hi' : Nat} (h : MidC lo hi W a zs cap) (h1 : lo' ≤ lo) (h2 : hi ≤ hi') : MidC lo' hi' W a zs cap := by
  refine ⟨?_, h.2⟩
  rcases h.1 with e | ⟨b, off, e, h0, hb, hc, hz⟩
  · exact .inl e
  · exact .inr ⟨b, off, e, by omega, by omega, hc, hz⟩
theorem MidC.gob10 {B : Nat} (h : MidC lo hi W a zs cap) (hh : hi ≤ B) (hB : Below B W W') : MidC lo hi W' a zs cap := ⟨h.1.bel (hB.mono hh), h.2⟩
theorem MidC.bd10 {b off : Nat} (h : MidC lo hi W (some ⟨b, off, none⟩) zs cap) {q : Nat} (hq : q < zs.length) : b < hi := by
  rcases h.1 with e | ⟨b', off', e, h0, hb, hc, hz⟩
  · rw [e] at hq; cases hq
  · cases e; exact hb
end
theorem sow_noE (c : Bool) (sa : Option Addr) (sc : Nat) (sz : List Int) (l : Nat) (hl : sz.length = l) (da : Option Addr) (dc : Nat) (dz : List Int) (m : Nat) (hm : dz.length = m) (w : World) (h1 : l ≤ 9223372036854775807) (h2 : m ≤ 9223372036854775807) (hs : IsC w.heap.size w sa sz sc) (hd : IsC w.heap.size w da dz dc) (H : CSo) (E : Int) (h : gdE c sz dz = E) (h0 : E ≠ 0) :
    Calls Tryd.prog 11 #[.agg #[.bool c, .slice sa l sc, .slice da m dc]] w (NoA E w) := by
  subst h
  exact sow_no c sa sc sz l hl da dc dz m hm w h1 h2 hs hd H h0
theorem is_no10 (E : Int) (hE : E ≠ 0) (xa : Option Addr) (xc : Nat) (ya : Option Addr) (yc : Nat) (w : World) (hg : HasErr w) :
    Calls Tryd.prog 12 #[.agg #[.bool false, .slice xa 0 xc, .slice ya 0 yc], .iface 25 (.int .i64 E), .agg #[.bool false, .slice none 0 0, .slice none 0 0], .int .i64 E] w fun r w' => r = .returned (.bool true) ∧ Below w.heap.size w w' := by
  have h := is_same E false [] [] xa xc ya yc none 0 none 0 (by decide) (by decide) w hg (.inl rfl) (.inl rfl) (.inl rfl) (.inl rfl)
  rw [errV_pos hE] at h
  exact h
theorem is_ok10 (c : Bool) (S : List Int) (l : Nat) (hl : S.length = l) (D : List Int) (m : Nat) (hm : D.length = m) (xa : Option Addr) (xc : Nat) (ya : Option Addr) (yc : Nat) (ta : Option Addr) (tc : Nat) (ua : Option Addr) (uc : Nat) (h1 : l ≤ 9223372036854775807) (h2 : m ≤ 9223372036854775807) (w : World) (hg : HasErr w)
    (hx : IsInts w.heap.size w xa S) (hy : IsInts w.heap.size w ya D) (ht : IsInts w.heap.size w ta S) (hu : IsInts w.heap.size w ua D) :
    Calls Tryd.prog 12 #[.agg #[.bool c, .slice xa S.length xc, .slice ya D.length yc], .nilIface, .agg #[.bool c, .slice ta l tc, .slice ua m uc], .int .i64 0] w fun r w' => r = .returned (.bool true) ∧ Below w.heap.size w w' := by
  subst hl hm
  exact is_same 0 c S D xa xc ya yc ta tc ua uc h1 h2 w hg hx hy ht hu
end Go.Proofs.YteddkfeiikdekaaDoor
