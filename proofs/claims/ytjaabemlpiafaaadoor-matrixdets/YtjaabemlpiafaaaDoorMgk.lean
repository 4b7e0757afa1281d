/-
  The program's determinant of arrays.
-/
import Derived.Test.YtjaabemlpiafaaaDoorMgd
import Derived.Test.YtjaabemlpiafaaaDoorMgj
namespace Go.Proofs.YtjaabemlpiafaaaDoor
open Go.RowKit
set_option linter.unusedVariables false

theorem Abx.row {W : World} {b b' : Nat} {x y z : Value} {c : Array Value} (h : Abx W b x y z) (hb : b ≠ b') : Abx (W.setRow b' c) b x y z := by
  unfold Abx at *
  rw [← h]
  simp [World.setRow, Array.getElem?_modify, Ne.symm hb]
/-- A matrix of n rows, where nothing is wrong. -/
def OkM (n : Nat) (D : List Int) (w : World) (r : Ending) (w' : World) : Prop :=
  ∃ xa xc ya yc, r = .returned (.tuple #[.agg #[.bool false, .slice xa 2 xc, .slice ya D.length yc], .nilIface]) ∧ NewC w.heap.size w' xa [(n : Int), (n : Int)] xc ∧ NewC w.heap.size w' ya D yc ∧ Below w.heap.size w w'
/-- An error, and an array of which all is empty. -/
def NoM (e : Int) (w : World) (r : Ending) (w' : World) : Prop :=
  r = .returned (.tuple #[.agg #[.bool false, .slice none 0 0, .slice none 0 0], .iface 25 (.int .i64 e)]) ∧ Below w.heap.size w w'
theorem NewC.bel3 {lo b : Nat} {W : World} {a : Option Addr} {zs : List Int} {cap : Nat} (h : NewC lo W a zs cap) (hb : b < lo) (x y z : Value) : NewC lo (((W.setCell ⟨b, 0, none⟩ x).setCell ⟨b, 1, none⟩ y).setCell ⟨b, 2, none⟩ z) a zs cap := ⟨h.1.set3 hb x y z, h.2⟩
theorem NewC.lowc {lo lo' : Nat} {W : World} {a : Option Addr} {zs : List Int} {cap : Nat} (h : NewC lo W a zs cap) (hl : lo' ≤ lo) : NewC lo' W a zs cap := ⟨h.1.low hl, h.2⟩
set_option maxRecDepth 100000 in
set_option maxHeartbeats 2000000 in
theorem mdet_no (c : Bool) (sa : Option Addr) (sc : Nat) (sz : List Int) (da : Option Addr) (dc : Nat) (dz : List Int) (w : World) (h1 : sz.length ≤ 9223372036854775807) (h2 : dz.length ≤ 9223372036854775807) (hs : IsInts w.heap.size w sa sz) (hd : IsInts w.heap.size w da dz) (h : mxE c sz dz ≠ 0) :
    Calls Tryd.prog 10 #[.agg #[.bool c, .slice sa sz.length sc, .slice da dz.length dc]] w fun e w' => e = .returned (.tuple #[.int .i64 0, .iface 25 (.int .i64 (mxE c sz dz))]) ∧ Below w.heap.size w w' := by
  obtain ⟨w0, HW⟩ : ∃ w0, Hid (w0 = (w.alloc (.cells #[.bool c, .slice sa sz.length sc, .slice da dz.length dc] 24))) := ⟨_, rfl⟩
  have HB0 : Hid (Below w.heap.size w w0) := by rw [HW.out]; exact (Below.refl _ w).alloc (Nat.le_refl _) _
  have HA : Abx w0 w.heap.size (.bool c) (.slice sa sz.length sc) (.slice da dz.length dc) := by rw [HW.out]; exact Abx.new w _ _ _
  have hC := read_no c sa sc sz da dc dz w0 h1 h2 ((hs.below HB0.out).mono HB0.out.size) ((hd.below HB0.out).mono HB0.out.size) h
  have p0 := HA.c0
  have p1 := HA.c1
  have p2 := HA.c2
  clear hs hd HA h
  go_enter Tryd.func10, Tryd.ntmps10
  go_upto_region 1 with fail
  rw [← HW.out]
  go_wp2_with fail
  refine hC.mono ?_
  rintro e y1 ⟨rfl, hB⟩
  have HB1 : Hid (Below w.heap.size w y1) := HB0.out.trans (hB.mono HB0.out.size)
  clear p0 p1 p2 HW HB0 hC hB
  go_wp2_with (refine wpl_stg y1.heap.size _ (fun _ _ => 0) _ _ (Gb.new0 y1) rfl rfl rfl rfl rfl ?_)
  go_ret2
  exact ⟨rfl, bel_row (HB1.out.alloc HB1.out.size _) HB1.out.size⟩
set_option maxRecDepth 100000 in
set_option maxHeartbeats 2000000 in
theorem mdet_ok (n : Nat) (hn : n ≤ 6) (sa : Option Addr) (sc : Nat) (da : Option Addr) (dc : Nat) (dz : List Int) (m : Nat) (hm : dz.length = m) (hl : dz.length = n * n) (w : World) (hs : IsInts w.heap.size w sa [(n : Int), (n : Int)]) (hd : IsInts w.heap.size w da dz) :
    Calls Tryd.prog 10 #[.agg #[.bool false, .slice sa 2 sc, .slice da m dc]] w fun e w' => e = .returned (.tuple #[.int .i64 (wrap64 (dt n (rdg n dz))), .nilIface]) ∧ Below w.heap.size w w' := by
  obtain ⟨w0, HW⟩ : ∃ w0, Hid (w0 = (w.alloc (.cells #[.bool false, .slice sa 2 sc, .slice da m dc] 24))) := ⟨_, rfl⟩
  have HB0 : Hid (Below w.heap.size w w0) := by rw [HW.out]; exact (Below.refl _ w).alloc (Nat.le_refl _) _
  have HA : Abx w0 w.heap.size (.bool false) (.slice sa 2 sc) (.slice da m dc) := by rw [HW.out]; exact Abx.new w _ _ _
  have hC := read_ok n hn sa sc da dc dz hl w0 ((hs.below HB0.out).mono HB0.out.size) ((hd.below HB0.out).mono HB0.out.size)
  rw [hm] at hC
  have HL : Hid (dz.length = n * n) := hl
  have p0 := HA.c0
  have p1 := HA.c1
  have p2 := HA.c2
  clear hs hd HA hl hm
  go_enter Tryd.func10, Tryd.ntmps10
  go_upto_region 1 with fail
  rw [← HW.out]
  go_wp2_with fail
  refine hC.mono ?_
  rintro e y1 ⟨rfl, hB⟩
  have HB1 : Hid (Below w.heap.size w y1) := HB0.out.trans (hB.mono HB0.out.size)
  clear p0 p1 p2 HW HB0 hC hB
  go_wp2_with (first | refine wpl_stg y1.heap.size _ (rdg n dz) _ _ (Gb.new0 y1) rfl rfl rfl rfl rfl ?_ | refine wpl_ldg y1.heap.size (rdg n dz) _ (Gb.new0 y1).row rfl rfl rfl ?_)
  refine (det_any n hn (rdg n dz) _).mono ?_
  rintro e y2 ⟨rfl, hB2⟩
  have HB2 : Hid (Below w.heap.size w y2) := (bel_row (HB1.out.alloc HB1.out.size _) HB1.out.size).trans (hB2.mono (bel_row (HB1.out.alloc HB1.out.size _) HB1.out.size).size)
  clear hB2
  go_wp2_with fail
  go_ret2
  exact ⟨rfl, HB2.out⟩
end Go.Proofs.YtjaabemlpiafaaaDoor
