/-
  The statements' own words of matrices: one of two rows, is it one, its determinant.
-/
import Derived.BigQuiet
import Derived.Test.YtjaabemlpiafaabDoorMgk
import Derived.Test.YtjaabemlpiafaabDoorPrg
namespace Go.Proofs.YtjaabemlpiafaabDoor
open Go.RowKit
set_option linter.unusedVariables false

/-- A matrix of at most six rows. -/
def SqP (c : Bool) (sz dz : List Int) : Prop := ∃ n : Nat, n ≤ 6 ∧ sz = [(n : Int), (n : Int)] ∧ dz.length = n * n ∧ c = false
theorem sq_of {c : Bool} {sz dz : List Int} (h : GrdP 6 c sz dz) (e : nth sz 0 = nth sz 1) : SqP c sz dz := by
  obtain ⟨hc, hz, hx, hy, hd⟩ := h
  match sz, hz with
  | [a, b], _ =>
    have e' : a = b := e
    subst e'
    have h0 : 0 ≤ a := hx.1
    obtain ⟨n, rfl⟩ := Int.eq_ofNat_of_zero_le h0
    have h6 : (n : Int) ≤ 6 := hx.2
    refine ⟨n, by omega, rfl, ?_, hc⟩
    have h2 : (dz.length : Int) = (n : Int) * (n : Int) := hd
    exact_mod_cast h2
theorem SqP.grd {c : Bool} {sz dz : List Int} (h : SqP c sz dz) : GrdP 6 c sz dz ∧ nth sz 0 = nth sz 1 := by
  obtain ⟨n, hn, rfl, hd, hc⟩ := h
  refine ⟨⟨hc, rfl, ⟨by show (0 : Int) ≤ (n : Int); omega, by show (n : Int) ≤ 6; omega⟩, ⟨by show (0 : Int) ≤ (n : Int); omega, by show (n : Int) ≤ 6; omega⟩, ?_⟩, rfl⟩
  show (dz.length : Int) = (n : Int) * (n : Int)
  rw [hd]
  simp
set_option maxRecDepth 100000 in
set_option maxHeartbeats 1000000 in
theorem sqr_any (n : Nat) (a : Option Addr) (l cap : Nat) (w : World) :
    Calls Tryd.prog 13 #[.int .i64 (n : Nat), .slice a l cap] w fun e w' => ∃ xa, e = .returned (.agg #[.bool false, .slice xa 2 2, .slice a l cap]) ∧ NewC w.heap.size w' xa [(n : Int), (n : Int)] 2 ∧ Below w.heap.size w w' := by
  go_enter Tryd.func13, Tryd.ntmps13
  go_wp2_with fail
  refine bodyPost_ret (v := .agg #[.bool false, .slice (some ⟨w.heap.size + 1, 0, none⟩) 2 2, .slice a l cap]) (by simp [results, Tryd.results13, go_sem]) rfl ?_
  have hl := lit_mid (w.alloc (.cells #[.bool false, .slice (some ⟨w.heap.size + 1, 0, none⟩) 2 2, .slice a l cap] 24)) 3 [(n : Int), (n : Int)] 2 rfl
  rw [World.size_alloc] at hl
  exact ⟨some ⟨w.heap.size + 1, 0, none⟩, rfl, hl.newc (by simp) (by omega), ((Below.refl _ w).alloc (Nat.le_refl _) _).alloc (by simp) _⟩
set_option maxRecDepth 100000 in
set_option maxHeartbeats 1000000 in
theorem fact14_any (w : World) : Calls Tryd.prog 4 #[] w fun e w' => e = .returned (.bool true) ∧ Below w.heap.size w w' := by
  have hl := lit_mid w 3 [3, 1, 4, 2] 4 rfl
  simp only [List.map_cons, List.map_nil] at hl
  have HL : Hid (MidC w.heap.size (w.heap.size + 1) (w.alloc (.cells #[.int .i64 3, .int .i64 1, .int .i64 4, .int .i64 2] 3)) (some ⟨w.heap.size, 0, none⟩) [3, 1, 4, 2] 4) := hl
  clear hl
  have hS := sqr_any 2 (some ⟨w.heap.size, 0, none⟩) 4 4 (w.alloc (.cells #[.int .i64 3, .int .i64 1, .int .i64 4, .int .i64 2] 3))
  have HB0 : Hid (Below w.heap.size w (w.alloc (.cells #[.int .i64 3, .int .i64 1, .int .i64 4, .int .i64 2] 3))) := (Below.refl _ w).alloc (Nat.le_refl _) _
  go_enter Tryd.func4, Tryd.ntmps4
  go_wp2_with fail
  refine hS.mono ?_
  rintro e v1 ⟨xa, rfl, hX, hB1⟩
  have HB1 : Hid (Below w.heap.size w v1) := HB0.out.trans (hB1.mono HB0.out.size)
  have hD := mdet_ok 2 (by decide) xa 2 (some ⟨w.heap.size, 0, none⟩) 4 [3, 1, 4, 2] 4 rfl rfl v1 hX.1.ints ((HL.out.go (by simp) hB1).is (by have := hB1.size; simp at this; omega)).1
  rw [show wrap64 (dt 2 (rdg 2 [3, 1, 4, 2])) = 2 by decide +kernel] at hD
  clear hS hX hB1 HL HB0
  go_wp2_with fail
  refine hD.mono ?_
  rintro e v2 ⟨rfl, hB2⟩
  have HB2 : Hid (Below w.heap.size w v2) := HB1.out.trans (hB2.mono HB1.out.size)
  clear hD hB2 HB1
  go_wp2_with fail
  go_ret
  exact ⟨rfl, HB2.out⟩
set_option maxRecDepth 100000 in
set_option maxHeartbeats 1000000 in
theorem square_no (c : Bool) (sa : Option Addr) (sc : Nat) (sz : List Int) (da : Option Addr) (dc : Nat) (dz : List Int) (w : World) (hs : IsInts w.heap.size w sa sz) (h : ¬ SqP c sz dz) :
    Calls Tryd.prog 5 #[.agg #[.bool c, .slice sa sz.length sc, .slice da dz.length dc]] w fun e w' => e = .returned (.bool false) ∧ Below w.heap.size w w' := by
  have HB0 : Hid (Below w.heap.size w (w.alloc (.cells #[.bool c, .slice sa sz.length sc, .slice da dz.length dc] 24))) := (Below.refl _ w).alloc (Nat.le_refl _) _
  have HA : Hid (Abx (w.alloc (.cells #[.bool c, .slice sa sz.length sc, .slice da dz.length dc] 24)) w.heap.size (.bool c) (.slice sa sz.length sc) (.slice da dz.length dc)) := Abx.new w _ _ _
  have p0 := HA.out.c0
  have p1 := HA.out.c1
  have p2 := HA.out.c2
  by_cases hg : GrdP 6 c sz dz
  · have hG := grid_yes 6 (by decide) c sa sc sz da dc dz (w.alloc (.cells #[.bool c, .slice sa sz.length sc, .slice da dz.length dc] 24)) ((hs.below HB0.out).mono HB0.out.size) hg
    have hne : ¬ nth sz 0 = nth sz 1 := fun e => h (sq_of hg e)
    have hz := hg.2.1
    have HI : Hid (IsInts w.heap.size w sa sz) := hs
    obtain ⟨x, hx⟩ : ∃ x, nth sz 0 = x := ⟨_, rfl⟩
    obtain ⟨y, hy⟩ : ∃ y, nth sz 1 = y := ⟨_, rfl⟩
    have t1 : (x == y) = false := by rw [← hx, ← hy]; simpa using hne
    have HX : Hid (nth sz 0 = x ∧ nth sz 1 = y ∧ sz.length = 2) := ⟨hx, hy, hz⟩
    clear hs h hg hne hx hy
    rw [hz] at hG p1 HA HB0 ⊢
    clear hz
    go_enter Tryd.func5, Tryd.ntmps5
    go_wp2_with fail
    refine hG.mono ?_
    rintro e v1 ⟨rfl, hB⟩
    have HB1 : Hid (Below w.heap.size w v1) := HB0.out.trans (hB.mono HB0.out.size)
    have q := HA.out.go hB
    have q1 := q.c1
    obtain ⟨b, off, hab, hb, hc⟩ := (HI.out.below HB1.out).at (q := 0) (by rw [HX.out.2.2]; decide)
    subst hab
    have k0 := hc 0 (by rw [HX.out.2.2]; decide)
    have k1 := hc 1 (by rw [HX.out.2.2]; decide)
    rw [Nat.add_zero, HX.out.1] at k0
    rw [HX.out.2.1] at k1
    clear hc hG hB q HA HB0 p0 p1 p2
    go_wp2_with fail
    go_quiet (fail)
    go_wp2_with fail
    go_ret
    exact ⟨rfl, bel_drewN HB1.out _⟩
  · have hG := grid_no 6 (by decide) c sa sc sz da dc dz (w.alloc (.cells #[.bool c, .slice sa sz.length sc, .slice da dz.length dc] 24)) ((hs.below HB0.out).mono HB0.out.size) hg
    clear hs h hg
    go_enter Tryd.func5, Tryd.ntmps5
    go_wp2_with fail
    refine hG.mono ?_
    rintro e v1 ⟨rfl, hB⟩
    have HB1 : Hid (Below w.heap.size w v1) := HB0.out.trans (hB.mono HB0.out.size)
    clear hG hB HA HB0 p0 p1 p2
    go_wp2_with fail
    go_quiet (fail)
    go_wp2_with fail
    go_ret
    exact ⟨rfl, bel_drewN HB1.out _⟩
set_option maxRecDepth 100000 in
set_option maxHeartbeats 1000000 in
theorem square_yes (n : Nat) (hn : n ≤ 6) (sa : Option Addr) (sc : Nat) (da : Option Addr) (dc : Nat) (dz : List Int) (m : Nat) (hm : dz.length = m) (hl : dz.length = n * n) (w : World) (hs : IsInts w.heap.size w sa [(n : Int), (n : Int)]) :
    Calls Tryd.prog 5 #[.agg #[.bool false, .slice sa 2 sc, .slice da m dc]] w fun e w' => e = .returned (.bool true) ∧ Below w.heap.size w w' := by
  have HB0 : Hid (Below w.heap.size w (w.alloc (.cells #[.bool false, .slice sa 2 sc, .slice da m dc] 24))) := (Below.refl _ w).alloc (Nat.le_refl _) _
  have HA : Hid (Abx (w.alloc (.cells #[.bool false, .slice sa 2 sc, .slice da m dc] 24)) w.heap.size (.bool false) (.slice sa 2 sc) (.slice da m dc)) := Abx.new w _ _ _
  have p0 := HA.out.c0
  have p1 := HA.out.c1
  have p2 := HA.out.c2
  have hG := grid_yes 6 (by decide) false sa sc [(n : Int), (n : Int)] da dc dz (w.alloc (.cells #[.bool false, .slice sa 2 sc, .slice da m dc] 24)) ((hs.below HB0.out).mono HB0.out.size) (SqP.grd ⟨n, hn, rfl, hl, rfl⟩).1
  rw [hm] at hG
  have HI : Hid (IsInts w.heap.size w sa [(n : Int), (n : Int)]) := hs
  clear hs hl hm
  go_enter Tryd.func5, Tryd.ntmps5
  go_wp2_with fail
  refine hG.mono ?_
  rintro e v1 ⟨rfl, hB⟩
  have HB1 : Hid (Below w.heap.size w v1) := HB0.out.trans (hB.mono HB0.out.size)
  have q := HA.out.go hB
  have q1 := q.c1
  obtain ⟨b, off, hab, hb, hc⟩ := (HI.out.below HB1.out).at (q := 0) (by simp)
  subst hab
  have k0 := hc 0 (by simp)
  have k1 : v1.cell? ⟨b, off + 1, none⟩ = some (.int .i64 (n : Int)) := hc 1 (by simp)
  rw [Nat.add_zero] at k0
  have k0' : v1.cell? ⟨b, off, none⟩ = some (.int .i64 (n : Int)) := k0
  clear hc hG hB q HA HB0 p0 p1 p2 k0
  go_wp2_with fail
  go_quiet (fail)
  go_wp2_with fail
  go_ret
  exact ⟨ret_bool (by simp), bel_drewN HB1.out _⟩
theorem sqy_any (c : Bool) (sa : Option Addr) (sc : Nat) (sz : List Int) (da : Option Addr) (dc : Nat) (dz : List Int) (w : World) (hs : IsInts w.heap.size w sa sz) (h : SqP c sz dz) :
    Calls Tryd.prog 5 #[.agg #[.bool c, .slice sa sz.length sc, .slice da dz.length dc]] w fun e w' => e = .returned (.bool true) ∧ Below w.heap.size w w' := by
  obtain ⟨n, hn, rfl, hl, rfl⟩ := h
  exact square_yes n hn sa sc da dc dz dz.length rfl hl w hs
set_option maxRecDepth 100000 in
set_option maxHeartbeats 1000000 in
theorem sdet_any (n : Nat) (hn : n ≤ 6) (sa : Option Addr) (sc : Nat) (da : Option Addr) (dc : Nat) (dz : List Int) (m : Nat) (hm : dz.length = m) (hl : dz.length = n * n) (w : World) (hs : IsInts w.heap.size w sa [(n : Int), (n : Int)]) (hd : IsInts w.heap.size w da dz) :
    Calls Tryd.prog 8 #[.agg #[.bool false, .slice sa 2 sc, .slice da m dc]] w fun e w' => e = .returned (.int .i64 (wrap64 (dt n (rdg n dz)))) ∧ Below w.heap.size w w' := by
  have HB0 : Hid (Below w.heap.size w (w.alloc (.cells #[.bool false, .slice sa 2 sc, .slice da m dc] 24))) := (Below.refl _ w).alloc (Nat.le_refl _) _
  have HA := Abx.new w (.bool false) (.slice sa 2 sc) (.slice da m dc)
  have p0 := HA.c0
  have p1 := HA.c1
  have p2 := HA.c2
  have hD := mdet_ok n hn sa sc da dc dz m hm hl (w.alloc (.cells #[.bool false, .slice sa 2 sc, .slice da m dc] 24)) ((hs.below HB0.out).mono HB0.out.size) ((hd.below HB0.out).mono HB0.out.size)
  clear hs hd hm hl HA
  go_enter Tryd.func8, Tryd.ntmps8
  go_wp2_with fail
  refine hD.mono ?_
  rintro e v1 ⟨rfl, hB⟩
  have HB1 : Hid (Below w.heap.size w v1) := HB0.out.trans (hB.mono HB0.out.size)
  clear hB hD HB0 p0 p1 p2
  go_wp2_with fail
  go_ret
  exact ⟨rfl, HB1.out⟩
end Go.Proofs.YtjaabemlpiafaabDoor
