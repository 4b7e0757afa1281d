/-
  The least one of a class; what the program tells of an array that is a relation: it closed, its classes.
-/
import Derived.BigQuiet
import Derived.Deep.DeepCutAuto
import Derived.Test.YtgaelbgeoobgiabRgf
import Derived.Test.YtgaelbgeoobgiabRgg
namespace Go.Proofs.Ytgaelbgeoobgiab
open Go.RowKit
set_option linter.unusedVariables false

theorem lea_congr {p q : Nat → Bool} : ∀ {m : Nat}, (∀ j, j < m → p j = q j) → lea p m = lea q m
  | 0, _ => rfl
  | m + 1, h => by rw [lea, lea, lea_congr (m := m) fun j hj => h j (by omega), h m (by omega)]
/-- The least one of each class. -/
def csL (n : Nat) (R : Rl) : List Int := (List.range n).map fun i => ((cls R n i : Nat) : Int)
theorem csL_len (n : Nat) (R : Rl) : (csL n R).length = n := by simp [csL]
theorem csL_nth {n i : Nat} {R : Rl} (h : i < n) : nth (csL n R) i = ((cls R n i : Nat) : Int) := by
  rw [nth_get _ _ (by rw [csL_len]; exact h)]
  simp [csL]
theorem cl_24 {n : Nat} {dz : List Int} (hn : n ≤ 24) : clL n (clB (rdR n dz) 24) = clL n (clB (rdR n dz) n) := clL_congr fun i hi j hj => cl_wide hn (fun i j h => rdR_in h) hi
theorem csL_24 {n i : Nat} {dz : List Int} (hn : n ≤ 24) (h : i < n) : nth (csL n (rdR n dz)) i = ((lea (fun j => clB (rdR n dz) 24 i j && clB (rdR n dz) 24 j i) i : Nat) : Int) := by
  rw [csL_nth h]
  unfold cls
  rw [lea_congr (q := fun j => clB (rdR n dz) 24 i j && clB (rdR n dz) 24 j i) fun j hj => by
    show (clB (rdR n dz) n i j && clB (rdR n dz) n j i) = _
    rw [cl_wide hn (fun i j h => rdR_in h) h, cl_wide hn (fun i j h => rdR_in h) (by omega)]]
theorem Abx.row15 {W : World} {b b' : Nat} {x y z : Value} {c : Array Value} (h : Abx W b x y z) (hb : b ≠ b') : Abx (W.setRow b' c) b x y z := by
  unfold Abx at *
  rw [← h]
  simp [World.setRow, Array.getElem?_modify, Ne.symm hb]
/-- A relation of n things, where nothing is wrong. -/
def OkM (n : Nat) (D : List Int) (w : World) (r : Ending) (w' : World) : Prop :=
  ∃ xa xc ya yc, r = .returned (.tuple #[.agg #[.bool false, .slice xa 2 xc, .slice ya D.length yc], .nilIface]) ∧ NewC w.heap.size w' xa [(n : Int), (n : Int)] xc ∧ NewC w.heap.size w' ya D yc ∧ Below w.heap.size w w'
/-- An error, and an array of which all is empty. -/
def NoM (e : Int) (w : World) (r : Ending) (w' : World) : Prop :=
  r = .returned (.tuple #[.agg #[.bool false, .slice none 0 0, .slice none 0 0], .iface 41 (.int .i64 e)]) ∧ Below w.heap.size w w'
theorem NewC.bel3 {lo b : Nat} {W : World} {a : Option Addr} {zs : List Int} {cap : Nat} (h : NewC lo W a zs cap) (hb : b < lo) (x y z : Value) : NewC lo (((W.setCell ⟨b, 0, none⟩ x).setCell ⟨b, 1, none⟩ y).setCell ⟨b, 2, none⟩ z) a zs cap := ⟨h.1.set3 hb x y z, h.2⟩
theorem NewC.lowc {lo lo' : Nat} {W : World} {a : Option Addr} {zs : List Int} {cap : Nat} (h : NewC lo W a zs cap) (hl : lo' ≤ lo) : NewC lo' W a zs cap := ⟨h.1.low hl, h.2⟩
set_option maxRecDepth 100000 in
set_option maxHeartbeats 2000000 in
theorem clo_no (c : Bool) (sa : Option Addr) (sc : Nat) (sz : List Int) (da : Option Addr) (dc : Nat) (dz : List Int) (w : World) (h1 : sz.length ≤ 9223372036854775807) (h2 : dz.length ≤ 9223372036854775807) (hs : IsInts w.heap.size w sa sz) (hd : IsInts w.heap.size w da dz) (h : rlE c sz dz ≠ 0) :
    Calls Try.prog 6 #[.agg #[.bool c, .slice sa sz.length sc, .slice da dz.length dc]] w (NoM (rlE c sz dz) w) := by
  obtain ⟨w0, HW⟩ : ∃ w0, Hid (w0 = ((w.alloc (.cells #[.bool c, .slice sa sz.length sc, .slice da dz.length dc] 24)).alloc (.cells #[.bool false, .slice none 0 0, .slice none 0 0] 24))) := ⟨_, rfl⟩
  have HB0 : Hid (Below w.heap.size w w0) := by rw [HW.out]; exact ((Below.refl _ w).alloc (Nat.le_refl _) _).alloc (by simp) _
  have HA : Abx w0 w.heap.size (.bool c) (.slice sa sz.length sc) (.slice da dz.length dc) := by rw [HW.out]; exact (Abx.new w _ _ _).al _
  have HR : Hid (Abx w0 (w.heap.size + 1) (.bool false) (.slice none 0 0) (.slice none 0 0)) := by rw [HW.out]; exact Abx.new1 w _ _ _ _
  have hC := rread_no c sa sc sz da dc dz w0 h1 h2 ((hs.below HB0.out).mono HB0.out.size) ((hd.below HB0.out).mono HB0.out.size) h
  have p0 := HA.c0
  have p1 := HA.c1
  have p2 := HA.c2
  have hzR := zeroR
  clear hs hd HA h
  go_enter Try.func6, Try.ntmps6
  go_upto_region 1 with fail
  rw [← HW.out]
  go_wp2_with fail
  refine hC.mono ?_
  rintro e y1 ⟨rfl, hB⟩
  have HB1 : Hid (Below w.heap.size w y1) := HB0.out.trans (hB.mono HB0.out.size)
  have HR1 : Hid (Abx y1 (w.heap.size + 1) (.bool false) (.slice none 0 0) (.slice none 0 0)) := HR.out.go hB
  clear p0 p1 p2 HW HB0 hC hB HR
  have hlt := HR1.out.lt
  have bx := (HR1.out.al (.cells (ofr fun _ _ => false) 38)).row15 (b' := y1.heap.size) (c := ofr fun _ _ => false) (by omega)
  have f0 := bx.fr 0
  have f1 := bx.fr 1
  have f2 := bx.fr 2
  have r0 := bx.c0
  have r1 := bx.c1
  have r2 := bx.c2
  go_wp2_with (refine wpl_str y1.heap.size _ (fun _ _ => false) _ _ (Rb.new y1 _) rfl rfl rfl rfl rfl ?_)
  have FF := bx.set3 (.bool false) (.slice none 0 0) (.slice none 0 0)
  have q0 := FF.c0
  have q1 := FF.c1
  have q2 := FF.c2
  refine bodyPost_ret (v := .tuple #[.agg #[.bool false, .slice none 0 0, .slice none 0 0], .iface 41 (.int .i64 (rlE c sz dz))]) (by simp [results, Try.results6, go_sem, q0, q1, q2]) rfl ?_
  exact ⟨rfl, bel_set3 (bel_rw (HB1.out.alloc HB1.out.size _) HB1.out.size) (by omega) _ _ _⟩
set_option maxRecDepth 100000 in
set_option maxHeartbeats 2000000 in
theorem clo_ok (n : Nat) (hn : n ≤ 24) (sa : Option Addr) (sc : Nat) (da : Option Addr) (dc : Nat) (dz : List Int) (m : Nat) (hm : dz.length = m) (hl : dz.length = n * n) (hk : mskB dz = true) (w : World) (hs : IsInts w.heap.size w sa [(n : Int), (n : Int)]) (hd : IsInts w.heap.size w da dz) :
    Calls Try.prog 6 #[.agg #[.bool false, .slice sa 2 sc, .slice da m dc]] w (OkM n (clL n (clB (rdR n dz) n)) w) := by
  obtain ⟨w0, HW⟩ : ∃ w0, Hid (w0 = ((w.alloc (.cells #[.bool false, .slice sa 2 sc, .slice da m dc] 24)).alloc (.cells #[.bool false, .slice none 0 0, .slice none 0 0] 24))) := ⟨_, rfl⟩
  have HB0 : Hid (Below w.heap.size w w0) := by rw [HW.out]; exact ((Below.refl _ w).alloc (Nat.le_refl _) _).alloc (by simp) _
  have HA : Abx w0 w.heap.size (.bool false) (.slice sa 2 sc) (.slice da m dc) := by rw [HW.out]; exact (Abx.new w _ _ _).al _
  have HR : Hid (Abx w0 (w.heap.size + 1) (.bool false) (.slice none 0 0) (.slice none 0 0)) := by rw [HW.out]; exact Abx.new1 w _ _ _ _
  have hC := rread_ok n hn sa sc da dc dz hl hk w0 ((hs.below HB0.out).mono HB0.out.size) ((hd.below HB0.out).mono HB0.out.size)
  rw [hm] at hC
  have HL : Hid (dz.length = n * n) := hl
  have p0 := HA.c0
  have p1 := HA.c1
  have p2 := HA.c2
  have hzR := zeroR
  clear hs hd HA hl hm hk
  go_enter Try.func6, Try.ntmps6
  go_upto_region 1 with fail
  rw [← HW.out]
  go_wp2_with fail
  refine hC.mono ?_
  rintro e y1 ⟨rfl, hB⟩
  have HB1 : Hid (Below w.heap.size w y1) := HB0.out.trans (hB.mono HB0.out.size)
  have HR1 : Hid (Abx y1 (w.heap.size + 1) (.bool false) (.slice none 0 0) (.slice none 0 0)) := HR.out.go hB
  clear p0 p1 p2 HW HB0 hC hB HR
  have hlt := HR1.out.lt
  go_wp2_with (first | refine wpl_str y1.heap.size _ (rdR n dz) _ _ (Rb.new y1 _) rfl rfl rfl rfl rfl ?_ | refine wpl_ldr y1.heap.size (rdR n dz) _ (Rb.new y1 _).row rfl rfl rfl ?_)
  refine (closed_any (rdR n dz) _).mono ?_
  rintro e y2 ⟨rfl, hB2⟩
  have HRw : Hid (Abx y2 (w.heap.size + 1) (.bool false) (.slice none 0 0) (.slice none 0 0)) := ((HR1.out.al (.cells (ofr fun _ _ => false) 38)).row15 (by omega)).go hB2
  have HBw : Hid (Below w.heap.size w y2) := (bel_rw (HB1.out.alloc HB1.out.size _) HB1.out.size).trans (hB2.mono (bel_rw (HB1.out.alloc HB1.out.size _) HB1.out.size).size)
  clear hB2 HR1 HB1
  go_wp2_with fail
  refine (rarray_any n hn (clB (rdR n dz) 24) _).mono ?_
  rintro e y ⟨xa, ya, rfl, hX, hY, hB⟩
  rw [cl_24 hn] at hY ⊢
  have bx := HRw.out.go hB
  have f0 := bx.fr 0
  have f1 := bx.fr 1
  have f2 := bx.fr 2
  have r0 := bx.c0
  have r1 := bx.c1
  have r2 := bx.c2
  have hlo : w.heap.size + 1 < y2.heap.size := HRw.out.lt
  have HX : Hid (NewC (y2.heap.size) y xa [(n : Int), (n : Int)] 2) := hX
  have HY : Hid (NewC (y2.heap.size) y ya (clL n (clB (rdR n dz) n)) (clL n (clB (rdR n dz) n)).length) := hY
  have HB9 : Hid (Below w.heap.size w y) := HBw.out.trans (hB.mono HBw.out.size)
  obtain ⟨L, hL⟩ : ∃ L, L = (clL n (clB (rdR n dz) n)).length := ⟨_, rfl⟩
  rw [← hL]
  have HLd : Hid (L = (clL n (clB (rdR n dz) n)).length) := hL
  clear hX hY hB hL
  go_wp2_with fail
  have FF := bx.set3 (.bool false) (.slice xa 2 2) (.slice ya L L)
  have q0 := FF.c0
  have q1 := FF.c1
  have q2 := FF.c2
  refine bodyPost_ret (v := .tuple #[.agg #[.bool false, .slice xa 2 2, .slice ya L L], .nilIface]) (by simp [results, Try.results6, go_sem, q0, q1, q2]) rfl ?_
  exact ⟨xa, 2, ya, L, by rw [HLd.out], (HX.out.bel3 hlo _ _ _).lowc (by omega), by rw [HLd.out]; exact (HY.out.bel3 hlo _ _ _).lowc (by omega), bel_set3 HB9.out (by omega) _ _ _⟩
end Go.Proofs.Ytgaelbgeoobgiab
