/-
  The program's powers of arrays.
-/
import Derived.Test.YtjaabemlpiafaaaDoorMgp
import Derived.Test.YtjaabemlpiafaaaDoorMgk
namespace Go.Proofs.YtjaabemlpiafaaaDoor
open Go.RowKit
set_option linter.unusedVariables false

theorem rdg_pw {n : Nat} {dz : List Int} (T : ∀ j, In64 (nth dz j)) (i j : Nat) : rdg n dz i j = pwg n (rdg n dz) 1 i j := by
  unfold pwg
  by_cases h : i < n ∧ j < n
  · rw [if_pos h, pwM_one n _ h.1]
    unfold rdg
    rw [if_pos h, (T _).same]
  · rw [if_neg h]
    exact if_neg h
set_option maxRecDepth 100000 in
set_option maxHeartbeats 2000000 in
theorem mpow_no (c : Bool) (sa : Option Addr) (sc : Nat) (sz : List Int) (da : Option Addr) (dc : Nat) (dz : List Int) (w : World) (h1 : sz.length ≤ 9223372036854775807) (h2 : dz.length ≤ 9223372036854775807) (hs : IsInts w.heap.size w sa sz) (hd : IsInts w.heap.size w da dz) (k : Int) (h : mxE c sz dz ≠ 0) :
    Calls Tryd.prog 19 #[.agg #[.bool c, .slice sa sz.length sc, .slice da dz.length dc], .int .i64 k] w (NoM (mxE c sz dz) w) := by
  obtain ⟨w0, HW⟩ : ∃ w0, Hid (w0 = ((w.alloc (.cells #[.bool c, .slice sa sz.length sc, .slice da dz.length dc] 24)).alloc (.cells #[.bool false, .slice none 0 0, .slice none 0 0] 24))) := ⟨_, rfl⟩
  have HB0 : Hid (Below w.heap.size w w0) := by rw [HW.out]; exact ((Below.refl _ w).alloc (Nat.le_refl _) _).alloc (by simp) _
  have HA : Abx w0 w.heap.size (.bool c) (.slice sa sz.length sc) (.slice da dz.length dc) := by rw [HW.out]; exact (Abx.new w _ _ _).al _
  have HR : Hid (Abx w0 (w.heap.size + 1) (.bool false) (.slice none 0 0) (.slice none 0 0)) := by rw [HW.out]; exact Abx.new1 w _ _ _ _
  have hC := read_no c sa sc sz da dc dz w0 h1 h2 ((hs.below HB0.out).mono HB0.out.size) ((hd.below HB0.out).mono HB0.out.size) h
  have p0 := HA.c0
  have p1 := HA.c1
  have p2 := HA.c2
  clear hs hd HA h
  go_enter Tryd.func19, Tryd.ntmps19
  go_upto_region 1 with fail
  rw [← HW.out]
  go_wp2_with fail
  refine hC.mono ?_
  rintro e y1 ⟨rfl, hB⟩
  have HB1 : Hid (Below w.heap.size w y1) := HB0.out.trans (hB.mono HB0.out.size)
  have HR1 : Hid (Abx y1 (w.heap.size + 1) (.bool false) (.slice none 0 0) (.slice none 0 0)) := HR.out.go hB
  clear p0 p1 p2 HW HB0 hC hB HR
  have hlt := HR1.out.lt
  have bx := (HR1.out.al (.cells #[.int .i64 0, .int .i64 0, .int .i64 0, .int .i64 0, .int .i64 0, .int .i64 0, .int .i64 0, .int .i64 0, .int .i64 0, .int .i64 0, .int .i64 0, .int .i64 0, .int .i64 0, .int .i64 0, .int .i64 0, .int .i64 0, .int .i64 0, .int .i64 0, .int .i64 0, .int .i64 0, .int .i64 0, .int .i64 0, .int .i64 0, .int .i64 0, .int .i64 0, .int .i64 0, .int .i64 0, .int .i64 0, .int .i64 0, .int .i64 0, .int .i64 0, .int .i64 0, .int .i64 0, .int .i64 0, .int .i64 0, .int .i64 0] 52)).row (b' := y1.heap.size) (c := ofg fun _ _ => 0) (by omega)
  have f0 := bx.fr 0
  have f1 := bx.fr 1
  have f2 := bx.fr 2
  have r0 := bx.c0
  have r1 := bx.c1
  have r2 := bx.c2
  go_wp2_with (refine wpl_stg y1.heap.size _ (fun _ _ => 0) _ _ (Gb.new0 y1) rfl rfl rfl rfl rfl ?_)
  have FF := bx.set3 (.bool false) (.slice none 0 0) (.slice none 0 0)
  have q0 := FF.c0
  have q1 := FF.c1
  have q2 := FF.c2
  refine bodyPost_ret (v := .tuple #[.agg #[.bool false, .slice none 0 0, .slice none 0 0], .iface 25 (.int .i64 (mxE c sz dz))]) (by simp [results, Tryd.results19, go_sem, q0, q1, q2]) rfl ?_
  exact ⟨rfl, bel_set3 (bel_row (HB1.out.alloc HB1.out.size _) HB1.out.size) (by omega) _ _ _⟩
set_option maxRecDepth 100000 in
set_option maxHeartbeats 2000000 in
theorem mpow_neg (n : Nat) (hn : n ≤ 6) (sa : Option Addr) (sc : Nat) (da : Option Addr) (dc : Nat) (dz : List Int) (m : Nat) (hm : dz.length = m) (hl : dz.length = n * n) (w : World) (hs : IsInts w.heap.size w sa [(n : Int), (n : Int)]) (hd : IsInts w.heap.size w da dz) (k : Int) (hk : k < 0) :
    Calls Tryd.prog 19 #[.agg #[.bool false, .slice sa 2 sc, .slice da m dc], .int .i64 k] w (NoM 6 w) := by
  obtain ⟨w0, HW⟩ : ∃ w0, Hid (w0 = ((w.alloc (.cells #[.bool false, .slice sa 2 sc, .slice da m dc] 24)).alloc (.cells #[.bool false, .slice none 0 0, .slice none 0 0] 24))) := ⟨_, rfl⟩
  have HB0 : Hid (Below w.heap.size w w0) := by rw [HW.out]; exact ((Below.refl _ w).alloc (Nat.le_refl _) _).alloc (by simp) _
  have HA : Abx w0 w.heap.size (.bool false) (.slice sa 2 sc) (.slice da m dc) := by rw [HW.out]; exact (Abx.new w _ _ _).al _
  have HR : Hid (Abx w0 (w.heap.size + 1) (.bool false) (.slice none 0 0) (.slice none 0 0)) := by rw [HW.out]; exact Abx.new1 w _ _ _ _
  have hC := read_ok n hn sa sc da dc dz hl w0 ((hs.below HB0.out).mono HB0.out.size) ((hd.below HB0.out).mono HB0.out.size)
  rw [hm] at hC
  have HL : Hid (dz.length = n * n) := hl
  have p0 := HA.c0
  have p1 := HA.c1
  have p2 := HA.c2
  clear hs hd HA hl hm
  go_enter Tryd.func19, Tryd.ntmps19
  go_upto_region 1 with fail
  rw [← HW.out]
  go_wp2_with fail
  refine hC.mono ?_
  rintro e y1 ⟨rfl, hB⟩
  have HB1 : Hid (Below w.heap.size w y1) := HB0.out.trans (hB.mono HB0.out.size)
  have HR1 : Hid (Abx y1 (w.heap.size + 1) (.bool false) (.slice none 0 0) (.slice none 0 0)) := HR.out.go hB
  clear p0 p1 p2 HW HB0 hC hB HR
  have hlt := HR1.out.lt
  have bx := (HR1.out.al (.cells #[.int .i64 0, .int .i64 0, .int .i64 0, .int .i64 0, .int .i64 0, .int .i64 0, .int .i64 0, .int .i64 0, .int .i64 0, .int .i64 0, .int .i64 0, .int .i64 0, .int .i64 0, .int .i64 0, .int .i64 0, .int .i64 0, .int .i64 0, .int .i64 0, .int .i64 0, .int .i64 0, .int .i64 0, .int .i64 0, .int .i64 0, .int .i64 0, .int .i64 0, .int .i64 0, .int .i64 0, .int .i64 0, .int .i64 0, .int .i64 0, .int .i64 0, .int .i64 0, .int .i64 0, .int .i64 0, .int .i64 0, .int .i64 0] 52)).row (b' := y1.heap.size) (c := ofg (rdg n dz)) (by omega)
  have f0 := bx.fr 0
  have f1 := bx.fr 1
  have f2 := bx.fr 2
  have r0 := bx.c0
  have r1 := bx.c1
  have r2 := bx.c2
  go_wp2_with (refine wpl_stg y1.heap.size _ (rdg n dz) _ _ (Gb.new0 y1) rfl rfl rfl rfl rfl ?_)
  have FF := bx.set3 (.bool false) (.slice none 0 0) (.slice none 0 0)
  have q0 := FF.c0
  have q1 := FF.c1
  have q2 := FF.c2
  refine bodyPost_ret (v := .tuple #[.agg #[.bool false, .slice none 0 0, .slice none 0 0], .iface 25 (.int .i64 6)]) (by simp [results, Tryd.results19, go_sem, q0, q1, q2]) rfl ?_
  exact ⟨rfl, bel_set3 (bel_row (HB1.out.alloc HB1.out.size _) HB1.out.size) (by omega) _ _ _⟩
set_option maxRecDepth 100000 in
set_option maxHeartbeats 2000000 in
theorem mpow_ok (n : Nat) (hn : n ≤ 6) (sa : Option Addr) (sc : Nat) (da : Option Addr) (dc : Nat) (dz : List Int) (m : Nat) (hm : dz.length = m) (hl : dz.length = n * n) (w : World) (hs : IsInts w.heap.size w sa [(n : Int), (n : Int)]) (hd : IsInts w.heap.size w da dz) (T : ∀ j, In64 (nth dz j)) (k : Nat) (hk : k ≤ 9223372036854775807) :
    Calls Tryd.prog 19 #[.agg #[.bool false, .slice sa 2 sc, .slice da m dc], .int .i64 (k : Nat)] w (OkM n (cls n (pwg n (rdg n dz) k)) w) := by
  have HZ : Hid (∀ i, i < 6 → ∀ j, j < 6 → rdg n dz i j = pwg n (rdg n dz) 1 i j) := fun i _ j _ => rdg_pw T i j
  obtain ⟨w0, HW⟩ : ∃ w0, Hid (w0 = ((w.alloc (.cells #[.bool false, .slice sa 2 sc, .slice da m dc] 24)).alloc (.cells #[.bool false, .slice none 0 0, .slice none 0 0] 24))) := ⟨_, rfl⟩
  have HB0 : Hid (Below w.heap.size w w0) := by rw [HW.out]; exact ((Below.refl _ w).alloc (Nat.le_refl _) _).alloc (by simp) _
  have HA : Abx w0 w.heap.size (.bool false) (.slice sa 2 sc) (.slice da m dc) := by rw [HW.out]; exact (Abx.new w _ _ _).al _
  have HR : Hid (Abx w0 (w.heap.size + 1) (.bool false) (.slice none 0 0) (.slice none 0 0)) := by rw [HW.out]; exact Abx.new1 w _ _ _ _
  have hC := read_ok n hn sa sc da dc dz hl w0 ((hs.below HB0.out).mono HB0.out.size) ((hd.below HB0.out).mono HB0.out.size)
  rw [hm] at hC
  have HL : Hid (dz.length = n * n) := hl
  have p0 := HA.c0
  have p1 := HA.c1
  have p2 := HA.c2
  clear hs hd HA hl hm
  go_enter Tryd.func19, Tryd.ntmps19
  go_upto_region 1 with fail
  rw [← HW.out]
  go_wp2_with fail
  refine hC.mono ?_
  rintro e y1 ⟨rfl, hB⟩
  have HB1 : Hid (Below w.heap.size w y1) := HB0.out.trans (hB.mono HB0.out.size)
  have HR1 : Hid (Abx y1 (w.heap.size + 1) (.bool false) (.slice none 0 0) (.slice none 0 0)) := HR.out.go hB
  clear p0 p1 p2 HW HB0 hC hB HR
  have hlt := HR1.out.lt
  have hk0 : ¬ (k : Int) < 0 := by omega
  go_wp2_with (first | refine wpl_stg y1.heap.size _ (rdg n dz) _ _ (Gb.new0 y1) rfl rfl rfl rfl rfl ?_ | refine wpl_ldg y1.heap.size (rdg n dz) _ (Gb.new0 y1).row rfl rfl rfl ?_)
  refine (gpower_any n hn (rdg n dz) HZ.out k hk _).mono ?_
  rintro e y2 ⟨rfl, hB2⟩
  have HRw : Hid (Abx y2 (w.heap.size + 1) (.bool false) (.slice none 0 0) (.slice none 0 0)) := ((HR1.out.al (.cells #[.int .i64 0, .int .i64 0, .int .i64 0, .int .i64 0, .int .i64 0, .int .i64 0, .int .i64 0, .int .i64 0, .int .i64 0, .int .i64 0, .int .i64 0, .int .i64 0, .int .i64 0, .int .i64 0, .int .i64 0, .int .i64 0, .int .i64 0, .int .i64 0, .int .i64 0, .int .i64 0, .int .i64 0, .int .i64 0, .int .i64 0, .int .i64 0, .int .i64 0, .int .i64 0, .int .i64 0, .int .i64 0, .int .i64 0, .int .i64 0, .int .i64 0, .int .i64 0, .int .i64 0, .int .i64 0, .int .i64 0, .int .i64 0] 52)).row (by omega)).go hB2
  have HBw : Hid (Below w.heap.size w y2) := (bel_row (HB1.out.alloc HB1.out.size _) HB1.out.size).trans (hB2.mono (bel_row (HB1.out.alloc HB1.out.size _) HB1.out.size).size)
  clear hB2 HR1 HB1
  go_wp2_with fail
  refine (array_any n hn (pwg n (rdg n dz) k) _).mono ?_
  rintro e y ⟨xa, ya, rfl, hX, hY, hB⟩
  have bx := HRw.out.go hB
  have f0 := bx.fr 0
  have f1 := bx.fr 1
  have f2 := bx.fr 2
  have r0 := bx.c0
  have r1 := bx.c1
  have r2 := bx.c2
  have hlo : w.heap.size + 1 < y2.heap.size := HRw.out.lt
  have HX : Hid (NewC (y2.heap.size) y xa [(n : Int), (n : Int)] 2) := hX
  have HY : Hid (NewC (y2.heap.size) y ya (cls n (pwg n (rdg n dz) k)) (cls n (pwg n (rdg n dz) k)).length) := hY
  have HB9 : Hid (Below w.heap.size w y) := HBw.out.trans (hB.mono HBw.out.size)
  obtain ⟨L, hL⟩ : ∃ L, L = (cls n (pwg n (rdg n dz) k)).length := ⟨_, rfl⟩
  rw [← hL]
  have HLd : Hid (L = (cls n (pwg n (rdg n dz) k)).length) := hL
  clear hX hY hB hL
  go_wp2_with fail
  have FF := bx.set3 (.bool false) (.slice xa 2 2) (.slice ya L L)
  have q0 := FF.c0
  have q1 := FF.c1
  have q2 := FF.c2
  refine bodyPost_ret (v := .tuple #[.agg #[.bool false, .slice xa 2 2, .slice ya L L], .nilIface]) (by simp [results, Tryd.results19, go_sem, q0, q1, q2]) rfl ?_
  exact ⟨xa, 2, ya, L, by rw [HLd.out], (HX.out.bel3 hlo _ _ _).lowc (by omega), by rw [HLd.out]; exact (HY.out.bel3 hlo _ _ _).lowc (by omega), bel_set3 HB9.out (by omega) _ _ _⟩
end Go.Proofs.YtjaabemlpiafaaaDoor
