/-
  All cells on one axis, as the program tells them.
-/
import Derived.Test.YtmbgomljofngnaaBase
import Derived.Test.YtmbgomljofngnaaFresh
import Derived.Test.YtmbgomljofngnaaLine
namespace Go.Proofs.Ytmbgomljofngnaa
open Go.RowKit
set_option linter.unusedVariables false

set_option maxRecDepth 100000 in
set_option maxHeartbeats 2000000 in
theorem ravel_ok (c : Bool) (sa : Option Addr) (sc : Nat) (sz : List Int) (da : Option Addr) (dc : Nat) (dz : List Int) (h1 : sz.length ≤ 9223372036854775807) (h2 : dz.length ≤ 9223372036854775807) (w : World) (hs : IsInts w.heap.size w sa sz) (hd : IsInts w.heap.size w da dz) (hf : flawE c sz dz = 0) :
    Calls Try.prog 10 #[.agg #[.bool c, .slice sa sz.length sc, .slice da dz.length dc]] w fun e w' => ∃ xa xc ya yc, e = .returned (.tuple #[.agg #[.bool c, .slice xa 1 xc, .slice ya dz.length yc], .nilIface]) ∧ NewInts w.heap.size w' xa [(dz.length : Int)] ∧ NewInts w.heap.size w' ya dz ∧ Below w.heap.size w w' := by
  have HB0 : Hid (Below w.heap.size w ((w.alloc (.cells #[.bool c, .slice sa sz.length sc, .slice da dz.length dc] 25)).alloc (.cells #[.bool false, .slice none 0 0, .slice none 0 0] 25))) := ((Below.refl _ w).alloc (Nat.le_refl _) _).alloc (by simp) _
  have HI : Hid (IsInts w.heap.size w sa sz ∧ IsInts w.heap.size w da dz) := ⟨hs, hd⟩
  have HF : Hid (flawE c sz dz = 0) := hf
  have HD : Hid (dz.length ≤ 4096) := (flawE_short hf).2
  clear hs hd hf
  go_enter Try.func10, Try.ntmps10
  go_wp2_with fail
  refine (check_ok c sa sc sz da dc dz h1 h2 _ ((HI.out.1.below HB0.out).mono HB0.out.size) ((HI.out.2.below HB0.out).mono HB0.out.size) HF.out).mono ?_
  rintro e w1 ⟨rfl, hC1⟩
  have HB1 : Hid (Below w.heap.size w w1) := HB0.out.trans (hC1.mono HB0.out.size)
  have P1 : Hid (Abx w1 w.heap.size (.bool c) (.slice sa sz.length sc) (.slice da dz.length dc)) := ((Abx.new w _ _ _).al _).go hC1
  have R1 : Hid (Abx w1 (w.heap.size + 1) (.bool false) (.slice none 0 0) (.slice none 0 0)) := (Abx.new1 w _ _ _ _).go hC1
  clear hC1
  have c0 := P1.out.c0
  have c2 := P1.out.c2
  go_wp2_with fail
  have HBd : Hid (Below w.heap.size w w1.drew) := HB1.out.drew
  refine anyT_begin 6 (fun w' => w'.cell? ⟨w.heap.size, 0, none⟩ = some (.bool c) ∧ w'.cell? ⟨w.heap.size, 2, none⟩ = some (.slice da dz.length dc)) 8 #[false, false, false, false, false, false, false, false] (by kernel_rfl) rfl rfl ?_
  refine anyT_put 0 11 ?rv0 #[true, false, false, false, false, false, false, false] rfl rfl rfl (by kernel_rfl) (by kernel_rfl) (by kernel_rfl) (fun _ _ _ h => h) (by decide) ?ry0 (fun _ => ⟨c0, c2⟩) ?rm0
  case ry0 => first | exact Or.inl ⟨by rfl, by intro w'; go_simp; first | done | rfl⟩
  case rm0 =>
  simp only [Act.put, List.setIfInBounds_toArray, List.set_cons_zero, List.set_cons_succ]
  refine anyT_take 1 12 ?rv1 #[true, true, false, false, false, false, false, false] rfl rfl rfl (by kernel_rfl) (by kernel_rfl) (by kernel_rfl) (fun _ _ _ h => h) (by kernel_rfl) (by decide) (by kernel_rfl) ?ry1 (⟨c0, c2⟩) ?rm1
  case ry1 => first | exact Or.inl ⟨by rfl, by intro w' hw'; (try dsimp only at hw'); go_simp; first | done | rfl⟩
  case rm1 =>
  simp only [Act.put, List.setIfInBounds_toArray, List.set_cons_zero, List.set_cons_succ]
  refine anyT_put 2 13 ?rv2 #[true, true, true, false, false, false, false, false] rfl rfl rfl (by kernel_rfl) (by kernel_rfl) (by kernel_rfl) (fun _ _ _ h => h) (by decide) ?ry2 (fun _ => ⟨c0, c2⟩) ?rm2
  case ry2 => first | exact Or.inl ⟨by rfl, by intro w'; go_simp; first | done | rfl⟩
  case rm2 =>
  simp only [Act.put, List.setIfInBounds_toArray, List.set_cons_zero, List.set_cons_succ]
  refine anyT_take 3 14 ?rv3 #[true, true, true, true, false, false, false, false] rfl rfl rfl (by kernel_rfl) (by kernel_rfl) (by kernel_rfl) (fun _ _ _ h => h) (by kernel_rfl) (by decide) (by kernel_rfl) ?ry3 (⟨c0, c2⟩) ?rm3
  case ry3 => first | exact Or.inl ⟨by rfl, by intro w' hw'; (try dsimp only at hw'); go_simp; first | done | rfl⟩
  case rm3 =>
  simp only [Act.put, List.setIfInBounds_toArray, List.set_cons_zero, List.set_cons_succ]
  refine anyT_one 4 #[true, true, true, true, true, false, false, false] (by kernel_rfl) rfl rfl (fun K hK => ?_)
  go_simp
  go_wp2_with (go_at_call 28; refine (fresh_any da dc dz (by have := HD.out; omega) w1.drew ((HI.out.2.below HBd.out).mono HBd.out.size)).mono ?_; rintro e w2 ⟨ya, yc, rfl, hY, hB2⟩)
  have P2 := P1.out.dr.go hB2
  refine hK.out _ _ (fun _ => ⟨P2.c0, P2.c2⟩) ?_
  clear hK K
  refine anyT_one 5 #[true, true, true, true, true, true, false, false] (by kernel_rfl) rfl rfl (fun K hK => ?_)
  go_simp
  go_wp2_with (go_at_call 27; refine (line_any c ya yc dz w2).mono ?_; rintro e w3 ⟨xa, xc, rfl, hX, hB3⟩)
  have P3 := P2.go hB3
  have R3 := (R1.out.dr.go hB2).go hB3
  have r0 := R3.c0
  have r1 := R3.c1
  have r2 := R3.c2
  have f0 := R3.fr 0
  have f1 := R3.fr 1
  have f2 := R3.fr 2
  refine hK.out _ _ (fun _ => ⟨P3.c0, P3.c2⟩) ?_
  clear hK K
  refine anyT_one 6 #[true, true, true, true, true, true, true, false] (by kernel_rfl) rfl rfl (fun K hK => ?_)
  go_simp
  refine hK.out _ _ (fun h => absurd h (by decide)) ?_
  clear hK K
  refine anyT_one 7 #[true, true, true, true, true, true, true, true] (by kernel_rfl) rfl rfl (fun K hK => ?_)
  go_simp
  refine hK.out _ _ (fun h => absurd h (by decide)) ?_
  clear hK K
  refine anyT_done (by kernel_rfl) ?_
  go_wp2_with fail
  have F := R3.set3 (.bool c) (.slice xa 1 xc) (.slice ya dz.length yc)
  have q0 := F.c0
  have q1 := F.c1
  have q2 := F.c2
  have z1 := R1.out.lt
  have z2 := hB2.size
  have z3 := R3.lt
  refine bodyPost_ret (v := .tuple #[.agg #[.bool c, .slice xa 1 xc, .slice ya dz.length yc], .nilIface]) (by simp [results, Try.results10, go_sem, q0, q1, q2]) rfl ⟨xa, xc, ya, yc, rfl, ?_, ?_, ?_⟩
  · exact (hX.set3 (by simp at z2; omega) _ _ _).low (by simp at z2; omega)
  · exact ((hY.go hB3).set3 (by simpa using z1) _ _ _).low (by simp; omega)
  · exact bel_set3 (HBd.out.trans ((hB2.mono HBd.out.size).trans (hB3.mono (by have := HBd.out.size; omega)))) (by omega) _ _ _
set_option maxRecDepth 100000 in
set_option maxHeartbeats 1000000 in
theorem ravel_no (c : Bool) (sa : Option Addr) (sc : Nat) (sz : List Int) (da : Option Addr) (dc : Nat) (dz : List Int) (h1 : sz.length ≤ 9223372036854775807) (h2 : dz.length ≤ 9223372036854775807) (w : World) (hs : IsInts w.heap.size w sa sz) (hd : IsInts w.heap.size w da dz) (hf : flawE c sz dz ≠ 0) :
    Calls Try.prog 10 #[.agg #[.bool c, .slice sa sz.length sc, .slice da dz.length dc]] w fun e w' => e = .returned (.tuple #[.agg #[.bool false, .slice none 0 0, .slice none 0 0], .iface 59 (.int .i64 (flawE c sz dz))]) ∧ Below w.heap.size w w' := by
  have HB0 : Hid (Below w.heap.size w ((w.alloc (.cells #[.bool c, .slice sa sz.length sc, .slice da dz.length dc] 25)).alloc (.cells #[.bool false, .slice none 0 0, .slice none 0 0] 25))) := ((Below.refl _ w).alloc (Nat.le_refl _) _).alloc (by simp) _
  have HI : Hid (IsInts w.heap.size w sa sz ∧ IsInts w.heap.size w da dz) := ⟨hs, hd⟩
  have HF : Hid (flawE c sz dz ≠ 0) := hf
  clear hs hd hf
  go_enter Try.func10, Try.ntmps10
  go_wp2_with fail
  refine (check_no c sa sc sz da dc dz h1 h2 _ ((HI.out.1.below HB0.out).mono HB0.out.size) ((HI.out.2.below HB0.out).mono HB0.out.size) HF.out).mono ?_
  rintro e w1 ⟨rfl, hC1⟩
  have HB1 : Hid (Below w.heap.size w w1) := HB0.out.trans (hC1.mono HB0.out.size)
  have R4 : Hid (Abx w1 (w.heap.size + 1) (.bool false) (.slice none 0 0) (.slice none 0 0)) := (Abx.new1 w _ _ _ _).go hC1
  clear hC1
  have r0 := R4.out.c0
  have r1 := R4.out.c1
  have r2 := R4.out.c2
  have f0 := R4.out.fr 0
  have f1 := R4.out.fr 1
  have f2 := R4.out.fr 2
  go_wp2_with fail
  have F := R4.out.set3 (.bool false) (.slice none 0 0) (.slice none 0 0)
  have q0 := F.c0
  have q1 := F.c1
  have q2 := F.c2
  exact bodyPost_ret (v := .tuple #[.agg #[.bool false, .slice none 0 0, .slice none 0 0], .iface 59 (.int .i64 (flawE c sz dz))]) (by simp [results, Try.results10, go_sem, q0, q1, q2]) rfl ⟨rfl, bel_set3 HB1.out (by omega) _ _ _⟩
end Go.Proofs.Ytmbgomljofngnaa
