/-
  An array's cells in another shape, as the program tells them.
-/
import Derived.Test.YtmbgomljofngnaaBase
import Derived.Test.YtmbgomljofngnaaFresh
import Derived.Test.YtmbgomljofngnaaCycle
namespace Go.Proofs.Ytmbgomljofngnaa
open Go.RowKit
set_option linter.unusedVariables false

theorem count_n (a : Option Addr) (cap : Nat) (zs : List Int) (n : Nat) (hreach : zs.length ≤ 9223372036854775807) (w : World) (hI : IsInts w.heap.size w a zs) (he : errOf zs = 0) (hn : (n : Int) = prod zs) :
    Calls Try.prog 30 #[.slice a zs.length cap] w fun e w' => e = .returned (.tuple #[.int .i64 (n : Int), .nilIface]) ∧ Below w.heap.size w w' :=
  (count_ok a cap zs hreach w hI he).mono fun e w' ⟨h1, h2⟩ => ⟨by rw [h1, hn], h2⟩
theorem count_nat {zs : List Int} (he : errOf zs = 0) : ∃ n : Nat, (n : Int) = prod zs ∧ n ≤ 4096 := by
  have h := errOf_zero.1 he
  have := prod_nonneg h.2.1
  exact ⟨(prod zs).toNat, by omega, by omega⟩
set_option maxRecDepth 100000 in
set_option maxHeartbeats 4000000 in
theorem reshape_ok (a : Option Addr) (cap : Nat) (zs : List Int) (n : Nat) (c : Bool) (sa : Option Addr) (sc : Nat) (sz : List Int) (da : Option Addr) (dc : Nat) (dz : List Int) (h0 : zs.length ≤ 9223372036854775807) (h1 : sz.length ≤ 9223372036854775807) (h2 : dz.length ≤ 9223372036854775807) (w : World)
    (hz : IsInts w.heap.size w a zs) (hs : IsInts w.heap.size w sa sz) (hd : IsInts w.heap.size w da dz) (he : errOf zs = 0) (hn : (n : Int) = prod zs) (hf : flawE c sz dz = 0) :
    Calls Try.prog 13 #[.slice a zs.length cap, .agg #[.bool c, .slice sa sz.length sc, .slice da dz.length dc]] w fun e w' => ∃ xa xc ya yc, e = .returned (.tuple #[.agg #[.bool c, .slice xa zs.length xc, .slice ya (cyc dz n (fillE c)).length yc], .nilIface]) ∧ NewInts w.heap.size w' xa zs ∧ NewInts w.heap.size w' ya (cyc dz n (fillE c)) ∧ Below w.heap.size w w' := by
  have HB0 : Hid (Below w.heap.size w ((w.alloc (.cells #[.bool c, .slice sa sz.length sc, .slice da dz.length dc] 25)).alloc (.cells #[.bool false, .slice none 0 0, .slice none 0 0] 25))) := ((Below.refl _ w).alloc (Nat.le_refl _) _).alloc (by simp) _
  have HI : Hid (IsInts w.heap.size w a zs ∧ IsInts w.heap.size w sa sz ∧ IsInts w.heap.size w da dz) := ⟨hz, hs, hd⟩
  have HF : Hid (flawE c sz dz = 0 ∧ errOf zs = 0 ∧ (n : Int) = prod zs) := ⟨hf, he, hn⟩
  have HD : Hid (n ≤ 4096 ∧ zs.length ≤ 6) := by have := errOf_zero.1 he; exact ⟨by omega, this.1⟩
  clear hz hs hd hf he hn
  go_enter Try.func13, Try.ntmps13
  go_wp2_with fail
  refine (count_n a cap zs n h0 _ ((HI.out.1.below HB0.out).mono HB0.out.size) HF.out.2.1 HF.out.2.2).mono ?_
  rintro e w0 ⟨rfl, hC0⟩
  have HB0' : Hid (Below w.heap.size w w0) := HB0.out.trans (hC0.mono HB0.out.size)
  have P0 : Hid (Abx w0 w.heap.size (.bool c) (.slice sa sz.length sc) (.slice da dz.length dc)) := ((Abx.new w _ _ _).al _).go hC0
  have R0 : Hid (Abx w0 (w.heap.size + 1) (.bool false) (.slice none 0 0) (.slice none 0 0)) := (Abx.new1 w _ _ _ _).go hC0
  clear hC0
  have b0 := P0.out.c0
  have b1 := P0.out.c1
  have b2 := P0.out.c2
  go_wp2_with fail
  refine (check_ok c sa sc sz da dc dz h1 h2 w0 ((HI.out.2.1.below HB0'.out).mono HB0'.out.size) ((HI.out.2.2.below HB0'.out).mono HB0'.out.size) HF.out.1).mono ?_
  rintro e w1 ⟨rfl, hC1⟩
  have HB1 : Hid (Below w.heap.size w w1) := HB0'.out.trans (hC1.mono HB0'.out.size)
  have P1 : Hid (Abx w1 w.heap.size (.bool c) (.slice sa sz.length sc) (.slice da dz.length dc)) := P0.out.go hC1
  have R1 : Hid (Abx w1 (w.heap.size + 1) (.bool false) (.slice none 0 0) (.slice none 0 0)) := R0.out.go hC1
  clear hC1 b0 b1 b2
  have c0 := P1.out.c0
  have c2 := P1.out.c2
  go_wp2_with fail
  have HBd : Hid (Below w.heap.size w w1.drew) := HB1.out.drew
  refine anyT_begin 7 (fun w' => w'.cell? ⟨w.heap.size, 0, none⟩ = some (.bool c) ∧ w'.cell? ⟨w.heap.size, 2, none⟩ = some (.slice da dz.length dc)) 8 #[false, false, false, false, false, false, false, false] (by kernel_rfl) rfl rfl ?_
  refine anyT_put 0 25 ?rv25 #[true, false, false, false, false, false, false, false] rfl rfl rfl (by kernel_rfl) (by kernel_rfl) (by kernel_rfl) (fun _ _ _ h => h) (by decide) ?ry25 (fun _ => ⟨c0, c2⟩) ?rm25
  case ry25 => first | exact Or.inl ⟨by rfl, by intro w'; go_simp; first | done | rfl⟩
  case rm25 =>
  simp only [Act.put, List.setIfInBounds_toArray, List.set_cons_zero, List.set_cons_succ]
  refine anyT_take 1 26 ?rv26 #[true, true, false, false, false, false, false, false] rfl rfl rfl (by kernel_rfl) (by kernel_rfl) (by kernel_rfl) (fun _ _ _ h => h) (by kernel_rfl) (by decide) (by kernel_rfl) ?ry26 (⟨c0, c2⟩) ?rm26
  case ry26 => first | exact Or.inl ⟨by rfl, by intro w' hw'; (try dsimp only at hw'); go_simp; first | done | rfl⟩
  case rm26 =>
  simp only [Act.put, List.setIfInBounds_toArray, List.set_cons_zero, List.set_cons_succ]
  refine anyT_put 2 27 ?rv27 #[true, true, true, false, false, false, false, false] rfl rfl rfl (by kernel_rfl) (by kernel_rfl) (by kernel_rfl) (fun _ _ _ h => h) (by decide) ?ry27 (fun _ => ⟨c0, c2⟩) ?rm27
  case ry27 => first | exact Or.inl ⟨by rfl, by intro w'; go_simp; first | done | rfl⟩
  case rm27 =>
  simp only [Act.put, List.setIfInBounds_toArray, List.set_cons_zero, List.set_cons_succ]
  refine anyT_put 3 28 ?rv28 #[true, true, true, true, false, false, false, false] rfl rfl rfl (by kernel_rfl) (by kernel_rfl) (by kernel_rfl) (fun _ _ _ h => h) (by decide) ?ry28 (fun _ => ⟨c0, c2⟩) ?rm28
  case ry28 => first | exact Or.inl ⟨by rfl, by intro w'; go_simp; first | done | rfl⟩
  case rm28 =>
  simp only [Act.put, List.setIfInBounds_toArray, List.set_cons_zero, List.set_cons_succ]
  refine anyT_take 4 29 ?rv29 #[true, true, true, true, true, false, false, false] rfl rfl rfl (by kernel_rfl) (by kernel_rfl) (by kernel_rfl) (fun _ _ _ h => h) (by kernel_rfl) (by decide) (by kernel_rfl) ?ry29 (⟨c0, c2⟩) ?rm29
  case ry29 => first | exact Or.inl ⟨by rfl, by intro w' hw'; (try dsimp only at hw'); go_simp; first | done | rfl⟩
  case rm29 =>
  simp only [Act.put, List.setIfInBounds_toArray, List.set_cons_zero, List.set_cons_succ]
  refine anyT_one 5 #[true, true, true, true, true, true, false, false] (by kernel_rfl) rfl rfl (fun K hK => ?_)
  go_simp
  go_wp2_with (go_at_call 33; refine (fill_any c w1.drew).mono ?_; rintro e w2 ⟨rfl, hw2⟩; subst hw2)
  refine hK.out _ _ (fun _ => ⟨c0, c2⟩) ?_
  clear hK K
  refine anyT_one 6 #[true, true, true, true, true, true, true, false] (by kernel_rfl) rfl rfl (fun K hK => ?_)
  go_simp
  go_wp2_with (go_at_call 32; refine (cycle_any da dc dz n (fillE c) h2 HD.out.1 w1.drew ((HI.out.2.2.below HBd.out).mono HBd.out.size)).mono ?_; rintro e w3 ⟨ya, yc, rfl, hY, hB3⟩)
  have P3 := P1.out.dr.go hB3
  have R3 := R1.out.dr.go hB3
  refine hK.out _ _ (fun _ => ⟨P3.c0, P3.c2⟩) ?_
  clear hK K
  refine anyT_one 7 #[true, true, true, true, true, true, true, true] (by kernel_rfl) rfl rfl (fun K hK => ?_)
  go_simp
  refine hK.out _ _ (fun h => absurd h (by decide)) ?_
  clear hK K
  refine anyT_done (by kernel_rfl) ?_
  have HB3 : Hid (Below w.heap.size w w3) := HBd.out.trans (hB3.mono HBd.out.size)
  have e0 := P3.c0
  go_wp2_with fail
  have HBe : Hid (Below w.heap.size w w3.drew) := HB3.out.drew
  refine anyT_begin 6 (fun w' => w'.cell? ⟨w.heap.size, 0, none⟩ = some (.bool c)) 8 #[false, false, false, false, false, false, false, false] (by kernel_rfl) rfl rfl ?_
  refine anyT_put 0 32 ?rv33 #[true, false, false, false, false, false, false, false] rfl rfl rfl (by kernel_rfl) (by kernel_rfl) (by kernel_rfl) (fun _ _ _ h => h) (by decide) ?ry33 (fun _ => e0) ?rm33
  case ry33 => first | exact Or.inl ⟨by rfl, by intro w'; go_simp; first | done | rfl⟩
  case rm33 =>
  simp only [Act.put, List.setIfInBounds_toArray, List.set_cons_zero, List.set_cons_succ]
  refine anyT_take 1 33 ?rv34 #[true, true, false, false, false, false, false, false] rfl rfl rfl (by kernel_rfl) (by kernel_rfl) (by kernel_rfl) (fun _ _ _ h => h) (by kernel_rfl) (by decide) (by kernel_rfl) ?ry34 (e0) ?rm34
  case ry34 => first | exact Or.inl ⟨by rfl, by intro w' hw'; (try dsimp only at hw'); go_simp; first | done | rfl⟩
  case rm34 =>
  simp only [Act.put, List.setIfInBounds_toArray, List.set_cons_zero, List.set_cons_succ]
  refine anyT_put 2 34 ?rv35 #[true, true, true, false, false, false, false, false] rfl rfl rfl (by kernel_rfl) (by kernel_rfl) (by kernel_rfl) (fun _ _ _ h => h) (by decide) ?ry35 (fun _ => e0) ?rm35
  case ry35 => first | exact Or.inl ⟨by rfl, by intro w'; go_simp; first | done | rfl⟩
  case rm35 =>
  simp only [Act.put, List.setIfInBounds_toArray, List.set_cons_zero, List.set_cons_succ]
  refine anyT_put 4 36 ?rv36 #[true, true, true, false, true, false, false, false] rfl rfl rfl (by kernel_rfl) (by kernel_rfl) (by kernel_rfl) (fun _ _ _ h => h) (by decide) ?ry36 (fun _ => e0) ?rm36
  case ry36 => first | exact Or.inl ⟨by rfl, by intro w'; go_simp; first | done | rfl⟩
  case rm36 =>
  simp only [Act.put, List.setIfInBounds_toArray, List.set_cons_zero, List.set_cons_succ]
  refine anyT_one 3 #[true, true, true, true, true, false, false, false] (by kernel_rfl) rfl rfl (fun K hK => ?_)
  go_simp
  go_wp2_with (go_at_call 28; refine (fresh_any a cap zs (by have := HD.out.2; omega) w3.drew ((HI.out.1.below HBe.out).mono HBe.out.size)).mono ?_; rintro e w4 ⟨xa, xc, rfl, hX, hB4⟩)
  have P4 := P3.dr.go hB4
  have R4 := R3.dr.go hB4
  have r0 := R4.c0
  have r1 := R4.c1
  have r2 := R4.c2
  have f0 := R4.fr 0
  have f1 := R4.fr 1
  have f2 := R4.fr 2
  refine hK.out _ _ (fun _ => P4.c0) ?_
  clear hK K
  refine anyT_put 5 37 ?rv38 #[true, true, true, true, true, true, false, false] rfl rfl rfl (by kernel_rfl) (by kernel_rfl) (by kernel_rfl) (fun _ _ _ h => h) (by decide) ?ry38 (fun _ => P4.c0) ?rm38
  case ry38 => first | exact Or.inl ⟨by rfl, by intro w'; go_simp; first | done | rfl⟩
  case rm38 =>
  simp only [Act.put, List.setIfInBounds_toArray, List.set_cons_zero, List.set_cons_succ]
  refine anyT_one 6 #[true, true, true, true, true, true, true, false] (by kernel_rfl) rfl rfl (fun K hK => ?_)
  go_simp
  refine hK.out _ _ (fun h => absurd h (by decide)) ?_
  clear hK K
  refine anyT_one 7 #[true, true, true, true, true, true, true, true] (by kernel_rfl) rfl rfl (fun K hK => ?_)
  go_simp
  refine hK.out _ _ (fun h => absurd h (by decide)) ?_
  clear hK K
  refine anyT_done (by kernel_rfl) ?_
  go_wp2_with fail
  have F := R4.set3 (.bool c) (.slice xa zs.length xc) (.slice ya (cyc dz n (fillE c)).length yc)
  have q0 := F.c0
  have q1 := F.c1
  have q2 := F.c2
  have z1 := R1.out.lt
  have z3 := R3.lt
  have z4 := HB3.out.size
  refine bodyPost_ret (v := .tuple #[.agg #[.bool c, .slice xa zs.length xc, .slice ya (cyc dz n (fillE c)).length yc], .nilIface]) (by simp [results, Try.results13, go_sem, q0, q1, q2]) rfl ⟨xa, xc, ya, yc, rfl, ?_, ?_, ?_⟩
  · exact (hX.set3 (by simpa using z3) _ _ _).low (by simpa using z4)
  · exact (((hY.go ((Below.refl _ w3).drew)).go hB4).set3 (by simpa using z1) _ _ _).low (by have := HB1.out.size; simpa using this)
  · exact bel_set3 (HBe.out.trans (hB4.mono HBe.out.size)) (by omega) _ _ _
/-- The error of a reshape: 0: none. -/
def rshE (zs : List Int) (c : Bool) (sz dz : List Int) : Int := if errOf zs = 0 then flawE c sz dz else errOf zs
theorem rshE_zero {zs : List Int} {c : Bool} {sz dz : List Int} : rshE zs c sz dz = 0 ↔ errOf zs = 0 ∧ flawE c sz dz = 0 := by
  unfold rshE
  split
  · rename_i h; exact ⟨fun h' => ⟨h, h'⟩, fun h' => h'.2⟩
  · rename_i h; exact ⟨fun h' => absurd h' h, fun h' => absurd h'.1 h⟩
set_option maxRecDepth 100000 in
set_option maxHeartbeats 1000000 in
theorem reshape_no1 (a : Option Addr) (cap : Nat) (zs : List Int) (c : Bool) (sa : Option Addr) (sc : Nat) (sz : List Int) (da : Option Addr) (dc : Nat) (dz : List Int) (h0 : zs.length ≤ 9223372036854775807) (w : World)
    (hz : IsInts w.heap.size w a zs) (he : errOf zs ≠ 0) :
    Calls Try.prog 13 #[.slice a zs.length cap, .agg #[.bool c, .slice sa sz.length sc, .slice da dz.length dc]] w fun e w' => e = .returned (.tuple #[.agg #[.bool false, .slice none 0 0, .slice none 0 0], .iface 59 (.int .i64 (errOf zs))]) ∧ Below w.heap.size w w' := by
  have HB0 : Hid (Below w.heap.size w ((w.alloc (.cells #[.bool c, .slice sa sz.length sc, .slice da dz.length dc] 25)).alloc (.cells #[.bool false, .slice none 0 0, .slice none 0 0] 25))) := ((Below.refl _ w).alloc (Nat.le_refl _) _).alloc (by simp) _
  have HI : Hid (IsInts w.heap.size w a zs ∧ errOf zs ≠ 0) := ⟨hz, he⟩
  clear hz he
  go_enter Try.func13, Try.ntmps13
  go_wp2_with fail
  refine (count_no a cap zs h0 _ ((HI.out.1.below HB0.out).mono HB0.out.size) HI.out.2).mono ?_
  rintro e w0 ⟨rfl, hC0⟩
  have HB1 : Hid (Below w.heap.size w w0) := HB0.out.trans (hC0.mono HB0.out.size)
  have R4 : Hid (Abx w0 (w.heap.size + 1) (.bool false) (.slice none 0 0) (.slice none 0 0)) := (Abx.new1 w _ _ _ _).go hC0
  clear hC0
  have r0 := R4.out.c0
  have r1 := R4.out.c1
  have r2 := R4.out.c2
  have f0 := R4.out.fr 0
  have f1 := R4.out.fr 1
  have f2 := R4.out.fr 2
  go_wp2_with fail
  have F := R4.out.set3 (.bool false) (.slice none 0 0) (.slice none 0 0)
  have q0 := F.c0
  have q1 := F.c1
  have q2 := F.c2
  exact bodyPost_ret (v := .tuple #[.agg #[.bool false, .slice none 0 0, .slice none 0 0], .iface 59 (.int .i64 (errOf zs))]) (by simp [results, Try.results13, go_sem, q0, q1, q2]) rfl ⟨rfl, bel_set3 HB1.out (by omega) _ _ _⟩
set_option maxRecDepth 100000 in
set_option maxHeartbeats 1000000 in
theorem reshape_no2 (a : Option Addr) (cap : Nat) (zs : List Int) (c : Bool) (sa : Option Addr) (sc : Nat) (sz : List Int) (da : Option Addr) (dc : Nat) (dz : List Int) (h0 : zs.length ≤ 9223372036854775807) (h1 : sz.length ≤ 9223372036854775807) (h2 : dz.length ≤ 9223372036854775807) (w : World)
    (hz : IsInts w.heap.size w a zs) (hs : IsInts w.heap.size w sa sz) (hd : IsInts w.heap.size w da dz) (he : errOf zs = 0) (hf : flawE c sz dz ≠ 0) :
    Calls Try.prog 13 #[.slice a zs.length cap, .agg #[.bool c, .slice sa sz.length sc, .slice da dz.length dc]] w fun e w' => e = .returned (.tuple #[.agg #[.bool false, .slice none 0 0, .slice none 0 0], .iface 59 (.int .i64 (flawE c sz dz))]) ∧ Below w.heap.size w w' := by
  have HB0 : Hid (Below w.heap.size w ((w.alloc (.cells #[.bool c, .slice sa sz.length sc, .slice da dz.length dc] 25)).alloc (.cells #[.bool false, .slice none 0 0, .slice none 0 0] 25))) := ((Below.refl _ w).alloc (Nat.le_refl _) _).alloc (by simp) _
  have HI : Hid (IsInts w.heap.size w a zs ∧ IsInts w.heap.size w sa sz ∧ IsInts w.heap.size w da dz) := ⟨hz, hs, hd⟩
  have HF : Hid (errOf zs = 0 ∧ flawE c sz dz ≠ 0) := ⟨he, hf⟩
  clear hz hs hd he hf
  go_enter Try.func13, Try.ntmps13
  go_wp2_with fail
  refine (count_ok a cap zs h0 _ ((HI.out.1.below HB0.out).mono HB0.out.size) HF.out.1).mono ?_
  rintro e w0 ⟨rfl, hC0⟩
  have HB0' : Hid (Below w.heap.size w w0) := HB0.out.trans (hC0.mono HB0.out.size)
  have P0 : Hid (Abx w0 w.heap.size (.bool c) (.slice sa sz.length sc) (.slice da dz.length dc)) := ((Abx.new w _ _ _).al _).go hC0
  have R0 : Hid (Abx w0 (w.heap.size + 1) (.bool false) (.slice none 0 0) (.slice none 0 0)) := (Abx.new1 w _ _ _ _).go hC0
  clear hC0
  have b0 := P0.out.c0
  have b1 := P0.out.c1
  have b2 := P0.out.c2
  go_wp2_with fail
  refine (check_no c sa sc sz da dc dz h1 h2 w0 ((HI.out.2.1.below HB0'.out).mono HB0'.out.size) ((HI.out.2.2.below HB0'.out).mono HB0'.out.size) HF.out.2).mono ?_
  rintro e w1 ⟨rfl, hC1⟩
  have HB1 : Hid (Below w.heap.size w w1) := HB0'.out.trans (hC1.mono HB0'.out.size)
  have R4 : Hid (Abx w1 (w.heap.size + 1) (.bool false) (.slice none 0 0) (.slice none 0 0)) := R0.out.go hC1
  clear hC1 b0 b1 b2
  have r0 := R4.out.c0
  have r1 := R4.out.c1
  have r2 := R4.out.c2
  have f0 := R4.out.fr 0
  have f1 := R4.out.fr 1
  have f2 := R4.out.fr 2
  go_wp2_with fail
  have F := R4.out.set3 (.bool false) (.slice none 0 0) (.slice none 0 0)
  have q0 := F.c0
  have q1 := F.c1
  have q2 := F.c2
  exact bodyPost_ret (v := .tuple #[.agg #[.bool false, .slice none 0 0, .slice none 0 0], .iface 59 (.int .i64 (flawE c sz dz))]) (by simp [results, Try.results13, go_sem, q0, q1, q2]) rfl ⟨rfl, bel_set3 HB1.out (by omega) _ _ _⟩
theorem reshape_no (a : Option Addr) (cap : Nat) (zs : List Int) (c : Bool) (sa : Option Addr) (sc : Nat) (sz : List Int) (da : Option Addr) (dc : Nat) (dz : List Int) (h0 : zs.length ≤ 9223372036854775807) (h1 : sz.length ≤ 9223372036854775807) (h2 : dz.length ≤ 9223372036854775807) (w : World)
    (hz : IsInts w.heap.size w a zs) (hs : IsInts w.heap.size w sa sz) (hd : IsInts w.heap.size w da dz) (he : rshE zs c sz dz ≠ 0) :
    Calls Try.prog 13 #[.slice a zs.length cap, .agg #[.bool c, .slice sa sz.length sc, .slice da dz.length dc]] w fun e w' => e = .returned (.tuple #[.agg #[.bool false, .slice none 0 0, .slice none 0 0], .iface 59 (.int .i64 (rshE zs c sz dz))]) ∧ Below w.heap.size w w' := by
  unfold rshE at he ⊢
  by_cases h : errOf zs = 0
  · rw [if_pos h] at he ⊢
    exact reshape_no2 a cap zs c sa sc sz da dc dz h0 h1 h2 w hz hs hd h he
  · rw [if_neg h] at he ⊢
    exact reshape_no1 a cap zs c sa sc sz da dc dz h0 w hz h
end Go.Proofs.Ytmbgomljofngnaa
