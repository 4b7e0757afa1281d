/-
  What the reference tells of Scanned and Windowed.
-/
import Derived.Test.YtmbgomljofngnabDoorRln
import Derived.Test.YtmbgomljofngnabDoorFldq
namespace Go.Proofs.YtmbgomljofngnabDoor
open Go.RowKit
set_option linter.unusedVariables false

theorem li_scan {f : Int} {x : Nat} {sz dz : List Int} (hx : x < sz.length) (h : lnE f (x : Int) false sz dz = 0) {L : Nat} (hL : (L : Int) = nth sz x) :
    sz.set x (L : Int) = sz ∧ liE f sz dz x L 0 = scE f (x : Int) false sz dz ∧ liD f sz dz x L 0 = scD f sz dz x := by
  have hs : sz.set x (L : Int) = sz := set_get hx hL
  refine ⟨hs, ?_, ?_⟩
  · unfold liE scE
    rw [hs, if_neg (not_not_intro h), Int.toNat_natCast]
    rfl
  · unfold liD scD
    rw [hs]
    rfl
theorem li_windows {f : Int} {x n : Nat} {sz dz : List Int} (hx : x < sz.length) (h : lnE f (x : Int) false sz dz = 0) (h1 : 1 ≤ n) (h2 : (n : Int) ≤ nth sz x) {M : Nat} (hM : (M : Int) = nth sz x - n + 1) :
    sz.set x (M : Int) = wdS (n : Int) x sz ∧ liE f sz dz x M n = wdE f (n : Int) (x : Int) false sz dz ∧ liD f sz dz x M n = wdD f (n : Int) sz dz x := by
  have hs : sz.set x (M : Int) = wdS (n : Int) x sz := by unfold wdS; rw [hM]
  have hG : ∀ t, liG sz dz x n t = wdL (n : Int) sz dz x t := fun t => by unfold liG wdL; rw [if_neg (by omega), Int.toNat_natCast]
  refine ⟨hs, ?_, ?_⟩
  · unfold liE wdE
    rw [hs, if_neg (not_not_intro h), Int.toNat_natCast, if_neg (show ¬ ((n : Int) < 1 ∨ nth sz x < n) by omega)]
    simp only [hG]
  · unfold liD wdD
    rw [hs]
    simp only [hG]
set_option maxRecDepth 100000 in
set_option maxHeartbeats 4000000 in
theorem scanned_any (f x : Int) (c : Bool) (sa : Option Addr) (sc : Nat) (sz : List Int) (da : Option Addr) (dc : Nat) (dz : List Int) (h1 : sz.length ≤ 9223372036854775807) (h2 : dz.length ≤ 9223372036854775807) (w : World) (hs : IsInts w.heap.size w sa sz) (hd : IsInts w.heap.size w da dz) (T : ∀ j, In64 (nth dz j)) :
    Calls Tryd.prog 9 #[.int .i64 f, .int .i64 x, .agg #[.bool c, .slice sa sz.length sc, .slice da dz.length dc]] w (UR (scE f x c sz dz) false (scS12 f x c sz dz) (scD12 f x c sz dz) w) := by
  have HI : Hid (IsInts w.heap.size w sa sz ∧ IsInts w.heap.size w da dz ∧ ∀ j, In64 (nth dz j)) := ⟨hs, hd, T⟩
  have HB0 : Hid (Below w.heap.size w ((w.alloc (.cells #[.bool c, .slice sa sz.length sc, .slice da dz.length dc] 25)).alloc (.cells #[.bool false, .slice none 0 0, .slice none 0 0] 25))) := ((Below.refl _ w).alloc (Nat.le_refl _) _).alloc (by simp) _
  have pa := (Abx.new w (.bool c) (.slice sa sz.length sc) (.slice da dz.length dc)).al (.cells #[.bool false, .slice none 0 0, .slice none 0 0] 25)
  have pr := Abx.new1 w (.cells #[.bool c, .slice sa sz.length sc, .slice da dz.length dc] 25) (.bool false) (.slice none 0 0) (.slice none 0 0)
  have p0 := pa.c0
  have p1 := pa.c1
  have p2 := pa.c2
  have hC := linefault_any f x c sa sc sz da dc dz h1 h2 _ ((HI.out.1.below HB0.out).mono HB0.out.size) ((HI.out.2.1.below HB0.out).mono HB0.out.size)
  clear hs hd T
  by_cases he : lnE f x c sz dz = 0
  · rw [he] at hC
    obtain ⟨hfn, hfl, hx, hc⟩ := lnE_zero.1 he
    subst hc
    obtain ⟨xn, rfl⟩ : ∃ xn : Nat, x = (xn : Int) := ⟨x.toNat, by omega⟩
    have hxl : xn < sz.length := by omega
    have hz := (errOf_zero.1 (flawE_zero hfl).1)
    have hln := hz.2.1.nth xn
    obtain ⟨L, hL⟩ : ∃ L : Nat, (L : Int) = nth sz xn := ⟨(nth sz xn).toNat, by omega⟩
    obtain ⟨hr1, hr2, hr3⟩ := li_scan hxl he hL
    have hL4 : L ≤ 4096 := by omega
    have hl6 := hz.1
    go_enter Tryd.func9, Tryd.ntmps9
    go_wp2_with fail
    refine hC.mono ?_
    rintro e v1 ⟨rfl, hB⟩
    have HB1 : Hid (Below w.heap.size w v1) := HB0.out.trans (hB.mono HB0.out.size)
    have HP : Hid (Abx v1 w.heap.size (.bool false) (.slice sa sz.length sc) (.slice da dz.length dc)) := pa.go hB
    have HR : Hid (Abx v1 (w.heap.size + 1) (.bool false) (.slice none 0 0) (.slice none 0 0)) := pr.go hB
    have hU := lined_any f xn sa sc sz da dc dz L 0 hfn hfl hxl (by rw [hL]; exact Int.le_refl _) (.inl rfl) HI.out.2.2 v1.drew ((HI.out.1.below HB1.out.drew).mono HB1.out.drew.size) ((HI.out.2.1.below HB1.out.drew).mono HB1.out.drew.size)
    rw [hr1, hr2, hr3] at hU
    have HS : Hid (UR (scE f (xn : Int) false sz dz) false (scS12 f (xn : Int) false sz dz) (scD12 f (xn : Int) false sz dz) w = UR (scE f (xn : Int) false sz dz) false (onl (scE f (xn : Int) false sz dz) sz) (onl (scE f (xn : Int) false sz dz) (scD f sz dz xn)) w) := by
      show _ = _; unfold scS12 scD12; rw [Int.toNat_natCast]
    generalize onl (scE f (xn : Int) false sz dz) sz = S at *
    generalize onl (scE f (xn : Int) false sz dz) (scD f sz dz xn) = D at *
    generalize scE f (xn : Int) false sz dz = E at *
    have HU : Hid (Calls Tryd.prog 27 #[.int .i64 f, .int .i64 (xn : Nat), .agg #[.bool false, .slice sa sz.length sc, .slice da dz.length dc], .int .i64 (L : Nat), .int .i64 0] v1.drew (UR E false S D v1.drew)) := hU
    obtain ⟨bs, os, rfl, hbs, hcS⟩ := (HI.out.1.below HB1.out).at hxl
    have cs1 := hcS xn hxl
    rw [← hL] at cs1
    clear hcS hr1 hr2 hr3 hU hC hB pa pr p0 p1 p2 HB0 he hfl hz hln hL
    have p0 := HP.out.c0
    have p1 := HP.out.c1
    have p2 := HP.out.c2
    go_wp2_with fail
    refine anyT_begin 11 (fun w' => w'.cell? ⟨w.heap.size, 0, none⟩ = some (.bool false) ∧ w'.cell? ⟨w.heap.size, 1, none⟩ = some (.slice (some ⟨bs, os, none⟩) sz.length sc) ∧ w'.cell? ⟨w.heap.size, 2, none⟩ = some (.slice da dz.length dc) ∧ w'.cell? ⟨bs, os + xn, none⟩ = some (.int .i64 (L : Nat))) 13 #[false, false, false, false, false, false, false, false, false, false, false, false, false] (by kernel_rfl) rfl rfl ?_
    refine anyT_put 0 17 ?rv43 #[true, false, false, false, false, false, false, false, false, false, false, false, false] rfl rfl rfl (by kernel_rfl) (by kernel_rfl) (by kernel_rfl) (fun _ _ _ h => h) (by decide) ?ry43 (fun _ => ⟨p0, p1, p2, cs1⟩) ?rm43
    case ry43 => first | exact Or.inl ⟨by rfl, by intro w'; go_simp; first | done | rfl⟩
    case rm43 =>
    simp only [Act.put, List.setIfInBounds_toArray, List.set_cons_zero, List.set_cons_succ]
    refine anyT_put 1 18 ?rv44 #[true, true, false, false, false, false, false, false, false, false, false, false, false] rfl rfl rfl (by kernel_rfl) (by kernel_rfl) (by kernel_rfl) (fun _ _ _ h => h) (by decide) ?ry44 (fun _ => ⟨p0, p1, p2, cs1⟩) ?rm44
    case ry44 => first | exact Or.inl ⟨by rfl, by intro w'; go_simp; first | done | rfl⟩
    case rm44 =>
    simp only [Act.put, List.setIfInBounds_toArray, List.set_cons_zero, List.set_cons_succ]
    refine anyT_take 2 19 ?rv45 #[true, true, true, false, false, false, false, false, false, false, false, false, false] rfl rfl rfl (by kernel_rfl) (by kernel_rfl) (by kernel_rfl) (fun _ _ _ h => h) (by kernel_rfl) (by decide) (by kernel_rfl) ?ry45 (⟨p0, p1, p2, cs1⟩) ?rm45
    case ry45 => first | exact Or.inl ⟨by rfl, by intro w' hw'; (try dsimp only at hw'); go_simp; first | done | rfl⟩
    case rm45 =>
    simp only [Act.put, List.setIfInBounds_toArray, List.set_cons_zero, List.set_cons_succ]
    refine anyT_put 3 20 ?rv46 #[true, true, true, true, false, false, false, false, false, false, false, false, false] rfl rfl rfl (by kernel_rfl) (by kernel_rfl) (by kernel_rfl) (fun _ _ _ h => h) (by decide) ?ry46 (fun _ => ⟨p0, p1, p2, cs1⟩) ?rm46
    case ry46 => first | exact Or.inl ⟨by rfl, by intro w'; go_simp; first | done | rfl⟩
    case rm46 =>
    simp only [Act.put, List.setIfInBounds_toArray, List.set_cons_zero, List.set_cons_succ]
    refine anyT_take 4 21 ?rv47 #[true, true, true, true, true, false, false, false, false, false, false, false, false] rfl rfl rfl (by kernel_rfl) (by kernel_rfl) (by kernel_rfl) (fun _ _ _ h => h) (by kernel_rfl) (by decide) (by kernel_rfl) ?ry47 (⟨p0, p1, p2, cs1⟩) ?rm47
    case ry47 => first | exact Or.inl ⟨by rfl, by intro w' hw'; (try dsimp only at hw'); go_simp; first | done | rfl⟩
    case rm47 =>
    simp only [Act.put, List.setIfInBounds_toArray, List.set_cons_zero, List.set_cons_succ]
    refine anyT_put 5 22 ?rv48 #[true, true, true, true, true, true, false, false, false, false, false, false, false] rfl rfl rfl (by kernel_rfl) (by kernel_rfl) (by kernel_rfl) (fun _ _ _ h => h) (by decide) ?ry48 (fun _ => ⟨p0, p1, p2, cs1⟩) ?rm48
    case ry48 => first | exact Or.inl ⟨by rfl, by intro w'; go_simp; first | done | rfl⟩
    case rm48 =>
    simp only [Act.put, List.setIfInBounds_toArray, List.set_cons_zero, List.set_cons_succ]
    refine anyT_put 6 23 ?rv49 #[true, true, true, true, true, true, true, false, false, false, false, false, false] rfl rfl rfl (by kernel_rfl) (by kernel_rfl) (by kernel_rfl) (fun _ _ _ h => h) (by decide) ?ry49 (fun _ => ⟨p0, p1, p2, cs1⟩) ?rm49
    case ry49 => first | exact Or.inl ⟨by rfl, by intro w'; go_simp; first | done | rfl⟩
    case rm49 =>
    simp only [Act.put, List.setIfInBounds_toArray, List.set_cons_zero, List.set_cons_succ]
    refine anyT_take 7 24 ?rv50 #[true, true, true, true, true, true, true, true, false, false, false, false, false] rfl rfl rfl (by kernel_rfl) (by kernel_rfl) (by kernel_rfl) (fun _ _ _ h => h) (by kernel_rfl) (by decide) (by kernel_rfl) ?ry50 (⟨p0, p1, p2, cs1⟩) ?rm50
    case ry50 => first | exact Or.inl ⟨by rfl, by intro w' hw'; (try dsimp only at hw'); go_simp; first | done | rfl⟩
    case rm50 =>
    simp only [Act.put, List.setIfInBounds_toArray, List.set_cons_zero, List.set_cons_succ]
    refine anyT_one 8 #[true, true, true, true, true, true, true, true, true, false, false, false, false] (by kernel_rfl) rfl rfl (fun K hK => ?_)
    go_simp
    go_wp2_with (go_at_call 27; refine HU.out.mono ?_; rintro e w3 ⟨xa, xc, ya, yc, rfl, hX, hY, hBc⟩)
    have HBc : Hid (Below v1.heap.size v1 w3) := (Below.refl _ v1).drew.trans hBc
    have HNn : Hid (NewInts v1.heap.size w3 xa S ∧ NewInts v1.heap.size w3 ya D) := ⟨hX, hY⟩
    have A3 := HP.out.go HBc.out
    have c3 := (HBc.out.cell (p := ⟨bs, os + xn, none⟩) (by show bs < _; have := HB1.out.size; omega)).trans cs1
    have R3 := HR.out.go HBc.out
    have r0 := R3.c0
    have r1 := R3.c1
    have r2 := R3.c2
    have f0 := R3.fr 0
    have f1 := R3.fr 1
    have f2 := R3.fr 2
    clear hX hY hBc
    refine hK.out _ _ (fun _ => ⟨A3.c0, A3.c1, A3.c2, c3⟩) ?_
    clear hK K
    refine anyT_put 9 26 ?rv52 #[true, true, true, true, true, true, true, true, true, true, false, false, false] rfl rfl rfl (by kernel_rfl) (by kernel_rfl) (by kernel_rfl) (fun _ _ _ h => h) (by decide) ?ry52 (fun _ => ⟨A3.c0, A3.c1, A3.c2, c3⟩) ?rm52
    case ry52 => first | exact Or.inl ⟨by rfl, by intro w'; go_simp; first | done | rfl⟩
    case rm52 =>
    simp only [Act.put, List.setIfInBounds_toArray, List.set_cons_zero, List.set_cons_succ]
    refine anyT_put 10 27 ?rv53 #[true, true, true, true, true, true, true, true, true, true, true, false, false] rfl rfl rfl (by kernel_rfl) (by kernel_rfl) (by kernel_rfl) (fun _ _ _ h => h) (by decide) ?ry53 (fun _ => ⟨A3.c0, A3.c1, A3.c2, c3⟩) ?rm53
    case ry53 => first | exact Or.inl ⟨by rfl, by intro w'; go_simp; first | done | rfl⟩
    case rm53 =>
    simp only [Act.put, List.setIfInBounds_toArray, List.set_cons_zero, List.set_cons_succ]
    refine anyT_one 11 #[true, true, true, true, true, true, true, true, true, true, true, true, false] (by kernel_rfl) rfl rfl (fun K hK => ?_)
    go_simp
    refine hK.out _ _ (fun h => absurd h (by decide)) ?_
    clear hK K
    refine anyT_one 12 #[true, true, true, true, true, true, true, true, true, true, true, true, true] (by kernel_rfl) rfl rfl (fun K hK => ?_)
    go_simp
    refine hK.out _ _ (fun h => absurd h (by decide)) ?_
    clear hK K
    refine anyT_done (by kernel_rfl) ?_
    go_wp2_with fail
    have F := R3.set3 (.bool false) (.slice xa S.length xc) (.slice ya D.length yc)
    have q0 := F.c0
    have q1 := F.c1
    have q2 := F.c2
    have hvr : w.heap.size + 1 < v1.heap.size := HR.out.lt
    refine bodyPost_ret (v := .tuple #[.agg #[.bool false, .slice xa S.length xc, .slice ya D.length yc], .int .i64 E]) (by simp [results, Tryd.results9, go_sem, q0, q1, q2]) rfl ?_
    have hX := (HNn.out.1.set3 (b := w.heap.size + 1) (by omega) (.bool false) (.slice xa S.length xc) (.slice ya D.length yc)).low (lo' := w.heap.size) (by omega)
    have hY := (HNn.out.2.set3 (b := w.heap.size + 1) (by omega) (.bool false) (.slice xa S.length xc) (.slice ya D.length yc)).low (lo' := w.heap.size) (by omega)
    rw [HS.out]
    exact ⟨xa, xc, ya, yc, rfl, hX, hY, bel_set3 (HB1.out.trans (HBc.out.mono HB1.out.size)) (by omega) _ _ _⟩
  · have HE : Hid (scE f x c sz dz = lnE f x c sz dz) := by show _ = _; unfold scE; rw [if_pos he]
    have HN : Hid (lnE f x c sz dz ≠ 0) := he
    have t0 : (lnE f x c sz dz != 0) = true := by simp [he]
    clear he
    go_enter Tryd.func9, Tryd.ntmps9
    go_wp2_with fail
    refine hC.mono ?_
    rintro e v1 ⟨rfl, hB⟩
    have HB1 : Hid (Below w.heap.size w v1) := HB0.out.trans (hB.mono HB0.out.size)
    have HR : Hid (Abx v1 (w.heap.size + 1) (.bool false) (.slice none 0 0) (.slice none 0 0)) := pr.go hB
    clear hB hC pa pr p0 p1 p2 HB0
    have r0 := HR.out.c0
    have r1 := HR.out.c1
    have r2 := HR.out.c2
    have f0 := HR.out.fr 0
    have f1 := HR.out.fr 1
    have f2 := HR.out.fr 2
    go_wp2_with fail
    have F := HR.out.set3 (.bool false) (.slice none 0 0) (.slice none 0 0)
    have q0 := F.c0
    have q1 := F.c1
    have q2 := F.c2
    exact bodyPost_ret (v := .tuple #[.agg #[.bool false, .slice none 0 0, .slice none 0 0], .int .i64 (lnE f x c sz dz)]) (by simp [results, Tryd.results9, go_sem, q0, q1, q2]) rfl (ur12_no HE.out HN.out (bel_set3 HB1.out (by omega) _ _ _))
set_option maxRecDepth 100000 in
set_option maxHeartbeats 4000000 in
theorem windowed_any (f n x : Int) (c : Bool) (sa : Option Addr) (sc : Nat) (sz : List Int) (da : Option Addr) (dc : Nat) (dz : List Int) (h1 : sz.length ≤ 9223372036854775807) (h2 : dz.length ≤ 9223372036854775807) (w : World) (hs : IsInts w.heap.size w sa sz) (hd : IsInts w.heap.size w da dz) (T : ∀ j, In64 (nth dz j)) :
    Calls Tryd.prog 11 #[.int .i64 f, .int .i64 n, .int .i64 x, .agg #[.bool c, .slice sa sz.length sc, .slice da dz.length dc]] w (UR (wdE f n x c sz dz) false (wdS12 f n x c sz dz) (wdD12 f n x c sz dz) w) := by
  have HI : Hid (IsInts w.heap.size w sa sz ∧ IsInts w.heap.size w da dz ∧ ∀ j, In64 (nth dz j)) := ⟨hs, hd, T⟩
  have HB0 : Hid (Below w.heap.size w ((w.alloc (.cells #[.bool c, .slice sa sz.length sc, .slice da dz.length dc] 25)).alloc (.cells #[.bool false, .slice none 0 0, .slice none 0 0] 25))) := ((Below.refl _ w).alloc (Nat.le_refl _) _).alloc (by simp) _
  have pa := (Abx.new w (.bool c) (.slice sa sz.length sc) (.slice da dz.length dc)).al (.cells #[.bool false, .slice none 0 0, .slice none 0 0] 25)
  have pr := Abx.new1 w (.cells #[.bool c, .slice sa sz.length sc, .slice da dz.length dc] 25) (.bool false) (.slice none 0 0) (.slice none 0 0)
  have p0 := pa.c0
  have p1 := pa.c1
  have p2 := pa.c2
  have hC := linefault_any f x c sa sc sz da dc dz h1 h2 _ ((HI.out.1.below HB0.out).mono HB0.out.size) ((HI.out.2.1.below HB0.out).mono HB0.out.size)
  clear hs hd T
  by_cases he : lnE f x c sz dz = 0
  · rw [he] at hC
    obtain ⟨hfn, hfl, hx, hc⟩ := lnE_zero.1 he
    subst hc
    obtain ⟨xn, rfl⟩ : ∃ xn : Nat, x = (xn : Int) := ⟨x.toNat, by omega⟩
    have hxl : xn < sz.length := by omega
    have hz := (errOf_zero.1 (flawE_zero hfl).1)
    have hln := hz.2.1.nth xn
    have HH : Hid (lnE f (xn : Int) false sz dz = 0 ∧ (1 ≤ f ∧ f ≤ 16) ∧ flawE false sz dz = 0) := ⟨he, hfn, hfl⟩
    obtain ⟨L, hL⟩ : ∃ L : Nat, (L : Int) = nth sz xn := ⟨(nth sz xn).toNat, by omega⟩
    have HL : Hid ((L : Int) = nth sz xn) := hL
    have hL4 : L ≤ 4096 := by omega
    have hl6 := hz.1
    go_enter Tryd.func11, Tryd.ntmps11
    go_wp2_with fail
    refine hC.mono ?_
    rintro e v1 ⟨rfl, hB⟩
    have HB1 : Hid (Below w.heap.size w v1) := HB0.out.trans (hB.mono HB0.out.size)
    have HP : Hid (Abx v1 w.heap.size (.bool false) (.slice sa sz.length sc) (.slice da dz.length dc)) := pa.go hB
    have HR : Hid (Abx v1 (w.heap.size + 1) (.bool false) (.slice none 0 0) (.slice none 0 0)) := pr.go hB
    obtain ⟨bs, os, rfl, hbs, hcS⟩ := (HI.out.1.below HB1.out).at hxl
    have cs1 := hcS xn hxl
    rw [← hL] at cs1
    clear hcS hC hB pa pr p0 p1 p2 HB0 he hfl hz hln hL hfn
    have p0 := HP.out.c0
    have p1 := HP.out.c1
    have p2 := HP.out.c2
    have hvr : w.heap.size + 1 < v1.heap.size := HR.out.lt
    by_cases hbad : n < 1 ∨ (L : Int) < n
    · have HE : Hid (wdE f n (xn : Int) false sz dz = 4) := by show _ = _; unfold wdE; rw [if_neg (not_not_intro HH.out.1), Int.toNat_natCast, ← HL.out, if_pos hbad]
      have r0 := HR.out.c0
      have r1 := HR.out.c1
      have r2 := HR.out.c2
      have f0 := HR.out.fr 0
      have f1 := HR.out.fr 1
      have f2 := HR.out.fr 2
      by_cases hn1 : n < 1
      · clear hbad
        go_wp2_with fail
        have F := HR.out.set3 (.bool false) (.slice none 0 0) (.slice none 0 0)
        have q0 := F.c0
        have q1 := F.c1
        have q2 := F.c2
        exact bodyPost_ret (v := .tuple #[.agg #[.bool false, .slice none 0 0, .slice none 0 0], .int .i64 4]) (by simp [results, Tryd.results11, go_sem, q0, q1, q2]) rfl (ur12_no HE.out (by decide) (bel_set3 HB1.out (by omega) _ _ _))
      · have hn2 : (L : Int) < n := by omega
        clear hbad
        go_wp2_with fail
        have F := HR.out.set3 (.bool false) (.slice none 0 0) (.slice none 0 0)
        have q0 := F.c0
        have q1 := F.c1
        have q2 := F.c2
        exact bodyPost_ret (v := .tuple #[.agg #[.bool false, .slice none 0 0, .slice none 0 0], .int .i64 4]) (by simp [results, Tryd.results11, go_sem, q0, q1, q2]) rfl (ur12_no HE.out (by decide) (bel_set3 HB1.out (by omega) _ _ _))
    · obtain ⟨nn, rfl⟩ : ∃ nn : Nat, n = (nn : Int) := ⟨n.toNat, by omega⟩
      have hn1 : ¬ (nn : Int) < 1 := by omega
      have hn2 : ¬ (L : Int) < (nn : Int) := by omega
      obtain ⟨M, hM⟩ : ∃ M : Nat, M = L - nn + 1 := ⟨_, rfl⟩
      have hMi : (L : Int) - (nn : Int) + 1 = (M : Int) := by omega
      obtain ⟨hr1, hr2, hr3⟩ := li_windows (f := f) (n := nn) hxl HH.out.1 (by omega) (by rw [← HL.out]; omega) (M := M) (by rw [← HL.out]; omega)
      have hU := lined_any f xn (some ⟨bs, os, none⟩) sc sz da dc dz M nn HH.out.2.1 HH.out.2.2 hxl (by rw [← HL.out]; omega) (.inr (by rw [← HL.out]; omega)) HI.out.2.2 v1.drew ((HI.out.1.below HB1.out.drew).mono HB1.out.drew.size) ((HI.out.2.1.below HB1.out.drew).mono HB1.out.drew.size)
      rw [hr1, hr2, hr3] at hU
      have HS : Hid (UR (wdE f (nn : Int) (xn : Int) false sz dz) false (wdS12 f (nn : Int) (xn : Int) false sz dz) (wdD12 f (nn : Int) (xn : Int) false sz dz) w = UR (wdE f (nn : Int) (xn : Int) false sz dz) false (onl (wdE f (nn : Int) (xn : Int) false sz dz) (wdS (nn : Int) xn sz)) (onl (wdE f (nn : Int) (xn : Int) false sz dz) (wdD f (nn : Int) sz dz xn)) w) := by
        show _ = _; unfold wdS12 wdD12; rw [Int.toNat_natCast]
      generalize onl (wdE f (nn : Int) (xn : Int) false sz dz) (wdS (nn : Int) xn sz) = S at *
      generalize onl (wdE f (nn : Int) (xn : Int) false sz dz) (wdD f (nn : Int) sz dz xn) = D at *
      generalize wdE f (nn : Int) (xn : Int) false sz dz = E at *
      have HU : Hid (Calls Tryd.prog 27 #[.int .i64 f, .int .i64 (xn : Nat), .agg #[.bool false, .slice (some ⟨bs, os, none⟩) sz.length sc, .slice da dz.length dc], .int .i64 (M : Nat), .int .i64 (nn : Nat)] v1.drew (UR E false S D v1.drew)) := hU
      have hw1 : IntKind.i64.wrap (IntKind.i64.wrap ((L : Int) - (nn : Int)) + 1) = ((M : Nat) : Int) := by rw [IntWalk.i64_in ((L : Int) - (nn : Int)) (by omega), hMi]; exact IntWalk.i64_in _ (by omega)
      clear hr1 hr2 hr3 hU hMi hM hbad
      go_wp2_with fail
      refine anyT_begin 15 (fun w' => w'.cell? ⟨w.heap.size, 0, none⟩ = some (.bool false) ∧ w'.cell? ⟨w.heap.size, 1, none⟩ = some (.slice (some ⟨bs, os, none⟩) sz.length sc) ∧ w'.cell? ⟨w.heap.size, 2, none⟩ = some (.slice da dz.length dc) ∧ w'.cell? ⟨bs, os + xn, none⟩ = some (.int .i64 (L : Nat))) 17 #[false, false, false, false, false, false, false, false, false, false, false, false, false, false, false, false, false] (by kernel_rfl) rfl rfl ?_
      refine anyT_put 0 31 ?rv56 #[true, false, false, false, false, false, false, false, false, false, false, false, false, false, false, false, false] rfl rfl rfl (by kernel_rfl) (by kernel_rfl) (by kernel_rfl) (fun _ _ _ h => h) (by decide) ?ry56 (fun _ => ⟨p0, p1, p2, cs1⟩) ?rm56
      case ry56 => first | exact Or.inl ⟨by rfl, by intro w'; go_simp; first | done | rfl⟩
      case rm56 =>
      simp only [Act.put, List.setIfInBounds_toArray, List.set_cons_zero, List.set_cons_succ]
      refine anyT_put 1 32 ?rv57 #[true, true, false, false, false, false, false, false, false, false, false, false, false, false, false, false, false] rfl rfl rfl (by kernel_rfl) (by kernel_rfl) (by kernel_rfl) (fun _ _ _ h => h) (by decide) ?ry57 (fun _ => ⟨p0, p1, p2, cs1⟩) ?rm57
      case ry57 => first | exact Or.inl ⟨by rfl, by intro w'; go_simp; first | done | rfl⟩
      case rm57 =>
      simp only [Act.put, List.setIfInBounds_toArray, List.set_cons_zero, List.set_cons_succ]
      refine anyT_take 2 33 ?rv58 #[true, true, true, false, false, false, false, false, false, false, false, false, false, false, false, false, false] rfl rfl rfl (by kernel_rfl) (by kernel_rfl) (by kernel_rfl) (fun _ _ _ h => h) (by kernel_rfl) (by decide) (by kernel_rfl) ?ry58 (⟨p0, p1, p2, cs1⟩) ?rm58
      case ry58 => first | exact Or.inl ⟨by rfl, by intro w' hw'; (try dsimp only at hw'); go_simp; first | done | rfl⟩
      case rm58 =>
      simp only [Act.put, List.setIfInBounds_toArray, List.set_cons_zero, List.set_cons_succ]
      refine anyT_put 3 34 ?rv59 #[true, true, true, true, false, false, false, false, false, false, false, false, false, false, false, false, false] rfl rfl rfl (by kernel_rfl) (by kernel_rfl) (by kernel_rfl) (fun _ _ _ h => h) (by decide) ?ry59 (fun _ => ⟨p0, p1, p2, cs1⟩) ?rm59
      case ry59 => first | exact Or.inl ⟨by rfl, by intro w'; go_simp; first | done | rfl⟩
      case rm59 =>
      simp only [Act.put, List.setIfInBounds_toArray, List.set_cons_zero, List.set_cons_succ]
      refine anyT_take 4 35 ?rv60 #[true, true, true, true, true, false, false, false, false, false, false, false, false, false, false, false, false] rfl rfl rfl (by kernel_rfl) (by kernel_rfl) (by kernel_rfl) (fun _ _ _ h => h) (by kernel_rfl) (by decide) (by kernel_rfl) ?ry60 (⟨p0, p1, p2, cs1⟩) ?rm60
      case ry60 => first | exact Or.inl ⟨by rfl, by intro w' hw'; (try dsimp only at hw'); go_simp; first | done | rfl⟩
      case rm60 =>
      simp only [Act.put, List.setIfInBounds_toArray, List.set_cons_zero, List.set_cons_succ]
      refine anyT_put 5 36 ?rv61 #[true, true, true, true, true, true, false, false, false, false, false, false, false, false, false, false, false] rfl rfl rfl (by kernel_rfl) (by kernel_rfl) (by kernel_rfl) (fun _ _ _ h => h) (by decide) ?ry61 (fun _ => ⟨p0, p1, p2, cs1⟩) ?rm61
      case ry61 => first | exact Or.inl ⟨by rfl, by intro w'; go_simp; first | done | rfl⟩
      case rm61 =>
      simp only [Act.put, List.setIfInBounds_toArray, List.set_cons_zero, List.set_cons_succ]
      refine anyT_put 6 37 ?rv62 #[true, true, true, true, true, true, true, false, false, false, false, false, false, false, false, false, false] rfl rfl rfl (by kernel_rfl) (by kernel_rfl) (by kernel_rfl) (fun _ _ _ h => h) (by decide) ?ry62 (fun _ => ⟨p0, p1, p2, cs1⟩) ?rm62
      case ry62 => first | exact Or.inl ⟨by rfl, by intro w'; go_simp; first | done | rfl⟩
      case rm62 =>
      simp only [Act.put, List.setIfInBounds_toArray, List.set_cons_zero, List.set_cons_succ]
      refine anyT_take 7 38 ?rv63 #[true, true, true, true, true, true, true, true, false, false, false, false, false, false, false, false, false] rfl rfl rfl (by kernel_rfl) (by kernel_rfl) (by kernel_rfl) (fun _ _ _ h => h) (by kernel_rfl) (by decide) (by kernel_rfl) ?ry63 (⟨p0, p1, p2, cs1⟩) ?rm63
      case ry63 => first | exact Or.inl ⟨by rfl, by intro w' hw'; (try dsimp only at hw'); go_simp; first | done | rfl⟩
      case rm63 =>
      simp only [Act.put, List.setIfInBounds_toArray, List.set_cons_zero, List.set_cons_succ]
      refine anyT_put 8 39 ?rv64 #[true, true, true, true, true, true, true, true, true, false, false, false, false, false, false, false, false] rfl rfl rfl (by kernel_rfl) (by kernel_rfl) (by kernel_rfl) (fun _ _ _ h => h) (by decide) ?ry64 (fun _ => ⟨p0, p1, p2, cs1⟩) ?rm64
      case ry64 => first | exact Or.inl ⟨by rfl, by intro w'; go_simp; first | done | rfl⟩
      case rm64 =>
      simp only [Act.put, List.setIfInBounds_toArray, List.set_cons_zero, List.set_cons_succ]
      refine anyT_put 9 40 ?rv65 #[true, true, true, true, true, true, true, true, true, true, false, false, false, false, false, false, false] rfl rfl rfl (by kernel_rfl) (by kernel_rfl) (by kernel_rfl) (fun _ _ _ h => h) (by decide) ?ry65 (fun _ => ⟨p0, p1, p2, cs1⟩) ?rm65
      case ry65 => first | exact Or.inl ⟨by rfl, by intro w'; go_simp; first | done | rfl⟩
      case rm65 =>
      simp only [Act.put, List.setIfInBounds_toArray, List.set_cons_zero, List.set_cons_succ]
      refine anyT_put 10 41 ?rv66 #[true, true, true, true, true, true, true, true, true, true, true, false, false, false, false, false, false] rfl rfl rfl (by kernel_rfl) (by kernel_rfl) (by kernel_rfl) (fun _ _ _ h => h) (by decide) ?ry66 (fun _ => ⟨p0, p1, p2, cs1⟩) ?rm66
      case ry66 => first | exact Or.inl ⟨by rfl, by intro w'; go_simp; first | done | rfl⟩
      case rm66 =>
      simp only [Act.put, List.setIfInBounds_toArray, List.set_cons_zero, List.set_cons_succ]
      refine anyT_put 11 42 ?rv67 #[true, true, true, true, true, true, true, true, true, true, true, true, false, false, false, false, false] rfl rfl rfl (by kernel_rfl) (by kernel_rfl) (by kernel_rfl) (fun _ _ _ h => h) (by decide) ?ry67 (fun _ => ⟨p0, p1, p2, cs1⟩) ?rm67
      case ry67 => first | exact Or.inl ⟨by rfl, by intro w'; go_simp; first | done | rfl⟩
      case rm67 =>
      simp only [Act.put, List.setIfInBounds_toArray, List.set_cons_zero, List.set_cons_succ]
      refine anyT_one 12 #[true, true, true, true, true, true, true, true, true, true, true, true, true, false, false, false, false] (by kernel_rfl) rfl rfl (fun K hK => ?_)
      go_simp
      go_wp2_with (go_at_call 27; refine HU.out.mono ?_; rintro e w3 ⟨xa, xc, ya, yc, rfl, hX, hY, hBc⟩)
      have HBc : Hid (Below v1.heap.size v1 w3) := (Below.refl _ v1).drew.trans hBc
      have HNn : Hid (NewInts v1.heap.size w3 xa S ∧ NewInts v1.heap.size w3 ya D) := ⟨hX, hY⟩
      have A3 := HP.out.go HBc.out
      have c3 := (HBc.out.cell (p := ⟨bs, os + xn, none⟩) (by show bs < _; have := HB1.out.size; omega)).trans cs1
      have R3 := HR.out.go HBc.out
      have r0 := R3.c0
      have r1 := R3.c1
      have r2 := R3.c2
      have f0 := R3.fr 0
      have f1 := R3.fr 1
      have f2 := R3.fr 2
      clear hX hY hBc
      refine hK.out _ _ (fun _ => ⟨A3.c0, A3.c1, A3.c2, c3⟩) ?_
      clear hK K
      refine anyT_put 13 44 ?rv69 #[true, true, true, true, true, true, true, true, true, true, true, true, true, true, false, false, false] rfl rfl rfl (by kernel_rfl) (by kernel_rfl) (by kernel_rfl) (fun _ _ _ h => h) (by decide) ?ry69 (fun _ => ⟨A3.c0, A3.c1, A3.c2, c3⟩) ?rm69
      case ry69 => first | exact Or.inl ⟨by rfl, by intro w'; go_simp; first | done | rfl⟩
      case rm69 =>
      simp only [Act.put, List.setIfInBounds_toArray, List.set_cons_zero, List.set_cons_succ]
      refine anyT_put 14 45 ?rv70 #[true, true, true, true, true, true, true, true, true, true, true, true, true, true, true, false, false] rfl rfl rfl (by kernel_rfl) (by kernel_rfl) (by kernel_rfl) (fun _ _ _ h => h) (by decide) ?ry70 (fun _ => ⟨A3.c0, A3.c1, A3.c2, c3⟩) ?rm70
      case ry70 => first | exact Or.inl ⟨by rfl, by intro w'; go_simp; first | done | rfl⟩
      case rm70 =>
      simp only [Act.put, List.setIfInBounds_toArray, List.set_cons_zero, List.set_cons_succ]
      refine anyT_one 15 #[true, true, true, true, true, true, true, true, true, true, true, true, true, true, true, true, false] (by kernel_rfl) rfl rfl (fun K hK => ?_)
      go_simp
      refine hK.out _ _ (fun h => absurd h (by decide)) ?_
      clear hK K
      refine anyT_one 16 #[true, true, true, true, true, true, true, true, true, true, true, true, true, true, true, true, true] (by kernel_rfl) rfl rfl (fun K hK => ?_)
      go_simp
      refine hK.out _ _ (fun h => absurd h (by decide)) ?_
      clear hK K
      refine anyT_done (by kernel_rfl) ?_
      go_wp2_with fail
      have F := R3.set3 (.bool false) (.slice xa S.length xc) (.slice ya D.length yc)
      have q0 := F.c0
      have q1 := F.c1
      have q2 := F.c2
      refine bodyPost_ret (v := .tuple #[.agg #[.bool false, .slice xa S.length xc, .slice ya D.length yc], .int .i64 E]) (by simp [results, Tryd.results11, go_sem, q0, q1, q2]) rfl ?_
      have hX := (HNn.out.1.set3 (b := w.heap.size + 1) (by omega) (.bool false) (.slice xa S.length xc) (.slice ya D.length yc)).low (lo' := w.heap.size) (by omega)
      have hY := (HNn.out.2.set3 (b := w.heap.size + 1) (by omega) (.bool false) (.slice xa S.length xc) (.slice ya D.length yc)).low (lo' := w.heap.size) (by omega)
      rw [HS.out]
      exact ⟨xa, xc, ya, yc, rfl, hX, hY, bel_set3 (HB1.out.trans (HBc.out.mono HB1.out.size)) (by omega) _ _ _⟩
  · have HE : Hid (wdE f n x c sz dz = lnE f x c sz dz) := by show _ = _; unfold wdE; rw [if_pos he]
    have HN : Hid (lnE f x c sz dz ≠ 0) := he
    have t0 : (lnE f x c sz dz != 0) = true := by simp [he]
    clear he
    go_enter Tryd.func11, Tryd.ntmps11
    go_wp2_with fail
    refine hC.mono ?_
    rintro e v1 ⟨rfl, hB⟩
    have HB1 : Hid (Below w.heap.size w v1) := HB0.out.trans (hB.mono HB0.out.size)
    have HR : Hid (Abx v1 (w.heap.size + 1) (.bool false) (.slice none 0 0) (.slice none 0 0)) := pr.go hB
    clear hB hC pa pr p0 p1 p2 HB0
    have r0 := HR.out.c0
    have r1 := HR.out.c1
    have r2 := HR.out.c2
    have f0 := HR.out.fr 0
    have f1 := HR.out.fr 1
    have f2 := HR.out.fr 2
    go_wp2_with fail
    have F := HR.out.set3 (.bool false) (.slice none 0 0) (.slice none 0 0)
    have q0 := F.c0
    have q1 := F.c1
    have q2 := F.c2
    exact bodyPost_ret (v := .tuple #[.agg #[.bool false, .slice none 0 0, .slice none 0 0], .int .i64 (lnE f x c sz dz)]) (by simp [results, Tryd.results11, go_sem, q0, q1, q2]) rfl (ur12_no HE.out HN.out (bel_set3 HB1.out (by omega) _ _ _))
end Go.Proofs.YtmbgomljofngnabDoor
