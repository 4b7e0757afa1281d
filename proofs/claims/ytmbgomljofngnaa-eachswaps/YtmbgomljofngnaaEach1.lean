/-
  What each.One tells.
-/
import Derived.Test.YtmbgomljofngnaaTell
import Derived.Test.YtmbgomljofngnaaEachd
import Derived.Test.YtmbgomljofngnaaBase
import Derived.Test.YtmbgomljofngnaaOne
namespace Go.Proofs.Ytmbgomljofngnaa
open Go.RowKit
set_option linter.unusedVariables false

theorem mem_nth1 {zs : List Int} {x : Int} (h : x ∈ zs) : ∃ j, j < zs.length ∧ nth zs j = x := by
  obtain ⟨j, hj, rfl⟩ := List.mem_iff_getElem.1 h
  exact ⟨j, hj, nth_get zs j hj⟩
theorem blk_go {w w' : World} {b : Nat} {o : Obj} (h : w.heap[b]? = some o) (hB : Below w.heap.size w w') : w'.heap[b]? = some o := by
  obtain ⟨hlt, _⟩ := Array.getElem?_eq_some_iff.1 h
  exact (hB.block b hlt).trans h
set_option maxRecDepth 100000 in
set_option maxHeartbeats 1000000 in
theorem one1_any (f : Int) (p q : Nat) (c : Bool) (S : Value) (da : Option Addr) (dc : Nat) (dz : List Int) (i : Nat) (hi : i < dz.length) (hl : dz.length ≤ 4096) (w : World) (hp : w.cell? ⟨p, 0, none⟩ = some (.int .i64 f)) (hq : w.cell? ⟨q, 2, none⟩ = some (.slice da dz.length dc)) (m : Nat) (hd : IsInts m w da dz) (T : In64 (nth dz i)) :
    Calls Try.prog 35 #[.int .i64 (i : Nat), .pointer (some ⟨p, 0, none⟩), .pointer (some ⟨q, 0, none⟩)] w (AskP (fun i => oneV f (nth dz i)) (fun i => oneE f (nth dz i)) i w) := by
  obtain ⟨b, off, rfl, hb, hcell⟩ := hd.at hi
  have hc := hcell i hi
  clear hcell hd
  obtain ⟨x, hx⟩ : ∃ x, x = nth dz i := ⟨_, rfl⟩
  have HX : Hid (x = nth dz i) := hx
  rw [← hx] at hc T
  have HT : Hid (In64 x) := T
  clear hx T
  go_enter Try.func35, Try.ntmps35
  go_wp2_with fail
  refine anyT_begin 9 (fun w' => w'.cell? ⟨p, 0, none⟩ = some (.int .i64 f) ∧ w'.cell? ⟨q, 2, none⟩ = some (.slice (some ⟨b, off, none⟩) dz.length dc) ∧ w'.cell? ⟨b, off + i, none⟩ = some (.int .i64 x)) 11 #[false, false, false, false, false, false, false, false, false, false, false] (by kernel_rfl) rfl rfl ?_
  refine anyT_take 0 6 ?rv41 #[true, false, false, false, false, false, false, false, false, false, false] rfl rfl rfl (by kernel_rfl) (by kernel_rfl) (by kernel_rfl) (fun _ _ _ h => h) (by kernel_rfl) (by decide) (by kernel_rfl) ?ry41 (⟨hp, hq, hc⟩) ?rm41
  case ry41 => first | exact Or.inl ⟨by rfl, by intro w' hw'; (try dsimp only at hw'); go_simp; first | done | rfl⟩
  case rm41 =>
  simp only [Act.put, List.setIfInBounds_toArray, List.set_cons_zero, List.set_cons_succ]
  refine anyT_put 1 7 ?rv42 #[true, true, false, false, false, false, false, false, false, false, false] rfl rfl rfl (by kernel_rfl) (by kernel_rfl) (by kernel_rfl) (fun _ _ _ h => h) (by decide) ?ry42 (fun _ => ⟨hp, hq, hc⟩) ?rm42
  case ry42 => first | exact Or.inl ⟨by rfl, by intro w'; go_simp; first | done | rfl⟩
  case rm42 =>
  simp only [Act.put, List.setIfInBounds_toArray, List.set_cons_zero, List.set_cons_succ]
  refine anyT_take 2 8 ?rv43 #[true, true, true, false, false, false, false, false, false, false, false] rfl rfl rfl (by kernel_rfl) (by kernel_rfl) (by kernel_rfl) (fun _ _ _ h => h) (by kernel_rfl) (by decide) (by kernel_rfl) ?ry43 (⟨hp, hq, hc⟩) ?rm43
  case ry43 => first | exact Or.inl ⟨by rfl, by intro w' hw'; (try dsimp only at hw'); go_simp; first | done | rfl⟩
  case rm43 =>
  simp only [Act.put, List.setIfInBounds_toArray, List.set_cons_zero, List.set_cons_succ]
  refine anyT_put 3 9 ?rv44 #[true, true, true, true, false, false, false, false, false, false, false] rfl rfl rfl (by kernel_rfl) (by kernel_rfl) (by kernel_rfl) (fun _ _ _ h => h) (by decide) ?ry44 (fun _ => ⟨hp, hq, hc⟩) ?rm44
  case ry44 => first | exact Or.inl ⟨by rfl, by intro w'; go_simp; first | done | rfl⟩
  case rm44 =>
  simp only [Act.put, List.setIfInBounds_toArray, List.set_cons_zero, List.set_cons_succ]
  refine anyT_put 4 10 ?rv45 #[true, true, true, true, true, false, false, false, false, false, false] rfl rfl rfl (by kernel_rfl) (by kernel_rfl) (by kernel_rfl) (fun _ _ _ h => h) (by decide) ?ry45 (fun _ => ⟨hp, hq, hc⟩) ?rm45
  case ry45 => first | exact Or.inl ⟨by rfl, by intro w'; go_simp; first | done | rfl⟩
  case rm45 =>
  simp only [Act.put, List.setIfInBounds_toArray, List.set_cons_zero, List.set_cons_succ]
  refine anyT_take 5 11 ?rv46 #[true, true, true, true, true, true, false, false, false, false, false] rfl rfl rfl (by kernel_rfl) (by kernel_rfl) (by kernel_rfl) (fun _ _ _ h => h) (by kernel_rfl) (by decide) (by kernel_rfl) ?ry46 (⟨hp, hq, hc⟩) ?rm46
  case ry46 => first | exact Or.inl ⟨by rfl, by intro w' hw'; (try dsimp only at hw'); go_simp; first | done | rfl⟩
  case rm46 =>
  simp only [Act.put, List.setIfInBounds_toArray, List.set_cons_zero, List.set_cons_succ]
  refine anyT_one 6 #[true, true, true, true, true, true, true, false, false, false, false] (by kernel_rfl) rfl rfl (fun K hK => ?_)
  go_simp
  go_wp2_with (go_at_call 34; refine (one_any f x HT.out w.drew).mono ?_; rintro e w2 ⟨rfl, rfl⟩)
  refine hK.out _ _ (fun _ => ⟨hp, hq, hc⟩) ?_
  clear hK K
  refine anyT_put 7 13 ?rv48 #[true, true, true, true, true, true, true, true, false, false, false] rfl rfl rfl (by kernel_rfl) (by kernel_rfl) (by kernel_rfl) (fun _ _ _ h => h) (by decide) ?ry48 (fun _ => ⟨hp, hq, hc⟩) ?rm48
  case ry48 => first | exact Or.inl ⟨by rfl, by intro w'; go_simp; first | done | rfl⟩
  case rm48 =>
  simp only [Act.put, List.setIfInBounds_toArray, List.set_cons_zero, List.set_cons_succ]
  refine anyT_put 8 14 ?rv49 #[true, true, true, true, true, true, true, true, true, false, false] rfl rfl rfl (by kernel_rfl) (by kernel_rfl) (by kernel_rfl) (fun _ _ _ h => h) (by decide) ?ry49 (fun _ => ⟨hp, hq, hc⟩) ?rm49
  case ry49 => first | exact Or.inl ⟨by rfl, by intro w'; go_simp; first | done | rfl⟩
  case rm49 =>
  simp only [Act.put, List.setIfInBounds_toArray, List.set_cons_zero, List.set_cons_succ]
  refine anyT_one 9 #[true, true, true, true, true, true, true, true, true, true, false] (by kernel_rfl) rfl rfl (fun K hK => ?_)
  go_simp
  refine hK.out _ _ (fun h => absurd h (by decide)) ?_
  clear hK K
  refine anyT_one 10 #[true, true, true, true, true, true, true, true, true, true, true] (by kernel_rfl) rfl rfl (fun K hK => ?_)
  go_simp
  refine hK.out _ _ (fun h => absurd h (by decide)) ?_
  clear hK K
  refine anyT_done (by kernel_rfl) ?_
  go_wp2_with fail
  go_ret2
  exact ⟨by rw [HX.out]; rfl, (Below.refl _ w).drew⟩
set_option maxRecDepth 100000 in
set_option maxHeartbeats 2000000 in
theorem each_one_c : C1c := by
  intro f c sa sc sz da dc dz w hf h1 h2 hs hd T
  have HI : Hid (IsInts w.heap.size w sa sz ∧ IsInts w.heap.size w da dz) := ⟨hs, hd⟩
  have HT : Hid (∀ j, In64 (nth dz j)) := T
  obtain ⟨W0, hW0⟩ : ∃ W0, W0 = ((w.alloc (.cells #[.int .i64 f] 22)).alloc (.cells #[.bool c, .slice sa sz.length sc, .slice da dz.length dc] 25)).alloc (.cells #[.bool false, .slice none 0 0, .slice none 0 0] 25) := ⟨_, rfl⟩
  have HB0 : Hid (Below w.heap.size w W0) := by rw [hW0]; exact (((Below.refl _ w).alloc (Nat.le_refl _) _).alloc (by simp) _).alloc (by simp; omega) _
  have B0 : Hid (W0.heap[w.heap.size]? = some (.cells #[.int .i64 f] 22 (0, 0))) := by
    rw [hW0]
    exact ((Below.heap_alloc _ _ w.heap.size (by simp; omega)).trans (Below.heap_alloc _ _ w.heap.size (by simp))).trans (MapKept.heap_alloc w _).1
  have P0 : Hid (Abx W0 (w.heap.size + 1) (.bool c) (.slice sa sz.length sc) (.slice da dz.length dc)) := by rw [hW0]; exact (Abx.new1 w _ _ _ _).al _
  have R0 : Hid (Abx W0 (w.heap.size + 1 + 1) (.bool false) (.slice none 0 0) (.slice none 0 0)) := by
    rw [hW0]
    have := Abx.new1 (w.alloc (.cells #[.int .i64 f] 22)) (.cells #[.bool c, .slice sa sz.length sc, .slice da dz.length dc] 25) (.bool false) (.slice none 0 0) (.slice none 0 0)
    rwa [World.size_alloc] at this
  have HW : Hid (W0 = _) := hW0
  clear hs hd T hW0
  by_cases h0 : oneE f 0 = 0
  · have H0 : Hid (oneE f 0 = 0) := h0
    have V0 : Hid (errV (oneE f 0) = .nilIface) := by show _ = _; rw [h0]; rfl
    clear h0
    by_cases h3 : flawE c sz dz = 0
    · have H3 : Hid (flawE c sz dz = 0) := h3
      have HL : Hid (sz.length ≤ 6 ∧ dz.length ≤ 4096) := flawE_short h3
      clear h3
      go_enter Try.func14, Try.ntmps14
      go_wp2_with fail
      refine (one_any f 0 (by unfold In64; decide) _).mono ?_
      rintro e w1 ⟨rfl, hw⟩
      have hw' : W0 = w1 := HW.out.trans hw.symm
      subst hw'
      rw [V0.out]
      have p0 := P0.out.c0
      have p1 := P0.out.c1
      have p2 := P0.out.c2
      clear hw
      go_wp2_with fail
      refine (check_ok c sa sc sz da dc dz h1 h2 W0 ((HI.out.1.below HB0.out).mono HB0.out.size) ((HI.out.2.below HB0.out).mono HB0.out.size) H3.out).mono ?_
      rintro e w2 ⟨rfl, hC⟩
      have HB2 : Hid (Below w.heap.size w w2) := HB0.out.trans (hC.mono HB0.out.size)
      have B2 : Hid (w2.heap[w.heap.size]? = some (.cells #[.int .i64 f] 22 (0, 0))) := blk_go B0.out hC
      have P2 : Hid (Abx w2 (w.heap.size + 1) (.bool c) (.slice sa sz.length sc) (.slice da dz.length dc)) := P0.out.go hC
      have R2 : Hid (Abx w2 (w.heap.size + 1 + 1) (.bool false) (.slice none 0 0) (.slice none 0 0)) := R0.out.go hC
      clear hC p0 p1 p2 HW B0 P0 R0 HB0 V0
      have p0 := P2.out.c0
      have p1 := P2.out.c1
      have p2 := P2.out.c2
      cases c with
      | true =>
        have HE : Hid (e1E f true sz dz = 6) := by show _ = _; unfold e1E; rw [if_neg (by simpa using H0.out), if_neg (by simpa using H3.out), if_pos rfl]
        have r0 := R2.out.c0
        have r1 := R2.out.c1
        have r2 := R2.out.c2
        have f0 := R2.out.fr 0
        have f1 := R2.out.fr 1
        have f2 := R2.out.fr 2
        go_wp2_with fail
        have F := R2.out.set3 (.bool false) (.slice none 0 0) (.slice none 0 0)
        have q0 := F.c0
        have q1 := F.c1
        have q2 := F.c2
        exact bodyPost_ret (v := .tuple #[.agg #[.bool false, .slice none 0 0, .slice none 0 0], .iface 59 (.int .i64 6)]) (by simp [results, Try.results14, go_sem, q0, q1, q2]) rfl (P1c.no HE.out (by decide) (bel_set3 HB2.out (by omega) _ _ _))
      | false =>
        have H : ∀ i, i < dz.length → ∀ w', Below w2.heap.size w2 w' → Calls Try.prog 35 (.int .i64 (i : Nat) :: [.pointer (some ⟨w.heap.size, 0, none⟩), .pointer (some ⟨w.heap.size + 1, 0, none⟩)]).toArray w' (AskP (fun i => oneV f (nth dz i)) (fun i => oneE f (nth dz i)) i w') := fun i hi w' hB =>
          one1_any f _ _ false (.slice none 0 0) da dc dz i hi HL.out.2 w' (cell_of_one (blk_go B2.out hB)) (P2.out.go hB).c2 w.heap.size (HI.out.2.below (HB2.out.trans (hB.mono HB2.out.size))) (HT.out i)
        have HH : Hid (_) := H
        clear H
        go_wp2_with fail
        refine (tell_all false sa sc sz da dc dz 35 [.pointer (some ⟨w.heap.size, 0, none⟩), .pointer (some ⟨w.heap.size + 1, 0, none⟩)] (enters_of Try.func35 (by kernel_rfl) rfl) _ _ (by have := HL.out.1; omega) HL.out.2 w2 ((HI.out.1.below HB2.out).mono HB2.out.size) HH.out).mono ?_
        rintro e w3 (⟨i, hi, hne, rfl, hb⟩ | ⟨hall, xa, xc, ya, yc, rfl, hX, hY, hb⟩)
        · have HE : Hid (oneE f (nth dz i) = 6 ∧ e1E f false sz dz = 6) := by
            refine ⟨(oneE_cell H0.out _).resolve_left hne, ?_⟩
            unfold e1E
            rw [if_neg (by simpa using H0.out), if_neg (by simpa using H3.out), if_neg (by decide), if_neg]
            intro h
            exact hne (by simpa using List.all_eq_true.1 h _ (nth_mem dz i hi))
          have R3 : Hid (Abx w3 (w.heap.size + 1 + 1) (.bool false) (.slice none 0 0) (.slice none 0 0)) := R2.out.go hb
          have HB3 : Hid (Below w.heap.size w w3) := HB2.out.trans (hb.mono HB2.out.size)
          clear hb hne p0 p1 p2
          have r0 := R3.out.c0
          have r1 := R3.out.c1
          have r2 := R3.out.c2
          have f0 := R3.out.fr 0
          have f1 := R3.out.fr 1
          have f2 := R3.out.fr 2
          go_wp2_with fail
          have F := R3.out.set3 (.bool false) (.slice none 0 0) (.slice none 0 0)
          have q0 := F.c0
          have q1 := F.c1
          have q2 := F.c2
          exact bodyPost_ret (v := .tuple #[.agg #[.bool false, .slice none 0 0, .slice none 0 0], .iface 59 (.int .i64 (oneE f (nth dz i)))]) (by simp [results, Try.results14, go_sem, q0, q1, q2]) rfl (P1c.no (HE.out.2.trans HE.out.1.symm) (by rw [HE.out.1]; decide) (bel_set3 HB3.out (by omega) _ _ _))
        · have HE : Hid (e1E f false sz dz = 0 ∧ e1V f dz = upL (fun i => oneV f (nth dz i)) dz.length) := by
            constructor
            · unfold e1E
              rw [if_neg (by simpa using H0.out), if_neg (by simpa using H3.out), if_neg (by decide), if_pos]
              refine List.all_eq_true.2 fun x hx => ?_
              obtain ⟨j, hj, rfl⟩ := mem_nth1 hx
              simpa using hall j hj
            · exact nth_ext (by rw [e1V_length, upL_length]) fun j hj => by rw [e1V_length] at hj; rw [e1V_nth f dz hj, upL_nth _ _ hj]
          have R3 : Hid (Abx w3 (w.heap.size + 1 + 1) (.bool false) (.slice none 0 0) (.slice none 0 0)) := R2.out.go hb
          have HB3 : Hid (Below w.heap.size w w3) := HB2.out.trans (hb.mono HB2.out.size)
          have HX : Hid (NewC w2.heap.size w3 xa sz xc ∧ NewC w2.heap.size w3 ya (e1V f dz) yc) := ⟨hX, by rw [HE.out.2]; exact hY⟩
          have z := R2.out.lt
          clear hb hX hY hall p0 p1 p2
          have r0 := R3.out.c0
          have r1 := R3.out.c1
          have r2 := R3.out.c2
          have f0 := R3.out.fr 0
          have f1 := R3.out.fr 1
          have f2 := R3.out.fr 2
          go_wp2_with fail
          have F := R3.out.set3 (.bool false) (.slice xa sz.length xc) (.slice ya dz.length yc)
          have q0 := F.c0
          have q1 := F.c1
          have q2 := F.c2
          refine bodyPost_ret (v := .tuple #[.agg #[.bool false, .slice xa sz.length xc, .slice ya dz.length yc], .nilIface]) (by simp [results, Try.results14, go_sem, q0, q1, q2]) rfl (.inr ⟨HE.out.1, xa, xc, ya, yc, by rw [e1V_length], ?_, ?_, bel_set3 HB3.out (by omega) _ _ _⟩)
          · exact (HX.out.1.set3 z _ _ _).low HB2.out.size
          · exact (HX.out.2.set3 z _ _ _).low HB2.out.size
    · have H3 : Hid (flawE c sz dz ≠ 0) := h3
      have HE : Hid (e1E f c sz dz = flawE c sz dz) := by show _ = _; unfold e1E; rw [if_neg (by simpa using H0.out), if_pos h3]
      clear h3
      go_enter Try.func14, Try.ntmps14
      go_wp2_with fail
      refine (one_any f 0 (by unfold In64; decide) _).mono ?_
      rintro e w1 ⟨rfl, hw⟩
      have hw' : W0 = w1 := HW.out.trans hw.symm
      subst hw'
      rw [V0.out]
      have p0 := P0.out.c0
      have p1 := P0.out.c1
      have p2 := P0.out.c2
      clear hw
      go_wp2_with fail
      refine (check_no c sa sc sz da dc dz h1 h2 W0 ((HI.out.1.below HB0.out).mono HB0.out.size) ((HI.out.2.below HB0.out).mono HB0.out.size) H3.out).mono ?_
      rintro e w2 ⟨rfl, hC⟩
      have HB2 : Hid (Below w.heap.size w w2) := HB0.out.trans (hC.mono HB0.out.size)
      have R2 : Hid (Abx w2 (w.heap.size + 1 + 1) (.bool false) (.slice none 0 0) (.slice none 0 0)) := R0.out.go hC
      clear hC p0 p1 p2
      have r0 := R2.out.c0
      have r1 := R2.out.c1
      have r2 := R2.out.c2
      have f0 := R2.out.fr 0
      have f1 := R2.out.fr 1
      have f2 := R2.out.fr 2
      go_wp2_with fail
      have F := R2.out.set3 (.bool false) (.slice none 0 0) (.slice none 0 0)
      have q0 := F.c0
      have q1 := F.c1
      have q2 := F.c2
      exact bodyPost_ret (v := .tuple #[.agg #[.bool false, .slice none 0 0, .slice none 0 0], .iface 59 (.int .i64 (flawE c sz dz))]) (by simp [results, Try.results14, go_sem, q0, q1, q2]) rfl (P1c.no HE.out H3.out (bel_set3 HB2.out (by omega) _ _ _))
  · have H0 : Hid (oneE f 0 ≠ 0) := h0
    have HE : Hid (e1E f c sz dz = oneE f 0) := by show _ = _; unfold e1E; rw [if_pos h0]
    have V0 : Hid (errV (oneE f 0) = .iface 59 (.int .i64 (oneE f 0))) := errV_pos h0
    clear h0
    go_enter Try.func14, Try.ntmps14
    go_wp2_with fail
    refine (one_any f 0 (by unfold In64; decide) _).mono ?_
    rintro e w1 ⟨rfl, hw⟩
    have hw' : W0 = w1 := HW.out.trans hw.symm
    subst hw'
    rw [V0.out]
    clear hw
    have r0 := R0.out.c0
    have r1 := R0.out.c1
    have r2 := R0.out.c2
    have f0 := R0.out.fr 0
    have f1 := R0.out.fr 1
    have f2 := R0.out.fr 2
    go_wp2_with fail
    have F := R0.out.set3 (.bool false) (.slice none 0 0) (.slice none 0 0)
    have q0 := F.c0
    have q1 := F.c1
    have q2 := F.c2
    exact bodyPost_ret (v := .tuple #[.agg #[.bool false, .slice none 0 0, .slice none 0 0], .iface 59 (.int .i64 (oneE f 0))]) (by simp [results, Try.results14, go_sem, q0, q1, q2]) rfl (P1c.no HE.out H0.out (bel_set3 HB0.out (by omega) _ _ _))
theorem each_one : C1 := each_one_c.plain
end Go.Proofs.Ytmbgomljofngnaa
