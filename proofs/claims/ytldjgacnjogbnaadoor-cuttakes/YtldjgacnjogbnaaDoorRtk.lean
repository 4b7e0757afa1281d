/-
  What the reference takes of an array.
-/
import Derived.Test.YtldjgacnjogbnaaDoorRpart
import Derived.Test.YtldjgacnjogbnaaDoorApp2
namespace Go.Proofs.YtldjgacnjogbnaaDoor
open Go.RowKit
set_option linter.unusedVariables false

theorem fault_n (a : Option Addr) (cap : Nat) (zs : List Int) (n : Nat) (hn : zs.length = n) (hreach : zs.length ≤ 9223372036854775807) (n₀ : Nat) (w : World) (hI : IsInts n₀ w a zs) :
    Calls Tryd.prog 20 #[.slice a n cap] w fun e w' => e = .returned (.int .i64 (errOf zs)) ∧ w' = w := by
  subst hn
  exact fault_any a cap zs hreach n₀ w hI
set_option maxRecDepth 100000 in
set_option maxHeartbeats 8000000 in
theorem taken_any (na : Option Addr) (nc : Nat) (n : List Int) (c : Bool) (sa : Option Addr) (sc : Nat) (sz : List Int) (da : Option Addr) (dc : Nat) (dz : List Int) (hl0 : n.length ≤ 9223372036854775807) (h1 : sz.length ≤ 9223372036854775807) (h2 : dz.length ≤ 9223372036854775807) (Tn : ∀ j, In64 (nth n j)) (w : World) (hn : IsInts w.heap.size w na n) (hs : IsInts w.heap.size w sa sz) (hd : IsInts w.heap.size w da dz) :
    Calls Tryd.prog 8 #[.slice na n.length nc, .agg #[.bool c, .slice sa sz.length sc, .slice da dz.length dc]] w (UR (tkE n c sz dz) (onc (tkE n c sz dz) c) (onl (tkE n c sz dz) (tkS n)) (onl (tkE n c sz dz) (tkD n c sz dz)) w) := by
  have HI : Hid (IsInts w.heap.size w sa sz ∧ IsInts w.heap.size w da dz ∧ IsInts w.heap.size w na n) := ⟨hs, hd, hn⟩
  have HTn : Hid (∀ j, In64 (nth n j)) := Tn
  clear hs hd hn Tn
  obtain ⟨m, hm⟩ : ∃ m, m = n.length := ⟨_, rfl⟩
  rw [← hm]
  have HM : Hid (m = n.length) := hm
  have hm0 : m ≤ 9223372036854775807 := by rw [hm]; exact hl0
  clear hm hl0
  have hb : Hid (Below w.heap.size w ((w.alloc (.cells #[.bool c, .slice sa sz.length sc, .slice da dz.length dc] 24)).alloc (.cells #[.bool false, .slice none 0 0, .slice none 0 0] 24))) := ((Below.refl _ w).alloc (Nat.le_refl _) _).alloc (by simp) _
  have pa := (Abx.new w (.bool c) (.slice sa sz.length sc) (.slice da dz.length dc)).al (.cells #[.bool false, .slice none 0 0, .slice none 0 0] 24)
  have pr := Abx.new1 w (.cells #[.bool c, .slice sa sz.length sc, .slice da dz.length dc] 24) (.bool false) (.slice none 0 0) (.slice none 0 0)
  have p0 := pa.c0
  have p1 := pa.c1
  have p2 := pa.c2
  go_enter Tryd.func8, Tryd.ntmps8
  go_wp2_with fail
  refine (flaw_any c sa sc sz da dc dz h1 h2 _ ((HI.out.1.below hb.out).mono hb.out.size) ((HI.out.2.1.below hb.out).mono hb.out.size)).mono ?_
  rintro e v1 ⟨rfl, hB⟩
  replace hb : Hid (Below w.heap.size w v1) := hb.out.trans (hB.mono hb.out.size)
  have HP : Hid (Abx v1 w.heap.size (.bool c) (.slice sa sz.length sc) (.slice da dz.length dc)) := pa.go hB
  have HR : Hid (Abx v1 (w.heap.size + 1) (.bool false) (.slice none 0 0) (.slice none 0 0)) := pr.go hB
  have hR1 : w.heap.size + 1 < v1.heap.size := HR.out.lt
  clear hB pa pr p0 p1 p2
  by_cases hf : flawE c sz dz = 0
  · rw [hf]
    have HF : Hid (flawE c sz dz = 0 ∧ errOf sz = 0 ∧ sz.length ≤ 6) := ⟨hf, (flawE_zero hf).1, (flawE_short hf).1⟩
    clear hf
    have p1 := HP.out.c1
    by_cases hl : m = sz.length
    · have tl : ((m : Int) != (sz.length : Int)) = false := by simp [hl]
      have HL : Hid (m = sz.length) := hl
      have hm6 : m ≤ 6 := by have := HF.out.2.2; omega
      clear hl
      obtain ⟨S, hS⟩ : ∃ S, S = tkS n := ⟨_, rfl⟩
      obtain ⟨U, hU⟩ : ∃ U, U = tkU sz n := ⟨_, rfl⟩
      have hSm : S.length = m := by rw [hS, tkS_length, HM.out]
      have hUm : U.length = m := by rw [hU, tkU_length, HM.out]
      have HSU : Hid ((S = tkS n ∧ U = tkU sz n) ∧ S.length = m ∧ U.length = m) := ⟨⟨hS, hU⟩, hSm, hUm⟩
      have hSm1 : S.length ≤ m := by omega
      have hSm2 : m ≤ S.length := by omega
      have hUm1 : U.length ≤ m := by omega
      have hUm2 : m ≤ U.length := by omega
      clear hS hU hSm hUm
      go_wp2_with fail
      go_loopw [7, 8, 9] (fun s f i wx => ∃ k : Nat, k ≤ m ∧ i = .int .i64 k ∧ Hid (∀ j, j < k → -4096 ≤ nth n j ∧ nth n j ≤ 4096) ∧ Two2 wx v1.heap.size s (S.take k) f (U.take k) ∧ Below v1.heap.size v1 wx) (fun _ _ i _ => m - (intOf i).toNat)
      case atStart => exact ⟨0, Nat.zero_le _, rfl, fun j hj => absurd hj (by omega), Two2.nil _ _, Below.refl _ _⟩
      case round =>
        obtain ⟨k, hk, rfl, HJ, hT, hBx⟩ := hrel
        have HBw : Hid (Below w.heap.size w wr) := hb.out.trans (hBx.mono hb.out.size)
        have hvx := hBx.size
        have A1 := HP.out.go hBx
        have R1 : Hid (Abx wr (w.heap.size + 1) (.bool false) (.slice none 0 0) (.slice none 0 0)) := HR.out.go hBx
        have HBx : Hid (Below v1.heap.size v1 wr) := hBx
        by_cases hlt : k < m
        · obtain ⟨b, off, rfl, hbb, hcell⟩ := (HI.out.2.2.below HBw.out).at (q := k) (by rw [← HM.out]; exact hlt)
          have hc := hcell k (by rw [← HM.out]; exact hlt)
          clear hcell
          have hbv0 : b < v1.heap.size := by have := hb.out.size; omega
          have hbw0 : b < wr.heap.size := by have := HBw.out.size; omega
          have hTk1 : (S.take k).length = k := by rw [List.length_take]; omega
          have hTk2 : (U.take k).length = k := by rw [List.length_take]; omega
          have HSk : Hid (S.take (k + 1) = S.take k ++ [nth S k] ∧ U.take (k + 1) = U.take k ++ [nth U k]) := ⟨take_snoc S k (by omega), take_snoc U k (by omega)⟩
          have hx64 := HTn.out k
          obtain ⟨x, hx⟩ : ∃ x, x = nth n k := ⟨_, rfl⟩
          rw [← hx] at hc hx64
          have HX : Hid (x = nth n k) := hx
          clear hx
          by_cases hx1 : 4096 < x
          · have hxx := hx1
            have HE : Hid (tkE n c sz dz = 7) := by
              show _ = _
              unfold tkE
              rw [if_neg (by simpa using HF.out.1), if_neg (by rw [← HM.out, HL.out]; simp), if_pos]
              unfold tkBig
              rw [List.any_eq_true]
              exact ⟨nth n k, nth_mem n k (by rw [← HM.out]; exact hlt), by rw [← HX.out]; simp; omega⟩
            have r_0 := R1.out.c0
            have r_1 := R1.out.c1
            have r_2 := R1.out.c2
            have f_0 := R1.out.fr 0
            have f_1 := R1.out.fr 1
            have f_2 := R1.out.fr 2
            go_wp2_with fail
            have FF := R1.out.set3 (.bool false) (.slice none 0 0) (.slice none 0 0)
            have q0 := FF.c0
            have q1 := FF.c1
            have q2 := FF.c2
            exact bodyPost_ret (v := .tuple #[.agg #[.bool false, .slice none 0 0, .slice none 0 0], .int .i64 7]) (by simp [results, Tryd.results8, go_sem, q0, q1, q2]) rfl (UR.no HE.out (by decide) (bel_set3 HBw.out (by omega) _ _ _))
          · by_cases hx2 : x < -4096
            · have hxx := hx2
              have HE : Hid (tkE n c sz dz = 7) := by
                show _ = _
                unfold tkE
                rw [if_neg (by simpa using HF.out.1), if_neg (by rw [← HM.out, HL.out]; simp), if_pos]
                unfold tkBig
                rw [List.any_eq_true]
                exact ⟨nth n k, nth_mem n k (by rw [← HM.out]; exact hlt), by rw [← HX.out]; simp; omega⟩
              have r_0 := R1.out.c0
              have r_1 := R1.out.c1
              have r_2 := R1.out.c2
              have f_0 := R1.out.fr 0
              have f_1 := R1.out.fr 1
              have f_2 := R1.out.fr 2
              go_wp2_with fail
              have FF := R1.out.set3 (.bool false) (.slice none 0 0) (.slice none 0 0)
              have q0 := FF.c0
              have q1 := FF.c1
              have q2 := FF.c2
              exact bodyPost_ret (v := .tuple #[.agg #[.bool false, .slice none 0 0, .slice none 0 0], .int .i64 7]) (by simp [results, Tryd.results8, go_sem, q0, q1, q2]) rfl (UR.no HE.out (by decide) (bel_set3 HBw.out (by omega) _ _ _))
            · have HJ1 : Hid (∀ j, j < k + 1 → -4096 ≤ nth n j ∧ nth n j ≤ 4096) := fun j hj => by
                by_cases e : j = k
                · subst e; rw [← HX.out]; omega
                · exact HJ.out j (by omega)
              by_cases hx3 : 0 ≤ x
              · have HV : Hid (nth S k = x ∧ nth U k = 0) := by
                  rw [HSU.out.1.1, HSU.out.1.2]
                  exact ⟨by rw [tkS_nth _ (by rw [← HM.out]; exact hlt), ← HX.out]; unfold tks; rw [if_pos hx3], by rw [tkU_nth _ _ (by rw [← HM.out]; exact hlt), ← HX.out, if_pos hx3]⟩
                go_wp2_with (first | (at_builtin; refine app2_list rfl _ _ rfl _ v1.heap.size wr.heap.size u7 (S.take k) u8 (U.take k) x k hTk1 rfl rfl (hT.al _) (heap_alloc_new wr _) (by omega) (by simp; omega) ?_; intro g1 gc1 w1 hT1 hB1; have hc1 : w1.cell? ⟨b, off + k, none⟩ = some (.int .i64 x) := (hB1.cell (p := ⟨b, off + k, none⟩) hbv0).trans ((World.cell?_alloc_lt wr _ ⟨b, off + k, none⟩ hbw0).trans hc)) | (at_builtin; refine app2_list rfl _ _ rfl _ v1.heap.size w1.heap.size u8 (U.take k) (.slice (some ⟨g1, 0, none⟩) (k + 1) gc1) (S.take k ++ [x]) 0 k hTk2 rfl rfl (hT1.symm.al _) (heap_alloc_new w1 _) (by omega) (by have := hB1.size; simp at this ⊢; omega) ?_; intro g2 gc2 w2 hT2 hB2))
                refine ⟨⟨k + 1, by omega, by go_num, HJ1, ?_, ?_⟩, by simp [intOf]; omega⟩
                · rw [HSk.out.1, HSk.out.2, HV.out.1, HV.out.2]
                  exact hT2.symm
                · exact (((HBx.out.alloc hvx _).trans hB1).alloc (by have := hB1.size; simp at this; omega) _).trans hB2
              · have hsz := (errOf_zero.1 HF.out.2.1).2.1.nth k
                obtain ⟨bs, os, rfl, hbs, hcS⟩ := (HI.out.1.below HBw.out).at (q := k) (by rw [← HL.out]; exact hlt)
                have cs := hcS k (by rw [← HL.out]; exact hlt)
                obtain ⟨y, hy⟩ : ∃ y, y = nth sz k := ⟨_, rfl⟩
                rw [← hy] at cs hsz
                have HV : Hid (nth S k = -x ∧ nth U k = y + x) := by
                  rw [HSU.out.1.1, HSU.out.1.2]
                  exact ⟨by rw [tkS_nth _ (by rw [← HM.out]; exact hlt), ← HX.out]; unfold tks; rw [if_neg hx3], by rw [tkU_nth _ _ (by rw [← HM.out]; exact hlt), ← HX.out, if_neg hx3, hy]⟩
                have hw : IntKind.i64.wrap (y + x) = y + x := IntWalk.i64_in _ (by omega)
                have hkz : k < sz.length := by rw [← HL.out]; exact hlt
                have hbw : b < wr.heap.size := by have := HBw.out.size; omega
                have hsw : bs < wr.heap.size := by have := HBw.out.size; omega
                clear hcS hy hsz
                go_wp2_with (at_builtin; refine app2_list rfl _ _ rfl _ v1.heap.size wr.heap.size u7 (S.take k) u8 (U.take k) (-x) k hTk1 rfl rfl (hT.al _) (heap_alloc_new wr _) (by omega) (by simp; omega) ?_; intro g1 gc1 w1 hT1 hB1)
                have A2 := (A1.al (.cells #[.int .i64 (-x)] 3)).bel hB1 (by omega)
                have e1 := A2.c1
                have e2 : w1.cell? ⟨bs, os + k, none⟩ = some (.int .i64 y) := (hB1.cell (p := ⟨bs, os + k, none⟩) (by show bs < v1.heap.size; have := hb.out.size; omega)).trans ((World.cell?_alloc_lt wr _ ⟨bs, os + k, none⟩ hsw).trans cs)
                have e3 : w1.cell? ⟨b, off + k, none⟩ = some (.int .i64 x) := (hB1.cell (p := ⟨b, off + k, none⟩) (by show b < v1.heap.size; have := hb.out.size; omega)).trans ((World.cell?_alloc_lt wr _ ⟨b, off + k, none⟩ hbw).trans hc)
                have hv1 : v1.heap.size ≤ w1.heap.size := by have := hB1.size; simp at this; omega
                refine anyT_begin 13 (fun w' => w'.cell? ⟨w.heap.size, 1, none⟩ = some (.slice (some ⟨bs, os, none⟩) sz.length sc) ∧ w'.cell? ⟨bs, os + k, none⟩ = some (.int .i64 y) ∧ w'.cell? ⟨b, off + k, none⟩ = some (.int .i64 x)) 14 #[false, false, false, false, false, false, false, false, false, false, false, false, false, false] (by kernel_rfl) rfl rfl ?_
                refine anyT_put 0 65 ?rv30 #[true, false, false, false, false, false, false, false, false, false, false, false, false, false] rfl rfl rfl (by kernel_rfl) (by kernel_rfl) (by kernel_rfl) (fun _ _ _ h => h) (by decide) ?ry30 (fun _ => ⟨e1, e2, e3⟩) ?rm30
                case ry30 => first | exact Or.inl ⟨by rfl, by intro w'; go_simp; first | done | rfl⟩
                case rm30 =>
                simp only [Act.put, List.setIfInBounds_toArray, List.set_cons_zero, List.set_cons_succ]
                refine anyT_put 1 66 ?rv31 #[true, true, false, false, false, false, false, false, false, false, false, false, false, false] rfl rfl rfl (by kernel_rfl) (by kernel_rfl) (by kernel_rfl) (fun _ _ _ h => h) (by decide) ?ry31 (fun _ => ⟨e1, e2, e3⟩) ?rm31
                case ry31 => first | exact Or.inl ⟨by rfl, by intro w'; go_simp; first | done | rfl⟩
                case rm31 =>
                simp only [Act.put, List.setIfInBounds_toArray, List.set_cons_zero, List.set_cons_succ]
                refine anyT_take 2 67 ?rv32 #[true, true, true, false, false, false, false, false, false, false, false, false, false, false] rfl rfl rfl (by kernel_rfl) (by kernel_rfl) (by kernel_rfl) (fun _ _ _ h => h) (by kernel_rfl) (by decide) (by kernel_rfl) ?ry32 (⟨e1, e2, e3⟩) ?rm32
                case ry32 => first | exact Or.inl ⟨by rfl, by intro w' hw'; (try dsimp only at hw'); go_simp; first | done | rfl⟩
                case rm32 =>
                simp only [Act.put, List.setIfInBounds_toArray, List.set_cons_zero, List.set_cons_succ]
                refine anyT_put 3 68 ?rv33 #[true, true, true, true, false, false, false, false, false, false, false, false, false, false] rfl rfl rfl (by kernel_rfl) (by kernel_rfl) (by kernel_rfl) (fun _ _ _ h => h) (by decide) ?ry33 (fun _ => ⟨e1, e2, e3⟩) ?rm33
                case ry33 => first | exact Or.inl ⟨by rfl, by intro w'; go_simp; first | done | rfl⟩
                case rm33 =>
                simp only [Act.put, List.setIfInBounds_toArray, List.set_cons_zero, List.set_cons_succ]
                refine anyT_put 4 69 ?rv34 #[true, true, true, true, true, false, false, false, false, false, false, false, false, false] rfl rfl rfl (by kernel_rfl) (by kernel_rfl) (by kernel_rfl) (fun _ _ _ h => h) (by decide) ?ry34 (fun _ => ⟨e1, e2, e3⟩) ?rm34
                case ry34 => first | exact Or.inl ⟨by rfl, by intro w'; go_simp; first | done | rfl⟩
                case rm34 =>
                simp only [Act.put, List.setIfInBounds_toArray, List.set_cons_zero, List.set_cons_succ]
                refine anyT_take 5 70 ?rv35 #[true, true, true, true, true, true, false, false, false, false, false, false, false, false] rfl rfl rfl (by kernel_rfl) (by kernel_rfl) (by kernel_rfl) (fun _ _ _ h => h) (by kernel_rfl) (by decide) (by kernel_rfl) ?ry35 (⟨e1, e2, e3⟩) ?rm35
                case ry35 => first | exact Or.inl ⟨by rfl, by intro w' hw'; (try dsimp only at hw'); go_simp; first | done | rfl⟩
                case rm35 =>
                simp only [Act.put, List.setIfInBounds_toArray, List.set_cons_zero, List.set_cons_succ]
                refine anyT_put 6 71 ?rv36 #[true, true, true, true, true, true, true, false, false, false, false, false, false, false] rfl rfl rfl (by kernel_rfl) (by kernel_rfl) (by kernel_rfl) (fun _ _ _ h => h) (by decide) ?ry36 (fun _ => ⟨e1, e2, e3⟩) ?rm36
                case ry36 => first | exact Or.inl ⟨by rfl, by intro w'; go_simp; first | done | rfl⟩
                case rm36 =>
                simp only [Act.put, List.setIfInBounds_toArray, List.set_cons_zero, List.set_cons_succ]
                refine anyT_put 7 72 ?rv37 #[true, true, true, true, true, true, true, true, false, false, false, false, false, false] rfl rfl rfl (by kernel_rfl) (by kernel_rfl) (by kernel_rfl) (fun _ _ _ h => h) (by decide) ?ry37 (fun _ => ⟨e1, e2, e3⟩) ?rm37
                case ry37 => first | exact Or.inl ⟨by rfl, by intro w'; go_simp; first | done | rfl⟩
                case rm37 =>
                simp only [Act.put, List.setIfInBounds_toArray, List.set_cons_zero, List.set_cons_succ]
                refine anyT_put 8 73 ?rv38 #[true, true, true, true, true, true, true, true, true, false, false, false, false, false] rfl rfl rfl (by kernel_rfl) (by kernel_rfl) (by kernel_rfl) (fun _ _ _ h => h) (by decide) ?ry38 (fun _ => ⟨e1, e2, e3⟩) ?rm38
                case ry38 => first | exact Or.inl ⟨by rfl, by intro w'; go_simp; first | done | rfl⟩
                case rm38 =>
                simp only [Act.put, List.setIfInBounds_toArray, List.set_cons_zero, List.set_cons_succ]
                refine anyT_take 9 74 ?rv39 #[true, true, true, true, true, true, true, true, true, true, false, false, false, false] rfl rfl rfl (by kernel_rfl) (by kernel_rfl) (by kernel_rfl) (fun _ _ _ h => h) (by kernel_rfl) (by decide) (by kernel_rfl) ?ry39 (⟨e1, e2, e3⟩) ?rm39
                case ry39 => first | exact Or.inl ⟨by rfl, by intro w' hw'; (try dsimp only at hw'); go_simp; first | done | rfl⟩
                case rm39 =>
                simp only [Act.put, List.setIfInBounds_toArray, List.set_cons_zero, List.set_cons_succ]
                refine anyT_put 10 75 ?rv40 #[true, true, true, true, true, true, true, true, true, true, true, false, false, false] rfl rfl rfl (by kernel_rfl) (by kernel_rfl) (by kernel_rfl) (fun _ _ _ h => h) (by decide) ?ry40 (fun _ => ⟨e1, e2, e3⟩) ?rm40
                case ry40 => first | exact Or.inl ⟨by rfl, by intro w'; go_simp; first | done | rfl⟩
                case rm40 =>
                simp only [Act.put, List.setIfInBounds_toArray, List.set_cons_zero, List.set_cons_succ]
                refine anyT_one 11 #[true, true, true, true, true, true, true, true, true, true, true, true, false, false] (by kernel_rfl) rfl rfl (fun K hK => ?_)
                go_simp
                have k0 := A2.al (.cells #[.int .i64 (y + x)] 3)
                have k2 : (w1.alloc (.cells #[.int .i64 (y + x)] 3)).cell? ⟨bs, os + k, none⟩ = some (.int .i64 y) := (World.cell?_alloc_lt w1 _ ⟨bs, os + k, none⟩ (by show bs < w1.heap.size; have := hb.out.size; omega)).trans e2
                have k3 : (w1.alloc (.cells #[.int .i64 (y + x)] 3)).cell? ⟨b, off + k, none⟩ = some (.int .i64 x) := (World.cell?_alloc_lt w1 _ ⟨b, off + k, none⟩ (by show b < w1.heap.size; have := hb.out.size; omega)).trans e3
                refine hK.out _ _ (fun _ => ⟨k0.c1, k2, k3⟩) ?_
                clear hK K
                refine anyT_one 12 #[true, true, true, true, true, true, true, true, true, true, true, true, true, false] (by kernel_rfl) rfl rfl (fun K hK => ?_)
                refine app2_step 77 rfl rfl _ _ rfl _ v1.heap.size w1.heap.size u8 (U.take k) (.slice (some ⟨g1, 0, none⟩) (k + 1) gc1) (S.take k ++ [-x]) (y + x) k hTk2 rfl rfl ((hT1.symm.al _).dr) (heap_alloc_new w1 _) (by omega) (by simp; omega) ?_
                intro g2 gc2 w2 hT2 hB2
                have k4 := k0.dr.bel hB2 (by omega)
                have k5 : w2.cell? ⟨bs, os + k, none⟩ = some (.int .i64 y) := (hB2.cell (p := ⟨bs, os + k, none⟩) (by show bs < v1.heap.size; have := hb.out.size; omega)).trans k2
                have k6 : w2.cell? ⟨b, off + k, none⟩ = some (.int .i64 x) := (hB2.cell (p := ⟨b, off + k, none⟩) (by show b < v1.heap.size; have := hb.out.size; omega)).trans k3
                refine hK.out _ _ (fun _ => ⟨k4.c1, k5, k6⟩) ?_
                clear hK K
                simp only [Act.put, List.setIfInBounds_toArray, List.set_cons_zero, List.set_cons_succ]
                refine anyT_one 13 #[true, true, true, true, true, true, true, true, true, true, true, true, true, true] (by kernel_rfl) rfl rfl (fun K hK => ?_)
                go_simp
                refine hK.out _ _ (fun h => absurd h (by decide)) ?_
                clear hK K
                refine anyT_done (by kernel_rfl) ?_
                go_wp2_with fail
                refine ⟨⟨k + 1, by omega, by go_num, HJ1, ?_, ?_⟩, by simp [intOf]; omega⟩
                · rw [HSk.out.1, HSk.out.2, HV.out.1, HV.out.2]
                  exact hT2.symm
                · exact ((((HBx.out.alloc hvx _).trans hB1).alloc hv1 _).drew).trans hB2
        · obtain rfl : k = m := by omega
          rw [List.take_of_length_le (by omega), List.take_of_length_le (by omega)] at hT
          obtain ⟨g, gc, f1, fc, rfl, rfl, hG, hF⟩ := hT.out HSU.out.2.1 HSU.out.2.2
          have HGF : Hid (NewInts v1.heap.size wr g S ∧ NewInts v1.heap.size wr f1 U) := ⟨hG, hF⟩
          have a0 := A1.c0
          have a1 := A1.c1
          have a2 := A1.c2
          clear hT hG hF hlt
          go_wp2_with fail
          refine (fault_n g gc S k HSU.out.2.1 (by omega) wr.heap.size wr HGF.out.1.ints).mono ?_
          rintro e v9 ⟨rfl, hv9⟩
          obtain rfl := hv9.symm
          have HBig : Hid (tkBig n = false) := by
            show _ = _
            unfold tkBig
            rw [List.any_eq_false]
            intro y hy
            obtain ⟨j, hj, rfl⟩ := List.mem_iff_getElem.1 hy
            have := HJ.out j (by rw [HM.out]; exact hj)
            rw [← nth_get _ j hj]
            simp; omega
          by_cases hES : errOf S = 0
          · rw [hES]
            have HES : Hid (errOf S = 0) := hES
            have HE : Hid (tkE n c sz dz = 0) := tkE_zero.2 ⟨HF.out.1, by rw [← HM.out]; exact HL.out, HBig.out, by rw [← HSU.out.1.1]; exact hES⟩
            have HUb : Hid (∀ j, -8192 ≤ nth U j ∧ nth U j ≤ 8192) := fun j => by
              rw [HSU.out.1.2]
              by_cases hj : j < n.length
              · rw [tkU_nth _ _ hj]
                have h9 := HJ.out j (by rw [HM.out]; exact hj)
                have h8 := (errOf_zero.1 HF.out.2.1).2.1.nth j
                split <;> omega
              · have : nth (tkU sz n) j = 0 := by simp [nth, List.getElem?_eq_none (show (tkU sz n).length ≤ j by rw [tkU_length]; omega)]
                rw [this]; omega
            clear hES
            go_wp2_with fail
            refine (part_n c sa sc sz da dc dz g gc S f1 fc U k (prod S).toNat HSU.out.2.1 HSU.out.2.2 (by have := prod_nonneg (errOf_zero.1 HES.out).2.1; omega) HF.out.1 HES.out HL.out HUb.out wr ((HI.out.1.below HBw.out).mono HBw.out.size) ((HI.out.2.1.below HBw.out).mono HBw.out.size) HGF.out.1.ints HGF.out.2.ints _ rfl).mono ?_
            rintro e z ⟨xa, xc, ya, yc, rfl, hX, hY, hB⟩
            have HZ : Hid (NewInts wr.heap.size z xa S ∧ NewInts wr.heap.size z ya (ptD c sz dz S U) ∧ Below w.heap.size w z) := ⟨hX, hY, HBw.out.trans (hB.mono HBw.out.size)⟩
            have R2 : Hid (Abx z (w.heap.size + 1) (.bool false) (.slice none 0 0) (.slice none 0 0)) := R1.out.go hB
            have hz2 := R1.out.lt
            clear hX hY hB a0 a1 a2
            have r_0 := R2.out.c0
            have r_1 := R2.out.c1
            have r_2 := R2.out.c2
            have f_0 := R2.out.fr 0
            have f_1 := R2.out.fr 1
            have f_2 := R2.out.fr 2
            go_wp2_with fail
            have FF := R2.out.set3 (.bool c) (.slice xa k xc) (.slice ya (ptD c sz dz S U).length yc)
            have q0 := FF.c0
            have q1 := FF.c1
            have q2 := FF.c2
            refine bodyPost_ret (v := .tuple #[.agg #[.bool c, .slice xa k xc, .slice ya (ptD c sz dz S U).length yc], .int .i64 0]) (by simp [results, Tryd.results8, go_sem, q0, q1, q2]) rfl ?_
            have hX := (HZ.out.1.set3 (b := w.heap.size + 1) (by omega) (.bool c) (.slice xa k xc) (.slice ya (ptD c sz dz S U).length yc)).low (lo' := w.heap.size) (by omega)
            have hY := (HZ.out.2.1.set3 (b := w.heap.size + 1) (by omega) (.bool c) (.slice xa k xc) (.slice ya (ptD c sz dz S U).length yc)).low (lo' := w.heap.size) (by omega)
            have hZ := bel_set3 HZ.out.2.2 (b := w.heap.size + 1) (by omega) (.bool c) (.slice xa k xc) (.slice ya (ptD c sz dz S U).length yc)
            have hUR := UR.ok (c := c) (xc := xc) (yc := yc) HE.out hX hY hZ
            have hE2 := HSU.out
            obtain ⟨⟨rfl, rfl⟩, hS2, _⟩ := hE2
            rw [hS2] at hUR
            exact hUR
          · have t0 : (errOf S != 0) = true := by simpa using hES
            have HE : Hid (tkE n c sz dz = errOf S) := by show _ = _; unfold tkE; rw [if_neg (by simpa using HF.out.1), if_neg (by rw [← HM.out, HL.out]; simp), if_neg (by rw [HBig.out]; decide), HSU.out.1.1]
            have HES : Hid (errOf S ≠ 0) := hES
            clear hES
            have r_0 := R1.out.c0
            have r_1 := R1.out.c1
            have r_2 := R1.out.c2
            have f_0 := R1.out.fr 0
            have f_1 := R1.out.fr 1
            have f_2 := R1.out.fr 2
            go_wp2_with fail
            have FF := R1.out.set3 (.bool false) (.slice none 0 0) (.slice none 0 0)
            have q0 := FF.c0
            have q1 := FF.c1
            have q2 := FF.c2
            exact bodyPost_ret (v := .tuple #[.agg #[.bool false, .slice none 0 0, .slice none 0 0], .int .i64 (errOf S)]) (by simp [results, Tryd.results8, go_sem, q0, q1, q2]) rfl (UR.no HE.out HES.out (bel_set3 HBw.out (by omega) _ _ _))
    · have tl : ((m : Int) != (sz.length : Int)) = true := by simp; omega
      have HE : Hid (tkE n c sz dz = 4) := by show _ = _; unfold tkE; rw [if_neg (by simpa using HF.out.1), if_pos (by rw [← HM.out]; exact hl)]
      clear hl
      have r_0 := HR.out.c0
      have r_1 := HR.out.c1
      have r_2 := HR.out.c2
      have f_0 := HR.out.fr 0
      have f_1 := HR.out.fr 1
      have f_2 := HR.out.fr 2
      go_wp2_with fail
      have FF := HR.out.set3 (.bool false) (.slice none 0 0) (.slice none 0 0)
      have q0 := FF.c0
      have q1 := FF.c1
      have q2 := FF.c2
      exact bodyPost_ret (v := .tuple #[.agg #[.bool false, .slice none 0 0, .slice none 0 0], .int .i64 4]) (by simp [results, Tryd.results8, go_sem, q0, q1, q2]) rfl (UR.no HE.out (by decide) (bel_set3 hb.out (by omega) _ _ _))
  · have t0 : (flawE c sz dz != 0) = true := by simpa using hf
    have HE : Hid (tkE n c sz dz = flawE c sz dz) := by show _ = _; unfold tkE; rw [if_pos hf]
    have HF : Hid (flawE c sz dz ≠ 0) := hf
    clear hf
    have r_0 := HR.out.c0
    have r_1 := HR.out.c1
    have r_2 := HR.out.c2
    have f_0 := HR.out.fr 0
    have f_1 := HR.out.fr 1
    have f_2 := HR.out.fr 2
    go_wp2_with fail
    have FF := HR.out.set3 (.bool false) (.slice none 0 0) (.slice none 0 0)
    have q0 := FF.c0
    have q1 := FF.c1
    have q2 := FF.c2
    exact bodyPost_ret (v := .tuple #[.agg #[.bool false, .slice none 0 0, .slice none 0 0], .int .i64 (flawE c sz dz)]) (by simp [results, Tryd.results8, go_sem, q0, q1, q2]) rfl (UR.no HE.out HF.out (bel_set3 hb.out (by omega) _ _ _))
end Go.Proofs.YtldjgacnjogbnaaDoor
