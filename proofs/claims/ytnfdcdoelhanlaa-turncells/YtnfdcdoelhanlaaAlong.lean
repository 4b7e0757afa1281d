/-
  Cells along one axis, as the program tells them: its contract over whatever is asked of an index.
-/
import Derived.Test.YtnfdcdoelhanlaaStep
import Derived.Test.YtnfdcdoelhanlaaClone
import Derived.Test.YtnfdcdoelhanlaaCycd
import Derived.Test.YtnfdcdoelhanlaaBase
namespace Go.Proofs.Ytnfdcdoelhanlaa
open Go.RowKit
set_option linter.unusedVariables false

theorem UA.mkno {e : Int} {c : Bool} {S D : List Int} {w w' : World} {e' : Int} (h : e = e') (h0 : e' ≠ 0) (hB : Below w.heap.size w w') : UA e (onc e c) (onl e S) (onl e D) w (.returned (.tuple #[.agg #[.bool false, .slice none 0 0, .slice none 0 0], .iface 60 (.int .i64 e')])) w' := by
  subst h
  unfold UA
  rw [onc_no h0, onl_no h0, onl_no h0, errV_pos h0]
  exact ⟨none, 0, none, 0, rfl, ⟨.inl rfl, Nat.le_refl _⟩, .inl rfl, hB⟩
theorem UA.mkok {e : Int} {c : Bool} {S D : List Int} {w w' : World} {xa : Option Addr} {xc : Nat} {ya : Option Addr} {yc : Nat} (h : e = 0) (hX : NewC w.heap.size w' xa S xc) (hY : NewInts w.heap.size w' ya D) (hB : Below w.heap.size w w') :
    UA e (onc e c) (onl e S) (onl e D) w (.returned (.tuple #[.agg #[.bool c, .slice xa S.length xc, .slice ya D.length yc], .nilIface])) w' := by
  subst h
  exact ⟨xa, xc, ya, yc, rfl, hX, hY, hB⟩
theorem axE_flaw {x : Int} {c : Bool} {sz dz : List Int} (h : flawE c sz dz ≠ 0) : axE x c sz dz = flawE c sz dz := by unfold axE; rw [if_pos h]
theorem axE_index {x : Int} {c : Bool} {sz dz : List Int} (h : flawE c sz dz = 0) (k : x < 0 ∨ (sz.length : Int) ≤ x) : axE x c sz dz = 5 := by unfold axE; rw [if_neg (by simpa using h), if_pos k]
set_option maxRecDepth 100000 in
set_option maxHeartbeats 4000000 in
theorem along_any (x : Int) (c : Bool) (sa : Option Addr) (sc : Nat) (sz : List Int) (da : Option Addr) (dc : Nat) (dz : List Int) (f : Nat) (cs : List Value) (hE : ∀ args w, (callFunc f args).run Try.prog w = .ok (.enter f args) w) (g : Int → Int) (hx : In64 x) (h1 : sz.length ≤ 9223372036854775807) (h2 : dz.length ≤ 9223372036854775807) (w : World) (hs : IsC w.heap.size w sa sz sc) (hd : IsInts w.heap.size w da dz)
    (hg : ∀ i, 0 ≤ i → i < nth sz x.toNat → 0 ≤ g i ∧ g i < nth sz x.toNat)
    (H : ∀ i : Nat, (i : Int) < nth sz x.toNat → nth sz x.toNat ≤ 4096 → ∀ w', Below w.heap.size w w' → Calls Try.prog f (.int .i64 (i : Nat) :: .int .i64 (nth sz x.toNat) :: cs).toArray w' (fun e w'' => e = .returned (.int .i64 (g i)) ∧ w'' = w')) :
    Calls Try.prog 14 #[.int .i64 x, .agg #[.bool c, .slice sa sz.length sc, .slice da dz.length dc], .func (.func f) #[] cs.toArray] w (UA (axE x c sz dz) (onc (axE x c sz dz) c) (axS5 x c sz dz) (onl (axE x c sz dz) (GA sz dz sz (mvT x.toNat g))) w) := by
  have HI : Hid (IsC w.heap.size w sa sz sc ∧ IsInts w.heap.size w da dz) := ⟨hs, hd⟩
  have HH : Hid (∀ i : Nat, (i : Int) < nth sz x.toNat → nth sz x.toNat ≤ 4096 → ∀ w', Below w.heap.size w w' → Calls Try.prog f (.int .i64 (i : Nat) :: .int .i64 (nth sz x.toNat) :: cs).toArray w' (fun e w'' => e = .returned (.int .i64 (g i)) ∧ w'' = w')) := H
  have HG : Hid (∀ i, 0 ≤ i → i < nth sz x.toNat → 0 ≤ g i ∧ g i < nth sz x.toNat) := hg
  have HX : Hid (In64 x) := hx
  clear hs hd H hg hx
  have HB0 : Hid (Below w.heap.size w ((w.alloc (.cells #[.bool c, .slice sa sz.length sc, .slice da dz.length dc] 25)).alloc (.cells #[.bool false, .slice none 0 0, .slice none 0 0] 25))) := ((Below.refl _ w).alloc (Nat.le_refl _) _).alloc (by simp) _
  have pa := (Abx.new w (.bool c) (.slice sa sz.length sc) (.slice da dz.length dc)).al (.cells #[.bool false, .slice none 0 0, .slice none 0 0] 25)
  have pr := Abx.new1 w (.cells #[.bool c, .slice sa sz.length sc, .slice da dz.length dc] 25) (.bool false) (.slice none 0 0) (.slice none 0 0)
  have p0 := pa.c0
  have p1 := pa.c1
  have p2 := pa.c2
  by_cases h3 : flawE c sz dz = 0
  · have H3 : Hid (flawE c sz dz = 0) := h3
    have HL : Hid (sz.length ≤ 6 ∧ dz.length ≤ 4096) := flawE_short h3
    clear h3
    go_enter Try.func14, Try.ntmps14
    go_wp2_with fail
    refine (check_ok c sa sc sz da dc dz h1 h2 _ ((HI.out.1.1.below HB0.out).mono HB0.out.size) ((HI.out.2.below HB0.out).mono HB0.out.size) H3.out).mono ?_
    rintro e v1 ⟨rfl, hC⟩
    have HB1 : Hid (Below w.heap.size w v1) := HB0.out.trans (hC.mono HB0.out.size)
    have HP : Hid (Abx v1 w.heap.size (.bool c) (.slice sa sz.length sc) (.slice da dz.length dc)) := pa.go hC
    have HR : Hid (Abx v1 (w.heap.size + 1) (.bool false) (.slice none 0 0) (.slice none 0 0)) := pr.go hC
    clear hC pa pr p0 p1 p2 HB0
    have p0 := HP.out.c0
    have p1 := HP.out.c1
    have p2 := HP.out.c2
    by_cases hx0 : x < 0
    · have HE : Hid (axE x c sz dz = 5) := axE_index H3.out (.inl hx0)
      have r0 := HR.out.c0
      have r1 := HR.out.c1
      have r2 := HR.out.c2
      have f0 := HR.out.fr 0
      have f1 := HR.out.fr 1
      have f2 := HR.out.fr 2
      go_wp2_with fail
      have F := HR.out.set3 (.bool false) (.slice none 0 0) (.slice none 0 0)
      have q0 := F.c0
      have q1 := F.c1
      have q2 := F.c2
      exact bodyPost_ret (v := .tuple #[.agg #[.bool false, .slice none 0 0, .slice none 0 0], .iface 60 (.int .i64 5)]) (by simp [results, Try.results14, go_sem, q0, q1, q2]) rfl (UA.mkno HE.out (by decide) (bel_set3 HB1.out (by omega) _ _ _))
    · by_cases hx1 : (sz.length : Int) ≤ x
      · have HE : Hid (axE x c sz dz = 5) := axE_index H3.out (.inr hx1)
        have r0 := HR.out.c0
        have r1 := HR.out.c1
        have r2 := HR.out.c2
        have f0 := HR.out.fr 0
        have f1 := HR.out.fr 1
        have f2 := HR.out.fr 2
        go_wp2_with fail
        have F := HR.out.set3 (.bool false) (.slice none 0 0) (.slice none 0 0)
        have q0 := F.c0
        have q1 := F.c1
        have q2 := F.c2
        exact bodyPost_ret (v := .tuple #[.agg #[.bool false, .slice none 0 0, .slice none 0 0], .iface 60 (.int .i64 5)]) (by simp [results, Try.results14, go_sem, q0, q1, q2]) rfl (UA.mkno HE.out (by decide) (bel_set3 HB1.out (by omega) _ _ _))
      · obtain ⟨xn, rfl⟩ : ∃ xn : Nat, x = (xn : Int) := ⟨x.toNat, by omega⟩
        have hxl : xn < sz.length := by omega
        have HE : Hid (axE (xn : Int) c sz dz = 0) := axE_zero.2 ⟨H3.out, by omega, by omega⟩
        have HF : Hid (errOf sz = 0 ∧ (dz.length : Int) = prod sz) := ⟨(flawE_zero H3.out).1, (flawE_zero H3.out).2.1⟩
        rw [Int.toNat_natCast] at HH HG ⊢
        clear hx0
        obtain ⟨bs, os, rfl, hbs, hcS⟩ := (HI.out.1.1.below HB1.out).at hxl
        have cs1 := hcS xn hxl
        clear hcS
        go_wp2_with fail
        refine anyT_begin 10 (fun w' => w'.cell? ⟨w.heap.size, 1, none⟩ = some (.slice (some ⟨bs, os, none⟩) sz.length sc) ∧ w'.cell? ⟨bs, os + xn, none⟩ = some (.int .i64 (nth sz xn))) 11 #[false, false, false, false, false, false, false, false, false, false, false] (by kernel_rfl) rfl rfl ?_
        refine anyT_put 0 31 ?rv10 #[true, false, false, false, false, false, false, false, false, false, false] rfl rfl rfl (by kernel_rfl) (by kernel_rfl) (by kernel_rfl) (fun _ _ _ h => h) (by decide) ?ry10 (fun _ => ⟨p1, cs1⟩) ?rm10
        case ry10 => first | exact Or.inl ⟨by rfl, by intro w'; go_simp; first | done | rfl⟩
        case rm10 =>
        simp only [Act.put, List.setIfInBounds_toArray, List.set_cons_zero, List.set_cons_succ]
        refine anyT_take 1 32 ?rv11 #[true, true, false, false, false, false, false, false, false, false, false] rfl rfl rfl (by kernel_rfl) (by kernel_rfl) (by kernel_rfl) (fun _ _ _ h => h) (by kernel_rfl) (by decide) (by kernel_rfl) ?ry11 (⟨p1, cs1⟩) ?rm11
        case ry11 => first | exact Or.inl ⟨by rfl, by intro w' hw'; (try dsimp only at hw'); go_simp; first | done | rfl⟩
        case rm11 =>
        simp only [Act.put, List.setIfInBounds_toArray, List.set_cons_zero, List.set_cons_succ]
        refine anyT_put 2 33 ?rv12 #[true, true, true, false, false, false, false, false, false, false, false] rfl rfl rfl (by kernel_rfl) (by kernel_rfl) (by kernel_rfl) (fun _ _ _ h => h) (by decide) ?ry12 (fun _ => ⟨p1, cs1⟩) ?rm12
        case ry12 => first | exact Or.inl ⟨by rfl, by intro w'; go_simp; first | done | rfl⟩
        case rm12 =>
        simp only [Act.put, List.setIfInBounds_toArray, List.set_cons_zero, List.set_cons_succ]
        refine anyT_put 3 34 ?rv13 #[true, true, true, true, false, false, false, false, false, false, false] rfl rfl rfl (by kernel_rfl) (by kernel_rfl) (by kernel_rfl) (fun _ _ _ h => h) (by decide) ?ry13 (fun _ => ⟨p1, cs1⟩) ?rm13
        case ry13 => first | exact Or.inl ⟨by rfl, by intro w'; go_simp; first | done | rfl⟩
        case rm13 =>
        simp only [Act.put, List.setIfInBounds_toArray, List.set_cons_zero, List.set_cons_succ]
        refine anyT_take 4 35 ?rv14 #[true, true, true, true, true, false, false, false, false, false, false] rfl rfl rfl (by kernel_rfl) (by kernel_rfl) (by kernel_rfl) (fun _ _ _ h => h) (by kernel_rfl) (by decide) (by kernel_rfl) ?ry14 (⟨p1, cs1⟩) ?rm14
        case ry14 => first | exact Or.inl ⟨by rfl, by intro w' hw'; (try dsimp only at hw'); go_simp; first | done | rfl⟩
        case rm14 =>
        simp only [Act.put, List.setIfInBounds_toArray, List.set_cons_zero, List.set_cons_succ]
        refine anyT_put 5 36 ?rv15 #[true, true, true, true, true, true, false, false, false, false, false] rfl rfl rfl (by kernel_rfl) (by kernel_rfl) (by kernel_rfl) (fun _ _ _ h => h) (by decide) ?ry15 (fun _ => ⟨p1, cs1⟩) ?rm15
        case ry15 => first | exact Or.inl ⟨by rfl, by intro w'; go_simp; first | done | rfl⟩
        case rm15 =>
        simp only [Act.put, List.setIfInBounds_toArray, List.set_cons_zero, List.set_cons_succ]
        refine anyT_take 6 37 ?rv16 #[true, true, true, true, true, true, true, false, false, false, false] rfl rfl rfl (by kernel_rfl) (by kernel_rfl) (by kernel_rfl) (fun _ _ _ h => h) (by kernel_rfl) (by decide) (by kernel_rfl) ?ry16 (⟨p1, cs1⟩) ?rm16
        case ry16 => first | exact Or.inl ⟨by rfl, by intro w' hw'; (try dsimp only at hw'); go_simp; first | done | rfl⟩
        case rm16 =>
        simp only [Act.put, List.setIfInBounds_toArray, List.set_cons_zero, List.set_cons_succ]
        refine anyT_put 7 38 ?rv17 #[true, true, true, true, true, true, true, true, false, false, false] rfl rfl rfl (by kernel_rfl) (by kernel_rfl) (by kernel_rfl) (fun _ _ _ h => h) (by decide) ?ry17 (fun _ => ⟨p1, cs1⟩) ?rm17
        case ry17 => first | exact Or.inl ⟨by rfl, by intro w'; go_simp; first | done | rfl⟩
        case rm17 =>
        simp only [Act.put, List.setIfInBounds_toArray, List.set_cons_zero, List.set_cons_succ]
        refine anyT_one 8 #[true, true, true, true, true, true, true, true, true, false, false] (by kernel_rfl) rfl rfl (fun K hK => ?_)
        go_simp
        go_wp2_with (go_at_call 28; refine (step_any (some ⟨bs, os, none⟩) sc sz xn hxl HF.out.1 v1.heap.size v1.drew ((HI.out.1.below HB1.out).mono HB1.out.size)).mono ?_; rintro e w2 ⟨rfl, rfl⟩)
        refine hK.out _ _ (fun _ => ⟨p1, cs1⟩) ?_
        clear hK K
        refine anyT_one 9 #[true, true, true, true, true, true, true, true, true, true, false] (by kernel_rfl) rfl rfl (fun K hK => ?_)
        go_simp
        refine hK.out _ _ (fun _ => ⟨p1, cs1⟩) ?_
        clear hK K
        refine anyT_one 10 #[true, true, true, true, true, true, true, true, true, true, true] (by kernel_rfl) rfl rfl (fun K hK => ?_)
        go_simp
        refine hK.out _ _ (fun h => absurd h (by decide)) ?_
        clear hK K
        refine anyT_done (by kernel_rfl) ?_
        obtain ⟨v, hv⟩ : ∃ v, v = v1.drew := ⟨_, rfl⟩
        rw [← hv]
        have HB2 : Hid (Below w.heap.size w v) := by rw [hv]; exact HB1.out.drew
        have HP2 : Hid (Abx v w.heap.size (.bool c) (.slice (some ⟨bs, os, none⟩) sz.length sc) (.slice da dz.length dc)) := by rw [hv]; exact HP.out
        have HR2 : Hid (Abx v (w.heap.size + 1) (.bool false) (.slice none 0 0) (.slice none 0 0)) := by rw [hv]; exact HR.out
        clear hv HP HR HB1 p0 p1 p2 cs1
        obtain ⟨D, hD⟩ : ∃ D, D = GA sz dz sz (mvT xn g) := ⟨_, rfl⟩
        have HD : Hid (D = GA sz dz sz (mvT xn g) ∧ D.length = dz.length) := ⟨hD, by rw [hD, GA_length]; have := HF.out.2; omega⟩
        obtain ⟨n, hn⟩ : ∃ n, n = dz.length := ⟨_, rfl⟩
        have HN : Hid (n = dz.length ∧ n ≤ 4096) := ⟨hn, by rw [hn]; exact HL.out.2⟩
        obtain ⟨st, hst⟩ : ∃ st, st = stp sz xn := ⟨_, rfl⟩
        have HST : Hid (st = stp sz xn) := hst
        obtain ⟨L, hL⟩ : ∃ L, L = nth sz xn := ⟨_, rfl⟩
        have HLL : Hid (L = nth sz xn) := hL
        have p2 := HP2.out.c2
        rw [← hn] at p2
        have hmk := run_make_row' (P := Try.prog) 23 3 (.int .i64 0) 8 Try.underlying23 Try.infoInt rfl .i64 .i64 n (by have := HN.out.2; omega) (by have := HN.out.2; omega)
        rw [← hst, ← hL]
        rw [Int.toNat_natCast]
        clear hst hL hn hD
        go_wp2_with fail
        clear hmk p2
        go_loopw [46] (fun i wr => ∃ k : Nat, k ≤ n ∧ i = .int .i64 k ∧ wr.rowIs v.heap.size 3 n (upTo (nth D) k) ∧ Abx wr w.heap.size (.bool c) (.slice (some ⟨bs, os, none⟩) sz.length sc) (.slice da n dc) ∧ Abx wr (w.heap.size + 1) (.bool false) (.slice none 0 0) (.slice none 0 0) ∧ Below w.heap.size w wr) (fun i _ => n - (intOf i).toNat)
        case atStart =>
          refine ⟨0, Nat.zero_le _, rfl, (World.rowIs_made v (.int .i64 0) n 3).congr (fun j _ => by simp [upTo]), ?_, HR2.out.al _, HB2.out.alloc HB2.out.size _⟩
          rw [HN.out.1]; exact HP2.out.al _
        case round =>
          obtain ⟨k, hk, rfl, hrow, hA, hR, hB⟩ := hrel
          have hvR : w.heap.size + 1 < v.heap.size := HR2.out.lt
          by_cases hlt : k < n
          · obtain ⟨y1, y2, y3, y4, ⟨i, y5, y6, y7, y8, y9, y10, y11⟩, m, y12, y13, y14⟩ := mv_round (g := g) HF.out.1 HF.out.2 hxl (j := k) (by rw [← HN.out.1]; exact hlt) HG.out
            rw [← HST.out] at y1 y2 y5 y7 y8 y9
            rw [← HLL.out] at y3 y4 y5 y6 y11
            rw [← HN.out.1] at y12
            have HV : Hid (nth dz m = nth D k) := by show _ = _; rw [HD.out.1]; exact y14
            have HM : Hid (m < dz.length) := by rw [← HN.out.1]; exact y12
            have hsum : (k : Int) + (g i - i) * st = m := by rw [← y7, y13]
            obtain ⟨G, hG⟩ : ∃ G, G = g i := ⟨_, rfl⟩
            rw [← hG] at y8 y9 y10 y11 hsum
            obtain ⟨P, hP⟩ : ∃ P, P = (G - i) * st := ⟨_, rfl⟩
            rw [← hP] at y8 y9 hsum
            have hn5 : n ≤ 4096 := HN.out.2
            have hw : IntKind.i64.wrap ((k : Int) + IntKind.i64.wrap (IntKind.i64.wrap (G - (i : Int)) * st)) = (m : Int) := by
              rw [IntWalk.i64_in (G - (i : Int)) (by omega), ← hP, IntWalk.i64_in P (by omega), hsum]; exact IntWalk.i64_in _ (by omega)
            have HGi : Hid (g i = G) := hG.symm
            have y10' : 0 ≤ G := y10
            obtain ⟨bd, od, rfl, hbd, hcD⟩ := (HI.out.2.below hB).at HM.out
            have cd := hcD m HM.out
            have HC : Hid (Calls Try.prog f (.int .i64 (i : Nat) :: .int .i64 L :: cs).toArray wr.drew (fun e w'' => e = .returned (.int .i64 G) ∧ w'' = wr.drew)) := by
              have h := HH.out i (by rw [← HLL.out]; exact y6) (by rw [← HLL.out]; exact y4) wr.drew hB.drew
              rw [← HLL.out, ← hG] at h
              exact h
            have HQ : Hid (wr.rowIs v.heap.size 3 n (upTo (nth D) k) ∧ Abx wr w.heap.size (.bool c) (.slice (some ⟨bs, os, none⟩) sz.length sc) (.slice (some ⟨bd, od, none⟩) n dc) ∧ Abx wr (w.heap.size + 1) (.bool false) (.slice none 0 0) (.slice none 0 0) ∧ Below w.heap.size w wr) := ⟨hrow, hA, hR, hB⟩
            have e2 := hA.c2
            have c2 := hrow.cell hlt
            have f2 := hrow.frozen k
            clear hrow hA hR hB hcD y7 y13 y14 hP hG y10
            have hn4 : n ≤ 4096 := HN.out.2
            have HQI : Hid ((wrap64 ((k : Int) / st)).tmod L = (i : Int)) := by
              have e0 : 0 ≤ (k : Int) / st := Int.ediv_nonneg (by omega) (by omega)
              have e1 : (k : Int) / st ≤ k := Int.ediv_le_self _ (by omega)
              show _ = _
              rw [wrap64_small (by omega) (by omega), Int.tmod_eq_emod_of_nonneg e0, y5]
            clear y5
            go_wp2_with fail
            rw [HQI.out]
            refine anyT_begin 16 (fun w' => w'.cell? ⟨w.heap.size, 2, none⟩ = some (.slice (some ⟨bd, od, none⟩) n dc) ∧ w'.cell? ⟨bd, od + m, none⟩ = some (.int .i64 (nth dz m))) 18 #[false, false, false, false, false, false, false, false, false, false, false, false, false, false, false, false, false, false] (by kernel_rfl) rfl rfl ?_
            refine anyT_put 0 54 ?rv21 #[true, false, false, false, false, false, false, false, false, false, false, false, false, false, false, false, false, false] rfl rfl rfl (by kernel_rfl) (by kernel_rfl) (by kernel_rfl) (fun _ _ _ h => h) (by decide) ?ry21 (fun _ => ⟨e2, cd⟩) ?rm21
            case ry21 => first | exact Or.inl ⟨by rfl, by intro w'; go_simp; first | done | rfl⟩
            case rm21 =>
            simp only [Act.put, List.setIfInBounds_toArray, List.set_cons_zero, List.set_cons_succ]
            refine anyT_put 1 55 ?rv22 #[true, true, false, false, false, false, false, false, false, false, false, false, false, false, false, false, false, false] rfl rfl rfl (by kernel_rfl) (by kernel_rfl) (by kernel_rfl) (fun _ _ _ h => h) (by decide) ?ry22 (fun _ => ⟨e2, cd⟩) ?rm22
            case ry22 => first | exact Or.inl ⟨by rfl, by intro w'; go_simp; first | done | rfl⟩
            case rm22 =>
            simp only [Act.put, List.setIfInBounds_toArray, List.set_cons_zero, List.set_cons_succ]
            refine anyT_put 2 56 ?rv23 #[true, true, true, false, false, false, false, false, false, false, false, false, false, false, false, false, false, false] rfl rfl rfl (by kernel_rfl) (by kernel_rfl) (by kernel_rfl) (fun _ _ _ h => h) (by decide) ?ry23 (fun _ => ⟨e2, cd⟩) ?rm23
            case ry23 => first | exact Or.inl ⟨by rfl, by intro w'; go_simp; first | done | rfl⟩
            case rm23 =>
            simp only [Act.put, List.setIfInBounds_toArray, List.set_cons_zero, List.set_cons_succ]
            refine anyT_take 3 57 ?rv24 #[true, true, true, true, false, false, false, false, false, false, false, false, false, false, false, false, false, false] rfl rfl rfl (by kernel_rfl) (by kernel_rfl) (by kernel_rfl) (fun _ _ _ h => h) (by kernel_rfl) (by decide) (by kernel_rfl) ?ry24 (⟨e2, cd⟩) ?rm24
            case ry24 => first | exact Or.inl ⟨by rfl, by intro w' hw'; (try dsimp only at hw'); go_simp; first | done | rfl⟩
            case rm24 =>
            simp only [Act.put, List.setIfInBounds_toArray, List.set_cons_zero, List.set_cons_succ]
            refine anyT_put 4 58 ?rv25 #[true, true, true, true, true, false, false, false, false, false, false, false, false, false, false, false, false, false] rfl rfl rfl (by kernel_rfl) (by kernel_rfl) (by kernel_rfl) (fun _ _ _ h => h) (by decide) ?ry25 (fun _ => ⟨e2, cd⟩) ?rm25
            case ry25 => first | exact Or.inl ⟨by rfl, by intro w'; go_simp; first | done | rfl⟩
            case rm25 =>
            simp only [Act.put, List.setIfInBounds_toArray, List.set_cons_zero, List.set_cons_succ]
            refine anyT_put 5 59 ?rv26 #[true, true, true, true, true, true, false, false, false, false, false, false, false, false, false, false, false, false] rfl rfl rfl (by kernel_rfl) (by kernel_rfl) (by kernel_rfl) (fun _ _ _ h => h) (by decide) ?ry26 (fun _ => ⟨e2, cd⟩) ?rm26
            case ry26 => first | exact Or.inl ⟨by rfl, by intro w'; go_simp; first | done | rfl⟩
            case rm26 =>
            simp only [Act.put, List.setIfInBounds_toArray, List.set_cons_zero, List.set_cons_succ]
            refine anyT_put 6 60 ?rv27 #[true, true, true, true, true, true, true, false, false, false, false, false, false, false, false, false, false, false] rfl rfl rfl (by kernel_rfl) (by kernel_rfl) (by kernel_rfl) (fun _ _ _ h => h) (by decide) ?ry27 (fun _ => ⟨e2, cd⟩) ?rm27
            case ry27 => first | exact Or.inl ⟨by rfl, by intro w'; go_simp; first | done | rfl⟩
            case rm27 =>
            simp only [Act.put, List.setIfInBounds_toArray, List.set_cons_zero, List.set_cons_succ]
            refine anyT_put 7 61 ?rv28 #[true, true, true, true, true, true, true, true, false, false, false, false, false, false, false, false, false, false] rfl rfl rfl (by kernel_rfl) (by kernel_rfl) (by kernel_rfl) (fun _ _ _ h => h) (by decide) ?ry28 (fun _ => ⟨e2, cd⟩) ?rm28
            case ry28 => first | exact Or.inl ⟨by rfl, by intro w'; go_simp; first | done | rfl⟩
            case rm28 =>
            simp only [Act.put, List.setIfInBounds_toArray, List.set_cons_zero, List.set_cons_succ]
            refine anyT_put 9 63 ?rv29 #[true, true, true, true, true, true, true, true, false, true, false, false, false, false, false, false, false, false] rfl rfl rfl (by kernel_rfl) (by kernel_rfl) (by kernel_rfl) (fun _ _ _ h => h) (by decide) ?ry29 (fun _ => ⟨e2, cd⟩) ?rm29
            case ry29 => first | exact Or.inl ⟨by rfl, by intro w'; go_simp; first | done | rfl⟩
            case rm29 =>
            simp only [Act.put, List.setIfInBounds_toArray, List.set_cons_zero, List.set_cons_succ]
            refine anyT_put 11 65 ?rv30 #[true, true, true, true, true, true, true, true, false, true, false, true, false, false, false, false, false, false] rfl rfl rfl (by kernel_rfl) (by kernel_rfl) (by kernel_rfl) (fun _ _ _ h => h) (by decide) ?ry30 (fun _ => ⟨e2, cd⟩) ?rm30
            case ry30 => first | exact Or.inl ⟨by rfl, by intro w'; go_simp; first | done | rfl⟩
            case rm30 =>
            simp only [Act.put, List.setIfInBounds_toArray, List.set_cons_zero, List.set_cons_succ]
            refine anyT_one 8 #[true, true, true, true, true, true, true, true, true, true, false, true, false, false, false, false, false, false] (by kernel_rfl) rfl rfl (fun K hK => ?_)
            go_simp
            go_wp2_with fail
            refine HC.out.mono ?_
            rintro e w2 ⟨rfl, rfl⟩
            refine hK.out _ _ (fun _ => ⟨e2, cd⟩) ?_
            clear hK K
            refine anyT_put 10 64 ?rv32 #[true, true, true, true, true, true, true, true, true, true, true, true, false, false, false, false, false, false] rfl rfl rfl (by kernel_rfl) (by kernel_rfl) (by kernel_rfl) (fun _ _ _ h => h) (by decide) ?ry32 (fun _ => ⟨e2, cd⟩) ?rm32
            case ry32 => first | exact Or.inl ⟨by rfl, by intro w'; go_simp; first | done | rfl⟩
            case rm32 =>
            simp only [Act.put, List.setIfInBounds_toArray, List.set_cons_zero, List.set_cons_succ]
            refine anyT_put 12 66 ?rv33 #[true, true, true, true, true, true, true, true, true, true, true, true, true, false, false, false, false, false] rfl rfl rfl (by kernel_rfl) (by kernel_rfl) (by kernel_rfl) (fun _ _ _ h => h) (by decide) ?ry33 (fun _ => ⟨e2, cd⟩) ?rm33
            case ry33 => first | exact Or.inl ⟨by rfl, by intro w'; go_simp; first | done | rfl⟩
            case rm33 =>
            simp only [Act.put, List.setIfInBounds_toArray, List.set_cons_zero, List.set_cons_succ]
            refine anyT_put 13 67 ?rv34 #[true, true, true, true, true, true, true, true, true, true, true, true, true, true, false, false, false, false] rfl rfl rfl (by kernel_rfl) (by kernel_rfl) (by kernel_rfl) (fun _ _ _ h => h) (by decide) ?ry34 (fun _ => ⟨e2, cd⟩) ?rm34
            case ry34 => first | exact Or.inl ⟨by rfl, by intro w'; go_simp; first | done | rfl⟩
            case rm34 =>
            simp only [Act.put, List.setIfInBounds_toArray, List.set_cons_zero, List.set_cons_succ]
            refine anyT_put 14 68 ?rv35 #[true, true, true, true, true, true, true, true, true, true, true, true, true, true, true, false, false, false] rfl rfl rfl (by kernel_rfl) (by kernel_rfl) (by kernel_rfl) (fun _ _ _ h => h) (by decide) ?ry35 (fun _ => ⟨e2, cd⟩) ?rm35
            case ry35 => first | exact Or.inl ⟨by rfl, by intro w'; go_simp; first | done | rfl⟩
            case rm35 =>
            simp only [Act.put, List.setIfInBounds_toArray, List.set_cons_zero, List.set_cons_succ]
            refine anyT_take 15 69 ?rv36 #[true, true, true, true, true, true, true, true, true, true, true, true, true, true, true, true, false, false] rfl rfl rfl (by kernel_rfl) (by kernel_rfl) (by kernel_rfl) (fun _ _ _ h => h) (by kernel_rfl) (by decide) (by kernel_rfl) ?ry36 (⟨e2, cd⟩) ?rm36
            case ry36 => first | exact Or.inl ⟨by rfl, by intro w' hw'; (try dsimp only at hw'); go_simp; first | done | rfl⟩
            case rm36 =>
            simp only [Act.put, List.setIfInBounds_toArray, List.set_cons_zero, List.set_cons_succ]
            refine anyT_one 16 #[true, true, true, true, true, true, true, true, true, true, true, true, true, true, true, true, true, false] (by kernel_rfl) rfl rfl (fun K hK => ?_)
            go_simp
            refine hK.out _ _ (fun h => absurd h (by decide)) ?_
            clear hK K
            refine anyT_one 17 #[true, true, true, true, true, true, true, true, true, true, true, true, true, true, true, true, true, true] (by kernel_rfl) rfl rfl (fun K hK => ?_)
            go_simp
            refine hK.out _ _ (fun h => absurd h (by decide)) ?_
            clear hK K
            refine anyT_done (by kernel_rfl) ?_
            go_wp2_with fail
            refine ⟨⟨k + 1, by omega, by go_num, upTo_set HQ.out.1 _ HV.out, HQ.out.2.1.ot (a := ⟨v.heap.size, k, none⟩) (by show w.heap.size ≠ v.heap.size; omega) _, HQ.out.2.2.1.ot (a := ⟨v.heap.size, k, none⟩) (by show w.heap.size + 1 ≠ v.heap.size; omega) _, (HQ.out.2.2.2.drew).setCell (p := ⟨v.heap.size, k, none⟩) (by show w.heap.size ≤ v.heap.size; omega) _⟩, by simp [intOf]; omega⟩
          · obtain rfl : k = n := by omega
            have HY : Hid (NewInts v.heap.size wr (some ⟨v.heap.size, 0, none⟩) D) := upTo_new hrow (Nat.le_refl _) D (by rw [HD.out.2, HN.out.1]) (fun j hj => rfl)
            have HDk : Hid (D.length = k) := by show _ = _; rw [HD.out.2, HN.out.1]
            have HA : Hid (Abx wr w.heap.size (.bool c) (.slice (some ⟨bs, os, none⟩) sz.length sc) (.slice da k dc)) := hA
            have HB : Hid (Below w.heap.size w wr) := hB
            have HRR : Hid (Abx wr (w.heap.size + 1) (.bool false) (.slice none 0 0) (.slice none 0 0)) := hR
            have e0 := hA.c0
            have e1 := hA.c1
            have hl6 := HL.out.1
            clear hrow hA hR hB hk hlt
            go_wp2_with fail
            refine anyT_begin 7 (fun w' => w'.cell? ⟨w.heap.size, 0, none⟩ = some (.bool c) ∧ w'.cell? ⟨w.heap.size, 1, none⟩ = some (.slice (some ⟨bs, os, none⟩) sz.length sc)) 9 #[false, false, false, false, false, false, false, false, false] (by kernel_rfl) rfl rfl ?_
            refine anyT_put 0 72 ?rv39 #[true, false, false, false, false, false, false, false, false] rfl rfl rfl (by kernel_rfl) (by kernel_rfl) (by kernel_rfl) (fun _ _ _ h => h) (by decide) ?ry39 (fun _ => ⟨e0, e1⟩) ?rm39
            case ry39 => first | exact Or.inl ⟨by rfl, by intro w'; go_simp; first | done | rfl⟩
            case rm39 =>
            simp only [Act.put, List.setIfInBounds_toArray, List.set_cons_zero, List.set_cons_succ]
            refine anyT_take 1 73 ?rv40 #[true, true, false, false, false, false, false, false, false] rfl rfl rfl (by kernel_rfl) (by kernel_rfl) (by kernel_rfl) (fun _ _ _ h => h) (by kernel_rfl) (by decide) (by kernel_rfl) ?ry40 (⟨e0, e1⟩) ?rm40
            case ry40 => first | exact Or.inl ⟨by rfl, by intro w' hw'; (try dsimp only at hw'); go_simp; first | done | rfl⟩
            case rm40 =>
            simp only [Act.put, List.setIfInBounds_toArray, List.set_cons_zero, List.set_cons_succ]
            refine anyT_put 2 74 ?rv41 #[true, true, true, false, false, false, false, false, false] rfl rfl rfl (by kernel_rfl) (by kernel_rfl) (by kernel_rfl) (fun _ _ _ h => h) (by decide) ?ry41 (fun _ => ⟨e0, e1⟩) ?rm41
            case ry41 => first | exact Or.inl ⟨by rfl, by intro w'; go_simp; first | done | rfl⟩
            case rm41 =>
            simp only [Act.put, List.setIfInBounds_toArray, List.set_cons_zero, List.set_cons_succ]
            refine anyT_take 3 75 ?rv42 #[true, true, true, true, false, false, false, false, false] rfl rfl rfl (by kernel_rfl) (by kernel_rfl) (by kernel_rfl) (fun _ _ _ h => h) (by kernel_rfl) (by decide) (by kernel_rfl) ?ry42 (⟨e0, e1⟩) ?rm42
            case ry42 => first | exact Or.inl ⟨by rfl, by intro w' hw'; (try dsimp only at hw'); go_simp; first | done | rfl⟩
            case rm42 =>
            simp only [Act.put, List.setIfInBounds_toArray, List.set_cons_zero, List.set_cons_succ]
            refine anyT_put 5 77 ?rv43 #[true, true, true, true, false, true, false, false, false] rfl rfl rfl (by kernel_rfl) (by kernel_rfl) (by kernel_rfl) (fun _ _ _ h => h) (by decide) ?ry43 (fun _ => ⟨e0, e1⟩) ?rm43
            case ry43 => first | exact Or.inl ⟨by rfl, by intro w'; go_simp; first | done | rfl⟩
            case rm43 =>
            simp only [Act.put, List.setIfInBounds_toArray, List.set_cons_zero, List.set_cons_succ]
            refine anyT_one 4 #[true, true, true, true, true, true, false, false, false] (by kernel_rfl) rfl rfl (fun K hK => ?_)
            go_simp
            go_wp2_with (go_at_call 34; refine (clone_any (some ⟨bs, os, none⟩) sc sz (by omega) wr.drew ((HI.out.1.1.below HB.out).mono HB.out.size)).mono ?_; rintro e w3 ⟨ga, gc, rfl, hN, hBc⟩)
            have HBc : Hid (Below wr.heap.size wr w3) := (Below.refl _ wr).drew.trans hBc
            have HNn : Hid (NewC wr.heap.size w3 ga sz gc) := hN
            have A3 := HA.out.go HBc.out
            have R3 := HRR.out.go HBc.out
            have r0 := R3.c0
            have r1 := R3.c1
            have r2 := R3.c2
            have f0 := R3.fr 0
            have f1 := R3.fr 1
            have f2 := R3.fr 2
            clear hN hBc
            refine hK.out _ _ (fun _ => ⟨A3.c0, A3.c1⟩) ?_
            clear hK K
            refine anyT_put 6 78 ?rv45 #[true, true, true, true, true, true, true, false, false] rfl rfl rfl (by kernel_rfl) (by kernel_rfl) (by kernel_rfl) (fun _ _ _ h => h) (by decide) ?ry45 (fun _ => ⟨A3.c0, A3.c1⟩) ?rm45
            case ry45 => first | exact Or.inl ⟨by rfl, by intro w'; go_simp; first | done | rfl⟩
            case rm45 =>
            simp only [Act.put, List.setIfInBounds_toArray, List.set_cons_zero, List.set_cons_succ]
            refine anyT_one 7 #[true, true, true, true, true, true, true, true, false] (by kernel_rfl) rfl rfl (fun K hK => ?_)
            go_simp
            refine hK.out _ _ (fun h => absurd h (by decide)) ?_
            clear hK K
            refine anyT_one 8 #[true, true, true, true, true, true, true, true, true] (by kernel_rfl) rfl rfl (fun K hK => ?_)
            go_simp
            refine hK.out _ _ (fun h => absurd h (by decide)) ?_
            clear hK K
            refine anyT_done (by kernel_rfl) ?_
            go_wp2_with fail
            have F := R3.set3 (.bool c) (.slice ga sz.length gc) (.slice (some ⟨v.heap.size, 0, none⟩) k k)
            have q0 := F.c0
            have q1 := F.c1
            have q2 := F.c2
            refine bodyPost_ret (v := .tuple #[.agg #[.bool c, .slice ga sz.length gc, .slice (some ⟨v.heap.size, 0, none⟩) k k], .nilIface]) (by simp [results, Try.results14, go_sem, q0, q1, q2]) rfl ?_
            have hwr : w.heap.size + 1 < wr.heap.size := HRR.out.lt
            have hX := (HNn.out.set3 (b := w.heap.size + 1) (by omega) (.bool c) (.slice ga sz.length gc) (.slice (some ⟨v.heap.size, 0, none⟩) k k)).low (lo' := w.heap.size) (by omega)
            have hY := ((HY.out.go HBc.out).set3 (b := w.heap.size + 1) (by omega) (.bool c) (.slice ga sz.length gc) (.slice (some ⟨v.heap.size, 0, none⟩) k k)).low (lo' := w.heap.size) (by omega)
            have hZ := bel_set3 (HB.out.trans (HBc.out.mono HB.out.size)) (b := w.heap.size + 1) (by omega) (.bool c) (.slice ga sz.length gc) (.slice (some ⟨v.heap.size, 0, none⟩) k k)
            have hUA := UA.mkok (c := c) (yc := k) HE.out hX hY hZ
            rw [HDk.out, HD.out.1] at hUA
            exact hUA
  · have H3 : Hid (flawE c sz dz ≠ 0) := h3
    have HE : Hid (axE x c sz dz = flawE c sz dz) := axE_flaw h3
    clear h3
    go_enter Try.func14, Try.ntmps14
    go_wp2_with fail
    refine (check_no c sa sc sz da dc dz h1 h2 _ ((HI.out.1.1.below HB0.out).mono HB0.out.size) ((HI.out.2.below HB0.out).mono HB0.out.size) H3.out).mono ?_
    rintro e v1 ⟨rfl, hC⟩
    have HB1 : Hid (Below w.heap.size w v1) := HB0.out.trans (hC.mono HB0.out.size)
    have HR : Hid (Abx v1 (w.heap.size + 1) (.bool false) (.slice none 0 0) (.slice none 0 0)) := pr.go hC
    clear hC pa pr p0 p1 p2 HB0
    have r0 := HR.out.c0
    have r1 := HR.out.c1
    have r2 := HR.out.c2
    have f0 := HR.out.fr 0
    have f1 := HR.out.fr 1
    have f2 := HR.out.fr 2
    go_wp2_with fail
    have F := HR.out.set3 (.bool false) (.slice none 0 0) (.slice none 0 0)
    have q0 := F.c0
    have q1 := F.c1
    have q2 := F.c2
    exact bodyPost_ret (v := .tuple #[.agg #[.bool false, .slice none 0 0, .slice none 0 0], .iface 60 (.int .i64 (flawE c sz dz))]) (by simp [results, Try.results14, go_sem, q0, q1, q2]) rfl (UA.mkno HE.out H3.out (bel_set3 HB1.out (by omega) _ _ _))
end Go.Proofs.Ytnfdcdoelhanlaa
