/-
  What turn.Flip tells.
-/
import Derived.Test.YtgaelbgeoobgiaaSrc
import Derived.Test.YtgaelbgeoobgiaaAxesn
import Derived.Test.YtgaelbgeoobgiaaStep
import Derived.Test.YtgaelbgeoobgiaaCutn
import Derived.Test.YtgaelbgeoobgiaaBase
namespace Go.Proofs.Ytgaelbgeoobgiaa
open Go.RowKit
set_option linter.unusedVariables false

theorem UF.mkno {e : Int} {c : Bool} {S D : List Int} {w w' : World} {e' : Int} (h : e = e') (h0 : e' ≠ 0) (hB : Below w.heap.size w w') : UA e (onc e c) (onl e S) (onl e D) w (.returned (.tuple #[.agg #[.bool false, .slice none 0 0, .slice none 0 0], .iface 76 (.int .i64 e')])) w' := by
  subst h
  unfold UA
  rw [onc_no h0, onl_no h0, onl_no h0, errV_pos h0]
  exact ⟨none, 0, none, 0, rfl, ⟨.inl rfl, Nat.le_refl _⟩, .inl rfl, hB⟩
theorem UF.mkok {e : Int} {c : Bool} {S D : List Int} {w w' : World} {xa : Option Addr} {xc : Nat} {ya : Option Addr} {yc : Nat} (h : e = 0) (hX : NewC w.heap.size w' xa S xc) (hY : NewInts w.heap.size w' ya D) (hB : Below w.heap.size w w') :
    UA e (onc e c) (onl e S) (onl e D) w (.returned (.tuple #[.agg #[.bool c, .slice xa S.length xc, .slice ya D.length yc], .nilIface])) w' := by
  subst h
  exact ⟨xa, xc, ya, yc, rfl, hX, hY, hB⟩
theorem flE_flaw {p : List Int} {c : Bool} {sz dz : List Int} (h : flawE c sz dz ≠ 0) : flE p c sz dz = flawE c sz dz := by unfold flE; rw [if_pos h]
theorem flE_ax {p : List Int} {c : Bool} {sz dz : List Int} (h : flawE c sz dz = 0) : flE p c sz dz = axErr sz p := by unfold flE; rw [if_neg (by simpa using h)]
theorem axes_ok (a : Option Addr) (cap : Nat) (zs : List Int) (a' : Option Addr) (cap' : Nat) (ps : List Int) (h1 : zs.length ≤ 9223372036854775807) (h2 : ps.length ≤ 9223372036854775807) (w : World) (hI : IsInts w.heap.size w a zs) (hI' : IsInts w.heap.size w a' ps) (h : axErr zs ps = 0) (S : List Int) (hS : S = axVal zs ps) :
    Calls Try.prog 37 #[.slice a zs.length cap, .slice a' ps.length cap'] w fun e w' => ∃ g c, e = .returned (.tuple #[.slice g S.length c, .nilIface]) ∧ NewC w.heap.size w' g S c ∧ Below w.heap.size w w' := by
  subst hS
  refine (axes_new a cap zs a' cap' ps h1 h2 w hI hI').mono ?_
  rintro e w' ⟨g, c, rfl, hN, hB⟩
  rw [h]
  exact ⟨g, c, rfl, hN, hB⟩
theorem axes_no (a : Option Addr) (cap : Nat) (zs : List Int) (a' : Option Addr) (cap' : Nat) (ps : List Int) (h1 : zs.length ≤ 9223372036854775807) (h2 : ps.length ≤ 9223372036854775807) (w : World) (hI : IsInts w.heap.size w a zs) (hI' : IsInts w.heap.size w a' ps) (h : axErr zs ps ≠ 0) :
    Calls Try.prog 37 #[.slice a zs.length cap, .slice a' ps.length cap'] w fun e w' => ∃ g c, e = .returned (.tuple #[.slice g 0 c, .iface 76 (.int .i64 (axErr zs ps))]) ∧ Below w.heap.size w w' := by
  refine (axes_new a cap zs a' cap' ps h1 h2 w hI hI').mono ?_
  rintro e w' ⟨g, c, rfl, hN, hB⟩
  rw [axVal_bad h, errV_pos h]
  exact ⟨g, c, rfl, hB⟩
/-- What lies in a row that is filled, as a list. -/
theorem row_list {wr : World} {B : Nat} {t : TypeId} {n : Nat} {xs : List Int} (h : wr.rowIs B t n (fun j => .int .i64 (nth xs j))) (hx : xs.length = n) (lo : Nat) (hlo : lo ≤ B) : NewInts lo wr (some ⟨B, 0, none⟩) xs :=
  .inr ⟨B, 0, rfl, hlo, h.lt, fun j hj => by rw [Nat.zero_add]; exact h.cell (by omega), fun j => h.frozen _⟩
theorem row_put {wr : World} {B : Nat} {t : TypeId} {n : Nat} {xs : List Int} (h : wr.rowIs B t n (fun j => .int .i64 (nth xs j))) (hx : xs.length = n) (i : Nat) (hi : i < n) (v : Int) : (wr.setCell ⟨B, i, none⟩ (.int .i64 v)).rowIs B t n (fun j => .int .i64 (nth (xs.set i v) j)) := by
  refine (h.set i _).congr fun j hj => ?_
  rw [nth_set _ _ _ _ (by omega)]
  by_cases e : j = i
  · rw [if_pos e, if_pos e]
  · rw [if_neg e, if_neg e]
theorem source_n (ga : Option Addr) (gc : Nat) (S : List Int) (ua : Option Addr) (uc : Nat) (U : List Int) (n k m : Nat) (hS : S.length = n) (hU : U.length = n) (he : errOf S = 0) (hk : (k : Int) < prod S) (hm : srV S U k (dn S.length S.length) = (m : Nat)) (w : World) (hI : IsInts w.heap.size w ga S) (hI' : IsInts w.heap.size w ua U) :
    Calls Try.prog 39 #[.slice ga n gc, .slice ua n uc, .int .i64 (k : Nat)] w fun e w' => e = .returned (.int .i64 (m : Nat)) ∧ Below w.heap.size w w' := by
  have h := source_any ga gc S ua uc U k he hk (by omega) w hI hI'
  rw [hm, hU, hS] at h
  exact h
set_option maxRecDepth 100000 in
set_option maxHeartbeats 4000000 in
theorem fl_holds : CFl := by
  intro pa pc p c sa sc sz da dc dz w hpl h1 h2 hp hs hd T
  have HI : Hid (IsC w.heap.size w sa sz sc ∧ IsInts w.heap.size w da dz ∧ IsInts w.heap.size w pa p) := ⟨hs, hd, hp⟩
  clear hs hd hp T
  have HB0 : Hid (Below w.heap.size w ((w.alloc (.cells #[.bool c, .slice sa sz.length sc, .slice da dz.length dc] 24)).alloc (.cells #[.bool false, .slice none 0 0, .slice none 0 0] 24))) := ((Below.refl _ w).alloc (Nat.le_refl _) _).alloc (by simp) _
  have pa0 := (Abx.new w (.bool c) (.slice sa sz.length sc) (.slice da dz.length dc)).al (.cells #[.bool false, .slice none 0 0, .slice none 0 0] 24)
  have pr := Abx.new1 w (.cells #[.bool c, .slice sa sz.length sc, .slice da dz.length dc] 24) (.bool false) (.slice none 0 0) (.slice none 0 0)
  have p0 := pa0.c0
  have p1 := pa0.c1
  have p2 := pa0.c2
  by_cases h3 : flawE c sz dz = 0
  · have H3 : Hid (flawE c sz dz = 0) := h3
    have HL : Hid (sz.length ≤ 6 ∧ dz.length ≤ 4096) := flawE_short h3
    have HF : Hid (errOf sz = 0 ∧ (dz.length : Int) = prod sz) := ⟨(flawE_zero h3).1, (flawE_zero h3).2.1⟩
    clear h3
    go_enter Try.func12, Try.ntmps12
    go_wp2_with fail
    refine (check_ok c sa sc sz da dc dz h1 h2 _ ((HI.out.1.1.below HB0.out).mono HB0.out.size) ((HI.out.2.1.below HB0.out).mono HB0.out.size) H3.out).mono ?_
    rintro e v1 ⟨rfl, hC⟩
    have HB1 : Hid (Below w.heap.size w v1) := HB0.out.trans (hC.mono HB0.out.size)
    have HP : Hid (Abx v1 w.heap.size (.bool c) (.slice sa sz.length sc) (.slice da dz.length dc)) := pa0.go hC
    have HR : Hid (Abx v1 (w.heap.size + 1) (.bool false) (.slice none 0 0) (.slice none 0 0)) := pr.go hC
    clear hC pa0 pr p0 p1 p2 HB0
    have p1 := HP.out.c1
    by_cases h4 : axErr sz p = 0
    · have HE : Hid (flE p c sz dz = 0) := (flE_ax H3.out).trans h4
      have HO : Hid (p.length = sz.length ∧ IsOrd p) := (axErr_zero.1 h4).2
      have H4 : Hid (axErr sz p = 0) := h4
      obtain ⟨S, hS⟩ : ∃ S, S = axVal sz p := ⟨_, rfl⟩
      have HS : Hid (S = axVal sz p ∧ AxSpec sz p S) := ⟨hS, by rw [hS]; exact axVal_spec h4⟩
      have HSl : Hid (S.length = p.length) := HS.out.2.1.trans HO.out.1.symm
      have hp6 : p.length ≤ 6 := by have := HO.out.1; have := HL.out.1; omega
      clear h4 hS
      go_wp2_with fail
      refine (axes_ok sa sc sz pa pc p h1 hpl v1 ((HI.out.1.1.below HB1.out).mono HB1.out.size) ((HI.out.2.2.below HB1.out).mono HB1.out.size) H4.out S HS.out.1).mono ?_
      rintro e v2 ⟨ga, gc, rfl, hN, hB⟩
      have HB2 : Hid (Below w.heap.size w v2) := HB1.out.trans (hB.mono HB1.out.size)
      have HP2 : Hid (Abx v2 w.heap.size (.bool c) (.slice sa sz.length sc) (.slice da dz.length dc)) := HP.out.go hB
      have HR2 : Hid (Abx v2 (w.heap.size + 1) (.bool false) (.slice none 0 0) (.slice none 0 0)) := HR.out.go hB
      have HN : Hid (NewC v1.heap.size v2 ga S gc) := hN
      have HZ : Hid (w.heap.size + 1 < v1.heap.size) := HR.out.lt
      clear hB HP HR p1 hN
      obtain ⟨n, hn⟩ : ∃ n, n = S.length := ⟨_, rfl⟩
      rw [← hn]
      have HNn : Hid (n = S.length ∧ n = p.length) := ⟨hn, by rw [hn]; exact HSl.out⟩
      have hn6 : n ≤ 6 := by have := HNn.out.2; omega
      clear hn
      have hmk := run_make_row' (P := Try.prog) 22 3 (.int .i64 0) 8 Try.underlying22 Try.infoInt rfl .i64 .i64 n (by omega) (by omega)
      go_wp2_with fail
      clear hmk
      go_loopw [36] (fun i wr => ∃ k : Nat, k ≤ p.length ∧ i = .int .i64 k ∧ wr.rowIs v2.heap.size 3 n (fun j => .int .i64 (nth (stk sz p k) j)) ∧ Below v2.heap.size v2 wr) (fun i _ => p.length - (intOf i).toNat)
      case atStart =>
        exact ⟨0, Nat.zero_le _, rfl, (World.rowIs_made v2 (.int .i64 0) n 3).congr (fun j _ => by simp only [stk, nth_replicate]), (Below.refl _ v2).alloc (Nat.le_refl _) _⟩
      case round =>
        obtain ⟨k, hk, rfl, hrow, hBv⟩ := hrel
        have hB : Below w.heap.size w wr := HB2.out.trans (hBv.mono HB2.out.size)
        have hA := HP2.out.go hBv
        have e1 := hA.c1
        by_cases hlt : k < p.length
        · obtain ⟨bp, op, rfl, hbp, hcP⟩ := (HI.out.2.2.below hB).at hlt
          have cp := hcP k hlt
          have hbo := HO.out.2.1 k hlt
          obtain ⟨m, hm⟩ : ∃ m : Nat, nth p k = m := ⟨(nth p k).toNat, by omega⟩
          have hml : m < n := by have := HNn.out.2; omega
          rw [hm] at cp
          have HM : Hid ((nth p k).toNat = m) := by show _ = _; rw [hm]; exact Int.toNat_natCast m
          clear hcP hm hbo
          have c2 := hrow.cell hml
          have f2 := hrow.frozen m
          have HQ : Hid (wr.rowIs v2.heap.size 3 n (fun j => .int .i64 (nth (stk sz p k) j)) ∧ Below v2.heap.size v2 wr ∧ Below w.heap.size w wr) := ⟨hrow, hBv, hB⟩
          clear hrow hBv hB hA
          go_wp2_with fail
          refine (step_any sa sc sz k (by have := HO.out.1; omega) HF.out.1 wr.heap.size wr ((HI.out.1.below HQ.out.2.2).mono HQ.out.2.2.size)).mono ?_
          rintro e w2 ⟨rfl, rfl⟩
          go_wp2_with fail
          refine ⟨⟨k + 1, by omega, by go_num, ?_, HQ.out.2.1.setCell (p := ⟨v2.heap.size, m, none⟩) (Nat.le_refl _) _⟩, by simp [intOf]; omega⟩
          have h := row_put HQ.out.1 (by rw [stk_length]; exact HNn.out.2.symm) m hml (stp sz k)
          simp only [stk, HM.out]
          exact h
        · obtain rfl : k = p.length := by omega
          have HU0 : Hid (NewInts v2.heap.size wr (some ⟨v2.heap.size, 0, none⟩) (stk sz p p.length)) := row_list hrow (by rw [stk_length]; exact HNn.out.2.symm) _ (Nat.le_refl _)
          obtain ⟨U, hU⟩ : ∃ U, U = stk sz p p.length := ⟨_, rfl⟩
          have HU : Hid (NewInts v2.heap.size wr (some ⟨v2.heap.size, 0, none⟩) U ∧ StSpec sz p U ∧ U.length = n) := by rw [hU]; exact ⟨HU0.out, stk_spec HO.out.2 HO.out.1, by rw [stk_length]; exact HNn.out.2.symm⟩
          obtain ⟨u, hu⟩ : ∃ u, u = wr := ⟨_, rfl⟩
          subst hu
          have HP3 : Hid (Abx u w.heap.size (.bool c) (.slice sa sz.length sc) (.slice da dz.length dc)) := hA
          have HR3 : Hid (Abx u (w.heap.size + 1) (.bool false) (.slice none 0 0) (.slice none 0 0)) := HR2.out.go hBv
          have HB3 : Hid (Below w.heap.size w u) := hB
          have HN3 : Hid (NewC v1.heap.size u ga S gc) := HN.out.go hBv
          have HZ2 : Hid (v2.heap.size ≤ u.heap.size ∧ w.heap.size + 1 < v2.heap.size) := ⟨hBv.size, HR2.out.lt⟩
          clear hU HU0 hrow hBv hB hA e1 hlt hk HP2 HR2 HN
          obtain ⟨q, hq⟩ : ∃ q, q = dz.length := ⟨_, rfl⟩
          have HQ0 : Hid (q = dz.length ∧ q ≤ 4096) := ⟨hq, by rw [hq]; exact HL.out.2⟩
          have e2 := HP3.out.c2
          rw [← hq] at e2
          obtain ⟨D, hD⟩ : ∃ D, D = GA sz dz S (flpT p) := ⟨_, rfl⟩
          have hps : prod S = prod sz := ax_prod HO.out.2 HO.out.1 HS.out.2
          have HD : Hid (D = GA sz dz S (flpT p) ∧ D.length = q) := ⟨hD, by rw [hD, GA_length, hps]; have := HF.out.2; omega⟩
          have HSE : Hid (errOf S = 0 ∧ prod S = prod sz) := ⟨ax_err HO.out.2 HO.out.1 HS.out.2 HF.out.1, hps⟩
          have hmk := run_make_row' (P := Try.prog) 22 3 (.int .i64 0) 8 Try.underlying22 Try.infoInt rfl .i64 .i64 q (by have := HQ0.out.2; omega) (by have := HQ0.out.2; omega)
          clear hq hD hps
          go_wp2_with fail
          clear hmk e2
          go_loopw [55] (fun i wx => ∃ k : Nat, k ≤ q ∧ i = .int .i64 k ∧ wx.rowIs u.heap.size 3 q (upTo (nth D) k) ∧ Below u.heap.size u wx) (fun i _ => q - (intOf i).toNat)
          case atStart =>
            exact ⟨0, Nat.zero_le _, rfl, (World.rowIs_made u (.int .i64 0) q 3).congr (fun j _ => by simp [upTo]), (Below.refl _ u).alloc (Nat.le_refl _) _⟩
          case round =>
            obtain ⟨k, hk, rfl, hrow, hBu⟩ := hrel
            have hB : Below w.heap.size w wr := HB3.out.trans (hBu.mono HB3.out.size)
            have hA := HP3.out.go hBu
            rw [← HQ0.out.1] at hA
            have e2 := hA.c2
            have hq4 : q ≤ 4096 := HQ0.out.2
            by_cases hlt : k < q
            · obtain ⟨m, y1, y2, y3⟩ := sr_place HO.out.2 HO.out.1 HS.out.2 HF.out.1 HU.out.2.1 (j := k) (by have := HF.out.2; have := HQ0.out.1; omega)
              have hmq : m < q := by have := HF.out.2; have := HQ0.out.1; omega
              have HM : Hid (m < dz.length) := by rw [← HQ0.out.1]; exact hmq
              have HV : Hid (nth dz m = nth D k) := by
                show _ = _
                rw [HD.out.1, GA_nth (by rw [HSE.out.2]; have := HF.out.2; have := HQ0.out.1; omega), y3, Int.toNat_natCast]
              have HY : Hid (srV S U k (dn S.length S.length) = (m : Nat) ∧ (k : Int) < prod S) := ⟨y2, by rw [HSE.out.2]; have := HF.out.2; have := HQ0.out.1; omega⟩
              obtain ⟨bd, od, rfl, hbd, hcD⟩ := (HI.out.2.1.below hB).at HM.out
              have cd := hcD m HM.out
              have HQ : Hid (wr.rowIs u.heap.size 3 q (upTo (nth D) k) ∧ Abx wr w.heap.size (.bool c) (.slice sa sz.length sc) (.slice (some ⟨bd, od, none⟩) q dc) ∧ Below u.heap.size u wr ∧ Below w.heap.size w wr) := ⟨hrow, hA, hBu, hB⟩
              clear hrow hA hBu hB hcD y1 y2 y3
              go_wp2_with fail
              refine anyT_begin 10 (fun w' => w'.cell? ⟨w.heap.size, 2, none⟩ = some (.slice (some ⟨bd, od, none⟩) q dc) ∧ w'.cell? ⟨bd, od + m, none⟩ = some (.int .i64 (nth dz m))) 12 #[false, false, false, false, false, false, false, false, false, false, false, false] (by kernel_rfl) rfl rfl ?_
              refine anyT_put 0 58 ?rv0 #[true, false, false, false, false, false, false, false, false, false, false, false] rfl rfl rfl (by kernel_rfl) (by kernel_rfl) (by kernel_rfl) (fun _ _ _ h => h) (by decide) ?ry0 (fun _ => ⟨e2, cd⟩) ?rm0
              case ry0 => first | exact Or.inl ⟨by rfl, by intro w'; go_simp; first | done | rfl⟩
              case rm0 =>
              simp only [Act.put, List.setIfInBounds_toArray, List.set_cons_zero, List.set_cons_succ]
              refine anyT_put 1 59 ?rv1 #[true, true, false, false, false, false, false, false, false, false, false, false] rfl rfl rfl (by kernel_rfl) (by kernel_rfl) (by kernel_rfl) (fun _ _ _ h => h) (by decide) ?ry1 (fun _ => ⟨e2, cd⟩) ?rm1
              case ry1 => first | exact Or.inl ⟨by rfl, by intro w'; go_simp; first | done | rfl⟩
              case rm1 =>
              simp only [Act.put, List.setIfInBounds_toArray, List.set_cons_zero, List.set_cons_succ]
              refine anyT_put 2 60 ?rv2 #[true, true, true, false, false, false, false, false, false, false, false, false] rfl rfl rfl (by kernel_rfl) (by kernel_rfl) (by kernel_rfl) (fun _ _ _ h => h) (by decide) ?ry2 (fun _ => ⟨e2, cd⟩) ?rm2
              case ry2 => first | exact Or.inl ⟨by rfl, by intro w'; go_simp; first | done | rfl⟩
              case rm2 =>
              simp only [Act.put, List.setIfInBounds_toArray, List.set_cons_zero, List.set_cons_succ]
              refine anyT_take 3 61 ?rv3 #[true, true, true, true, false, false, false, false, false, false, false, false] rfl rfl rfl (by kernel_rfl) (by kernel_rfl) (by kernel_rfl) (fun _ _ _ h => h) (by kernel_rfl) (by decide) (by kernel_rfl) ?ry3 (⟨e2, cd⟩) ?rm3
              case ry3 => first | exact Or.inl ⟨by rfl, by intro w' hw'; (try dsimp only at hw'); go_simp; first | done | rfl⟩
              case rm3 =>
              simp only [Act.put, List.setIfInBounds_toArray, List.set_cons_zero, List.set_cons_succ]
              refine anyT_put 4 62 ?rv4 #[true, true, true, true, true, false, false, false, false, false, false, false] rfl rfl rfl (by kernel_rfl) (by kernel_rfl) (by kernel_rfl) (fun _ _ _ h => h) (by decide) ?ry4 (fun _ => ⟨e2, cd⟩) ?rm4
              case ry4 => first | exact Or.inl ⟨by rfl, by intro w'; go_simp; first | done | rfl⟩
              case rm4 =>
              simp only [Act.put, List.setIfInBounds_toArray, List.set_cons_zero, List.set_cons_succ]
              refine anyT_put 5 63 ?rv5 #[true, true, true, true, true, true, false, false, false, false, false, false] rfl rfl rfl (by kernel_rfl) (by kernel_rfl) (by kernel_rfl) (fun _ _ _ h => h) (by decide) ?ry5 (fun _ => ⟨e2, cd⟩) ?rm5
              case ry5 => first | exact Or.inl ⟨by rfl, by intro w'; go_simp; first | done | rfl⟩
              case rm5 =>
              simp only [Act.put, List.setIfInBounds_toArray, List.set_cons_zero, List.set_cons_succ]
              refine anyT_put 6 64 ?rv6 #[true, true, true, true, true, true, true, false, false, false, false, false] rfl rfl rfl (by kernel_rfl) (by kernel_rfl) (by kernel_rfl) (fun _ _ _ h => h) (by decide) ?ry6 (fun _ => ⟨e2, cd⟩) ?rm6
              case ry6 => first | exact Or.inl ⟨by rfl, by intro w'; go_simp; first | done | rfl⟩
              case rm6 =>
              simp only [Act.put, List.setIfInBounds_toArray, List.set_cons_zero, List.set_cons_succ]
              refine anyT_one 7 #[true, true, true, true, true, true, true, true, false, false, false, false] (by kernel_rfl) rfl rfl (fun K hK => ?_)
              go_simp
              go_wp2_with (go_at_call 39; refine (source_n ga gc S (some ⟨v2.heap.size, 0, none⟩) n U n k m HNn.out.1.symm HU.out.2.2 HSE.out.1 HY.out.2 HY.out.1 wr.drew ((HN3.out.go HQ.out.2.2.1).1.ints) ((HU.out.1.go HQ.out.2.2.1).ints)).mono ?_; rintro e w3 ⟨rfl, hBc⟩)
              have HBc : Hid (Below wr.heap.size wr w3) := (Below.refl _ wr).drew.trans hBc
              have A3 := HQ.out.2.1.go HBc.out
              have c3 : w3.cell? ⟨bd, od + m, none⟩ = some (.int .i64 (nth dz m)) := (HBc.out.cell (p := ⟨bd, od + m, none⟩) (by have := HQ.out.2.2.2.size; show bd < wr.heap.size; omega)).trans cd
              have W3 : Hid (w3.rowIs u.heap.size 3 q (upTo (nth D) k)) := HQ.out.1.of_block (HBc.out.block u.heap.size HQ.out.1.lt)
              have c2 := W3.out.cell hlt
              have f2 := W3.out.frozen k
              clear hBc
              refine hK.out _ _ (fun _ => ⟨A3.c2, c3⟩) ?_
              clear hK K
              refine anyT_put 8 66 ?rv8 #[true, true, true, true, true, true, true, true, true, false, false, false] rfl rfl rfl (by kernel_rfl) (by kernel_rfl) (by kernel_rfl) (fun _ _ _ h => h) (by decide) ?ry8 (fun _ => ⟨A3.c2, c3⟩) ?rm8
              case ry8 => first | exact Or.inl ⟨by rfl, by intro w'; go_simp; first | done | rfl⟩
              case rm8 =>
              simp only [Act.put, List.setIfInBounds_toArray, List.set_cons_zero, List.set_cons_succ]
              refine anyT_take 9 67 ?rv9 #[true, true, true, true, true, true, true, true, true, true, false, false] rfl rfl rfl (by kernel_rfl) (by kernel_rfl) (by kernel_rfl) (fun _ _ _ h => h) (by kernel_rfl) (by decide) (by kernel_rfl) ?ry9 (⟨A3.c2, c3⟩) ?rm9
              case ry9 => first | exact Or.inl ⟨by rfl, by intro w' hw'; (try dsimp only at hw'); go_simp; first | done | rfl⟩
              case rm9 =>
              simp only [Act.put, List.setIfInBounds_toArray, List.set_cons_zero, List.set_cons_succ]
              refine anyT_one 10 #[true, true, true, true, true, true, true, true, true, true, true, false] (by kernel_rfl) rfl rfl (fun K hK => ?_)
              go_simp
              refine hK.out _ _ (fun h => absurd h (by decide)) ?_
              clear hK K
              refine anyT_one 11 #[true, true, true, true, true, true, true, true, true, true, true, true] (by kernel_rfl) rfl rfl (fun K hK => ?_)
              go_simp
              refine hK.out _ _ (fun h => absurd h (by decide)) ?_
              clear hK K
              refine anyT_done (by kernel_rfl) ?_
              go_wp2_with fail
              refine ⟨⟨k + 1, by omega, by go_num, upTo_set W3.out _ HV.out, ?_⟩, by simp [intOf]; omega⟩
              exact (HQ.out.2.2.1.trans (HBc.out.mono HQ.out.2.2.1.size)).setCell (p := ⟨u.heap.size, k, none⟩) (Nat.le_refl _) _
            · obtain rfl : k = q := by omega
              have HY : Hid (NewInts u.heap.size wr (some ⟨u.heap.size, 0, none⟩) D) := upTo_new hrow (Nat.le_refl _) D HD.out.2 (fun j hj => rfl)
              have HR4 : Hid (Abx wr (w.heap.size + 1) (.bool false) (.slice none 0 0) (.slice none 0 0)) := HR3.out.go hBu
              have HN4 : Hid (NewC v1.heap.size wr ga S gc) := HN3.out.go hBu
              have HB4 : Hid (Below w.heap.size w wr) := hB
              have e0 := hA.c0
              have r0 := HR4.out.c0
              have r1 := HR4.out.c1
              have r2 := HR4.out.c2
              have f0 := HR4.out.fr 0
              have f1 := HR4.out.fr 1
              have f2 := HR4.out.fr 2
              clear hrow hA hBu hB hk hlt e2
              go_wp2_with fail
              have F := HR4.out.set3 (.bool c) (.slice ga n gc) (.slice (some ⟨u.heap.size, 0, none⟩) k k)
              have q0 := F.c0
              have q1 := F.c1
              have q2 := F.c2
              refine bodyPost_ret (v := .tuple #[.agg #[.bool c, .slice ga n gc, .slice (some ⟨u.heap.size, 0, none⟩) k k], .nilIface]) (by simp [results, Try.results12, go_sem, q0, q1, q2]) rfl ?_
              have hz1 := HZ.out
              have hz2 := HZ2.out
              have hX := (HN4.out.set3 (b := w.heap.size + 1) (by omega) (.bool c) (.slice ga n gc) (.slice (some ⟨u.heap.size, 0, none⟩) k k)).low (lo' := w.heap.size) (by omega)
              have hY := (HY.out.set3 (b := w.heap.size + 1) (by omega) (.bool c) (.slice ga n gc) (.slice (some ⟨u.heap.size, 0, none⟩) k k)).low (lo' := w.heap.size) (by omega)
              have hZ := bel_set3 HB4.out (b := w.heap.size + 1) (by omega) (.bool c) (.slice ga n gc) (.slice (some ⟨u.heap.size, 0, none⟩) k k)
              have hUA := UF.mkok (c := c) (yc := k) HE.out hX hY hZ
              rw [HD.out.2, HD.out.1, ← HNn.out.1, HS.out.1] at hUA
              exact hUA
    · have H4 : Hid (axErr sz p ≠ 0) := h4
      have HE : Hid (flE p c sz dz = axErr sz p) := flE_ax H3.out
      clear h4
      go_wp2_with fail
      refine (axes_no sa sc sz pa pc p h1 hpl v1 ((HI.out.1.1.below HB1.out).mono HB1.out.size) ((HI.out.2.2.below HB1.out).mono HB1.out.size) H4.out).mono ?_
      rintro e v2 ⟨ga, gc, rfl, hB⟩
      have HB2 : Hid (Below w.heap.size w v2) := HB1.out.trans (hB.mono HB1.out.size)
      have HR2 : Hid (Abx v2 (w.heap.size + 1) (.bool false) (.slice none 0 0) (.slice none 0 0)) := HR.out.go hB
      clear hB HP HR p1
      have r0 := HR2.out.c0
      have r1 := HR2.out.c1
      have r2 := HR2.out.c2
      have f0 := HR2.out.fr 0
      have f1 := HR2.out.fr 1
      have f2 := HR2.out.fr 2
      go_wp2_with fail
      have F := HR2.out.set3 (.bool false) (.slice none 0 0) (.slice none 0 0)
      have q0 := F.c0
      have q1 := F.c1
      have q2 := F.c2
      exact bodyPost_ret (v := .tuple #[.agg #[.bool false, .slice none 0 0, .slice none 0 0], .iface 76 (.int .i64 (axErr sz p))]) (by simp [results, Try.results12, go_sem, q0, q1, q2]) rfl (UF.mkno HE.out H4.out (bel_set3 HB2.out (by omega) _ _ _))
  · have H3 : Hid (flawE c sz dz ≠ 0) := h3
    have HE : Hid (flE p c sz dz = flawE c sz dz) := flE_flaw h3
    clear h3
    go_enter Try.func12, Try.ntmps12
    go_wp2_with fail
    refine (check_no c sa sc sz da dc dz h1 h2 _ ((HI.out.1.1.below HB0.out).mono HB0.out.size) ((HI.out.2.1.below HB0.out).mono HB0.out.size) H3.out).mono ?_
    rintro e v1 ⟨rfl, hC⟩
    have HB1 : Hid (Below w.heap.size w v1) := HB0.out.trans (hC.mono HB0.out.size)
    have HR : Hid (Abx v1 (w.heap.size + 1) (.bool false) (.slice none 0 0) (.slice none 0 0)) := pr.go hC
    clear hC pa0 pr p0 p1 p2 HB0
    have r0 := HR.out.c0
    have r1 := HR.out.c1
    have r2 := HR.out.c2
    have f0 := HR.out.fr 0
    have f1 := HR.out.fr 1
    have f2 := HR.out.fr 2
    go_wp2_with fail
    have F := HR.out.set3 (.bool false) (.slice none 0 0) (.slice none 0 0)
    have q0 := F.c0
    have q1 := F.c1
    have q2 := F.c2
    exact bodyPost_ret (v := .tuple #[.agg #[.bool false, .slice none 0 0, .slice none 0 0], .iface 76 (.int .i64 (flawE c sz dz))]) (by simp [results, Try.results12, go_sem, q0, q1, q2]) rfl (UF.mkno HE.out H3.out (bel_set3 HB1.out (by omega) _ _ _))
end Go.Proofs.Ytgaelbgeoobgiaa
