/-
  The reference's characteristic; a list and an error, told as the document says.
-/
import Derived.Test.YtjaabemlpiafaaaDoorRmi
import Derived.Test.YtjaabemlpiafaaaDoorMgu
import Derived.Test.YtjaabemlpiafaaaDoorMidc
import Derived.Test.YtjaabemlpiafaaaDoorErr
import Derived.Test.YtjaabemlpiafaaaDoorBase
namespace Go.Proofs.YtjaabemlpiafaaaDoor
open Go.RowKit
set_option linter.unusedVariables false

/-- A set's rows, so far. -/
def btB (s k : Nat) : Nat → Bool := fun x => if x < k then bt s x else false
theorem btB_next {wr : World} {B n s k : Nat} {t : TypeId} {v : Bool} (h : wr.rowIs B t n (bol (btB s k))) (hv : v = bt s k) : (wr.setCell ⟨B, k, none⟩ (.bool v)).rowIs B t n (bol (btB s (k + 1))) :=
  (h.set k _).congr fun j hj => by
    unfold bol btB
    by_cases e : j = k
    · rw [if_pos e, if_pos (by omega), hv, e]
    · rw [if_neg e]
      by_cases q : j < k
      · rw [if_pos q, if_pos (show j < k + 1 by omega)]
      · rw [if_neg q, if_neg (show ¬ j < k + 1 by omega)]
theorem btB_all {w : World} {B n s : Nat} {t : TypeId} (h : w.rowIs B t n (bol (btB s n))) : w.rowIs B t n (bol (bt s)) :=
  h.congr fun j hj => by
    unfold bol btB
    rw [if_pos hj]
theorem half14 (s I : Nat) : s / 2 ^ (I + 1) = s / 2 ^ I / 2 := by rw [Nat.pow_succ, Nat.div_div_eq_div_mul]
theorem mnL_sub {n : Nat} (A : Mx) (S : Nat → Bool) : (mnL n A S S n).length = cnt S n * cnt S n ∧ dt (cnt S n) (rdg (cnt S n) (mnL n A S S n)) = dt (cnt S n) (sub S n A) := by
  refine ⟨by rw [mnL_len], dt_ext fun r hr c hc => ?_⟩
  rw [mnL_cls rfl rfl, rdg_cls hr hc]
  rfl
theorem sgw_even {k : Nat} {x : Int} (h : k % 2 = 0) : wrap64 (sg k * wrap64 x) = wrap64 x := by rw [sg_even h, Int.one_mul, w_w]
theorem sgw_odd {k : Nat} {x : Int} (h : k % 2 = 1) : wrap64 (sg k * wrap64 x) = wrap64 (-wrap64 x) := by rw [sg_odd h, Int.neg_one_mul]
set_option maxRecDepth 100000 in
set_option maxHeartbeats 1000000 in
theorem chara_ref (n : Nat) (hn : n ≤ 6) (N : Nat) (hN : N = n * n) (da : Option Addr) (dc : Nat) (dz : List Int) (hl : dz.length = N) (w : World) (hI : IsInts w.heap.size w da dz) :
    Calls Tryd.prog 9 #[.int .i64 (n : Nat), .slice da N dc] w (LnC (chR n (rdg n dz)) (n + 1) w) := by
  have HN : Hid (N = n * n ∧ dz.length = N) := ⟨hN, hl⟩
  have HI : Hid (IsInts w.heap.size w da dz) := hI
  obtain ⟨G0, hG0⟩ : ∃ G0, G0 = rdg n dz := ⟨_, rfl⟩
  have HG : Hid (G0 = rdg n dz) := hG0
  rw [← hG0]
  obtain ⟨M, hM⟩ : ∃ M : Nat, (n : Int) + 1 = (M : Int) := ⟨n + 1, by omega⟩
  have HM : Hid (M = n + 1) := by show _ = _; omega
  have M7 : M ≤ 7 := by omega
  have hmk := run_make_row' (P := Tryd.prog) 22 3 (.int .i64 0) 8 Tryd.underlying22 Tryd.infoInt rfl .i64 .i64 M (by omega) (by omega)
  have hmk2 := run_make_row' (P := Tryd.prog) 47 4 (.bool false) 1 Tryd.underlying47 infoBool14 rfl .i64 .i64 n (by omega) (by omega)
  obtain ⟨bT, hbT⟩ : ∃ b, b = w.heap.size := ⟨_, rfl⟩
  have HM0 : Hid (MidC bT (bT + 1) (w.alloc (.cells (madeCells #[.int .i64 0] M) 3)) (some ⟨bT, 0, none⟩) (chLm n G0 0) M) := by
    have h := zer_mid w 3 M
    show MidC _ _ _ _ _ _
    rw [chL_zero, ← HM.out, hbT]
    exact h
  have HbT : Hid (bT = w.heap.size) := hbT
  clear hI hN hl hG0
  go_enter Tryd.func9, Tryd.ntmps9
  go_wp2_with fail
  obtain ⟨w0, HW0⟩ : ∃ x, Hid (x = w.alloc (.cells (madeCells #[.int .i64 0] M) 3)) := ⟨_, rfl⟩
  rw [← HW0.out]
  rw [← hbT]
  have HQ0 : Hid (MidC bT (bT + 1) w0 (some ⟨bT, 0, none⟩) (chLm n G0 0) M ∧ Below w.heap.size w w0 ∧ bT + 1 ≤ w0.heap.size) := by
    show _ ∧ _
    rw [HW0.out]
    exact ⟨HM0.out, (Below.refl _ w).alloc (Nat.le_refl _) _, by rw [World.size_alloc, hbT]; exact Nat.le_refl _⟩
  clear HW0 HM0 hmk hM hbT
  go_loopw [6, 7] (fun s i wr => wr = w0 ∧ ∃ I P : Nat, I ≤ n ∧ P = 2 ^ I ∧ i = .int .i64 I ∧ s = .int .i64 P) (fun _ i _ => n - (intOf i).toNat)
  case atStart => exact ⟨rfl, 0, 1, Nat.zero_le _, rfl, rfl, rfl⟩
  case round =>
    obtain ⟨hwr, I, Pw, hI, hP, rfl, rfl⟩ := hrel
    obtain rfl := hwr.symm
    clear hwr
    have P64 : Pw ≤ 64 := by rw [hP]; exact Nat.pow_le_pow_right (by decide) (show I ≤ 6 by omega)
    have HP : Hid (Pw = 2 ^ I) := hP
    clear hP
    by_cases hlt : I < n
    · go_wp2_with fail
      exact ⟨⟨by first | trivial | rfl, I + 1, Pw * 2, by omega, by rw [HP.out, Nat.pow_succ], by go_num, by go_num⟩, by simp [intOf]; omega⟩
    · obtain rfl : n = I := by omega
      go_wp2_with fail
      go_loopw [8] (fun i wr => ∃ s : Nat, s ≤ Pw ∧ i = .int .i64 s ∧ MidC bT (bT + 1) wr (some ⟨bT, 0, none⟩) (chLm n G0 s) M ∧ Below w.heap.size w wr ∧ bT + 1 ≤ wr.heap.size) (fun i _ => Pw - (intOf i).toNat)
      case atStart => exact ⟨0, Nat.zero_le _, rfl, HQ0.out⟩
      case round =>
        clear HQ0
        obtain ⟨s, hs, rfl, hQ⟩ := hrel
        have HQ : Hid (MidC bT (bT + 1) wr (some ⟨bT, 0, none⟩) (chLm n G0 s) M ∧ Below w.heap.size w wr ∧ bT + 1 ≤ wr.heap.size) := hQ
        clear hQ
        by_cases hlt : s < Pw
        · obtain ⟨wj, hwj⟩ : ∃ x, x = wr := ⟨_, rfl⟩
          subst hwj
          go_wp2_with fail
          obtain ⟨w1, HW1⟩ : ∃ x, Hid (x = wj.alloc (.cells (madeCells #[.bool false] n) 4)) := ⟨_, rfl⟩
          rw [← HW1.out]
          have HR0 : Hid (w1.rowIs wj.heap.size 4 n (bol (btB s 0)) ∧ Below wj.heap.size wj w1) := by
            show _ ∧ _
            rw [HW1.out]
            exact ⟨(World.rowIs_made wj (.bool false) n 4).congr fun _ _ => rfl, (Below.refl _ wj).alloc (Nat.le_refl _) _⟩
          clear HW1
          go_loopw [10, 11] (fun l i wr => ∃ K q : Nat, K ≤ n ∧ q = s / 2 ^ K ∧ i = .int .i64 K ∧ l = .int .i64 q ∧ wr.rowIs wj.heap.size 4 n (bol (btB s K)) ∧ Below wj.heap.size wj wr) (fun _ i _ => n - (intOf i).toNat)
          case atStart => exact ⟨0, s, Nat.zero_le _, by simp, rfl, rfl, HR0.out⟩
          case round =>
            clear HR0
            obtain ⟨K, q, hK, hq, rfl, rfl, hR⟩ := hrel
            have HR : Hid (wr.rowIs wj.heap.size 4 n (bol (btB s K)) ∧ Below wj.heap.size wj wr) := hR
            have HqK : Hid (q = s / 2 ^ K) := hq
            have q64 : q ≤ 64 := by rw [hq]; exact Nat.le_trans (Nat.div_le_self _ _) (by omega)
            clear hR hq
            by_cases hkt : K < n
            · obtain ⟨r, hr⟩ : ∃ r, r = q % 2 := ⟨_, rfl⟩
              obtain ⟨h, hh⟩ : ∃ h, h = q / 2 := ⟨_, rfl⟩
              obtain ⟨v, hv⟩ : ∃ v, ((r : Int) == 1) = v := ⟨_, rfl⟩
              have HV : Hid (v = bt s K) := by
                show _ = _
                rw [← hv]
                unfold bt
                rw [← HqK.out, ← hr]
                have : r = 0 ∨ r = 1 := by omega
                rcases this with e | e <;> rw [e] <;> rfl
              have HH : Hid (h = s / 2 ^ (K + 1)) := by show _ = _; rw [half14, ← HqK.out]; exact hh
              have r1 : (q : Int).tmod 2 = (r : Int) := by rw [hr]; rfl
              have r2 : (q : Int) % 2 = (r : Int) := by omega
              have d1 : (q : Int).tdiv 2 = (h : Int) := by rw [hh]; rfl
              have d2 : (q : Int) / 2 = (h : Int) := by omega
              have d3 : q / 2 = h := hh.symm
              have r3 : q % 2 = r := hr.symm
              clear hr hh
              have c1 := HR.out.1.cell hkt
              have f1 := HR.out.1.frozen K
              unfold bol at c1
              go_upto_region 16 with fail
              obtain ⟨wa, HWa⟩ : ∃ x, Hid (x = wr.setCell ⟨wj.heap.size, K, none⟩ (.bool v)) := ⟨_, rfl⟩
              rw [← HWa.out]
              have HR1 : Hid (wa.rowIs wj.heap.size 4 n (bol (btB s (K + 1))) ∧ Below wj.heap.size wj wa) := by
                show _ ∧ _
                rw [HWa.out]
                exact ⟨btB_next HR.out.1 HV.out, HR.out.2.setCell (p := ⟨wj.heap.size, K, none⟩) (Nat.le_refl _) _⟩
              clear HWa HR c1 f1
              go_wp2_with fail
              exact ⟨⟨K + 1, h, by omega, HH.out, by go_num, by go_num, HR1.out⟩, by simp [intOf]; omega⟩
            · obtain rfl : n = K := by omega
              have hBw : Below w.heap.size w wr := HQ.out.2.1.trans (HR.out.2.mono HQ.out.2.1.size)
              have hMi := minor_any n hn N HN.out.1 da dc dz HN.out.2 (bt s) (bt s) wj.heap.size wj.heap.size wr (btB_all HR.out.1) (btB_all HR.out.1) ((HI.out.below hBw).mono hBw.size)
              rw [← HG.out] at hMi
              obtain ⟨P, hP⟩ : ∃ P, P = mnL n G0 (bt s) (bt s) n := ⟨_, rfl⟩
              have hPp := mnL_sub (n := n) G0 (bt s)
              rw [← hP] at hPp hMi
              obtain ⟨k, hk⟩ : ∃ k, k = cnt (bt s) n := ⟨_, rfl⟩
              rw [← hk] at hPp hMi
              have hkn : k ≤ n := by rw [hk]; exact cnt_le _ n
              obtain ⟨q2, hq2⟩ : ∃ q, q = n - k := ⟨_, rfl⟩
              obtain ⟨N1, hN1⟩ : ∃ N1, N1 = k * k := ⟨_, rfl⟩
              rw [hPp.1, ← hN1] at hMi
              obtain ⟨dd, hdd⟩ : ∃ x, x = wrap64 (dt k (sub (bt s) n G0)) := ⟨_, rfl⟩
              have HD : Hid (∀ (g : Option Addr) (c : Nat) (v : World), NewC wr.heap.size v g P c → Calls Tryd.prog 8 #[.int .i64 (k : Nat), .slice g N1 c] v fun e w' => e = .returned (.int .i64 dd) ∧ Below v.heap.size v w') := fun g c v hX => by
                rw [hdd, ← hPp.2]
                exact det_ref k (by omega) N1 hN1 g c P (by rw [hPp.1, hN1]) v hX.1.ints
              have HK : Hid (k = cnt (bt s) n ∧ q2 = n - k) := ⟨hk, hq2⟩
              have Hdd : Hid (dd = wrap64 (dt k (sub (bt s) n G0))) := hdd
              have hsub : IntKind.i64.wrap ((n : Int) - (k : Int)) = (q2 : Int) := by rw [IntWalk.i64_left, show ((n : Int) - (k : Int)) = (q2 : Int) by omega]; exact w_small (by omega) (by omega)
              have hsub2 : (n : Int) - (k : Int) = (q2 : Int) := by omega
              have hqM : q2 < M := by have := HM.out; omega
              have HQ2 : Hid (MidC bT (bT + 1) wr (some ⟨bT, 0, none⟩) (chLm n G0 s) M ∧ Below w.heap.size w wr ∧ bT + 1 ≤ wr.heap.size) := ⟨HQ.out.1.go HQ.out.2.2 HR.out.2, hBw, Nat.le_trans HQ.out.2.2 HR.out.2.size⟩
              clear hP hPp hN1 hdd hk hq2 hBw HQ HR
              go_wp2_with fail
              refine hMi.mono ?_
              rintro e w2 ⟨g, c, rfl, hX, hB⟩
              have hD := HD.out g c w2 hX
              have HB2 : Hid (Below wr.heap.size wr w2) := hB
              clear hMi HD hX hB
              go_wp2_with fail
              refine hD.mono ?_
              rintro e w3 ⟨rfl, hB⟩
              have HB3 : Hid (Below wr.heap.size wr w3) := HB2.out.trans (hB.mono HB2.out.size)
              have HQ3 : Hid (MidC bT (bT + 1) w3 (some ⟨bT, 0, none⟩) (chLm n G0 s) M ∧ Below w.heap.size w w3 ∧ bT + 1 ≤ w3.heap.size) := ⟨HQ2.out.1.go HQ2.out.2.2 HB3.out, HQ2.out.2.1.trans (HB3.out.mono HQ2.out.2.1.size), Nat.le_trans HQ2.out.2.2 HB3.out.size⟩
              clear hD hB HB2 HB3 HQ2
              have HqL : Hid (q2 < (chLm n G0 s).length) := by show _ < _; rw [chL_len, ← HM.out]; exact hqM
              obtain ⟨b', o', hbo, m1, m2, m3, m4⟩ := HQ3.out.1.at HqL.out
              cases hbo
              rw [Nat.zero_add] at m3 m4
              obtain ⟨X, hX⟩ : ∃ X, X = nth (chLm n G0 s) q2 := ⟨_, rfl⟩
              rw [← hX] at m3
              by_cases hod : k % 2 = 1
              · have hr : (k : Int).tmod 2 = 1 := by have : ((k % 2 : Nat) : Int) = 1 := by rw [hod]; rfl
                                                     exact this
                have hr2 : (k : Int) % 2 = 1 := by omega
                obtain ⟨cc, hc⟩ : ∃ x, wrap64 (-dd) = x := ⟨_, rfl⟩
                have hc2 : IntKind.i64.wrap (-dd) = cc := by rw [IntWalk.i64_left]; exact hc
                obtain ⟨Z, hZ⟩ : ∃ x, wrap64 (X + cc) = x := ⟨_, rfl⟩
                have hZ2 : IntKind.i64.wrap (X + cc) = Z := by rw [IntWalk.i64_left]; exact hZ
                have HX : Hid ((chLm n G0 s).set q2 Z = chLm n G0 (s + 1)) := by show _ = _; rw [← hZ, ← hc, Hdd.out, ← sgw_odd hod, hX]; exact chL_next HK.out.1 HK.out.2 rfl
                clear hX hod
                go_upto_region 9 with fail
                obtain ⟨w4, HW4⟩ : ∃ x, Hid (x = w3.setCell ⟨bT, q2, none⟩ (.int .i64 Z)) := ⟨_, rfl⟩
                rw [← HW4.out]
                have HQ4 : Hid (MidC bT (bT + 1) w4 (some ⟨bT, 0, none⟩) (chLm n G0 (s + 1)) M ∧ Below w.heap.size w w4 ∧ bT + 1 ≤ w4.heap.size) := by
                  show _ ∧ _
                  rw [HW4.out, ← HX.out]
                  exact ⟨put0 HQ3.out.1 HqL.out _, HQ3.out.2.1.setCell (p := ⟨bT, q2, none⟩) (by show w.heap.size ≤ bT; rw [HbT.out]; exact Nat.le_refl _) _, by rw [World.size_setCell]; exact HQ3.out.2.2⟩
                clear HW4 HQ3 HX m1 m2 m3 m4
                go_wp2_with fail
                exact ⟨⟨s + 1, by omega, by go_num, HQ4.out⟩, by simp [intOf]; omega⟩
              · have hev : k % 2 = 0 := by omega
                have hr : (k : Int).tmod 2 = 0 := by have : ((k % 2 : Nat) : Int) = 0 := by rw [hev]; rfl
                                                     exact this
                have hr2 : (k : Int) % 2 = 0 := by omega
                obtain ⟨Z, hZ⟩ : ∃ x, wrap64 (X + dd) = x := ⟨_, rfl⟩
                have hZ2 : IntKind.i64.wrap (X + dd) = Z := by rw [IntWalk.i64_left]; exact hZ
                have HX : Hid ((chLm n G0 s).set q2 Z = chLm n G0 (s + 1)) := by show _ = _; rw [← hZ, Hdd.out, ← sgw_even (x := dt k (sub (bt s) n G0)) hev, hX]; exact chL_next HK.out.1 HK.out.2 rfl
                clear hX hod hev
                go_upto_region 9 with fail
                obtain ⟨w4, HW4⟩ : ∃ x, Hid (x = w3.setCell ⟨bT, q2, none⟩ (.int .i64 Z)) := ⟨_, rfl⟩
                rw [← HW4.out]
                have HQ4 : Hid (MidC bT (bT + 1) w4 (some ⟨bT, 0, none⟩) (chLm n G0 (s + 1)) M ∧ Below w.heap.size w w4 ∧ bT + 1 ≤ w4.heap.size) := by
                  show _ ∧ _
                  rw [HW4.out, ← HX.out]
                  exact ⟨put0 HQ3.out.1 HqL.out _, HQ3.out.2.1.setCell (p := ⟨bT, q2, none⟩) (by show w.heap.size ≤ bT; rw [HbT.out]; exact Nat.le_refl _) _, by rw [World.size_setCell]; exact HQ3.out.2.2⟩
                clear HW4 HQ3 HX m1 m2 m3 m4
                go_wp2_with fail
                exact ⟨⟨s + 1, by omega, by go_num, HQ4.out⟩, by simp [intOf]; omega⟩
        · obtain rfl : s = Pw := by omega
          have HE : Hid (MidC bT (bT + 1) wr (some ⟨bT, 0, none⟩) (chR n G0) M) := by
            have := HQ.out.1
            rwa [HP.out, chL_all] at this
          go_wp2_with fail
          go_ret
          exact ⟨_, _, by rw [← HM.out]; rfl, by rw [HbT.out] at HE ⊢; exact ⟨HE.out.1.new (by have := HQ.out.2.2; rw [HbT.out] at this; exact this), HE.out.2⟩, HQ.out.2.1⟩
set_option maxRecDepth 100000 in
set_option maxHeartbeats 1000000 in
theorem ints_same14 (e : Int) (a : Option Addr) (cap : Nat) (zs : List Int) (l : Nat) (hl : zs.length = l) (b : Option Addr) (bap : Nat) (w : World) (hg : HasErr w) (h1 : l ≤ 9223372036854775807) (hs : IsInts w.heap.size w a zs) (hd : IsInts w.heap.size w b zs) :
    Calls Tryd.prog 13 #[.slice a l cap, errV e, .slice b l bap, .int .i64 e] w fun r w' => r = .returned (.bool true) ∧ Below w.heap.size w w' := by
  subst hl
  have HI : Hid (IsInts w.heap.size w a zs ∧ IsInts w.heap.size w b zs) := ⟨hs, hd⟩
  clear hs hd
  go_enter Tryd.func13, Tryd.ntmps13
  go_wp2_with fail
  refine (error_same e w hg).mono ?_
  rintro r w1 ⟨rfl, hB⟩
  have HB : Hid (Below w.heap.size w w1) := hB
  clear hB hg
  go_wp2_with fail
  refine (ints_any a cap zs b bap zs h1 _ w1 ((HI.out.1.below HB.out).mono HB.out.size) ((HI.out.2.below HB.out).mono HB.out.size)).mono ?_
  rintro r w2 ⟨rfl, hB2⟩
  rw [eqB_true rfl]
  go_wp2_with fail
  go_ret
  exact ⟨rfl, HB.out.trans (hB2.mono HB.out.size)⟩
theorem ints_ok14 (L : List Int) (l : Nat) (hl : L.length = l) (h7 : l ≤ 7) (a : Option Addr) (cap : Nat) (b : Option Addr) (bap : Nat) (w : World) (hg : HasErr w) (hs : IsInts w.heap.size w a L) (hd : IsInts w.heap.size w b L) :
    Calls Tryd.prog 13 #[.slice a l cap, .nilIface, .slice b l bap, .int .i64 0] w fun r w' => r = .returned (.bool true) ∧ Below w.heap.size w w' := ints_same14 0 a cap L l hl b bap w hg (by omega) hs hd
theorem ints_no14 (e : Int) (he : e ≠ 0) (w : World) (hg : HasErr w) :
    Calls Tryd.prog 13 #[.slice none 0 0, .iface 25 (.int .i64 e), .slice none 0 0, .int .i64 e] w fun r w' => r = .returned (.bool true) ∧ Below w.heap.size w w' := by
  have h := ints_same14 e none 0 [] 0 rfl none 0 w hg (by omega) (.inl rfl) (.inl rfl)
  rw [errV_pos he] at h
  exact h
theorem err_ok14 (w : World) (hg : HasErr w) : Calls Tryd.prog 11 #[.nilIface, .int .i64 0] w fun e w' => e = .returned (.bool true) ∧ Below w.heap.size w w' := error_same 0 w hg
theorem err_no14 (e : Int) (he : e ≠ 0) (w : World) (hg : HasErr w) : Calls Tryd.prog 11 #[.iface 25 (.int .i64 e), .int .i64 e] w fun r w' => r = .returned (.bool true) ∧ Below w.heap.size w w' := by
  have h := error_same e w hg
  rw [errV_pos he] at h
  exact h
end Go.Proofs.YtjaabemlpiafaaaDoor
