/-
  The shape that is told, and the places: what the program's picked tells.
-/
import Derived.Test.YteddkfeiikdekaaPsrc
import Derived.Test.YteddkfeiikdekaaUbm
namespace Go.Proofs.Yteddkfeiikdekaa
open Go.RowKit
set_option linter.unusedVariables false

/-- A shape, places and an error, whichever it is. -/
def UP (e : Int) (S P : List Int) (w : World) (r : Ending) (w' : World) : Prop :=
  ∃ xa xc ya yc, r = .returned (.tuple #[.slice xa S.length xc, .slice ya P.length yc, errV e]) ∧ NewC w.heap.size w' xa S xc ∧ NewC w.heap.size w' ya P yc ∧ Below w.heap.size w w'
theorem up_no {e : Int} {S P : List Int} {w w' : World} {e' : Int} (h : e = e') (h0 : e' ≠ 0) (hB : Below w.heap.size w w') : UP e (onl e S) (onl e P) w (.returned (.tuple #[.slice none 0 0, .slice none 0 0, .iface 57 (.int .i64 e')])) w' := by
  subst h
  unfold UP
  rw [onl_no h0, onl_no h0, errV_pos h0]
  exact ⟨none, 0, none, 0, rfl, ⟨.inl rfl, Nat.le_refl _⟩, ⟨.inl rfl, Nat.le_refl _⟩, hB⟩
theorem up_ok {e : Int} {S P : List Int} {w w' : World} {xa : Option Addr} {xc : Nat} {ya : Option Addr} {yc n : Nat} (h : e = 0) (hn : P.length = n) (hX : NewC w.heap.size w' xa S xc) (hY : NewC w.heap.size w' ya P yc) (hB : Below w.heap.size w w') :
    UP e (onl e S) (onl e P) w (.returned (.tuple #[.slice xa S.length xc, .slice ya n yc, .nilIface])) w' := by
  subst h hn
  exact ⟨xa, xc, ya, yc, rfl, hX, hY, hB⟩
set_option maxRecDepth 100000 in
set_option maxHeartbeats 4000000 in
theorem picked_new (sa : Option Addr) (sc : Nat) (zs : List Int) (ba : Option Addr) (bc : Nat) (bs : List ArV) (he : errOf zs = 0) (h3 : bs.length ≤ 9223372036854775807) (hf : flL (bya bs) = 0) (w : World) (hI : IsInts w.heap.size w sa zs) (hR : IsAs w.heap.size w ba bs) :
    Calls Try.prog 42 #[.slice sa zs.length sc, .slice ba bs.length bc] w (UP (nmE zs (bya bs)) (onl (nmE zs (bya bs)) (pkS (bya bs))) (onl (nmE zs (bya bs)) (plL zs (bya bs))) w) := by
  have HI : Hid (IsInts w.heap.size w sa zs ∧ IsAs w.heap.size w ba bs) := ⟨hI, hR⟩
  have HF : Hid (errOf zs = 0 ∧ flL (bya bs) = 0) := ⟨he, hf⟩
  have hlz : zs.length ≤ 6 := (errOf_zero.1 he).1
  clear hI hR he hf
  by_cases hc : ciE zs (bya bs) = 0
  · have HC : Hid (ciE zs (bya bs) = 0) := hc
    have hbl : bs.length = zs.length := by have := (ciE_zero.1 hc).1; rwa [bya_length] at this
    have hb6 : bs.length ≤ 6 := by omega
    have HL : Hid (bs.length = zs.length) := hbl
    clear hbl
    have hp := chkidx_any sa sc zs ba bc bs (by omega) h3 w HI.out.2
    rw [hc] at hp
    have er0 : errV 0 = .nilIface := rfl
    rw [er0] at hp
    clear hc er0
    go_enter Try.func42, Try.ntmps42
    go_wp2_with fail
    refine hp.mono ?_
    clear hp
    rintro e v1 ⟨rfl, hC⟩
    have HB1 : Hid (Below w.heap.size w v1) := hC
    clear hC
    go_wp2_with fail
    refine (joined_new ba bc bs hb6 HF.out.2 v1 ((HI.out.2.below HB1.out).mono HB1.out.size)).mono ?_
    rintro e v2 ⟨g, gc, rfl, hN, hC⟩
    obtain ⟨S, hS⟩ : ∃ S, S = pkS (bya bs) := ⟨_, rfl⟩
    rw [← hS] at hN ⊢
    have HS : Hid (S = pkS (bya bs)) := hS
    have hSl : S.length ≤ 36 := by rw [hS]; have := pkS_short (bya bs) HF.out.2; rw [bya_length] at this; omega
    have HB2 : Hid (Below w.heap.size w v2) := HB1.out.trans (hC.mono HB1.out.size)
    have HN2 : Hid (NewC v1.heap.size v2 g S gc) := hN
    have hz1 : w.heap.size ≤ v1.heap.size := HB1.out.size
    have hz2 : v1.heap.size ≤ v2.heap.size := hC.size
    clear hC hS hN
    go_wp2_with fail
    by_cases heS : errOf S = 0
    · have HE : Hid (errOf S = 0) := heS
      have hpn := prod_nonneg (errOf_zero.1 heS).2.1
      have hpm := (errOf_zero.1 heS).2.2
      obtain ⟨N, hNe⟩ : ∃ N : Nat, (N : Int) = prod S := ⟨(prod S).toNat, by omega⟩
      have hN4 : N ≤ 4096 := by omega
      have HNe : Hid ((N : Int) = prod S) := hNe
      have h := count_ok g gc S (by omega) v2 HN2.out.ints.1 HE.out
      rw [← hNe] at h
      clear hpn hpm hNe heS
      refine h.mono ?_
      clear h
      rintro e v3 ⟨rfl, hC⟩
      have HB3 : Hid (Below w.heap.size w v3) := HB2.out.trans (hC.mono HB2.out.size)
      have HN3 : Hid (NewC v1.heap.size v3 g S gc) := HN2.out.go hC
      have hz3 : v2.heap.size ≤ v3.heap.size := hC.size
      clear hC HB2 HN2
      go_wp2_with fail
      go_loopw [4, 30] (fun t i wr => ∃ k : Nat, k ≤ zs.length ∧ i = .int .i64 k ∧ t = .slice g S.length gc ∧ Hid (∀ j, j < k → lowB (arz bs j).2.2.2 (nth zs j) = true) ∧ wr = v3) (fun _ i _ => zs.length - (intOf i).toNat)
      case atStart => exact ⟨0, Nat.zero_le _, rfl, rfl, fun j hj => absurd hj (Nat.not_lt_zero j), rfl⟩
      case round =>
        obtain ⟨k, hk, rfl, rfl, HA, hv⟩ := hrel
        obtain rfl := hv.symm
        by_cases hlt : k < zs.length
        · have hkb : k < bs.length := by rw [HL.out]; exact hlt
          obtain ⟨bz, oz, rfl, hbz, hcz⟩ := (HI.out.1.below HB3.out).at hlt
          have cz := hcz k hlt
          have hav := (HI.out.2.below HB3.out).2 k hkb
          obtain ⟨bb, ob, rfl, hbb, c0, c1, c2⟩ := (HI.out.2.below HB3.out).cells hkb
          have HAV : Hid (IsAv w.heap.size v3 (arz bs k)) := hav
          clear hcz hav c0 c1 hv
          cases hb : lowB (arz bs k).2.2.2 (nth zs k)
          · have HX : Hid (nmE zs (bya bs) = 5) := by
              refine nmE_ix HC.out (by rw [← HS.out]; exact HE.out) ?_
              by_cases hall : ∀ i, i < (arz bs k).2.2.2.length → 0 ≤ nth (arz bs k).2.2.2 i ∧ nth (arz bs k).2.2.2 i < nth zs k
              · rw [lowB_ok hall] at hb; cases hb
              · obtain ⟨i, hi⟩ := Classical.not_forall.1 hall
                obtain ⟨h1, h2⟩ := Classical.not_imp.1 hi
                exact ix_bad bs zs hkb h1 h2
            have h := below_any (arz bs k).2.2.1.1 (arz bs k).2.2.1.2 (arz bs k).2.2.2 (nth zs k) HAV.out.2.1 w.heap.size v3 HAV.out.2.2.2.1.1
            rw [hb] at h
            clear hb HA
            go_wp2_with fail
            refine h.mono ?_
            clear h
            rintro e v4 ⟨rfl, rfl⟩
            go_wp2_with fail
            go_ret3
            exact up_no HX.out (by decide) HB3.out
          · have HA2 : Hid (∀ j, j < k + 1 → lowB (arz bs j).2.2.2 (nth zs j) = true) := fun j hj => by
              by_cases e : j = k
              · subst e; exact hb
              · exact HA.out j (by omega)
            have h := below_any (arz bs k).2.2.1.1 (arz bs k).2.2.1.2 (arz bs k).2.2.2 (nth zs k) HAV.out.2.1 w.heap.size v3 HAV.out.2.2.2.1.1
            rw [hb] at h
            clear hb HA
            go_wp2_with fail
            refine h.mono ?_
            clear h
            rintro e v4 ⟨rfl, rfl⟩
            go_wp2_with fail
            exact ⟨⟨k + 1, by omega, by go_num, rfl, HA2, by first | rfl | trivial⟩, by simp [intOf]; omega⟩
        · obtain rfl : k = zs.length := by omega
          have HIX : Hid (ixB (bya bs) zs = true) := ix_ok bs zs fun k hk i hi => lowB_at (HA.out k (by rw [← HL.out]; exact hk)) hi
          have HZ : Hid (nmE zs (bya bs) = 0) := nmE_ok HC.out (by rw [← HS.out]; exact HE.out) HIX.out
          obtain ⟨P, hP⟩ : ∃ P, P = plL zs (bya bs) := ⟨_, rfl⟩
          have HPe : Hid (P = plL zs (bya bs)) := hP
          have HP : Hid (P.length = N ∧ ∀ j, j < N → nth P j = pkP zs (bya bs) j ∧ j < (prod (pkS (bya bs))).toNat) := by
            have e := HNe.out
            rw [HS.out] at e
            refine ⟨by rw [hP, plL_length]; omega, fun j hj => ⟨by rw [hP, plL_nth _ _ (by omega)], by omega⟩⟩
          clear hP HA hlt hv hk
          have hmk := run_make_row' (P := Try.prog) 22 3 (.int .i64 0) 8 Try.underlying22 Try.infoInt rfl .i64 .i64 N (by omega) (by omega)
          go_wp2_with fail
          clear hmk
          go_loopw [49] (fun i wr => ∃ j : Nat, j ≤ N ∧ i = .int .i64 j ∧ wr.rowIs v3.heap.size 3 N (upTo (nth P) j) ∧ Below v3.heap.size v3 wr) (fun i _ => N - (intOf i).toNat)
          case atStart =>
            exact ⟨0, Nat.zero_le _, rfl, (World.rowIs_made v3 (.int .i64 0) N 3).congr (fun j _ => by simp [upTo]), (Below.refl _ v3).alloc (Nat.le_refl _) _⟩
          case round =>
            obtain ⟨j, hj, rfl, hrow, hBu⟩ := hrel
            have hB : Below w.heap.size w wr := HB3.out.trans (hBu.mono HB3.out.size)
            by_cases hlt : j < N
            · obtain ⟨hPj, hjp⟩ := HP.out.2 j hlt
              have HPj : Hid (nth P j = pkP zs (bya bs) j ∧ j < (prod (pkS (bya bs))).toNat) := ⟨hPj, hjp⟩
              have HQ : Hid (wr.rowIs v3.heap.size 3 N (upTo (nth P) j) ∧ Below v3.heap.size v3 wr ∧ Below w.heap.size w wr) := ⟨hrow, hBu, hB⟩
              clear hrow hBu hB hPj hjp
              go_wp2_with fail
              refine (src7_any sa sc zs ba bc bs j HF.out.1 HL.out HF.out.2 (by rw [← HS.out]; exact HE.out) HIX.out HPj.out.2 wr ((HI.out.1.below HQ.out.2.2).mono HQ.out.2.2.size) ((HI.out.2.below HQ.out.2.2).mono HQ.out.2.2.size) (nth P j) HPj.out.1).mono ?_
              rintro e w3 ⟨rfl, hBc⟩
              have hrow3 : w3.rowIs v3.heap.size 3 N (upTo (nth P) j) := HQ.out.1.of_block (hBc.block v3.heap.size HQ.out.1.lt)
              have c2 := hrow3.cell hlt
              have f2 := hrow3.frozen j
              have HQ3 : Hid (w3.rowIs v3.heap.size 3 N (upTo (nth P) j) ∧ Below v3.heap.size v3 w3) := ⟨hrow3, HQ.out.2.1.trans (hBc.mono HQ.out.2.1.size)⟩
              clear hrow3 hBc HQ
              go_wp2_with fail
              refine ⟨⟨j + 1, by omega, by go_num, upTo_set HQ3.out.1 _ rfl, HQ3.out.2.setCell (p := ⟨v3.heap.size, j, none⟩) (Nat.le_refl _) _⟩, by simp [intOf]; omega⟩
            · obtain rfl : j = N := by omega
              have HY : Hid (NewInts v3.heap.size wr (some ⟨v3.heap.size, 0, none⟩) P) := upTo_new hrow (Nat.le_refl _) P HP.out.1 (fun j hj => rfl)
              have HX3 : Hid (NewC v1.heap.size wr g S gc) := HN3.out.go hBu
              have HBw : Hid (Below w.heap.size w wr) := hB
              clear hrow hB hBu hlt hj
              go_wp2_with fail
              go_ret3
              have hX := HX3.out.low (lo' := w.heap.size) (by omega)
              have hY : NewC w.heap.size wr (some ⟨v3.heap.size, 0, none⟩) P j := ⟨HY.out.low (lo' := w.heap.size) (by omega), by rw [HP.out.1]; exact Nat.le_refl _⟩
              rw [← HS.out, ← HPe.out]
              exact up_ok HZ.out HP.out.1 hX hY HBw.out
    · have HE : Hid (nmE zs (bya bs) = errOf S) := by show _ = _; rw [HS.out]; rw [HS.out] at heS; exact nmE_err HC.out heS
      have HE0 : Hid (errOf S ≠ 0) := heS
      clear heS
      refine (count_no g gc S (by omega) v2 HN2.out.ints.1 HE0.out).mono ?_
      rintro e v3 ⟨rfl, hC⟩
      have HB3 : Hid (Below w.heap.size w v3) := HB2.out.trans (hC.mono HB2.out.size)
      clear hC HB2 HN2
      go_wp2_with fail
      go_ret3
      exact up_no HE.out HE0.out HB3.out
  · have HC : Hid (nmE zs (bya bs) = ciE zs (bya bs)) := nmE_ci hc
    have HC0 : Hid (ciE zs (bya bs) ≠ 0) := hc
    have hp := chkidx_any sa sc zs ba bc bs (by omega) h3 w HI.out.2
    rw [errV_pos hc] at hp
    clear hc
    go_enter Try.func42, Try.ntmps42
    go_wp2_with fail
    refine hp.mono ?_
    clear hp
    rintro e v1 ⟨rfl, hC⟩
    have HB1 : Hid (Below w.heap.size w v1) := hC
    clear hC
    go_wp2_with fail
    go_ret3
    exact up_no HC.out HC0.out HB1.out
end Go.Proofs.Yteddkfeiikdekaa
