/-
  The document's answers on orders: cycles.
-/
import Derived.Test.YtcblakcaoecgpaaDoorRpm1
import Derived.Test.YtcblakcaoecgpaaDoorPrmr
namespace Go.Proofs.YtcblakcaoecgpaaDoor
open Go.RowKit
set_option linter.unusedVariables false

/-- The cycles of the first numbers. -/
def rnT (p : List Int) (i : Nat) : List (List Int) := ((List.range i).filter fun i => lstB p i && decide (1 < per p i)).map (orb p)
theorem rnT_all (p : List Int) : rnT p p.length = rnds p := rfl
theorem rnT_next (p : List Int) (i : Nat) : rnT p (i + 1) = if (lstB p i && decide (1 < per p i)) = true then rnT p i ++ [orb p i] else rnT p i := by
  unfold rnT
  rw [List.range_succ, List.filter_append, List.map_append]
  by_cases h : (lstB p i && decide (1 < per p i)) = true
  · rw [if_pos h, List.filter_cons_of_pos (p := fun i => lstB p i && decide (1 < per p i)) h]; rfl
  · rw [if_neg h, List.filter_cons_of_neg (p := fun i => lstB p i && decide (1 < per p i)) h]; simp
theorem rnT_len (p : List Int) (i : Nat) : (rnT p i).length ≤ i := by
  unfold rnT
  rw [List.length_map]
  exact Nat.le_trans (List.length_filter_le _ _) (by rw [List.length_range]; exact Nat.le_refl _)
/-- The first numbers of a cycle. -/
def obT (p : List Int) (i t : Nat) : List Int := (List.range t).map fun k => (itr p k i : Int)
theorem obT_len (p : List Int) (i t : Nat) : (obT p i t).length = t := by simp [obT]
theorem obT_next (p : List Int) (i t : Nat) : obT p i (t + 1) = obT p i t ++ [(itr p t i : Int)] := by
  unfold obT
  rw [List.range_succ, List.map_append]; rfl
def lsT (p : List Int) (i t : Nat) : Bool := (List.range t).all fun s => decide (i ≤ itr p s i)
theorem lsT_next (p : List Int) (i t : Nat) : lsT p i (t + 1) = (lsT p i t && decide (i ≤ itr p t i)) := by
  unfold lsT
  rw [List.range_succ, List.all_append]; simp
theorem lsT_one (p : List Int) (i : Nat) : lsT p i 1 = true := by simp [lsT, itr]
theorem itr_next {p : List Int} (hp : IsOrd p) {i : Nat} (h : i < p.length) (k : Nat) : nth p (itr p k i) = (itr p (k + 1) i : Nat) := (ord_at hp (itr_lt hp h k)).2.symm
/-- How long a slice is. -/
def lenV : Value → Nat
  | .slice _ n _ => n
  | _ => 0
/-- Lists that are told. -/
def RnP (R : List (List Int)) (w : World) (r : Ending) (w' : World) : Prop := ∃ g gc rs, r = .returned (.slice g rs.length gc) ∧ Hid (rws rs = R) ∧ IsRs w'.heap.size w' g rs ∧ Below w.heap.size w w'
set_option maxRecDepth 100000 in
set_option maxHeartbeats 4000000 in
theorem rounds_any (a : Option Addr) (cap : Nat) (p : List Int) (hp : IsOrd p) (h1 : p.length ≤ 4096) (w : World) (hI : IsInts w.heap.size w a p) :
    Calls Tryd.prog 18 #[.slice a p.length cap] w (RnP (rnds p) w) := by
  have HI : Hid (IsInts w.heap.size w a p) := hI
  have HP : Hid (IsOrd p) := hp
  clear hI hp
  go_enter Tryd.func18, Tryd.ntmps18
  go_wp2_with fail
  go_loopw [3, 4] (fun v i wr => ∃ (t : Nat) (rs : List RwV), t ≤ p.length ∧ i = .int .i64 t ∧ Hid (rws rs = rnT p t) ∧ OwnR w.heap.size wr v rs ∧ Below w.heap.size w wr) (fun _ i _ => p.length - (intOf i).toNat)
  case atStart => exact ⟨0, [], Nat.zero_le _, rfl, rfl, OwnR.nil _ _, Below.refl _ _⟩
  case round =>
    obtain ⟨i, rs, hi, rfl, HR, hown, hB⟩ := hrel
    obtain ⟨V, hV⟩ : ∃ V, V = wr := ⟨_, rfl⟩
    subst hV
    obtain ⟨X, hX⟩ : ∃ X, X = u3 := ⟨_, rfl⟩
    subst hX
    by_cases hlt : i < p.length
    · have HO : Hid (OwnR w.heap.size V X rs) := hown
      have HB : Hid (Below w.heap.size w V) := hB
      have hzV : w.heap.size ≤ V.heap.size := hB.size
      have HL : Hid (rs.length ≤ 4096) := by
        have := rnT_len p i
        rw [← HR.out] at this
        show _ ≤ _
        simp [rws] at this
        omega
      obtain ⟨b, off, rfl, hb, hcell⟩ := HI.out.at hlt
      have HC : Hid (∀ W, Below w.heap.size w W → ∀ j, j < p.length → W.cell? ⟨b, off + j, none⟩ = some (.int .i64 (nth p j))) := fun W hW j hj => (hW.cell (p := ⟨b, off + j, none⟩) hb).trans (hcell j hj)
      have hBa : Below w.heap.size w (V.alloc (.cells #[.int .i64 (i : Nat)] 3)) := hB.alloc hzV _
      have hc := HC.out _ hBa i hlt
      have e1 := itr_next HP.out hlt 0
      rw [show itr p 0 i = i from rfl] at e1
      rw [e1] at hc
      obtain ⟨hpl, hpi, hpn⟩ := per_fact HP.out hlt
      have HPF : Hid (itr p (per p i) i = i ∧ ∀ k, 0 < k → k < per p i → itr p k i ≠ i) := ⟨hpi, hpn⟩
      have hpp := per_pos p i
      have hl0 := World.ownsRow_lit (size := 1) (e := 3) (base := V.heap.size) V #[.int .i64 (i : Nat)] 1 (Nat.le_refl _) (by unfold maxLen; omega) rfl
      have HW0 : Hid ((V.alloc (.cells #[.int .i64 (i : Nat)] 3)).ownsRow V.heap.size 3 1 (.slice (some ⟨V.heap.size, 0, none⟩) 1 1) 1 [.int .i64 (i : Nat)]) := hl0
      clear hown hB hcell hBa e1 hpi hpn hl0
      go_wp2_with fail
      clear hc
      go_loopw [5, 6, 7] (fun c l j wr => ∃ t : Nat, t + 1 ≤ per p i ∧ j = .int .i64 (itr p (t + 1) i : Nat) ∧ l = .bool (lsT p i (t + 1)) ∧ wr.ownsRow V.heap.size 3 1 c (obT p i (t + 1)).length ((obT p i (t + 1)).map (Value.int .i64)) ∧ Below V.heap.size V wr) (fun c _ _ _ => per p i - lenV c)
      case atStart => exact ⟨0, hpp, rfl, by rw [lsT_one], HW0.out, (Below.refl _ V).alloc (Nat.le_refl _) _⟩
      case round =>
        clear HW0
        obtain ⟨t, ht, rfl, rfl, hown, hBV⟩ := hrel
        obtain ⟨g5, c5, rfl, hN5⟩ := own_cap hown
        have HW : Hid (wr.ownsRow V.heap.size 3 1 (.slice g5 (obT p i (t + 1)).length c5) (obT p i (t + 1)).length ((obT p i (t + 1)).map (Value.int .i64))) := hown
        have HN : Hid (NewC V.heap.size wr g5 (obT p i (t + 1)) c5) := hN5
        have HBV : Hid (Below V.heap.size V wr) := hBV
        have HBw : Hid (Below w.heap.size w wr) := HB.out.trans (hBV.mono hzV)
        have hzw : V.heap.size ≤ wr.heap.size := hBV.size
        clear hown hN5 hBV
        by_cases hj : itr p (t + 1) i = i
        · have hper : t + 1 = per p i := by
            by_cases h2 : t + 1 < per p i
            · exact absurd hj (HPF.out.2 (t + 1) (by omega) h2)
            · omega
          rw [hj, hper]
          rw [hper] at HW HN
          have eO : obT p i (per p i) = orb p i := rfl
          have eL : lsT p i (per p i) = lstB p i := rfl
          rw [eO, eL]
          rw [eO] at HN
          have HS := rnT_next p i
          have HNx : Hid (rnT p (i + 1) = if (lstB p i && decide (1 < per p i)) = true then rnT p i ++ [orb p i] else rnT p i) := HS
          have HOL : Hid ((orb p i).length = per p i) := orb_length i
          clear HS eO eL HW hj
          cases hls : lstB p i
          · rw [hls] at HNx
            have HF : Hid (rws rs = rnT p (i + 1)) := by show _ = _; rw [HNx.out, if_neg (by simp), HR.out]
            clear hls HNx
            generalize orb p i = D at *
            go_wp2_with fail
            exact ⟨⟨i + 1, rs, by omega, by go_num, HF.out, HO.out.go HBV.out, HBw.out⟩, by simp [intOf]; omega⟩
          · rw [hls] at HNx
            obtain ⟨m, hm⟩ : ∃ m, m = per p i := ⟨_, rfl⟩
            have hmD : (orb p i).length = m := by rw [hm]; exact HOL.out
            by_cases hp1 : 1 < per p i
            · have HF : Hid (rws (rs ++ [((g5, c5), orb p i)]) = rnT p (i + 1)) := by
                show _ = _
                rw [HNx.out, if_pos (by simpa using hp1), ← HR.out]
                simp [rws]
              have hd : (1 : Int) < ((orb p i).length : Int) := by omega
              have HOw : Hid (OwnR w.heap.size (wr.alloc (.cells #[.slice g5 (orb p i).length c5] 22)) X rs) := (HO.out.go HBV.out).al _
              have HSp : Hid (SepR X.ownBlock w.heap.size (wr.alloc (.cells #[.slice g5 (orb p i).length c5] 22)) g5 (orb p i)) := (SepR.of_new HN.out.1 hzV HO.out.lt).al _
              clear hls HNx hp1 hm hmD
              generalize orb p i = D at *
              go_wp2_with (at_builtin; refine app_rows rfl _ _ rfl _ w.heap.size wr.heap.size X rs ((g5, c5), D) (.slice g5 D.length c5) rfl rfl rfl HOw.out HSp.out (heap_alloc_new wr _) (by have := HL.out; omega) (by simp; omega) ?_; intro g1 gc1 w3 hown1 hB3)
              exact ⟨⟨i + 1, _, by omega, by go_num, HF.out, hown1, HBw.out.trans (((Below.refl _ wr).alloc (by omega) _).trans hB3)⟩, by simp [intOf]; omega⟩
            · have HF : Hid (rws rs = rnT p (i + 1)) := by show _ = _; rw [HNx.out, if_neg (by simpa using hp1), HR.out]
              have hd : ¬ (1 : Int) < ((orb p i).length : Int) := by omega
              clear hls HNx hp1 hm hmD
              generalize orb p i = D at *
              go_wp2_with fail
              exact ⟨⟨i + 1, rs, by omega, by go_num, HF.out, HO.out.go HBV.out, HBw.out⟩, by simp [intOf]; omega⟩
        · have hper : t + 1 < per p i := by
            by_cases h2 : t + 1 = per p i
            · rw [h2] at hj; exact absurd HPF.out.1 hj
            · omega
          obtain ⟨J, hJ⟩ : ∃ J, J = itr p (t + 1) i := ⟨_, rfl⟩
          have hJl : J < p.length := by rw [hJ]; exact itr_lt HP.out hlt _
          have hO := obT_next p i (t + 1)
          have hS := lsT_next p i (t + 1)
          have hl := obT_len p i (t + 1)
          have hN2 := itr_next HP.out hlt (t + 1)
          rw [← hJ] at hO hS hN2 hj ⊢
          have HJ2 : Hid (obT p i (t + 1 + 1) = obT p i (t + 1) ++ [(J : Int)] ∧ lsT p i (t + 1 + 1) = (lsT p i (t + 1) && decide (i ≤ J))) := ⟨hO, hS⟩
          have HLn : Hid ((obT p i (t + 1)).length = t + 1) := hl
          have hne : ((J : Int) != (i : Int)) = true := by rw [bne_iff_ne]; omega
          have hne2 : (J != i) = true := by rw [bne_iff_ne]; exact hj
          have HNJ : Hid (nth p J = (itr p (t + 1 + 1) i : Nat)) := hN2
          clear hJ hO hS hl hN2
          generalize obT p i (t + 1) = L at *
          generalize hJ2 : itr p (t + 1 + 1) i = J2 at *
          have HJJ : Hid (itr p (t + 1 + 1) i = J2) := hJ2
          clear hJ2
          have hLl : L.length ≤ 4096 := by have := HLn.out; omega
          by_cases hJi : J < i
          · have HLs : Hid (lsT p i (t + 1 + 1) = false) := by show _ = _; rw [HJ2.out.2, decide_eq_false (by omega), Bool.and_false]
            go_wp2_with (at_builtin; refine app_list rfl _ _ rfl _ V.heap.size wr.heap.size _ L (J : Int) rfl rfl (HW.out.alloc _) (heap_alloc_new wr _) (by omega) (by simp; omega) ?_; intro g1 gc1 w3 hown1 hB3; have hB4 : Below w.heap.size w w3 := HBw.out.trans ((((Below.refl _ wr).alloc hzw _).trans hB3).mono hzV); have hc4 := HC.out w3 hB4 J hJl; rw [HNJ.out] at hc4)
            refine ⟨⟨t + 1, hper, by rw [HJJ.out], by rw [HLs.out], ?_, HBV.out.trans (((Below.refl _ wr).alloc hzw _).trans hB3)⟩, by simp [lenV]; have := HLn.out; omega⟩
            rw [HJ2.out.1, List.length_append]
            exact hown1
          · have HLs : Hid (lsT p i (t + 1 + 1) = lsT p i (t + 1)) := by show _ = _; rw [HJ2.out.2, decide_eq_true (by omega), Bool.and_true]
            go_wp2_with (at_builtin; refine app_list rfl _ _ rfl _ V.heap.size wr.heap.size _ L (J : Int) rfl rfl (HW.out.alloc _) (heap_alloc_new wr _) (by omega) (by simp; omega) ?_; intro g1 gc1 w3 hown1 hB3; have hB4 : Below w.heap.size w w3 := HBw.out.trans ((((Below.refl _ wr).alloc hzw _).trans hB3).mono hzV); have hc4 := HC.out w3 hB4 J hJl; rw [HNJ.out] at hc4)
            refine ⟨⟨t + 1, hper, by rw [HJJ.out], by rw [HLs.out], ?_, HBV.out.trans (((Below.refl _ wr).alloc hzw _).trans hB3)⟩, by simp [lenV]; have := HLn.out; omega⟩
            rw [HJ2.out.1, List.length_append]
            exact hown1
    · obtain rfl : i = p.length := by omega
      have HF : Hid (rws rs = rnds p) := by rw [← rnT_all]; exact HR
      obtain ⟨g, gc, rfl, hrs⟩ := hown.is
      clear hown
      go_wp2_with fail
      go_ret
      exact ⟨g, gc, rs, rfl, HF.out, hrs, hB⟩
end Go.Proofs.YtcblakcaoecgpaaDoor
