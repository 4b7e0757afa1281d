/-
  The program's orders: is it one; turned round; one by another one.
-/
import Derived.Test.YtcblakcaoecgpaaDoorIsord
import Derived.Test.YtcblakcaoecgpaaDoorPrmq
namespace Go.Proofs.YtcblakcaoecgpaaDoor
open Go.RowKit
set_option linter.unusedVariables false

/-- What lies in a row that is filled, as a list. -/
theorem rr_list {wr : World} {B : Nat} {t : TypeId} {n : Nat} {xs : List Int} (h : wr.rowIs B t n (fun j => .int .i64 (nth xs j))) (hx : xs.length = n) {lo : Nat} (hlo : lo ≤ B) : NewC lo wr (some ⟨B, 0, none⟩) xs n :=
  ⟨.inr ⟨B, 0, rfl, hlo, h.lt, fun j hj => by rw [Nat.zero_add]; exact h.cell (by omega), fun j => h.frozen _⟩, by omega⟩
theorem rr_put {wr : World} {B : Nat} {t : TypeId} {n : Nat} {xs : List Int} (h : wr.rowIs B t n (fun j => .int .i64 (nth xs j))) (hx : xs.length = n) {i : Nat} (hi : i < n) (v : Int) : (wr.setCell ⟨B, i, none⟩ (.int .i64 v)).rowIs B t n (fun j => .int .i64 (nth (xs.set i v) j)) := by
  refine (h.set i _).congr fun j hj => ?_
  rw [nth_set _ _ _ _ (by omega)]
  by_cases e : j = i
  · rw [if_pos e, if_pos e]
  · rw [if_neg e, if_neg e]
/-- A list, up to a place. -/
def upl (D : List Int) (k : Nat) : List Int := D.take k ++ List.replicate (D.length - k) 0
theorem upl_length (D : List Int) {k : Nat} (h : k ≤ D.length) : (upl D k).length = D.length := by simp [upl]; omega
theorem upl_zero (D : List Int) : upl D 0 = List.replicate D.length 0 := by simp [upl]
theorem upl_all (D : List Int) : upl D D.length = D := by simp [upl]
theorem upl_next (D : List Int) {k : Nat} (h : k < D.length) : (upl D k).set k (nth D k) = upl D (k + 1) := by
  refine nth_ext (by rw [List.length_set, upl_length D (by omega), upl_length D (by omega)]) fun j hj => ?_
  rw [List.length_set, upl_length D (by omega)] at hj
  rw [nth_set _ _ _ _ (by rw [upl_length D (by omega)]; exact h)]
  have hg : ∀ k, k ≤ D.length → nth (upl D k) j = if j < k then nth D j else 0 := fun k hk => by
    unfold upl nth
    simp only [List.getD_eq_getElem?_getD]
    by_cases h1 : j < k
    · rw [if_pos h1, List.getElem?_append_left (by simp; omega), List.getElem?_take, if_pos h1]
    · rw [if_neg h1, List.getElem?_append_right (by simp; omega)]
      have : j - (D.take k).length < D.length - k := by simp; omega
      rw [List.getElem?_replicate, if_pos this]; rfl
  rw [hg k (by omega), hg (k + 1) (by omega)]
  by_cases e : j = k
  · rw [if_pos e, if_pos (by omega), e]
  · rw [if_neg e]
    by_cases h1 : j < k
    · rw [if_pos h1, if_pos (by omega)]
    · rw [if_neg h1, if_neg (by omega)]
/-- Turned round, as far as the first numbers go. -/
def tdT (p : List Int) (t : Nat) : List Int := (List.range p.length).map fun k : Nat => if nth (tnd p) k < (t : Int) then nth (tnd p) k else 0
theorem tdT_length (p : List Int) (t : Nat) : (tdT p t).length = p.length := by simp [tdT]
theorem tdT_nth {p : List Int} {t k : Nat} (h : k < p.length) : nth (tdT p t) k = if nth (tnd p) k < (t : Int) then nth (tnd p) k else 0 := by
  rw [nth_get _ _ (by rw [tdT_length]; exact h)]; simp [tdT]
theorem tdT_zero {p : List Int} (hp : IsOrd p) : tdT p 0 = List.replicate p.length 0 :=
  nth_ext (by rw [tdT_length, List.length_replicate]) fun k hk => by
    rw [tdT_length] at hk
    have := (at_tnd hp hk).2
    rw [tdT_nth hk, if_neg (by omega), nth_replicate]
theorem tdT_all {p : List Int} (hp : IsOrd p) : tdT p p.length = tnd p :=
  nth_ext (by rw [tdT_length, tnd_length]) fun k hk => by
    rw [tdT_length] at hk
    have := (at_tnd hp hk).2
    rw [tdT_nth hk, if_pos (by omega)]
theorem tdT_next {p : List Int} (hp : IsOrd p) {t m : Nat} (ht : t < p.length) (hm : nth p t = (m : Int)) : (tdT p t).set m (t : Int) = tdT p (t + 1) := by
  have hml : m < p.length := by have := hp.1 t ht; omega
  have e1 : nth (tnd p) m = (t : Int) := by
    have := tnd_at hp ht
    rw [hm, Int.toNat_natCast] at this
    exact this
  refine nth_ext (by rw [List.length_set, tdT_length, tdT_length]) fun k hk => ?_
  rw [List.length_set, tdT_length] at hk
  rw [nth_set _ _ _ _ (by rw [tdT_length]; exact hml), tdT_nth hk, tdT_nth hk]
  by_cases e : k = m
  · rw [if_pos e, e, e1, if_pos (by omega)]
  · rw [if_neg e]
    have hne : nth (tnd p) k ≠ (t : Int) := fun e2 => e ((tnd_ord hp).inj (by rw [tnd_length]; exact hk) (by rw [tnd_length]; exact hml) (e2.trans e1.symm))
    by_cases h1 : nth (tnd p) k < (t : Int)
    · rw [if_pos h1, if_pos (by omega)]
    · rw [if_neg h1, if_neg (by omega)]
set_option maxRecDepth 100000 in
set_option maxHeartbeats 1000000 in
theorem pc_holds : CPc := by
  intro a cap p w hl hI h64
  by_cases h1 : 4096 < p.length
  · have HE : Hid (orE p = 7) := by show _ = _; unfold orE; rw [if_pos h1]
    go_enter Tryd.func9, Tryd.ntmps9
    go_wp2_with fail
    go_ret
    refine ⟨?_, Below.refl _ _⟩
    rw [HE.out]; rfl
  · have hC := isord_any a cap p (by omega) w hI
    cases ho : ordB p with
    | true =>
      rw [ho] at hC
      have HE : Hid (orE p = 0) := by show _ = _; unfold orE; rw [if_neg h1, if_pos ho]
      clear ho
      go_enter Tryd.func9, Tryd.ntmps9
      go_wp2_with fail
      refine hC.mono ?_
      rintro e w1 ⟨rfl, hB⟩
      go_wp2_with fail
      go_ret
      refine ⟨?_, hB⟩
      rw [HE.out]; rfl
    | false =>
      rw [ho] at hC
      have HE : Hid (orE p = 6) := by show _ = _; unfold orE; rw [if_neg h1, if_neg (by rw [ho]; decide)]
      clear ho
      go_enter Tryd.func9, Tryd.ntmps9
      go_wp2_with fail
      refine hC.mono ?_
      rintro e w1 ⟨rfl, hB⟩
      go_wp2_with fail
      go_ret
      refine ⟨?_, hB⟩
      rw [HE.out]; rfl
theorem pc_ok (a : Option Addr) (cap : Nat) (p : List Int) (w : World) (hl : p.length ≤ 9223372036854775807) (hI : IsInts w.heap.size w a p) (h64 : ∀ j, In64 (nth p j)) (he : orE p = 0) :
    Calls Tryd.prog 9 #[.slice a p.length cap] w fun r w' => r = .returned .nilIface ∧ Below w.heap.size w w' :=
  (pc_holds a cap p w hl hI h64).mono fun r w' ⟨h, hB⟩ => ⟨by rw [h, he]; rfl, hB⟩
theorem pc_no (a : Option Addr) (cap : Nat) (p : List Int) (w : World) (hl : p.length ≤ 9223372036854775807) (hI : IsInts w.heap.size w a p) (h64 : ∀ j, In64 (nth p j)) (he : orE p ≠ 0) :
    Calls Tryd.prog 9 #[.slice a p.length cap] w fun r w' => r = .returned (.iface 23 (.int .i64 (orE p))) ∧ Below w.heap.size w w' :=
  (pc_holds a cap p w hl hI h64).mono fun r w' ⟨h, hB⟩ => ⟨by rw [h, errV_pos he], hB⟩
set_option maxRecDepth 100000 in
set_option maxHeartbeats 2000000 in
theorem pi_holds : CPi := by
  intro a cap p w hl hI h64
  by_cases he : orE p = 0
  · have hC := pc_ok a cap p w hl hI h64 he
    have hz := orE_zero.1 he
    have HI : Hid (IsInts w.heap.size w a p) := hI
    have HE : Hid (orE p = 0) := he
    have HP : Hid (IsOrd p) := hz.2
    have hl4 : p.length ≤ 4096 := hz.1
    clear hI h64 he hz
    have hmk := run_make_row' (P := Tryd.prog) 22 3 (.int .i64 0) 8 Tryd.underlying22 Tryd.infoInt rfl .i64 .i64 p.length (by omega) (by omega)
    go_enter Tryd.func11, Tryd.ntmps11
    go_wp2_with fail
    refine hC.mono ?_
    rintro e w1 ⟨rfl, hB⟩
    clear hC
    have hz1 := hB.size
    have HB1 : Hid (Below w.heap.size w (w1.alloc (.cells (madeCells #[.int .i64 0] p.length) 3))) := hB.alloc hz1 _
    have HR0 : Hid ((w1.alloc (.cells (madeCells #[.int .i64 0] p.length) 3)).rowIs w1.heap.size 3 p.length (fun _ => .int .i64 0)) := World.rowIs_made w1 (.int .i64 0) p.length 3
    clear hB
    go_wp2_with fail
    clear hmk
    go_loopw [18] (fun i wr => ∃ t : Nat, t ≤ p.length ∧ i = .int .i64 t ∧ wr.rowIs w1.heap.size 3 p.length (fun j => .int .i64 (nth (tdT p t) j)) ∧ Below w.heap.size w wr) (fun i _ => p.length - (intOf i).toNat)
    case atStart => exact ⟨0, Nat.zero_le _, rfl, HR0.out.congr (fun j _ => by rw [tdT_zero HP.out, nth_replicate]), HB1.out⟩
    case round =>
      obtain ⟨t, ht, rfl, hrow, hB⟩ := hrel
      by_cases hlt : t < p.length
      · obtain ⟨b, off, rfl, hb, hcell⟩ := (HI.out.below hB).at hlt
        have hc := hcell t hlt
        have hm0 := HP.out.1 t hlt
        obtain ⟨m, hm⟩ : ∃ m : Nat, nth p t = m := ⟨(nth p t).toNat, by omega⟩
        have hml : m < p.length := by omega
        rw [hm] at hc
        have hcm := hrow.cell hml
        have hfm := hrow.frozen m
        have HN : Hid ((tdT p t).set m (t : Int) = tdT p (t + 1)) := tdT_next HP.out hlt hm
        clear hm0 hm hcell
        go_wp2_with fail
        refine ⟨⟨t + 1, by omega, by go_num, ?_, hB.setCell (p := ⟨w1.heap.size, m, none⟩) hz1 _⟩, by simp [intOf]; omega⟩
        rw [← HN.out]
        exact rr_put hrow (tdT_length p t) hml _
      · obtain rfl : t = p.length := by omega
        have hN := rr_list hrow (tdT_length p _) (lo := w.heap.size) hz1
        rw [tdT_all HP.out] at hN
        have HN : Hid (NewC w.heap.size wr (some ⟨w1.heap.size, 0, none⟩) (tnd p) p.length) := hN
        clear hrow hN
        go_wp2_with fail
        go_ret2
        have hL : (tnd p).length = p.length := tnd_length
        have := UL.mkok (L := tnd p) HE.out HN.out hB
        rw [hL] at this
        exact this
  · have hC := pc_no a cap p w hl hI h64 he
    have HE : Hid (orE p ≠ 0) := he
    clear hI h64 he
    generalize orE p = e0 at *
    go_enter Tryd.func11, Tryd.ntmps11
    go_wp2_with fail
    refine hC.mono ?_
    rintro e w1 ⟨rfl, hB⟩
    go_wp2_with fail
    go_ret2
    exact UL.mkno rfl HE.out hB
set_option maxRecDepth 100000 in
set_option maxHeartbeats 4000000 in
theorem pa_holds : CPa := by
  intro a cap p b bap q w hl hl' hI hI' h64 h64'
  by_cases he : orE p = 0
  · have hC := pc_ok a cap p w hl hI h64 he
    by_cases he2 : orE q = 0
    · have hC2 := fun (w1 : World) (hB : Below w.heap.size w w1) => pc_ok b bap q w1 hl' ((hI'.below hB).mono hB.size) h64' he2
      have HC2 : Hid (∀ (w1 : World) (hB : Below w.heap.size w w1), Calls Tryd.prog 9 #[.slice b q.length bap] w1 fun r w' => r = .returned .nilIface ∧ Below w1.heap.size w1 w') := hC2
      have hz := orE_zero.1 he
      have hz2 := orE_zero.1 he2
      have hl4 : p.length ≤ 4096 := hz.1
      have hq4 : q.length ≤ 4096 := hz2.1
      by_cases hlen : p.length = q.length
      · have HE : Hid (afE p q = 0) := afE_zero.2 ⟨he, he2, hlen⟩
        have HI : Hid (IsInts w.heap.size w a p ∧ IsInts w.heap.size w b q) := ⟨hI, hI'⟩
        have HQ : Hid (∀ t, t < q.length → (nth q t).toNat < p.length ∧ (((nth q t).toNat : Nat) : Int) = nth q t) := fun t ht => by have := ord_at hz2.2 ht; omega
        have hne : ((p.length : Int) != (q.length : Int)) = false := by rw [hlen]; simp
        clear hI hI' h64 h64' he he2 hz hz2 hlen hC2
        obtain ⟨D, hD⟩ : ∃ D, D = aft p q := ⟨_, rfl⟩
        have HD : Hid (D.length = q.length ∧ ∀ j, j < q.length → nth D j = nth p (nth q j).toNat) := ⟨by rw [hD]; exact aft_length, fun j hj => by rw [hD]; exact aft_nth hj⟩
        rw [← hD]
        clear hD
        have hmk := run_make_row' (P := Tryd.prog) 22 3 (.int .i64 0) 8 Tryd.underlying22 Tryd.infoInt rfl .i64 .i64 q.length (by omega) (by omega)
        go_enter Tryd.func15, Tryd.ntmps15
        go_wp2_with fail
        refine hC.mono ?_
        rintro e w1 ⟨rfl, hB⟩
        clear hC
        go_wp2_with fail
        refine (HC2.out w1 hB).mono ?_
        rintro e w2 ⟨rfl, hB2⟩
        clear HC2
        replace hB : Below w.heap.size w w2 := hB.trans (hB2.mono hB.size)
        clear hB2
        have hz2 := hB.size
        have HB1 : Hid (Below w.heap.size w (w2.alloc (.cells (madeCells #[.int .i64 0] q.length) 3))) := hB.alloc hz2 _
        have HR0 : Hid ((w2.alloc (.cells (madeCells #[.int .i64 0] q.length) 3)).rowIs w2.heap.size 3 q.length (fun _ => .int .i64 0)) := World.rowIs_made w2 (.int .i64 0) q.length 3
        clear hB
        go_wp2_with fail
        clear hmk
        go_loopw [32] (fun i wr => ∃ t : Nat, t ≤ q.length ∧ i = .int .i64 t ∧ wr.rowIs w2.heap.size 3 q.length (fun j => .int .i64 (nth (upl D t) j)) ∧ Below w.heap.size w wr) (fun i _ => q.length - (intOf i).toNat)
        case atStart => exact ⟨0, Nat.zero_le _, rfl, HR0.out.congr (fun j _ => by rw [upl_zero, nth_replicate]), HB1.out⟩
        case round =>
          obtain ⟨t, ht, rfl, hrow, hB⟩ := hrel
          by_cases hlt : t < q.length
          · obtain ⟨bq, offq, rfl, hbq, hcellq⟩ := (HI.out.2.below hB).at hlt
            have hcq := hcellq t hlt
            obtain ⟨m, hm⟩ : ∃ m : Nat, m = (nth q t).toNat := ⟨_, rfl⟩
            have hQ := HQ.out t hlt
            rw [← hm] at hQ
            have hml : m < p.length := hQ.1
            rw [← hQ.2] at hcq
            obtain ⟨bp, offp, rfl, hbp, hcellp⟩ := (HI.out.1.below hB).at hml
            have hcp := hcellp m hml
            have hct := hrow.cell hlt
            have hft := hrow.frozen t
            have HN : Hid ((upl D t).set t (nth p m) = upl D (t + 1)) := by
              show _ = _
              rw [← upl_next D (by rw [HD.out.1]; exact hlt), HD.out.2 t hlt, hm]
            have HL : Hid ((upl D t).length = q.length) := by show _ = _; rw [upl_length D (by rw [HD.out.1]; exact ht), HD.out.1]
            clear hcellq hcellp hQ hm
            go_wp2_with fail
            refine ⟨⟨t + 1, by omega, by go_num, ?_, hB.setCell (p := ⟨w2.heap.size, t, none⟩) hz2 _⟩, by simp [intOf]; omega⟩
            rw [← HN.out]
            exact rr_put hrow HL.out hlt _
          · obtain rfl : t = q.length := by omega
            have eD : upl D q.length = D := by rw [← HD.out.1]; exact upl_all D
            rw [eD] at hrow
            have hN := rr_list hrow HD.out.1 (lo := w.heap.size) hz2
            have HN : Hid (NewC w.heap.size wr (some ⟨w2.heap.size, 0, none⟩) D q.length) := hN
            clear hrow hN eD
            go_wp2_with fail
            go_ret2
            have := UL.mkok (L := D) HE.out HN.out hB
            rw [HD.out.1] at this
            exact this
      · have HE : Hid (afE p q = 4) := by show _ = _; unfold afE; rw [if_neg (not_not_intro he), if_neg (not_not_intro he2), if_pos hlen]
        have hne : ((p.length : Int) != (q.length : Int)) = true := by rw [bne_iff_ne]; omega
        clear hI hI' h64 h64' he he2 hz hz2 hlen hC2
        go_enter Tryd.func15, Tryd.ntmps15
        go_wp2_with fail
        refine hC.mono ?_
        rintro e w1 ⟨rfl, hB⟩
        clear hC
        go_wp2_with fail
        refine (HC2.out w1 hB).mono ?_
        rintro e w2 ⟨rfl, hB2⟩
        clear HC2
        go_wp2_with fail
        go_ret2
        exact UL.mkno HE.out (by decide) (hB.trans (hB2.mono hB.size))
    · have HC2 : Hid (∀ (w1 : World) (hB : Below w.heap.size w w1), Calls Tryd.prog 9 #[.slice b q.length bap] w1 fun r w' => r = .returned (.iface 23 (.int .i64 (orE q))) ∧ Below w1.heap.size w1 w') := fun w1 hB => pc_no b bap q w1 hl' ((hI'.below hB).mono hB.size) h64' he2
      have HE : Hid (afE p q = orE q ∧ orE q ≠ 0) := ⟨by unfold afE; rw [if_neg (not_not_intro he), if_pos he2], he2⟩
      clear hI hI' h64 h64' he he2
      generalize orE q = e0 at *
      go_enter Tryd.func15, Tryd.ntmps15
      go_wp2_with fail
      refine hC.mono ?_
      rintro e w1 ⟨rfl, hB⟩
      clear hC
      go_wp2_with fail
      refine (HC2.out w1 hB).mono ?_
      rintro e w2 ⟨rfl, hB2⟩
      clear HC2
      go_wp2_with fail
      go_ret2
      exact UL.mkno HE.out.1 HE.out.2 (hB.trans (hB2.mono hB.size))
  · have hC := pc_no a cap p w hl hI h64 he
    have HE : Hid (afE p q = orE p ∧ orE p ≠ 0) := ⟨by unfold afE; rw [if_pos he], he⟩
    clear hI hI' h64 h64' he
    generalize orE p = e0 at *
    go_enter Tryd.func15, Tryd.ntmps15
    go_wp2_with fail
    refine hC.mono ?_
    rintro e w1 ⟨rfl, hB⟩
    go_wp2_with fail
    go_ret2
    exact UL.mkno HE.out.1 HE.out.2 hB
end Go.Proofs.YtcblakcaoecgpaaDoor
