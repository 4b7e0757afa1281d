/-
  The indices of a place, as the program tells them.
-/
import Derived.BigRegionIn
import Derived.Deep.OwnRows
import Derived.Test.YtoicddebjmfobaaPlace
namespace Go.Proofs.Ytoicddebjmfobaa
open Go.RowKit Go.Shelf
set_option linter.unusedVariables false
attribute [local go_sem] Oper.semAt_some

theorem atErr_bad {zs : List Int} {p : Int} (he : errOf zs ≠ 0) : atErr zs p = errOf zs := by simp [atErr, he]
theorem atErr_index {zs : List Int} {p : Int} (he : errOf zs = 0) (h : p < 0 ∨ prod zs ≤ p) : atErr zs p = 5 := by
  unfold atErr; rw [if_neg (by simpa using he), if_pos h]

def atstep (zs : List Int) (s : List Int × Int) (x : Ax zs.length) : List Int × Int := (s.1.set x.1 (s.2.tmod (nth zs x.1)), s.2.tdiv (nth zs x.1))
def atl (zs : List Int) (p : Int) (pre : List (Ax zs.length)) : List Int := (pre.foldl (atstep zs) (List.replicate zs.length 0, p)).1
def atq (zs : List Int) (p : Int) (pre : List (Ax zs.length)) : Int := (pre.foldl (atstep zs) (List.replicate zs.length 0, p)).2
theorem atl_snoc (zs : List Int) (p : Int) (pre : List (Ax zs.length)) (k : Nat) (hk : k < zs.length) : atl zs p (pre ++ [⟨k, hk⟩]) = (atl zs p pre).set k ((atq zs p pre).tmod (nth zs k)) := by
  simp only [atl, atq, List.foldl_append, List.foldl_cons, List.foldl_nil, atstep]
theorem atq_snoc (zs : List Int) (p : Int) (pre : List (Ax zs.length)) (k : Nat) (hk : k < zs.length) : atq zs p (pre ++ [⟨k, hk⟩]) = (atq zs p pre).tdiv (nth zs k) := by
  simp only [atq, List.foldl_append, List.foldl_cons, List.foldl_nil, atstep]
theorem atl_fold_length (zs : List Int) : ∀ (pre : List (Ax zs.length)) (s : List Int × Int), (pre.foldl (atstep zs) s).1.length = s.1.length
  | [], s => rfl
  | x :: pre, s => by rw [List.foldl_cons, atl_fold_length zs pre]; simp [atstep]
theorem atl_length (zs : List Int) (p : Int) (pre : List (Ax zs.length)) : (atl zs p pre).length = zs.length := by
  unfold atl; rw [atl_fold_length]; simp
theorem atq_fold_bd {zs : List Int} (h : AllPos zs) : ∀ (pre : List (Ax zs.length)) (s : List Int × Int), 0 ≤ s.2 → 0 ≤ (pre.foldl (atstep zs) s).2 ∧ (pre.foldl (atstep zs) s).2 ≤ s.2
  | [], s, hs => ⟨hs, Int.le_refl _⟩
  | x :: pre, s, hs => by
    have hx := h _ (nth_mem zs x.1 x.2)
    have e1 : 0 ≤ s.2.tdiv (nth zs x.1) := Int.tdiv_nonneg hs (by omega)
    have e2 : s.2.tdiv (nth zs x.1) ≤ s.2 := by
      have ed := Int.tmod_add_mul_tdiv s.2 (nth zs x.1)
      have em := Int.tmod_nonneg (nth zs x.1) hs
      have : 1 * s.2.tdiv (nth zs x.1) ≤ nth zs x.1 * s.2.tdiv (nth zs x.1) := Int.mul_le_mul_of_nonneg_right (by omega) e1
      omega
    have ih := atq_fold_bd h pre (atstep zs s x) e1
    rw [List.foldl_cons]
    have e3 : (atstep zs s x).2 = s.2.tdiv (nth zs x.1) := rfl
    omega
theorem atq_bd {zs : List Int} (h : AllPos zs) {p : Int} (hp : 0 ≤ p) (pre : List (Ax zs.length)) : 0 ≤ atq zs p pre ∧ atq zs p pre ≤ p := atq_fold_bd h pre (List.replicate zs.length 0, p) hp
theorem rep_set (k : Nat) (v : Int) (c : List Int) : (List.replicate (k + 1) 0 ++ c).set k v = List.replicate k 0 ++ v :: c := by
  induction k with
  | zero => rfl
  | succ k ih => rw [List.replicate_succ, List.cons_append, List.set_cons_succ, ih]; rfl
theorem atfold (zs : List Int) (p : Int) : (dn zs.length zs.length).foldl (atstep zs) (List.replicate zs.length 0, p) = crd zs p := by
  have := fold_dn zs.length (atstep zs) (fun k => (List.replicate k 0 ++ (crd (zs.drop k) p).1, (crd (zs.drop k) p).2)) (fun k hk => by
    simp only [atstep]
    rw [rep_set, drop_nth zs k hk]
    simp only [crd]) zs.length (Nat.le_refl _)
  simpa [crd] using this
theorem atl_all (zs : List Int) (p : Int) : atl zs p (dn zs.length zs.length) = (crd zs p).1 := by unfold atl; rw [atfold]
theorem atVal_bad {zs : List Int} {p : Int} (h : atErr zs p ≠ 0) : atVal zs p = [] := by simp [atVal, h]
set_option maxRecDepth 100000 in
set_option maxHeartbeats 4000000 in
theorem at_any (a : Option Addr) (cap : Nat) (zs : List Int) (p : Int) (hp1 : -9223372036854775808 ≤ p) (hp2 : p ≤ 9223372036854775807) (hreach : zs.length ≤ 9223372036854775807) (w : World) (hI : IsInts w.heap.size w a zs) :
    Calls Try.prog 7 #[.slice a zs.length cap, .int .i64 p] w fun e w' => ∃ a' cap', e = .returned (.tuple #[.slice a' (atVal zs p).length cap', errV (atErr zs p)]) ∧ IsInts w'.heap.size w' a' (atVal zs p) ∧ Below w.heap.size w w' := by
  refine (callsIn_wide (n := 5)).1 ?_
  refine callsIn_of_wp_marks Try.func7 rfl trivial ?_ rfl
  simp only [Try.ntmps7, List.size_toArray, List.length_cons, List.length_nil, Nat.reduceAdd, Nat.reduceSub, Array.replicate_succ, Array.replicate_zero, List.push_toArray, List.append_toArray, List.nil_append, List.cons_append]
  gi_wp2_with fail
  have b0 := Boxed.new w 3 (.int .i64 p)
  have hB0 : Below w.heap.size w (w.alloc (.cells #[.int .i64 p] 3)) := (Below.refl _ w).alloc (Nat.le_refl _) _
  have hsz : (w.alloc (.cells #[.int .i64 p] 3)).heap.size = w.heap.size + 1 := by simp
  generalize (w.alloc (.cells #[.int .i64 p] 3)) = W0 at *
  by_cases he : errOf zs = 0
  · refine ⟨trivial, (callsIn_wide.2 (count_ok a cap zs hreach W0 ((hI.below hB0).mono (by omega)) he)).mono ?_⟩
    rintro e w1 ⟨rfl, hb⟩
    replace b0 := boxed_below b0 hb (by omega)
    have hB1 : Below w.heap.size w w1 := hB0.trans (hb.mono (by omega))
    have hs1 : w.heap.size + 1 ≤ w1.heap.size := by have := hb.size; omega
    clear hB0 hb hsz
    have c0 := b0.cell
    by_cases hpn : p < 0
    · have e5 : Hid (atErr zs p = 5) := atErr_index he (.inl hpn)
      have HE : Hid (errOf zs = 0) := he
      clear he
      gi_wp2
      refine ⟨.tuple #[.slice none 0 0, .iface 35 (.int .i64 5)], by simp [results, Try.f7, go_sem], none, 0, ret2s (n := 0) ?_ ?_, ?_, hB1⟩
      · rw [atVal_bad (by rw [e5.out]; decide)]; rfl
      · rw [e5.out]; rfl
      · rw [atVal_bad (by rw [e5.out]; decide)]; exact .inl rfl
    · by_cases hpc : prod zs ≤ p
      · have e5 : Hid (atErr zs p = 5) := atErr_index he (.inr hpc)
        have HE : Hid (errOf zs = 0) := he
        clear he
        gi_wp2
        refine ⟨.tuple #[.slice none 0 0, .iface 35 (.int .i64 5)], by simp [results, Try.f7, go_sem], none, 0, ret2s (n := 0) ?_ ?_, ?_, hB1⟩
        · rw [atVal_bad (by rw [e5.out]; decide)]; rfl
        · rw [e5.out]; rfl
        · rw [atVal_bad (by rw [e5.out]; decide)]; exact .inl rfl
      · have e0 : Hid (atErr zs p = 0) := atErr_zero.2 ⟨he, by omega, by omega⟩
        have HE : Hid (errOf zs = 0) := he
        clear he
        have hz := errOf_zero.1 HE.out
        have hpos : AllPos zs := allPos_of_prod hz.2.1 (by omega)
        have hlz : zs.length ≤ 6 := hz.1
        have hp3 : p < 4096 := by omega
        have HA : Hid (AllIn zs) := hz.2.1
        have HP : Hid (AllPos zs) := hpos
        clear hz hpos
        have hd1 : decide (p < 0) = false := by simpa using hpn
        have hd2 : decide (prod zs ≤ p) = false := by simpa using hpc
        have hmk := run_make_row' (P := Try.prog) 22 3 (.int .i64 0) 8 Try.underlying22 Try.infoInt rfl .i64 .i64 zs.length (by omega) (by omega)
        gi_wp2_with fail
        refine ⟨trivial, (fl_in Fence.wide 4 trivial rfl _ _ _ _).mono ?_⟩
        rintro e w' ⟨rfl, rfl⟩
        clear hmk
        gi_wp2_with fail
        have r0 := World.rowIs_made w1 (.int .i64 0) zs.length 3
        have bt := Boxed.new (w1.alloc (.cells (madeCells #[.int .i64 0] zs.length) 3)) 22 (.slice (some ⟨w1.heap.size, 0, none⟩) zs.length zs.length)
        have bN := Boxed.new ((w1.alloc (.cells (madeCells #[.int .i64 0] zs.length) 3)).alloc (.cells #[.slice (some ⟨w1.heap.size, 0, none⟩) zs.length zs.length] 22)) 22 (.slice a zs.length cap)
        simp only [World.size_alloc] at bt bN
        replace r0 := (r0.alloc (.cells #[.slice (some ⟨w1.heap.size, 0, none⟩) zs.length zs.length] 22)).alloc (.cells #[.slice a zs.length cap] 22)
        replace r0 := r0.congr (g := fun j => .int .i64 (nth (atl zs p []) j)) (fun i _ => by simp only [atl, List.foldl_nil, nth_replicate])
        replace bt := bt.alloc (.cells #[.slice a zs.length cap] 22)
        replace b0 := ((b0.alloc (.cells (madeCells #[.int .i64 0] zs.length) 3)).alloc (.cells #[.slice (some ⟨w1.heap.size, 0, none⟩) zs.length zs.length] 22)).alloc (.cells #[.slice a zs.length cap] 22)
        have hB2 : Below w.heap.size w (((w1.alloc (.cells (madeCells #[.int .i64 0] zs.length) 3)).alloc (.cells #[.slice (some ⟨w1.heap.size, 0, none⟩) zs.length zs.length] 22)).alloc (.cells #[.slice a zs.length cap] 22)) := ((hB1.alloc (by omega) _).alloc (by simp; omega) _).alloc (by simp; omega) _
        clear c0
        refine wpIn_rangeFunc_ownG rfl (by omega) (gf := 13) (lb := #[.pointer (some ⟨w1.heap.size + 1 + 1, 0, none⟩)]) rfl trivial (enters_of Try.func13 (by kernel_rfl) rfl)
          (fl_stops Fence.wide (5 - 1) trivial rfl (by omega) (w1.heap.size + 1 + 1) w.heap.size a cap zs hreach _ (by simp) (by simp; omega) bN.cell (hI.below hB2)) (fun h k => h.trans k) (kpt_b (by simp; omega) (by simp)) (Below.refl _ _) (fun _ => rfl)
          (fun pre W => ((W.rowIs w1.heap.size 3 zs.length (fun j => .int .i64 (nth (atl zs p pre) j)) ∧ Boxed W (w1.heap.size + 1) 22 (.slice (some ⟨w1.heap.size, 0, none⟩) zs.length zs.length)) ∧ Boxed W w.heap.size 3 (.int .i64 (atq zs p pre))) ∧ Below w.heap.size w W)
          (fun _ _ _ => False)
          (OwnFrom.and (OwnFrom.and (OwnFrom.and (Own.from (rowIs_own _ _ _ _) _) (Own.from (boxed_own _ _ _) _)) (Own.from (boxed_own _ _ _) _)) (ownFrom_below (Nat.le_refl _) (by simp; omega)))
          (fun _ _ _ _ _ hs _ _ => hs)
          ⟨⟨⟨r0, bt⟩, b0⟩, hB2⟩
          (fun x => { tmps := #[.slice a zs.length cap, .int .i64 p, undef, .pointer (some ⟨w.heap.size, 0, none⟩), .slice none 0 0, .nilIface, .int .i64 (prod zs), .nilIface, .pointer (some ⟨w1.heap.size + 1, 0, none⟩), .int .i64 (x.1 : Int), .int .i64 (nth zs x.1), .tuple #[.int .i64 (prod zs), .nilIface],
            .slice a zs.length cap, .tuple #[.int .i64 (prod zs), .nilIface], .int .i64 (prod zs), .nilIface, .nilIface, .bool false, undef, .int .i64 p, .bool false, .bool false, .int .i64 p, .int .i64 (prod zs), .bool false, .bool false, undef, .slice a zs.length cap, .int .i64 zs.length,
            .slice (some ⟨w1.heap.size, 0, none⟩) zs.length zs.length, .slice a zs.length cap, .func (.func 13) #[] #[.pointer (some ⟨w1.heap.size + 1 + 1, 0, none⟩)], .int .i64 (x.1 : Int), .int .i64 (nth zs x.1), undef, undef, undef, undef, undef, undef, undef, undef, undef, undef], defers := [] }) ?assign ?body ?done ?stop
        case assign =>
          intro l x W K hK
          gi_wp2
          exact hK
        case body =>
          rintro l pre ⟨k, hk⟩ W ⟨⟨⟨hr, ht⟩, hq⟩, hB⟩ _
          have hqb := atq_bd HP.out hpn pre
          have hx1 : 0 < nth zs k := HP.out _ (nth_mem zs k hk)
          have hx2 : nth zs k ≤ 4096 := (HA.out _ (nth_mem zs k hk)).2
          dsimp only
          refine wpIn_mono (Q := fun e _ W' => e = .normal ∧ W' = ((W.setCell ⟨w1.heap.size, k, none⟩ (.int .i64 (atq zs p pre % nth zs k))).setCell ⟨w.heap.size, 0, none⟩ (.int .i64 (atq zs p pre / nth zs k))).drew) ?_ ?_
          · have c0 := hq.cell
            have f0 := hq.frozen
            have c1 := ht.cell
            have c2 := hr.cell hk
            have f2 := hr.frozen k
            have hne : w1.heap.size ≠ w.heap.size := by omega
            generalize nth (atl zs p pre) k = V0 at *
            generalize atq zs p pre = Q0 at *
            obtain ⟨hq1, hq2⟩ := hqb
            clear r0 b0 bt bN hB2 hB1 hI hr ht hq hB HE HA HP e0 hd1 hd2 hreach
            have hfol : Try.prog.follows Departure.mixedOrders = true := by kernel_rfl
            gi_wp2
            gi_region_with_o (fail)
            all_goals gi_wp2
          · rintro e a9 W' ⟨rfl, rfl⟩
            have et : atq zs p pre % nth zs k = (atq zs p pre).tmod (nth zs k) := (Int.tmod_eq_emod_of_nonneg hqb.1).symm
            have ed : atq zs p pre / nth zs k = (atq zs p pre).tdiv (nth zs k) := (Int.tdiv_eq_ediv_of_nonneg hqb.1).symm
            refine ⟨((((KeepsOthers.setCell _ _ _).trans (KeepsOthers.setCell _ _ _)).trans (KeepsOthers.drew _))).from _, ((Kpt.setCell W k _ (by omega) (by omega)).set 0 _ (by omega) (by omega)).drew, ⟨⟨?_, ?_⟩, ?_⟩, ((hB.setCell (p := ⟨w1.heap.size, k, none⟩) (by simp; omega) _).setCell (p := ⟨w.heap.size, 0, none⟩) (by simp) _).drew⟩
            · rw [et, atl_snoc]
              refine ((hr.set k _).setOther (by simp; omega) _).drew.congr fun j hj => ?_
              rw [nth_set _ _ _ _ (by rw [atl_length]; exact hk)]
              by_cases e : j = k
              · rw [if_pos e, if_pos e]
              · rw [if_neg e, if_neg e]
            · exact boxed_setRow (boxed_setRow ht (by omega) _ _) (by omega) _ _
            · rw [ed, atq_snoc]
              exact (boxed_setRow hq (by omega) _ _).set _
        case done =>
          rintro D ys W hD rfl ⟨⟨⟨hr, ht⟩, hq⟩, hB⟩ hK
          have c1 := ht.cell
          gi_wp2
          refine ⟨by simp, .inl ⟨_, _, rfl, run_takeDeferred hK, ?_⟩⟩
          have hl := atVal_len e0.out
          refine ⟨.tuple #[.slice (some ⟨w1.heap.size, 0, none⟩) zs.length zs.length, .nilIface], by simp [results, Try.f7, go_sem], some ⟨w1.heap.size, 0, none⟩, zs.length, ret2s hl.symm ?_, .inr ⟨w1.heap.size, 0, rfl, ?_, fun j hj => ?_⟩, hB.trans (belowK_b (w := w) (Nat.le_refl _) W D _ _ (by simp at hD; omega) hK rfl rfl)⟩
          · rw [e0.out]; rfl
          · have := hr.lt; simp [World.putObj]; exact this
          · have hj' : j < zs.length := by omega
            have hc := hr.cell hj'
            rw [Nat.zero_add]
            refine (cell_kept hc (grownBy_putObj' _ D (.deferred none)) (fun r e => by cases e; exact ⟨_, hK, rfl⟩)).trans ?_
            rw [atl_all, atVal_ok e0.out]
        case stop =>
          rintro D c pre W _ _ h _
          exact h.elim
  · refine ⟨trivial, (callsIn_wide.2 (count_no a cap zs hreach W0 ((hI.below hB0).mono (by omega)) he)).mono ?_⟩
    rintro e w1 ⟨rfl, hb⟩
    have hB1 : Below w.heap.size w w1 := hB0.trans (hb.mono (by omega))
    have HE : Hid (errOf zs ≠ 0) := he
    clear he
    gi_wp2
    refine ⟨.tuple #[.slice none 0 0, .iface 35 (.int .i64 (errOf zs))], by simp [results, Try.f7, go_sem], none, 0, ret2s (n := 0) ?_ ?_, ?_, hB1⟩
    · rw [atVal_bad (by rw [atErr_bad HE.out]; exact HE.out)]; rfl
    · rw [atErr_bad HE.out, errV_pos HE.out]
    · rw [atVal_bad (by rw [atErr_bad HE.out]; exact HE.out)]; exact .inl rfl
end Go.Proofs.Ytoicddebjmfobaa
