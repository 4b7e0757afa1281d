/-
  The place of a cell, as the program tells it.
-/
import Derived.BigRegionIn
import Derived.Test.YtoicddebjmfobaaHelp
namespace Go.Proofs.Ytoicddebjmfobaa
open Go.RowKit Go.Shelf
set_option linter.unusedVariables false
attribute [local go_sem] Oper.semAt_some

def plstep (zs ts : List Int) (s : Int × Int) (x : Ax zs.length) : Int × Int := (wrap64 (s.1 + wrap64 (nth ts x.1 * s.2)), wrap64 (s.2 * nth zs x.1))
theorem insB_drop : ∀ {s t : List Int} (k : Nat), insB s t = true → insB (s.drop k) (t.drop k) = true
  | _, _, 0, h => h
  | [], [], k + 1, _ => by simp [insB]
  | [], _ :: _, _, h => by simp [insB] at h
  | _ :: _, [], _, h => by simp [insB] at h
  | x :: s, a :: t, k + 1, h => by
    simp only [insB, Bool.and_eq_true] at h
    exact insB_drop k h.2
theorem prod_drop_le {s : List Int} (h : AllPos s) (k : Nat) : 0 < prod (s.drop k) ∧ prod (s.drop k) ≤ prod s := by
  induction s generalizing k with
  | nil => simp [prod]
  | cons x r ih =>
    have hx := h x List.mem_cons_self
    have h0 := ih h.tail 0
    simp only [List.drop_zero] at h0
    have h1 : 1 * prod r ≤ x * prod r := Int.mul_le_mul_of_nonneg_right (by omega) (by omega)
    cases k with
    | zero => simp only [List.drop_zero, prod]; omega
    | succ k =>
      have := ih h.tail k
      simp only [List.drop_succ_cons, prod]
      omega
theorem plfold (zs ts : List Int) (he : errOf zs = 0) (hi : insB zs ts = true) : (dn zs.length zs.length).foldl (plstep zs ts) (0, 1) = (place zs ts, prod zs) := by
  have hz := errOf_zero.1 he
  have hbd := place_bd hi
  have hpos := allPos_of_prod hz.2.1 (by omega)
  have hl := insB_len hi
  have := fold_dn zs.length (plstep zs ts) (fun k => (place (zs.drop k) (ts.drop k), prod (zs.drop k))) (fun k hk => by
    have e1 := drop_nth zs k hk
    have e2 := drop_nth ts k (by omega)
    have i1 := insB_drop k hi
    have i2 := insB_drop (k + 1) hi
    have b1 := place_bd i1
    have b2 := place_bd i2
    have p1 := prod_drop_le hpos k
    have p2 := prod_drop_le hpos (k + 1)
    rw [e1, e2] at b1
    have b3 := p1
    rw [e1] at b3
    simp only [place, prod] at b1 b3
    simp only [plstep]
    have hn : 0 ≤ nth ts k := ((insB_iff hl).1 hi k hk).1
    have h1 : 0 ≤ nth ts k * prod (zs.drop (k + 1)) := Int.mul_nonneg hn (by omega)
    have h4 : prod (zs.drop (k + 1)) * nth zs k = nth zs k * prod (zs.drop (k + 1)) := Int.mul_comm _ _
    rw [e1, e2]
    simp only [place, prod]
    rw [wrap64_small (n := nth ts k * prod (zs.drop (k + 1))) (by omega) (by omega), wrap64_small (by omega) (by omega), wrap64_small (by omega) (by omega), Int.add_comm, h4]) zs.length (Nat.le_refl _)
  simpa [place, prod, hl] using this
theorem insB_of_all {zs ts : List Int} (hl : ts.length = zs.length) (h : ∀ x ∈ dn zs.length zs.length, 0 ≤ nth ts x.1 ∧ nth ts x.1 < nth zs x.1) : insB zs ts = true :=
  (insB_iff hl).2 fun k hk => h ⟨k, hk⟩ (dn_mem _ _ _ (Nat.le_refl _) (by omega))
theorem plErr_bad {zs ts : List Int} (he : errOf zs ≠ 0) : plErr zs ts = errOf zs := by simp [plErr, he]
theorem plErr_rank {zs ts : List Int} (he : errOf zs = 0) (hl : ts.length ≠ zs.length) : plErr zs ts = 3 := by simp [plErr, he, hl]
theorem plErr_index {zs ts : List Int} (he : errOf zs = 0) (hl : ts.length = zs.length) (k : Nat) (hk : k < zs.length) (h : ¬ (0 ≤ nth ts k ∧ nth ts k < nth zs k)) : plErr zs ts = 5 := by
  have : ¬ insB zs ts = true := fun hi => h ((insB_iff hl).1 hi k hk)
  simp [plErr, he, hl, this]
theorem plVal_bad {zs ts : List Int} (h : plErr zs ts ≠ 0) : plVal zs ts = 0 := by simp [plVal, h]

def Ins (zs ts : List Int) (pre : List (Ax zs.length)) : Prop := ∀ x ∈ pre, 0 ≤ nth ts x.1 ∧ nth ts x.1 < nth zs x.1
def Out (zs ts : List Int) (pre : List (Ax zs.length)) : Prop := ∃ x ∈ pre, ¬ (0 ≤ nth ts x.1 ∧ nth ts x.1 < nth zs x.1)
theorem Ins.nil (zs ts : List Int) : Ins zs ts [] := fun x hx => by cases hx
theorem Ins.snoc {zs ts : List Int} {pre : List (Ax zs.length)} (h : Ins zs ts pre) {k : Nat} (hk : k < zs.length) (h1 : 0 ≤ nth ts k) (h2 : nth ts k < nth zs k) : Ins zs ts (pre ++ [⟨k, hk⟩]) := by
  intro x hx
  rcases List.mem_append.1 hx with hx | hx
  · exact h x hx
  · rw [List.mem_singleton] at hx; subst hx; exact ⟨h1, h2⟩
theorem Out.snoc {zs ts : List Int} {pre : List (Ax zs.length)} {k : Nat} (hk : k < zs.length) (h : ¬ (0 ≤ nth ts k ∧ nth ts k < nth zs k)) : Out zs ts (pre ++ [⟨k, hk⟩]) :=
  ⟨⟨k, hk⟩, List.mem_append_right _ (List.mem_singleton.2 rfl), h⟩
def plp (zs ts : List Int) (pre : List (Ax zs.length)) : Int := (pre.foldl (plstep zs ts) (0, 1)).1
def plt (zs ts : List Int) (pre : List (Ax zs.length)) : Int := (pre.foldl (plstep zs ts) (0, 1)).2
theorem plp_snoc (zs ts : List Int) (pre : List (Ax zs.length)) (k : Nat) (hk : k < zs.length) : plp zs ts (pre ++ [⟨k, hk⟩]) = wrap64 (plp zs ts pre + wrap64 (nth ts k * plt zs ts pre)) := by
  simp only [plp, plt, List.foldl_append, List.foldl_cons, List.foldl_nil, plstep]
theorem plt_snoc (zs ts : List Int) (pre : List (Ax zs.length)) (k : Nat) (hk : k < zs.length) : plt zs ts (pre ++ [⟨k, hk⟩]) = wrap64 (plt zs ts pre * nth zs k) := by
  simp only [plt, List.foldl_append, List.foldl_cons, List.foldl_nil, plstep]

set_option maxRecDepth 100000 in
set_option maxHeartbeats 4000000 in
theorem place_any (a : Option Addr) (cap : Nat) (zs : List Int) (a' : Option Addr) (cap' : Nat) (ts : List Int) (hreach : zs.length ≤ 9223372036854775807) (hreach' : ts.length ≤ 9223372036854775807) (w : World) (hI : IsInts w.heap.size w a zs) (hI' : IsInts w.heap.size w a' ts) :
    Calls Try.prog 6 #[.slice a zs.length cap, .slice a' ts.length cap'] w fun e w' => e = .returned (.tuple #[.int .i64 (plVal zs ts), errV (plErr zs ts)]) ∧ Below w.heap.size w w' := by
  refine (callsIn_wide (n := 5)).1 ?_
  refine callsIn_of_wp_marks Try.func6 rfl trivial ?_ rfl
  simp only [Try.ntmps6, List.size_toArray, List.length_cons, List.length_nil, Nat.reduceAdd, Nat.reduceSub, Array.replicate_succ, Array.replicate_zero, List.push_toArray, List.append_toArray, List.nil_append, List.cons_append]
  gi_wp2_with fail
  have b0 := Boxed.new w 22 (.slice a' ts.length cap')
  have b1 := Boxed.new (w.alloc (.cells #[.slice a' ts.length cap'] 22)) 3 (.int .i64 0)
  have b2 := Boxed.new ((w.alloc (.cells #[.slice a' ts.length cap'] 22)).alloc (.cells #[.int .i64 0] 3)) 24 .nilIface
  simp only [World.size_alloc] at b1 b2
  replace b0 := (b0.alloc (.cells #[.int .i64 0] 3)).alloc (.cells #[.nilIface] 24)
  replace b1 := b1.alloc (.cells #[.nilIface] 24)
  have hB0 : Below w.heap.size w (((w.alloc (.cells #[.slice a' ts.length cap'] 22)).alloc (.cells #[.int .i64 0] 3)).alloc (.cells #[.nilIface] 24)) := (((Below.refl _ w).alloc (Nat.le_refl _) _).alloc (by simp) _).alloc (by simp; omega) _
  have hsz : (((w.alloc (.cells #[.slice a' ts.length cap'] 22)).alloc (.cells #[.int .i64 0] 3)).alloc (.cells #[.nilIface] 24)).heap.size = w.heap.size + 3 := by simp
  generalize (((w.alloc (.cells #[.slice a' ts.length cap'] 22)).alloc (.cells #[.int .i64 0] 3)).alloc (.cells #[.nilIface] 24)) = W0 at *
  by_cases he : errOf zs = 0
  · refine ⟨trivial, (callsIn_wide.2 (count_ok a cap zs hreach W0 ((hI.below hB0).mono (by omega)) he)).mono ?_⟩
    rintro e w1 ⟨rfl, hb⟩
    replace b0 := boxed_below b0 hb (by omega)
    replace b1 := boxed_below b1 hb (by omega)
    replace b2 := boxed_below b2 hb (by omega)
    have hB1 : Below w.heap.size w w1 := hB0.trans (hb.mono (by omega))
    have hs1 : w.heap.size + 3 ≤ w1.heap.size := by have := hb.size; omega
    clear hB0 hb hsz
    have c0 := b0.cell
    have c1 := b1.cell
    have c2 := b2.cell
    have f1 := b1.frozen
    have f2 := b2.frozen
    by_cases hl : ts.length = zs.length
    · have hne : ((ts.length : Int) != (zs.length : Int)) = false := by simp [hl]
      have HL : Hid (ts.length = zs.length) := hl
      have HE : Hid (errOf zs = 0) := he
      clear he hl
      gi_wp2_with fail
      refine ⟨trivial, (fl_in Fence.wide 4 trivial rfl _ _ _ _).mono ?_⟩
      rintro e w' ⟨rfl, rfl⟩
      gi_wp2_with fail
      have bp := Boxed.new w1 3 (.int .i64 0)
      have bt := Boxed.new (w1.alloc (.cells #[.int .i64 0] 3)) 3 (.int .i64 1)
      have bN := Boxed.new ((w1.alloc (.cells #[.int .i64 0] 3)).alloc (.cells #[.int .i64 1] 3)) 22 (.slice a zs.length cap)
      simp only [World.size_alloc] at bt bN
      replace bp := (bp.alloc (.cells #[.int .i64 1] 3)).alloc (.cells #[.slice a zs.length cap] 22)
      replace bt := bt.alloc (.cells #[.slice a zs.length cap] 22)
      replace b0 := ((b0.alloc (.cells #[.int .i64 0] 3)).alloc (.cells #[.int .i64 1] 3)).alloc (.cells #[.slice a zs.length cap] 22)
      replace b1 := ((b1.alloc (.cells #[.int .i64 0] 3)).alloc (.cells #[.int .i64 1] 3)).alloc (.cells #[.slice a zs.length cap] 22)
      replace b2 := ((b2.alloc (.cells #[.int .i64 0] 3)).alloc (.cells #[.int .i64 1] 3)).alloc (.cells #[.slice a zs.length cap] 22)
      have hB2 : Below w.heap.size w (((w1.alloc (.cells #[.int .i64 0] 3)).alloc (.cells #[.int .i64 1] 3)).alloc (.cells #[.slice a zs.length cap] 22)) := ((hB1.alloc (by omega) _).alloc (by simp; omega) _).alloc (by simp; omega) _
      clear c0 c1 c2 f1 f2
      refine wpIn_rangeFunc_ownG rfl (by omega) (gf := 13) (lb := #[.pointer (some ⟨w1.heap.size + 1 + 1, 0, none⟩)]) rfl trivial (enters_of Try.func13 (by kernel_rfl) rfl)
        (fl_stops Fence.wide (5 - 1) trivial rfl (by omega) (w1.heap.size + 1 + 1) w.heap.size a cap zs hreach _ (by simp) (by simp; omega) bN.cell (hI.below hB2)) (fun h k => h.trans k) (kpt_b (by simp; omega) (by simp)) (Below.refl _ _) (fun _ => rfl)
        (fun pre W => (((((Ins zs ts pre ∧ Boxed W w1.heap.size 3 (.int .i64 (plp zs ts pre))) ∧ Boxed W (w1.heap.size + 1) 3 (.int .i64 (plt zs ts pre)))
          ∧ Boxed W w.heap.size 22 (.slice a' ts.length cap')) ∧ Boxed W (w.heap.size + 1) 3 (.int .i64 0)) ∧ Boxed W (w.heap.size + 1 + 1) 24 .nilIface) ∧ Below w.heap.size w W)
        (fun c pre W => (((c = .ret ∧ Out zs ts pre) ∧ Boxed W (w.heap.size + 1) 3 (.int .i64 0)) ∧ Boxed W (w.heap.size + 1 + 1) 24 (.iface 35 (.int .i64 5))) ∧ Below w.heap.size w W)
        (OwnFrom.and (OwnFrom.and (OwnFrom.and (OwnFrom.and (OwnFrom.and (OwnFrom.and (ownFrom_pure _ _) (Own.from (boxed_own _ _ _) _)) (Own.from (boxed_own _ _ _) _)) (Own.from (boxed_own _ _ _) _)) (Own.from (boxed_own _ _ _) _)) (Own.from (boxed_own _ _ _) _)) (ownFrom_below (Nat.le_refl _) (by simp; omega)))
        (fun c => OwnFrom.and (OwnFrom.and (OwnFrom.and (ownFrom_pure _ _) (Own.from (boxed_own _ _ _) _)) (Own.from (boxed_own _ _ _) _)) (ownFrom_below (Nat.le_refl _) (by simp; omega)))
        ⟨⟨⟨⟨⟨⟨Ins.nil _ _, bp⟩, bt⟩, b0⟩, b1⟩, b2⟩, hB2⟩
        (fun x => { tmps := #[.slice a zs.length cap, .slice a' ts.length cap', undef, .pointer (some ⟨w.heap.size, 0, none⟩), .pointer (some ⟨w.heap.size + 1, 0, none⟩), .pointer (some ⟨w.heap.size + 1 + 1, 0, none⟩), .int .i64 (prod zs), .nilIface,
          .pointer (some ⟨w1.heap.size, 0, none⟩), .pointer (some ⟨w1.heap.size + 1, 0, none⟩), .int .i64 (x.1 : Int), .int .i64 (nth zs x.1), .tuple #[.int .i64 (prod zs), .nilIface], .slice a zs.length cap, .tuple #[.int .i64 (prod zs), .nilIface], .int .i64 (prod zs),
          .nilIface, .nilIface, .bool false, undef, .slice a' ts.length cap', .int .i64 ts.length, .slice a zs.length cap, .int .i64 zs.length, .bool false, undef, .slice a zs.length cap, .func (.func 13) #[] #[.pointer (some ⟨w1.heap.size + 1 + 1, 0, none⟩)],
          .int .i64 (x.1 : Int), .int .i64 (nth zs x.1), undef, undef, undef, undef, undef, undef, undef, undef, undef, undef, undef, undef, undef, undef, undef, undef, undef, undef, undef, undef, undef, undef, undef, undef, undef, undef], defers := [] }) ?assign ?body ?done ?stop
      case assign =>
        intro l x W K hK
        gi_wp2
        exact hK
      case body =>
        rintro l pre ⟨k, hk⟩ W ⟨⟨⟨⟨⟨⟨hp, cp⟩, ct⟩, d0⟩, d1⟩, d2⟩, hB⟩ _
        have hkt : k < ts.length := by rw [HL.out]; exact hk
        obtain ⟨b, off, rfl, hbb, hcell⟩ := (hI'.below hB).at hkt
        have hck := hcell k hkt
        clear hcell
        have c0 := d0.cell
        have c1 := d1.cell
        have c2 := d2.cell
        have f1 := d1.frozen
        have f2 := d2.frozen
        have c3 := cp.cell
        have f3 := cp.frozen
        have c4 := ct.cell
        have f4 := ct.frozen
        dsimp only
        by_cases h1 : nth ts k < 0
        · gi_wp2
          exact ⟨((KeepsOthers.setCell _ _ _).trans (KeepsOthers.setCell _ _ _)).from _, ⟨⟨⟨rfl, Out.snoc hk (by omega)⟩, (d1.set (.int .i64 0)).other (by omega) _⟩, (d2.other (by omega) _).set _⟩, (hB.setCell (p := ⟨w.heap.size + 1, 0, none⟩) (by simp) _).setCell (p := ⟨w.heap.size + 1 + 1, 0, none⟩) (by simp; omega) _⟩
        · by_cases h2 : nth zs k ≤ nth ts k
          · gi_wp2
            exact ⟨((KeepsOthers.setCell _ _ _).trans (KeepsOthers.setCell _ _ _)).from _, ⟨⟨⟨rfl, Out.snoc hk (by omega)⟩, (d1.set (.int .i64 0)).other (by omega) _⟩, (d2.other (by omega) _).set _⟩, (hB.setCell (p := ⟨w.heap.size + 1, 0, none⟩) (by simp) _).setCell (p := ⟨w.heap.size + 1 + 1, 0, none⟩) (by simp; omega) _⟩
          · have hi : 0 ≤ nth ts k ∧ nth ts k < nth zs k := by omega
            refine wpIn_mono (Q := fun e _ W' => e = .normal ∧ W' = ((W.setCell ⟨w1.heap.size, 0, none⟩ (.int .i64 (wrap64 (plp zs ts pre + wrap64 (nth ts k * plt zs ts pre))))).setCell ⟨w1.heap.size + 1, 0, none⟩ (.int .i64 (wrap64 (plt zs ts pre * nth zs k)))).drew) ?_ ?_
            · generalize plp zs ts pre = P0 at *
              generalize plt zs ts pre = T0 at *
              clear b0 b1 b2 bp bt bN hB2 hB1 hI hI' d0 d1 d2 cp ct hp hB c1 c2 f1 f2 HE HL hreach hreach' hi hne
              have hfol : Try.prog.follows Departure.mixedOrders = true := by kernel_rfl
              gi_wp2
              gi_region_with_o (fail)
              all_goals gi_wp2
            · rintro e a9 W' ⟨rfl, rfl⟩
              refine ⟨((((KeepsOthers.setCell _ _ _).trans (KeepsOthers.setCell _ _ _)).trans (KeepsOthers.drew _))).from _, ((Kpt.setCell W 0 _ (by omega) (by omega)).set 0 _ (by omega) (by omega)).drew, ⟨⟨⟨⟨⟨hp.snoc hk hi.1 hi.2, ?_⟩, ?_⟩, ?_⟩, ?_⟩, ?_⟩, ((hB.setCell (p := ⟨w1.heap.size, 0, none⟩) (by simp; omega) _).setCell (p := ⟨w1.heap.size + 1, 0, none⟩) (by simp; omega) _).drew⟩
              · rw [plp_snoc]; exact (cp.set _).other (by omega) _
              · rw [plt_snoc]; exact (ct.other (by omega) _).set _
              · exact (d0.other (by omega) _).other (by omega) _
              · exact (d1.other (by omega) _).other (by omega) _
              · exact (d2.other (by omega) _).other (by omega) _
      case done =>
        rintro D ys W hD rfl ⟨⟨⟨⟨⟨⟨hp, cp⟩, ct⟩, d0⟩, d1⟩, d2⟩, hB⟩ hK
        have hins : insB zs ts = true := insB_of_all HL.out hp
        have e0 : Hid (plErr zs ts = 0) := plErr_zero.2 ⟨HE.out, hins⟩
        have ef : plp zs ts (dn zs.length zs.length) = place zs ts := by unfold plp; rw [plfold zs ts HE.out hins]
        rw [ef] at cp
        clear ef
        have c1 := d1.cell
        have f1 := d1.frozen
        have c2 := d2.cell
        have f2 := d2.frozen
        have c3 := cp.cell
        gi_wp2
        have e1 := (d1.set (.int .i64 (place zs ts))).other (B' := w.heap.size + 1 + 1) (by omega) .nilIface
        have e2 := (d2.other (B' := w.heap.size + 1) (by omega) (.int .i64 (place zs ts))).set .nilIface
        have hK' := ((KeepsOthers.setCell W ⟨w.heap.size + 1, 0, none⟩ (.int .i64 (place zs ts))).trans (KeepsOthers.setCell _ ⟨w.heap.size + 1 + 1, 0, none⟩ .nilIface)).same D _ hK rfl
        refine ⟨by simp, .inl ⟨_, _, rfl, run_takeDeferred hK', ?_⟩⟩
        have c8 := cell_kept e1.cell (grownBy_putObj' _ D (.deferred none)) (fun r e => by cases e; exact ⟨_, hK', rfl⟩)
        have c9 := cell_kept e2.cell (grownBy_putObj' _ D (.deferred none)) (fun r e => by cases e; exact ⟨_, hK', rfl⟩)
        refine ⟨.tuple #[.int .i64 (place zs ts), .nilIface], by simp [results, Try.f6, go_sem, c8, c9], ret2 ?_ ?_, ((hB.setCell (p := ⟨w.heap.size + 1, 0, none⟩) (by simp) _).setCell (p := ⟨w.heap.size + 1 + 1, 0, none⟩) (by simp; omega) _).trans (belowK_b (w := w) (Nat.le_refl _) _ D _ _ (by simp at hD; omega) hK' rfl rfl)⟩
        · rw [plVal_ok e0.out]
        · rw [e0.out]; rfl
      case stop =>
        rintro D c pre W hD ⟨k, hk, rfl⟩ ⟨⟨⟨⟨rfl, hx⟩, d1⟩, d2⟩, hB⟩ hK
        obtain ⟨⟨j, hj⟩, _, hbad⟩ := hx
        have e5 : Hid (plErr zs ts = 5) := plErr_index HE.out HL.out j hj hbad
        clear hbad
        gi_wp2
        refine ⟨by simp, .inl ⟨_, _, rfl, run_takeDeferred hK, ?_⟩⟩
        have c8 := cell_kept d1.cell (grownBy_putObj' _ D (.deferred none)) (fun r e => by cases e; exact ⟨_, hK, rfl⟩)
        have c9 := cell_kept d2.cell (grownBy_putObj' _ D (.deferred none)) (fun r e => by cases e; exact ⟨_, hK, rfl⟩)
        refine ⟨.tuple #[.int .i64 0, .iface 35 (.int .i64 5)], by simp [results, Try.f6, go_sem, c8, c9], ret2 ?_ ?_, hB.trans (belowK_b (w := w) (Nat.le_refl _) _ D _ _ (by simp at hD; omega) hK rfl rfl)⟩
        · rw [plVal_bad (by rw [e5.out]; decide)]
        · rw [e5.out]; rfl
    · have hne : ((ts.length : Int) != (zs.length : Int)) = true := by simp; omega
      have e3 : Hid (plErr zs ts = 3) := plErr_rank he hl
      have HE : Hid (errOf zs = 0) := he
      clear he
      gi_wp2
      have b1' := (b1.set (.int .i64 0)).other (B' := w.heap.size + 1 + 1) (by omega) (.iface 35 (.int .i64 3))
      have b2' := (b2.other (B' := w.heap.size + 1) (by omega) (.int .i64 0)).set (.iface 35 (.int .i64 3))
      have c1' := b1'.cell
      have c2' := b2'.cell
      refine ⟨.tuple #[.int .i64 0, .iface 35 (.int .i64 3)], by simp [results, Try.f6, go_sem, c1', c2'], ret2 ?_ ?_, (hB1.setCell (p := ⟨w.heap.size + 1, 0, none⟩) (by simp) _).setCell (p := ⟨w.heap.size + 1 + 1, 0, none⟩) (by simp; omega) _⟩
      · rw [plVal_bad (by rw [e3.out]; decide)]
      · rw [e3.out]; rfl
  · refine ⟨trivial, (callsIn_wide.2 (count_no a cap zs hreach W0 ((hI.below hB0).mono (by omega)) he)).mono ?_⟩
    rintro e w1 ⟨rfl, hb⟩
    replace b0 := boxed_below b0 hb (by omega)
    replace b1 := boxed_below b1 hb (by omega)
    replace b2 := boxed_below b2 hb (by omega)
    have c1 := b1.cell
    have c2 := b2.cell
    have f1 := b1.frozen
    have f2 := b2.frozen
    have hB1 : Below w.heap.size w w1 := hB0.trans (hb.mono (by omega))
    have HE : Hid (errOf zs ≠ 0) := he
    clear he
    gi_wp2
    have b1' := (b1.set (.int .i64 0)).other (B' := w.heap.size + 1 + 1) (by omega) (.iface 35 (.int .i64 (errOf zs)))
    have b2' := (b2.other (B' := w.heap.size + 1) (by omega) (.int .i64 0)).set (.iface 35 (.int .i64 (errOf zs)))
    have c1' := b1'.cell
    have c2' := b2'.cell
    refine ⟨.tuple #[.int .i64 0, .iface 35 (.int .i64 (errOf zs))], by simp [results, Try.f6, go_sem, c1', c2'], ret2 ?_ ?_, (hB1.setCell (p := ⟨w.heap.size + 1, 0, none⟩) (by simp) _).setCell (p := ⟨w.heap.size + 1 + 1, 0, none⟩) (by simp; omega) _⟩
    · rw [plVal_bad (by rw [plErr_bad HE.out]; exact HE.out)]
    · rw [plErr_bad HE.out, errV_pos HE.out]
end Go.Proofs.Ytoicddebjmfobaa
