/-
  A shape with its axes in another order, as the program tells it, in memory of its own.
-/
import Derived.BigRegionIn
import Derived.Test.YtgaelbgeoobgiaaIsord
import Derived.Test.YtgaelbgeoobgiaaCutn
namespace Go.Proofs.Ytgaelbgeoobgiaa
open Go.RowKit Go.Shelf
set_option linter.unusedVariables false
attribute [local go_sem] Oper.semAt_some

set_option maxRecDepth 100000 in
set_option maxHeartbeats 4000000 in
theorem axes_new (a : Option Addr) (cap : Nat) (zs : List Int) (a' : Option Addr) (cap' : Nat) (ps : List Int) (hreach : zs.length ≤ 9223372036854775807) (hreach' : ps.length ≤ 9223372036854775807) (w : World) (hI : IsInts w.heap.size w a zs) (hI' : IsInts w.heap.size w a' ps) :
    Calls Try.prog 37 #[.slice a zs.length cap, .slice a' ps.length cap'] w fun e w' => ∃ g c, e = .returned (.tuple #[.slice g (axVal zs ps).length c, errV (axErr zs ps)]) ∧ NewC w.heap.size w' g (axVal zs ps) c ∧ Below w.heap.size w w' := by
  refine (callsIn_wide (n := 5)).1 ?_
  refine callsIn_of_wp_marks Try.func37 rfl trivial ?_ rfl
  simp only [Try.ntmps37, List.size_toArray, List.length_cons, List.length_nil, Nat.reduceAdd, Nat.reduceSub, Array.replicate_succ, Array.replicate_zero, List.push_toArray, List.append_toArray, List.nil_append, List.cons_append]
  gi_wp2_with fail
  have b0 := Boxed.new w 22 (.slice a' ps.length cap')
  have hB0 : Below w.heap.size w (w.alloc (.cells #[.slice a' ps.length cap'] 22)) := (Below.refl _ w).alloc (Nat.le_refl _) _
  have hsz : (w.alloc (.cells #[.slice a' ps.length cap'] 22)).heap.size = w.heap.size + 1 := by simp
  generalize (w.alloc (.cells #[.slice a' ps.length cap'] 22)) = W0 at *
  by_cases he : errOf zs = 0
  · refine ⟨trivial, (callsIn_wide.2 (count_ok a cap zs hreach W0 ((hI.below hB0).mono (by omega)) he)).mono ?_⟩
    rintro e w1 ⟨rfl, hb⟩
    replace b0 := boxed_below b0 hb (by omega)
    have hB1 : Below w.heap.size w w1 := hB0.trans (hb.mono (by omega))
    have hs1 : w.heap.size + 1 ≤ w1.heap.size := by have := hb.size; omega
    clear hB0 hb hsz
    have c0 := b0.cell
    by_cases hl : ps.length = zs.length
    · have hne : ((ps.length : Int) != (zs.length : Int)) = false := by simp [hl]
      have hlz : zs.length ≤ 6 := (errOf_zero.1 he).1
      have HL : Hid (ps.length = zs.length) := hl
      have HE : Hid (errOf zs = 0) := he
      have hlp : ps.length ≤ 6 := by omega
      clear he hl
      gi_wp2_with fail
      refine ⟨trivial, (callsIn_wide.2 (isord_any a' cap' ps (by omega) w1 ((hI'.below hB1).mono hB1.size))).mono ?_⟩
      rintro e w2 ⟨rfl, hb2⟩
      replace b0 := boxed_below b0 hb2 (by omega)
      have hB2 : Below w.heap.size w w2 := hB1.trans (hb2.mono hB1.size)
      have hs2 : w.heap.size + 1 ≤ w2.heap.size := by have := hb2.size; omega
      clear hb2 hne c0
      have c0 := b0.cell
      by_cases ho : ordB ps = true
      · have HO : Hid (IsOrd ps) := (ordB_iff ps).1 ho
        have e0 : Hid (axErr zs ps = 0) := axErr_zero.2 ⟨HE.out, HL.out, HO.out⟩
        rw [ho]
        clear ho
        have hmk := run_make_row' (P := Try.prog) 22 3 (.int .i64 0) 8 Try.underlying22 Try.infoInt rfl .i64 .i64 zs.length (by omega) (by omega)
        gi_wp2_with fail
        refine ⟨trivial, (fl_in Fence.wide 4 trivial rfl _ _ _ _).mono ?_⟩
        rintro e w' ⟨rfl, rfl⟩
        clear hmk
        gi_wp2_with fail
        have r0 := World.rowIs_made w2 (.int .i64 0) zs.length 3
        have bt := Boxed.new (w2.alloc (.cells (madeCells #[.int .i64 0] zs.length) 3)) 22 (.slice (some ⟨w2.heap.size, 0, none⟩) zs.length zs.length)
        have bN := Boxed.new ((w2.alloc (.cells (madeCells #[.int .i64 0] zs.length) 3)).alloc (.cells #[.slice (some ⟨w2.heap.size, 0, none⟩) zs.length zs.length] 22)) 22 (.slice a zs.length cap)
        simp only [World.size_alloc] at bt bN
        replace r0 := (r0.alloc (.cells #[.slice (some ⟨w2.heap.size, 0, none⟩) zs.length zs.length] 22)).alloc (.cells #[.slice a zs.length cap] 22)
        replace r0 := r0.congr (g := fun j => .int .i64 (nth (axl zs ps []) j)) (fun i _ => by simp only [axl, List.foldl_nil, nth_replicate])
        replace bt := bt.alloc (.cells #[.slice a zs.length cap] 22)
        replace b0 := ((b0.alloc (.cells (madeCells #[.int .i64 0] zs.length) 3)).alloc (.cells #[.slice (some ⟨w2.heap.size, 0, none⟩) zs.length zs.length] 22)).alloc (.cells #[.slice a zs.length cap] 22)
        have hB3 : Below w.heap.size w (((w2.alloc (.cells (madeCells #[.int .i64 0] zs.length) 3)).alloc (.cells #[.slice (some ⟨w2.heap.size, 0, none⟩) zs.length zs.length] 22)).alloc (.cells #[.slice a zs.length cap] 22)) := ((hB2.alloc (by omega) _).alloc (by simp; omega) _).alloc (by simp; omega) _
        clear c0
        refine wpIn_rangeFunc_ownG rfl (by omega) (gf := 64) (lb := #[.pointer (some ⟨w2.heap.size + 1 + 1, 0, none⟩)]) rfl trivial (enters_of Try.func64 (by kernel_rfl) rfl)
          (fl_stops Fence.wide (5 - 1) trivial rfl (by omega) (w2.heap.size + 1 + 1) w.heap.size a cap zs hreach _ (by simp) (by simp; omega) bN.cell (hI.below hB3)) (fun h k => h.trans k) (kpt_b (by simp; omega) (by simp)) (Below.refl _ _) (fun _ => rfl)
          (fun pre W => ((W.rowIs w2.heap.size 3 zs.length (fun j => .int .i64 (nth (axl zs ps pre) j)) ∧ Boxed W (w2.heap.size + 1) 22 (.slice (some ⟨w2.heap.size, 0, none⟩) zs.length zs.length)) ∧ Boxed W w.heap.size 22 (.slice a' ps.length cap')) ∧ Below w.heap.size w W)
          (fun _ _ _ => False)
          (OwnFrom.and (OwnFrom.and (OwnFrom.and (Own.from (rowIs_own _ _ _ _) _) (Own.from (boxed_own _ _ _) _)) (Own.from (boxed_own _ _ _) _)) (ownFrom_below (Nat.le_refl _) (by simp; omega)))
          (fun _ _ _ _ _ hs _ _ => hs)
          ⟨⟨⟨r0, bt⟩, b0⟩, hB3⟩
          (fun x => { tmps := #[.slice a zs.length cap, .slice a' ps.length cap', undef, .pointer (some ⟨w.heap.size, 0, none⟩), .slice none 0 0, .nilIface, .int .i64 (prod zs), .nilIface, .pointer (some ⟨w2.heap.size + 1, 0, none⟩), .int .i64 (x.1 : Int), .int .i64 (nth zs x.1), .tuple #[.int .i64 (prod zs), .nilIface],
            .slice a zs.length cap, .tuple #[.int .i64 (prod zs), .nilIface], .int .i64 (prod zs), .nilIface, .nilIface, .bool false, undef, .slice a' ps.length cap', .int .i64 ps.length, .slice a zs.length cap, .int .i64 zs.length, .bool false, undef, .slice a' ps.length cap', .bool true, .bool false, undef,
            .slice a zs.length cap, .int .i64 zs.length, .slice (some ⟨w2.heap.size, 0, none⟩) zs.length zs.length, .slice a zs.length cap, .func (.func 64) #[] #[.pointer (some ⟨w2.heap.size + 1 + 1, 0, none⟩)], .int .i64 (x.1 : Int), .int .i64 (nth zs x.1), undef, undef, undef, undef, undef, undef, undef, undef], defers := [] }) ?assign ?body ?done ?stop
        case assign =>
          intro l x W K hK
          gi_wp2
          exact hK
        case body =>
          rintro l pre ⟨k, hk⟩ W ⟨⟨⟨hr, ht⟩, hq⟩, hB⟩ _
          have hkp : k < ps.length := by rw [HL.out]; exact hk
          have hbo := HO.out.1 k hkp
          obtain ⟨b, off, rfl, hbb, hcell⟩ := (hI'.below hB).at hkp
          have hck := hcell k hkp
          clear hcell
          obtain ⟨m, hm⟩ := Int.eq_ofNat_of_zero_le hbo.1
          have hmz : m < zs.length := by have := HL.out; omega
          rw [hm] at hck
          have HM : Hid (nth ps k = m) := hm
          clear hm hbo
          dsimp only
          refine wpIn_mono (Q := fun e _ W' => e = .normal ∧ W' = (W.setCell ⟨w2.heap.size, m, none⟩ (.int .i64 (nth zs k))).drew) ?_ ?_
          · have c0 := hq.cell
            have c1 := ht.cell
            have c2 := hr.cell hmz
            have f2 := hr.frozen m
            generalize nth (axl zs ps pre) m = V0 at *
            generalize nth zs k = X0 at *
            clear r0 b0 bt bN hB2 hB1 hB3 hI hI' hr ht hq hB HE HL HO HM e0 hreach hreach' hs1
            have hfol : Try.prog.follows Departure.mixedOrders = true := by kernel_rfl
            gi_wp2
            gi_region_with_o (fail)
            all_goals gi_wp2
          · rintro e a9 W' ⟨rfl, rfl⟩
            refine ⟨((KeepsOthers.setCell _ _ _).trans (KeepsOthers.drew _)).from _, (Kpt.setCell W m _ (by omega) (by omega)).drew, ⟨⟨?_, ?_⟩, ?_⟩, (hB.setCell (p := ⟨w2.heap.size, m, none⟩) (by simp; omega) _).drew⟩
            · rw [axl_snoc, HM.out, Int.toNat_natCast]
              refine (hr.set m _).drew.congr fun j hj => ?_
              rw [nth_set _ _ _ _ (by rw [axl_length]; exact hmz)]
              by_cases e : j = m
              · rw [if_pos e, if_pos e]
              · rw [if_neg e, if_neg e]
            · exact boxed_setRow ht (by omega) _ _
            · exact boxed_setRow hq (by omega) _ _
        case done =>
          rintro D ys W hD rfl ⟨⟨⟨hr, ht⟩, hq⟩, hB⟩ hK
          have c1 := ht.cell
          gi_wp2
          refine ⟨by simp, .inl ⟨_, _, rfl, run_takeDeferred hK, ?_⟩⟩
          have hl := (axVal_spec e0.out).1
          refine ⟨.tuple #[.slice (some ⟨w2.heap.size, 0, none⟩) zs.length zs.length, .nilIface], by simp [results, Try.f37, go_sem], some ⟨w2.heap.size, 0, none⟩, zs.length, ret2s hl.symm ?_, ⟨.inr ⟨w2.heap.size, 0, rfl, by omega, ?_, fun j hj => ?_, fun j => ?_⟩, by omega⟩, hB.trans (belowK_b (w := w) (Nat.le_refl _) W D _ _ (by simp at hD; omega) hK rfl rfl)⟩
          · rw [e0.out]; rfl
          · have := hr.lt; simp [World.putObj]; exact this
          · have hj' : j < zs.length := by omega
            have hc := hr.cell hj'
            rw [Nat.zero_add]
            refine (cell_kept hc (grownBy_putObj' _ D (.deferred none)) (fun r e => by cases e; exact ⟨_, hK, rfl⟩)).trans ?_
            rw [axVal_ok e0.out]
          · exact (hr.of_block (w' := W.putObj D (.deferred none)) (World.putObj_heap_other (by simp at hD; omega))).frozen _
        case stop =>
          rintro D c pre W _ _ h _
          exact h.elim
      · have ho' : ordB ps = false := by simpa using ho
        have e5 : Hid (axErr zs ps = 5) := axErr_ord HE.out HL.out (fun h => ho ((ordB_iff ps).2 h))
        rw [ho']
        clear ho ho'
        gi_wp2
        refine ⟨.tuple #[.slice none 0 0, .iface 76 (.int .i64 5)], by simp [results, Try.f37, go_sem], none, 0, ret2s (n := 0) ?_ ?_, ?_, hB2⟩
        · rw [axVal_bad (by rw [e5.out]; decide)]; rfl
        · rw [e5.out]; rfl
        · rw [axVal_bad (by rw [e5.out]; decide)]; exact ⟨.inl rfl, Nat.le_refl _⟩
    · have hne : ((ps.length : Int) != (zs.length : Int)) = true := by simp; omega
      have e4 : Hid (axErr zs ps = 4) := axErr_len he hl
      clear he
      gi_wp2
      refine ⟨.tuple #[.slice none 0 0, .iface 76 (.int .i64 4)], by simp [results, Try.f37, go_sem], none, 0, ret2s (n := 0) ?_ ?_, ?_, hB1⟩
      · rw [axVal_bad (by rw [e4.out]; decide)]; rfl
      · rw [e4.out]; rfl
      · rw [axVal_bad (by rw [e4.out]; decide)]; exact ⟨.inl rfl, Nat.le_refl _⟩
  · refine ⟨trivial, (callsIn_wide.2 (count_no a cap zs hreach W0 ((hI.below hB0).mono (by omega)) he)).mono ?_⟩
    rintro e w1 ⟨rfl, hb⟩
    have hB1 : Below w.heap.size w w1 := hB0.trans (hb.mono (by omega))
    have HE : Hid (errOf zs ≠ 0) := he
    clear he
    gi_wp2
    refine ⟨.tuple #[.slice none 0 0, .iface 76 (.int .i64 (errOf zs))], by simp [results, Try.f37, go_sem], none, 0, ret2s (n := 0) ?_ ?_, ?_, hB1⟩
    · rw [axVal_bad (by rw [axErr_bad HE.out]; exact HE.out)]; rfl
    · rw [axErr_bad HE.out, errV_pos HE.out]
    · rw [axVal_bad (by rw [axErr_bad HE.out]; exact HE.out)]; exact ⟨.inl rfl, Nat.le_refl _⟩
end Go.Proofs.Ytgaelbgeoobgiaa
