/-
  The place at which a cell stood, as the program reckons it.
-/
import Derived.BigRegionIn
import Derived.Test.YtgaelbgeoobgiaaBkw
import Derived.Test.YtgaelbgeoobgiaaCutn
import Derived.Test.YtgaelbgeoobgiaaBase
import Derived.Test.YtgaelbgeoobgiaaTillin
namespace Go.Proofs.Ytgaelbgeoobgiaa
open Go.RowKit Go.Shelf
set_option linter.unusedVariables false
attribute [local go_sem] Oper.semAt_some

set_option maxRecDepth 100000 in
set_option maxHeartbeats 4000000 in
theorem source_any (a : Option Addr) (cap : Nat) (zs : List Int) (a' : Option Addr) (cap' : Nat) (us : List Int) (p : Nat) (he : errOf zs = 0) (hp : (p : Int) < prod zs) (hl : us.length = zs.length) (w : World) (hI : IsInts w.heap.size w a zs) (hI' : IsInts w.heap.size w a' us) :
    Calls Try.prog 39 #[.slice a zs.length cap, .slice a' us.length cap', .int .i64 (p : Nat)] w fun e w' => e = .returned (.int .i64 (srV zs us p (dn zs.length zs.length))) ∧ Below w.heap.size w w' := by
  have hz := errOf_zero.1 he
  have hpos : AllPos zs := allPos_of_prod hz.2.1 (by omega)
  have hlz : zs.length ≤ 6 := hz.1
  have hp3 : (p : Int) < 4096 := by omega
  have HA : Hid (AllIn zs) := hz.2.1
  have HP : Hid (AllPos zs) := hpos
  have HL : Hid (us.length = zs.length) := hl
  have hreach : zs.length ≤ 9223372036854775807 := by omega
  clear hz hpos hl he hp
  refine (callsIn_wide (n := 5)).1 ?_
  refine callsIn_of_wp_marks Try.func39 rfl trivial ?_ rfl
  simp only [Try.ntmps39, List.size_toArray, List.length_cons, List.length_nil, Nat.reduceAdd, Nat.reduceSub, Array.replicate_succ, Array.replicate_zero, List.push_toArray, List.append_toArray, List.nil_append, List.cons_append]
  gi_wp2_with fail
  refine ⟨trivial, (bw_in Fence.wide 4 trivial rfl _ _ _ _).mono ?_⟩
  rintro e w' ⟨rfl, rfl⟩
  gi_wp2_with fail
  have b0 := Boxed.new w 22 (.slice a' us.length cap')
  have b1 := Boxed.new (w.alloc (.cells #[.slice a' us.length cap'] 22)) 3 (.int .i64 (p : Int))
  have b2 := Boxed.new ((w.alloc (.cells #[.slice a' us.length cap'] 22)).alloc (.cells #[.int .i64 (p : Int)] 3)) 3 (.int .i64 0)
  have bN := Boxed.new (((w.alloc (.cells #[.slice a' us.length cap'] 22)).alloc (.cells #[.int .i64 (p : Int)] 3)).alloc (.cells #[.int .i64 0] 3)) 22 (.slice a zs.length cap)
  simp only [World.size_alloc] at b1 b2 bN
  replace b0 := ((b0.alloc (.cells #[.int .i64 (p : Int)] 3)).alloc (.cells #[.int .i64 0] 3)).alloc (.cells #[.slice a zs.length cap] 22)
  replace b1 := (b1.alloc (.cells #[.int .i64 0] 3)).alloc (.cells #[.slice a zs.length cap] 22)
  replace b2 := b2.alloc (.cells #[.slice a zs.length cap] 22)
  have hB0 : Below w.heap.size w ((((w.alloc (.cells #[.slice a' us.length cap'] 22)).alloc (.cells #[.int .i64 (p : Int)] 3)).alloc (.cells #[.int .i64 0] 3)).alloc (.cells #[.slice a zs.length cap] 22)) := ((((Below.refl _ w).alloc (Nat.le_refl _) _).alloc (by simp) _).alloc (by simp; omega) _).alloc (by simp; omega) _
  have b2' : Boxed ((((w.alloc (.cells #[.slice a' us.length cap'] 22)).alloc (.cells #[.int .i64 (p : Int)] 3)).alloc (.cells #[.int .i64 0] 3)).alloc (.cells #[.slice a zs.length cap] 22)) (w.heap.size + 1 + 1) 3 (.int .i64 (srV zs us p [])) := b2
  have b1' : Boxed ((((w.alloc (.cells #[.slice a' us.length cap'] 22)).alloc (.cells #[.int .i64 (p : Int)] 3)).alloc (.cells #[.int .i64 0] 3)).alloc (.cells #[.slice a zs.length cap] 22)) (w.heap.size + 1) 3 (.int .i64 (srQ zs us p [])) := b1
  refine wpIn_rangeFunc_ownG rfl (by omega) (gf := 62) (lb := #[.pointer (some ⟨w.heap.size + 1 + 1 + 1, 0, none⟩)]) rfl trivial (enters_of Try.func62 (by kernel_rfl) rfl)
    (bw_stops Fence.wide (5 - 1) trivial rfl (by omega) (w.heap.size + 1 + 1 + 1) w.heap.size a cap zs hreach _ (by simp) (by simp; omega) bN.cell (hI.below hB0)) (fun h k => h.trans k) (kpt_b (by simp; omega) (by simp)) (Below.refl _ _) (fun _ => rfl)
    (fun pre W => ((Boxed W (w.heap.size + 1 + 1) 3 (.int .i64 (srV zs us p pre)) ∧ Boxed W (w.heap.size + 1) 3 (.int .i64 (srQ zs us p pre))) ∧ Boxed W w.heap.size 22 (.slice a' us.length cap')) ∧ Below w.heap.size w W)
    (fun _ _ _ => False)
    (OwnFrom.and (OwnFrom.and (OwnFrom.and (Own.from (boxed_own _ _ _) _) (Own.from (boxed_own _ _ _) _)) (Own.from (boxed_own _ _ _) _)) (ownFrom_below (Nat.le_refl _) (by simp; omega)))
    (fun _ _ _ _ _ hs _ _ => hs)
    ⟨⟨⟨b2', b1'⟩, b0⟩, hB0⟩
    (fun x => { tmps := #[.slice a zs.length cap, .slice a' us.length cap', .int .i64 (p : Int), undef, .pointer (some ⟨w.heap.size, 0, none⟩), .pointer (some ⟨w.heap.size + 1, 0, none⟩), .int .i64 0, .pointer (some ⟨w.heap.size + 1 + 1, 0, none⟩), .int .i64 (x.1 : Int), .int .i64 (nth zs x.1),
      .slice a zs.length cap, .func (.func 62) #[] #[.pointer (some ⟨w.heap.size + 1 + 1 + 1, 0, none⟩)], .int .i64 (x.1 : Int), .int .i64 (nth zs x.1), undef, undef, undef, undef, undef, undef, undef, undef, undef, undef, undef, undef, undef, undef], defers := [] }) ?assign ?body ?done ?stop
  case assign =>
    intro l x W K hK
    gi_wp2
    exact hK
  case body =>
    rintro l pre ⟨k, hk⟩ W ⟨⟨⟨hr, hq⟩, ht⟩, hB⟩ _
    have hqb := srQ_bd (u := us) (p := p) HP.out (by omega) pre
    have hx1 : 0 < nth zs k := HP.out _ (nth_mem zs k hk)
    have hx2 : nth zs k ≤ 4096 := (HA.out _ (nth_mem zs k hk)).2
    have hku : k < us.length := by rw [HL.out]; exact hk
    obtain ⟨b, off, rfl, hbb, hcell⟩ := (hI'.below hB).at hku
    have hck := hcell k hku
    clear hcell
    dsimp only
    refine wpIn_mono (Q := fun e _ W' => e = .normal ∧ W' = ((W.setCell ⟨w.heap.size + 1 + 1, 0, none⟩ (.int .i64 (wrap64 (srV zs us p pre + wrap64 (srQ zs us p pre % nth zs k * nth us k))))).setCell ⟨w.heap.size + 1, 0, none⟩ (.int .i64 (srQ zs us p pre / nth zs k))).drew) ?_ ?_
    · have c0 := hr.cell
      have f0 := hr.frozen
      have c1 := hq.cell
      have f1 := hq.frozen
      have c2 := ht.cell
      generalize nth us k = U0 at *
      generalize nth zs k = L0 at *
      generalize srV zs us p pre = V0 at *
      generalize srQ zs us p pre = Q0 at *
      obtain ⟨hq1, hq2⟩ := hqb
      have hL0 : ¬ L0 = 0 := by omega
      clear b0 b1 b2 b1' b2' bN hB0 hI hI' hr ht hq hB HA HP HL hreach
      gi_wp2
      refine anyT_beginIn 10 (fun w' => w'.cell? ⟨w.heap.size + 1 + 1, 0, none⟩ = some (.int .i64 V0) ∧ w'.cell? ⟨w.heap.size + 1, 0, none⟩ = some (.int .i64 Q0) ∧ w'.cell? ⟨w.heap.size, 0, none⟩ = some (.slice (some ⟨b, off, none⟩) us.length cap') ∧ w'.cell? ⟨b, off + k, none⟩ = some (.int .i64 U0)) 11 #[false, false, false, false, false, false, false, false, false, false, false] (by kernel_rfl) rfl rfl (by kernel_rfl) ?_
      refine anyT_take 0 14 ?rv0 #[true, false, false, false, false, false, false, false, false, false, false] rfl rfl rfl (by kernel_rfl) (by kernel_rfl) (by kernel_rfl) (fun _ _ _ h => h) (by kernel_rfl) (by decide) (by kernel_rfl) ?ry0 (⟨c0, c1, c2, hck⟩) ?rm0
      case ry0 => first | exact Or.inl ⟨by rfl, by intro w' hw'; (try dsimp only at hw'); go_simp; first | done | rfl⟩
      case rm0 =>
      simp only [Act.put, List.setIfInBounds_toArray, List.set_cons_zero, List.set_cons_succ]
      refine anyT_take 1 15 ?rv1 #[true, true, false, false, false, false, false, false, false, false, false] rfl rfl rfl (by kernel_rfl) (by kernel_rfl) (by kernel_rfl) (fun _ _ _ h => h) (by kernel_rfl) (by decide) (by kernel_rfl) ?ry1 (⟨c0, c1, c2, hck⟩) ?rm1
      case ry1 => first | exact Or.inl ⟨by rfl, by intro w' hw'; (try dsimp only at hw'); go_simp; first | done | rfl⟩
      case rm1 =>
      simp only [Act.put, List.setIfInBounds_toArray, List.set_cons_zero, List.set_cons_succ]
      refine anyT_put 2 16 ?rv2 #[true, true, true, false, false, false, false, false, false, false, false] rfl rfl rfl (by kernel_rfl) (by kernel_rfl) (by kernel_rfl) (fun _ _ _ h => h) (by decide) ?ry2 (fun _ => ⟨c0, c1, c2, hck⟩) ?rm2
      case ry2 => first | exact Or.inl ⟨by rfl, by intro w'; go_simp; first | done | rfl⟩
      case rm2 =>
      simp only [Act.put, List.setIfInBounds_toArray, List.set_cons_zero, List.set_cons_succ]
      refine anyT_put 3 17 ?rv3 #[true, true, true, true, false, false, false, false, false, false, false] rfl rfl rfl (by kernel_rfl) (by kernel_rfl) (by kernel_rfl) (fun _ _ _ h => h) (by decide) ?ry3 (fun _ => ⟨c0, c1, c2, hck⟩) ?rm3
      case ry3 => first | exact Or.inl ⟨by rfl, by intro w'; go_simp; first | done | rfl⟩
      case rm3 =>
      simp only [Act.put, List.setIfInBounds_toArray, List.set_cons_zero, List.set_cons_succ]
      refine anyT_take 4 18 ?rv4 #[true, true, true, true, true, false, false, false, false, false, false] rfl rfl rfl (by kernel_rfl) (by kernel_rfl) (by kernel_rfl) (fun _ _ _ h => h) (by kernel_rfl) (by decide) (by kernel_rfl) ?ry4 (⟨c0, c1, c2, hck⟩) ?rm4
      case ry4 => first | exact Or.inl ⟨by rfl, by intro w' hw'; (try dsimp only at hw'); go_simp; first | done | rfl⟩
      case rm4 =>
      simp only [Act.put, List.setIfInBounds_toArray, List.set_cons_zero, List.set_cons_succ]
      refine anyT_put 5 19 ?rv5 #[true, true, true, true, true, true, false, false, false, false, false] rfl rfl rfl (by kernel_rfl) (by kernel_rfl) (by kernel_rfl) (fun _ _ _ h => h) (by decide) ?ry5 (fun _ => ⟨c0, c1, c2, hck⟩) ?rm5
      case ry5 => first | exact Or.inl ⟨by rfl, by intro w'; go_simp; first | done | rfl⟩
      case rm5 =>
      simp only [Act.put, List.setIfInBounds_toArray, List.set_cons_zero, List.set_cons_succ]
      refine anyT_put 6 20 ?rv6 #[true, true, true, true, true, true, true, false, false, false, false] rfl rfl rfl (by kernel_rfl) (by kernel_rfl) (by kernel_rfl) (fun _ _ _ h => h) (by decide) ?ry6 (fun _ => ⟨c0, c1, c2, hck⟩) ?rm6
      case ry6 => first | exact Or.inl ⟨by rfl, by intro w'; go_simp; first | done | rfl⟩
      case rm6 =>
      simp only [Act.put, List.setIfInBounds_toArray, List.set_cons_zero, List.set_cons_succ]
      refine anyT_take 7 21 ?rv7 #[true, true, true, true, true, true, true, true, false, false, false] rfl rfl rfl (by kernel_rfl) (by kernel_rfl) (by kernel_rfl) (fun _ _ _ h => h) (by kernel_rfl) (by decide) (by kernel_rfl) ?ry7 (⟨c0, c1, c2, hck⟩) ?rm7
      case ry7 => first | exact Or.inl ⟨by rfl, by intro w' hw'; (try dsimp only at hw'); go_simp; first | done | rfl⟩
      case rm7 =>
      simp only [Act.put, List.setIfInBounds_toArray, List.set_cons_zero, List.set_cons_succ]
      refine anyT_put 8 22 ?rv8 #[true, true, true, true, true, true, true, true, true, false, false] rfl rfl rfl (by kernel_rfl) (by kernel_rfl) (by kernel_rfl) (fun _ _ _ h => h) (by decide) ?ry8 (fun _ => ⟨c0, c1, c2, hck⟩) ?rm8
      case ry8 => first | exact Or.inl ⟨by rfl, by intro w'; go_simp; first | done | rfl⟩
      case rm8 =>
      simp only [Act.put, List.setIfInBounds_toArray, List.set_cons_zero, List.set_cons_succ]
      refine anyT_put 9 23 ?rv9 #[true, true, true, true, true, true, true, true, true, true, false] rfl rfl rfl (by kernel_rfl) (by kernel_rfl) (by kernel_rfl) (fun _ _ _ h => h) (by decide) ?ry9 (fun _ => ⟨c0, c1, c2, hck⟩) ?rm9
      case ry9 => first | exact Or.inl ⟨by rfl, by intro w'; go_simp; first | done | rfl⟩
      case rm9 =>
      simp only [Act.put, List.setIfInBounds_toArray, List.set_cons_zero, List.set_cons_succ]
      refine anyT_one 10 #[true, true, true, true, true, true, true, true, true, true, true] (by kernel_rfl) rfl rfl (fun K hK => ?_)
      go_simp
      refine hK.out _ _ (fun h => absurd h (by decide)) ?_
      clear hK K
      refine anyT_done (by kernel_rfl) ?_
      simp only [onN]
      gi_wp2
    · rintro e a9 W' ⟨rfl, rfl⟩
      have et : srQ zs us p pre % nth zs k = (srQ zs us p pre).tmod (nth zs k) := (Int.tmod_eq_emod_of_nonneg hqb.1).symm
      have ed : srQ zs us p pre / nth zs k = (srQ zs us p pre).tdiv (nth zs k) := (Int.tdiv_eq_ediv_of_nonneg hqb.1).symm
      refine ⟨((((KeepsOthers.setCell _ _ _).trans (KeepsOthers.setCell _ _ _)).trans (KeepsOthers.drew _))).from _, ((Kpt.setCell W 0 _ (by omega) (by omega)).set 0 _ (by omega) (by omega)).drew, ⟨⟨?_, ?_⟩, ?_⟩, ((hB.setCell (p := ⟨w.heap.size + 1 + 1, 0, none⟩) (by simp; omega) _).setCell (p := ⟨w.heap.size + 1, 0, none⟩) (by simp) _).drew⟩
      · rw [et, srV_snoc]
        exact (hr.set _).other (by omega) _
      · rw [ed, srQ_snoc]
        exact (hq.other (by omega) _).set _
      · exact (ht.other (by omega) _).other (by omega) _
  case done =>
    rintro D ys W hD rfl ⟨⟨⟨hr, hq⟩, ht⟩, hB⟩ hK
    have c1 := hr.cell
    gi_wp2
    refine ⟨by simp, .inl ⟨_, _, rfl, run_takeDeferred hK, ?_⟩⟩
    exact ⟨_, results_tmp rfl _ _ _, rfl, hB.trans (belowK_b (w := w) (Nat.le_refl _) W D _ _ (by simp at hD; omega) hK rfl rfl)⟩
  case stop =>
    rintro D c pre W _ _ h _
    exact h.elim
end Go.Proofs.Ytgaelbgeoobgiaa
