/-
  What the reference makes of a list: an array of one axis.
-/
import Derived.Test.YtcpmendkocnlhabApps
namespace Go.Proofs.Ytcpmendkocnlhab
open Go.RowKit
set_option linter.unusedVariables false

theorem take_len (zs : List Int) {k : Nat} (h : k ≤ zs.length) : (zs.take k).length = k := by simp; omega
theorem owns_room {w : World} {base : Nat} {e : TypeId} {g : Option Addr} {n cap : Nat} {xs : List Int} (h : w.ownsRow base e 1 (.slice g n cap) n (xs.map (Value.int .i64))) : n ≤ cap := by
  rcases h.2 with ⟨e1, _⟩ | ⟨g', cap', cur, e1, _, _, h1, _⟩
  · simp only [Value.slice.injEq] at e1; have := h.1; omega
  · simp only [Value.slice.injEq] at e1; have := h.1; omega
set_option maxRecDepth 100000 in
set_option maxHeartbeats 4000000 in
theorem vector_cap (c : Bool) (a : Option Addr) (cap : Nat) (zs : List Int) (h1 : zs.length ≤ 100000) (w : World) (hI : IsInts w.heap.size w a zs) :
    Calls Try.prog 28 #[.bool c, .slice a zs.length cap] w fun e w' => ∃ sa sc g gc, e = .returned (.agg #[.bool c, .slice sa 1 sc, .slice g zs.length gc]) ∧ NewInts w.heap.size w' sa [(zs.length : Int)] ∧ NewInts w.heap.size w' g zs ∧ Below w.heap.size w w' ∧ 1 ≤ sc ∧ zs.length ≤ gc := by
  go_enter Try.func28, Try.ntmps28
  go_wp2_with fail
  go_loopw [6] (fun i wr => ∃ (k : Nat) (v : Value), k ≤ zs.length ∧ i = .int .i64 k ∧ Abx wr w.heap.size (.bool false) (.slice none 0 0) (.slice none 0 0) ∧ Abx wr (w.heap.size + 1 + 1) (.bool c) (.slice (some ⟨w.heap.size + 1, 0, none⟩) 1 1) v ∧ MidInts (w.heap.size + 1) (w.heap.size + 1 + 1) wr (some ⟨w.heap.size + 1, 0, none⟩) [(zs.length : Int)]
      ∧ wr.ownsRow (w.heap.size + 1 + 1 + 1) 3 1 v (zs.take k).length ((zs.take k).map (Value.int .i64)) ∧ w.heap.size + 1 + 1 + 1 ≤ wr.heap.size ∧ Below w.heap.size w wr) (fun i _ => zs.length - (intOf i).toNat)
  case atStart =>
    refine ⟨0, .slice none 0 0, Nat.zero_le _, rfl, ((Abx.new w _ _ _).al _).al _, ?_, ?_, World.ownsRow_nil _ _ _ _, by simp, (((Below.refl _ w).alloc (Nat.le_refl _) _).alloc (by simp) _).alloc (by simp; omega) _⟩
    case refine_2 =>
      have := (new_lit (w.alloc (.cells #[.bool false, .slice none 0 0, .slice none 0 0] 24)) 3 [(zs.length : Int)]).mid
      simp only [World.size_alloc] at this
      exact this.al (by simp) _
    have := Abx.new1 (w.alloc (.cells #[.bool false, .slice none 0 0, .slice none 0 0] 24)) (.cells #[.int .i64 (zs.length : Int)] 3) (.bool c) (.slice (some ⟨w.heap.size + 1, 0, none⟩) 1 1) (.slice none 0 0)
    rwa [World.size_alloc] at this
  case round =>
    obtain ⟨k, v, hk, rfl, hR, hO, hl, hown, hsz, hB⟩ := hrel
    by_cases hlt : k < zs.length
    · obtain ⟨b, off, rfl, hb, hcell⟩ := (hI.below hB).at hlt
      have hc := hcell k hlt
      clear hcell
      have o2 := hO.c2
      have hbw : b < wr.heap.size := by have := hB.size; omega
      have HR : Hid (Abx wr w.heap.size (.bool false) (.slice none 0 0) (.slice none 0 0) ∧ Abx wr (w.heap.size + 1 + 1) (.bool c) (.slice (some ⟨w.heap.size + 1, 0, none⟩) 1 1) v ∧ MidInts (w.heap.size + 1) (w.heap.size + 1 + 1) wr (some ⟨w.heap.size + 1, 0, none⟩) [(zs.length : Int)]) := ⟨hR, hO, hl⟩
      clear hR hO hl
      go_wp2_with fail
      refine anyT_begin 8 (fun w' => w'.cell? ⟨w.heap.size + 1 + 1, 2, none⟩ = some v ∧ w'.cell? ⟨b, off + k, none⟩ = some (.int .i64 (nth zs k))) 10 #[false, false, false, false, false, false, false, false, false, false] (by kernel_rfl) rfl rfl ?_
      refine anyT_put 0 18 ?rv0 #[true, false, false, false, false, false, false, false, false, false] rfl rfl rfl (by kernel_rfl) (by kernel_rfl) (by kernel_rfl) (fun _ _ _ h => h) (by decide) ?ry0 (fun _ => ⟨o2, hc⟩) ?rm0
      case ry0 => first | exact Or.inl ⟨by rfl, by intro w'; go_simp; first | done | rfl⟩
      case rm0 =>
      simp only [Act.put, List.setIfInBounds_toArray, List.set_cons_zero, List.set_cons_succ]
      refine anyT_take 1 19 ?rv1 #[true, true, false, false, false, false, false, false, false, false] rfl rfl rfl (by kernel_rfl) (by kernel_rfl) (by kernel_rfl) (fun _ _ _ h => h) (by kernel_rfl) (by decide) (by kernel_rfl) ?ry1 (⟨o2, hc⟩) ?rm1
      case ry1 => first | exact Or.inl ⟨by rfl, by intro w' hw'; (try dsimp only at hw'); go_simp; first | done | rfl⟩
      case rm1 =>
      simp only [Act.put, List.setIfInBounds_toArray, List.set_cons_zero, List.set_cons_succ]
      refine anyT_put 2 20 ?rv2 #[true, true, true, false, false, false, false, false, false, false] rfl rfl rfl (by kernel_rfl) (by kernel_rfl) (by kernel_rfl) (fun _ _ _ h => h) (by decide) ?ry2 (fun _ => ⟨o2, hc⟩) ?rm2
      case ry2 => first | exact Or.inl ⟨by rfl, by intro w'; go_simp; first | done | rfl⟩
      case rm2 =>
      simp only [Act.put, List.setIfInBounds_toArray, List.set_cons_zero, List.set_cons_succ]
      refine anyT_put 3 21 ?rv3 #[true, true, true, true, false, false, false, false, false, false] rfl rfl rfl (by kernel_rfl) (by kernel_rfl) (by kernel_rfl) (fun _ _ _ h => h) (by decide) ?ry3 (fun _ => ⟨o2, hc⟩) ?rm3
      case ry3 => first | exact Or.inl ⟨by rfl, by intro w'; go_simp; first | done | rfl⟩
      case rm3 =>
      simp only [Act.put, List.setIfInBounds_toArray, List.set_cons_zero, List.set_cons_succ]
      refine anyT_put 4 22 ?rv4 #[true, true, true, true, true, false, false, false, false, false] rfl rfl rfl (by kernel_rfl) (by kernel_rfl) (by kernel_rfl) (fun _ _ _ h => h) (by decide) ?ry4 (fun _ => ⟨o2, hc⟩) ?rm4
      case ry4 => first | exact Or.inl ⟨by rfl, by intro w'; go_simp; first | done | rfl⟩
      case rm4 =>
      simp only [Act.put, List.setIfInBounds_toArray, List.set_cons_zero, List.set_cons_succ]
      refine anyT_take 5 23 ?rv5 #[true, true, true, true, true, true, false, false, false, false] rfl rfl rfl (by kernel_rfl) (by kernel_rfl) (by kernel_rfl) (fun _ _ _ h => h) (by kernel_rfl) (by decide) (by kernel_rfl) ?ry5 (⟨o2, hc⟩) ?rm5
      case ry5 => first | exact Or.inl ⟨by rfl, by intro w' hw'; (try dsimp only at hw'); go_simp; first | done | rfl⟩
      case rm5 =>
      simp only [Act.put, List.setIfInBounds_toArray, List.set_cons_zero, List.set_cons_succ]
      refine anyT_one 6 #[true, true, true, true, true, true, true, false, false, false] (by kernel_rfl) rfl rfl (fun K hK => ?_)
      go_simp
      have k1 : (wr.alloc (.cells #[.int .i64 (nth zs k)] 3)).cell? ⟨w.heap.size + 1 + 1, 2, none⟩ = some v := (World.cell?_alloc_lt wr _ ⟨w.heap.size + 1 + 1, 2, none⟩ (by show w.heap.size + 1 + 1 < wr.heap.size; omega)).trans o2
      have k2 : (wr.alloc (.cells #[.int .i64 (nth zs k)] 3)).cell? ⟨b, off + k, none⟩ = some (.int .i64 (nth zs k)) := (World.cell?_alloc_lt wr _ ⟨b, off + k, none⟩ hbw).trans hc
      refine hK.out _ _ (fun _ => ⟨k1, k2⟩) ?_
      clear hK K
      refine anyT_one 7 #[true, true, true, true, true, true, true, true, false, false] (by kernel_rfl) rfl rfl (fun K hK => ?_)
      refine app_step 25 rfl rfl _ _ rfl _ (w.heap.size + 1 + 1 + 1) wr.heap.size v (zs.take k) (nth zs k) rfl rfl ((hown.alloc _).drew) (heap_alloc_new wr _) (by rw [take_len _ hk]; omega) (by simp; omega) ?_
      intro g gc w1 hown1 hB1
      have HO1 : Hid (Abx w1 (w.heap.size + 1 + 1) (.bool c) (.slice (some ⟨w.heap.size + 1, 0, none⟩) 1 1) v) := (HR.out.2.1.al _).dr.bel hB1 (by omega)
      have q2 := HO1.out.c2
      have qf := HO1.out.fr 2
      have qc : w1.cell? ⟨b, off + k, none⟩ = some (.int .i64 (nth zs k)) := (hB1.cell (p := ⟨b, off + k, none⟩) (by show b < _; omega)).trans k2
      refine hK.out _ _ (fun _ => ⟨q2, qc⟩) ?_
      clear hK K
      simp only [Act.put, List.setIfInBounds_toArray, List.set_cons_zero, List.set_cons_succ]
      refine anyT_one 8 #[true, true, true, true, true, true, true, true, true, false] (by kernel_rfl) rfl rfl (fun K hK => ?_)
      go_simp
      refine hK.out _ _ (fun h => absurd h (by decide)) ?_
      clear hK K
      refine anyT_one 9 #[true, true, true, true, true, true, true, true, true, true] (by kernel_rfl) rfl rfl (fun K hK => ?_)
      go_simp
      refine hK.out _ _ (fun h => absurd h (by decide)) ?_
      clear hK K
      refine anyT_done (by kernel_rfl) ?_
      go_wp2_with fail
      rw [← take_snoc zs k hlt, take_len _ hk] at hown1
      have hz1 : w.heap.size + 1 + 1 + 1 ≤ w1.heap.size := by have := hB1.size; simp at this; omega
      have hl1 := ((HR.out.2.2.al (by omega) (.cells #[.int .i64 (nth zs k)] 3)).dr).bel (hB1.mono (by omega))
      refine ⟨⟨k + 1, .slice (some ⟨g, 0, none⟩) (k + 1) gc, by omega, by go_num, ?_, HO1.out.s2 _, ?_, ?_, by simpa [World.setCell] using hz1, ?_⟩, by simp [intOf]; omega⟩
      · exact (((HR.out.1.al _).dr.bel hB1 (by omega))).ot (by show w.heap.size ≠ w.heap.size + 1 + 1; omega) _
      · exact hl1.off (by show w.heap.size + 1 + 1 ≤ w.heap.size + 1 + 1; omega) _
      · rw [take_len _ (show k + 1 ≤ zs.length by omega)]
        exact ownsRow_setCell_below hown1 (by show w.heap.size + 1 + 1 < w.heap.size + 1 + 1 + 1; omega) _
      · exact (((hB.alloc (by omega) _).drew.trans (hB1.mono (by omega)))).setCell (p := ⟨w.heap.size + 1 + 1, 2, none⟩) (by show w.heap.size ≤ w.heap.size + 1 + 1; omega) _
    · obtain rfl : k = zs.length := by omega
      rw [List.take_length] at hown
      obtain ⟨g, gc, rfl, hN⟩ := owns_new hown
      have HCp : Hid (zs.length ≤ gc) := owns_room hown
      have o0 := hO.c0
      have o1 := hO.c1
      have o2 := hO.c2
      have r0 := hR.c0
      have r1 := hR.c1
      have r2 := hR.c2
      have f0 := hR.fr 0
      have f1 := hR.fr 1
      have f2 := hR.fr 2
      have HR := hR
      clear hR hown
      go_wp2_with fail
      have F := HR.set3 (.bool c) (.slice (some ⟨w.heap.size + 1, 0, none⟩) 1 1) (.slice g zs.length gc)
      refine bodyPost_ret (v := .agg #[.bool c, .slice (some ⟨w.heap.size + 1, 0, none⟩) 1 1, .slice g zs.length gc]) ?_ rfl ⟨some ⟨w.heap.size + 1, 0, none⟩, 1, g, gc, rfl, ?_, ?_, bel_set3 hB (Nat.le_refl _) _ _ _, Nat.le_refl _, HCp.out⟩
      · exact results_cell_row rfl _ _ w.heap.size 24 _ (0, 0) _ rfl F Try.underlying24 rfl (by kernel_rfl)
      · exact ((hl.new (by omega)).set3 (by omega) _ _ _).low (by omega)
      · exact (hN.set3 (by omega) _ _ _).low (by omega)
theorem vector_any (c : Bool) (a : Option Addr) (cap : Nat) (zs : List Int) (h1 : zs.length ≤ 100000) (w : World) (hI : IsInts w.heap.size w a zs) :
    Calls Try.prog 28 #[.bool c, .slice a zs.length cap] w fun e w' => ∃ sa sc g gc, e = .returned (.agg #[.bool c, .slice sa 1 sc, .slice g zs.length gc]) ∧ NewInts w.heap.size w' sa [(zs.length : Int)] ∧ NewInts w.heap.size w' g zs ∧ Below w.heap.size w w' :=
  (vector_cap c a cap zs h1 w hI).mono fun e w' ⟨sa, sc, g, gc, h, h2, h3, h4, _⟩ => ⟨sa, sc, g, gc, h, h2, h3, h4⟩
end Go.Proofs.Ytcpmendkocnlhab
