/-
  The program's powers of orders.
-/
import Derived.BigRegionIn
import Derived.Test.YtcblakcaoecgpaaDoorPmc3
import Derived.Test.YtcblakcaoecgpaaDoorTillin
namespace Go.Proofs.YtcblakcaoecgpaaDoor
open Go.RowKit Go.Shelf
set_option linter.unusedVariables false
attribute [local go_sem] Oper.semAt_some

set_option maxRecDepth 100000 in
set_option maxHeartbeats 2000000 in
/-- The numbers in order. -/
theorem upto_any (n : Nat) (hn : n ≤ 4096) (w : World) :
    Calls Tryd.prog 31 #[.int .i64 (n : Nat)] w fun e w' => e = .returned (.slice (some ⟨w.heap.size, 0, none⟩) n n) ∧ w'.rowIs w.heap.size 3 n (fun j => .int .i64 (nth (idn n) j)) ∧ Below w.heap.size w w' := by
  have hmk := run_make_row' (P := Tryd.prog) 22 3 (.int .i64 0) 8 Tryd.underlying22 Tryd.infoInt rfl .i64 .i64 n (by omega) (by omega)
  have HB1 : Hid (Below w.heap.size w (w.alloc (.cells (madeCells #[.int .i64 0] n) 3))) := (Below.refl _ w).alloc (Nat.le_refl _) _
  have HR0 : Hid ((w.alloc (.cells (madeCells #[.int .i64 0] n) 3)).rowIs w.heap.size 3 n (fun _ => .int .i64 0)) := World.rowIs_made w (.int .i64 0) n 3
  go_enter Tryd.func31, Tryd.ntmps31
  go_wp2_with fail
  clear hmk
  go_loopw [9] (fun i wr => ∃ t : Nat, t ≤ n ∧ i = .int .i64 t ∧ wr.rowIs w.heap.size 3 n (fun j => .int .i64 (nth (upl (idn n) t) j)) ∧ Below w.heap.size w wr) (fun i _ => n - (intOf i).toNat)
  case atStart => exact ⟨0, Nat.zero_le _, rfl, HR0.out.congr (fun j _ => by rw [upl_zero, nth_replicate]), HB1.out⟩
  case round =>
    obtain ⟨t, ht, rfl, hrow, hB⟩ := hrel
    by_cases hlt : t < n
    · have hct := hrow.cell hlt
      have hft := hrow.frozen t
      have hL : (idn n).length = n := idn_length n
      have HN : Hid ((upl (idn n) t).set t (t : Int) = upl (idn n) (t + 1)) := by
        show _ = _
        rw [← upl_next (idn n) (by omega), idn_nth hlt]
      have HL : Hid ((upl (idn n) t).length = n) := by show _ = _; rw [upl_length (idn n) (by omega), hL]
      clear hL
      go_wp2_with fail
      refine ⟨⟨t + 1, by omega, by go_num, ?_, hB.setCell (p := ⟨w.heap.size, t, none⟩) (Nat.le_refl _) _⟩, by simp [intOf]; omega⟩
      rw [← HN.out]
      exact rr_put hrow HL.out hlt _
    · obtain rfl : t = n := by omega
      have eD : upl (idn t) t = idn t := by have := upl_all (idn t); rw [idn_length] at this; exact this
      rw [eD] at hrow
      have HR : Hid (wr.rowIs w.heap.size 3 t (fun j => .int .i64 (nth (idn t) j))) := hrow
      clear hrow eD
      go_wp2_with fail
      go_ret
      exact ⟨rfl, HR.out, hB⟩
theorem row3 {n B m : Nat} {W W' : World} {t : TypeId} {f : Nat → Value} (h : W.rowIs B t m f) (k : Kp3 n W W') (hB : B < n) : W'.rowIs B t m f := h.of_block (k.block B h.lt (.inl hB))
set_option maxRecDepth 100000 in
set_option maxHeartbeats 4000000 in
theorem pw_holds : CPw := by
  intro a cap p k w hl hI h64 hk64
  by_cases he : orE p = 0
  · have hz := orE_zero.1 he
    have h4 : p.length ≤ 4096 := hz.1
    have hB0 : Below w.heap.size w (w.alloc (.cells #[.int .i64 k] 3)) := (Below.refl _ w).alloc (Nat.le_refl _) _
    have hC := pc_ok a cap p (w.alloc (.cells #[.int .i64 k] 3)) hl ((hI.below hB0).mono hB0.size) h64 he
    have HI : Hid (IsInts w.heap.size w a p) := hI
    have HE : Hid (orE p = 0) := he
    have HP : Hid (IsOrd p) := hz.2
    have bk := Boxed.new w 3 (.int .i64 k)
    have HBk : Hid (Boxed (w.alloc (.cells #[.int .i64 k] 3)) w.heap.size 3 (.int .i64 k)) := bk
    have HB0 : Hid (Below w.heap.size w (w.alloc (.cells #[.int .i64 k] 3))) := hB0
    have hs0 : (w.alloc (.cells #[.int .i64 k] 3)).heap.size = w.heap.size + 1 := by simp
    have HS0 : Hid ((w.alloc (.cells #[.int .i64 k] 3)).heap.size = w.heap.size + 1) := hs0
    clear hI h64 he hz hB0 bk hs0
    refine (callsIn_wide (n := 5)).1 ?_
    refine callsIn_of_wp_marks Tryd.func17 rfl trivial ?_ rfl
    simp only [Tryd.ntmps17, List.size_toArray, List.length_cons, List.length_nil, Nat.reduceAdd, Nat.reduceSub, Array.replicate_succ, Array.replicate_zero, List.push_toArray, List.append_toArray, List.nil_append, List.cons_append]
    gi_wp2_with fail
    refine ⟨trivial, (callsIn_wide.2 hC).mono ?_⟩
    rintro e w1 ⟨rfl, hB1⟩
    have HBk1 : Hid (Boxed w1 w.heap.size 3 (.int .i64 k)) := (hB1.block _ (by rw [HS0.out]; omega)).trans HBk.out
    have hs1 : w.heap.size + 1 ≤ w1.heap.size := by have := hB1.size; rw [HS0.out] at this; exact this
    have HB1 : Hid (Below w.heap.size w w1) := HB0.out.trans (hB1.mono (by rw [HS0.out]; omega))
    clear hC hB1 HBk HB0 HS0
    gi_wp2_with fail
    refine ⟨trivial, (callsIn_wide.2 (upto_any p.length h4 w1)).mono ?_⟩
    rintro e w2 ⟨rfl, hrow2, hB2⟩
    have hs2 : w1.heap.size < w2.heap.size := hrow2.lt
    have HBk2 : Hid (Boxed w2 w.heap.size 3 (.int .i64 k)) := (hB2.block _ (by omega)).trans HBk1.out
    have HB2 : Hid (Below w.heap.size w w2) := HB1.out.trans (hB2.mono (by omega))
    have HR2 : Hid (w2.rowIs w1.heap.size 3 p.length (fun j => .int .i64 (nth (idn p.length) j))) := hrow2
    clear hrow2 hB2 HB1 HBk1
    gi_wp2_with fail
    refine ⟨trivial, (callsIn_wide.2 (cyf_any a p.length cap _)).mono ?_⟩
    rintro e w' ⟨rfl, rfl⟩
    gi_wp2_with fail
    have bo := Boxed.new w2 22 (.slice (some ⟨w1.heap.size, 0, none⟩) p.length p.length)
    have bp := Boxed.new (w2.alloc (.cells #[.slice (some ⟨w1.heap.size, 0, none⟩) p.length p.length] 22)) 22 (.slice a p.length cap)
    replace bo := bo.alloc (.cells #[.slice a p.length cap] 22)
    have bk := (HBk2.out.alloc (.cells #[.slice (some ⟨w1.heap.size, 0, none⟩) p.length p.length] 22)).alloc (.cells #[.slice a p.length cap] 22)
    have hBV : Below w.heap.size w ((w2.alloc (.cells #[.slice (some ⟨w1.heap.size, 0, none⟩) p.length p.length] 22)).alloc (.cells #[.slice a p.length cap] 22)) := (HB2.out.alloc HB2.out.size _).alloc (by simp; omega) _
    have hRV := (HR2.out.alloc (.cells #[.slice (some ⟨w1.heap.size, 0, none⟩) p.length p.length] 22)).alloc (.cells #[.slice a p.length cap] 22)
    have hsV : ((w2.alloc (.cells #[.slice (some ⟨w1.heap.size, 0, none⟩) p.length p.length] 22)).alloc (.cells #[.slice a p.length cap] 22)).heap.size = w2.heap.size + 2 := by simp
    rw [World.size_alloc] at bp
    generalize (w2.alloc (.cells #[.slice (some ⟨w1.heap.size, 0, none⟩) p.length p.length] 22)).alloc (.cells #[.slice a p.length cap] 22) = V at *
    clear HBk2 HB2 HR2
    rw [← pwT_nil k] at hRV
    refine cyc_range (by omega) (w2.heap.size + 1) w.heap.size a cap p HP.out h4 rfl (by omega) bp.cell (by omega) (HI.out.below hBV) rfl
      (fun hs W => W.rowIs w1.heap.size 3 p.length (fun j => .int .i64 (nth (pwT p k hs) j)) ∧ Boxed W w2.heap.size 22 (.slice (some ⟨w1.heap.size, 0, none⟩) p.length p.length) ∧ Boxed W w.heap.size 3 (.int .i64 k) ∧ Below w.heap.size w W)
      (fun hs A B hA hk => ⟨row3 hA.1 hk (by omega), bx3 hA.2.1 hk (by omega), bx3 hA.2.2.1 hk (by omega), Kp3.below hA.2.2.2 hk (by omega)⟩) ⟨hRV, bo, bk, hBV⟩ ?a1 ?assign ?body ?done
    case assign =>
      intro l v W K hK
      gi_wp2
      exact hK
    case body =>
      rintro l f A B g gc hf hd ⟨hrow, hbo, hbk, hBA⟩ hsA hk hN
      have HRB : Hid (B.rowIs w1.heap.size 3 p.length (fun j => .int .i64 (nth (pwT p k (hdT p f)) j))) := row3 hrow hk (by omega)
      have HbO : Hid (Boxed B w2.heap.size 22 (.slice (some ⟨w1.heap.size, 0, none⟩) p.length p.length)) := bx3 hbo hk (by omega)
      have hbkB := bx3 hbk hk (by omega)
      have HbK : Hid (Boxed B w.heap.size 3 (.int .i64 k)) := hbkB
      have HBB : Hid (Below w.heap.size w B) := Kp3.below hBA hk (by omega)
      have hsB : A.heap.size ≤ B.heap.size := hk.size
      have HO : Hid ((orb p f).length = per p f) := orb_length f
      obtain ⟨hpl, _, _⟩ := per_fact HP.out hf
      have hp0 := per_pos p f
      obtain ⟨b, off, rfl, hb0, hb1, hcell⟩ : ∃ b off, g = some ⟨b, off, none⟩ ∧ A.heap.size ≤ b ∧ b < B.heap.size ∧ ∀ j, j < per p f → B.cell? ⟨b, off + j, none⟩ = some (.int .i64 (itr p j f : Nat)) := by
        rcases hN.1 with e | ⟨b, off, e, h0, hb, hc, _⟩
        · have := orb_length (p := p) f; rw [e] at this; simp at this; omega
        · exact ⟨b, off, e, h0, hb, fun j hj => by rw [← orb_nth hj]; exact hc j (by rw [orb_length]; exact hj)⟩
      have HC : Hid (∀ j, j < per p f → B.cell? ⟨b, off + j, none⟩ = some (.int .i64 (itr p j f : Nat))) := hcell
      have hck := hbkB.cell
      clear hrow hbo hbk hBA hN hbkB hk bo bp bk hBV hRV hcell
      rw [HO.out]
      refine wpIn_mono (Q := fun e _ C => e = .normal ∧ C.rowIs w1.heap.size 3 p.length (fun j => .int .i64 (nth (pwU p k (hdT p f) f (per p f)) j)) ∧ B.grownBy C (some w1.heap.size)) ?_ ?_
      · have HX : Hid (∀ t, t < per p f → ∀ m : Nat, (m : Int) = ((t : Int) + (k.tmod (per p f : Int) + (per p f : Int))).tmod (per p f : Int) → m < per p f ∧ (pwU p k (hdT p f) f t).set (itr p t f) (itr p m f : Int) = pwU p k (hdT p f) f (t + 1)) := by
          intro t ht m hm
          refine ⟨?_, pwU_next HP.out k (hdT p f) hf hm⟩
          have := Int.tmod_lt_of_pos ((t : Int) + (k.tmod (per p f : Int) + (per p f : Int))) (show (0 : Int) < (per p f : Int) by omega)
          omega
        have HL : Hid (∀ t, itr p t f < p.length) := fun t => itr_lt HP.out hf t
        have HRU : Hid (B.rowIs w1.heap.size 3 p.length (fun j => .int .i64 (nth (pwU p k (hdT p f) f 0) j))) := by rw [pwU_zero]; exact HRB.out
        have hX1 : 0 < k.tmod (per p f : Int) + (per p f : Int) ∧ k.tmod (per p f : Int) < (per p f : Int) := by
          have h2 := Int.tmod_lt_of_pos k (show (0 : Int) < (per p f : Int) by omega)
          have h3 := Int.tmod_lt_of_pos (-k) (show (0 : Int) < (per p f : Int) by omega)
          rw [Int.neg_tmod] at h3
          omega
        generalize hM : per p f = M at *
        have HM : Hid (per p f = M) := hM
        clear hM HRB HBB HbK
        obtain ⟨X, hX⟩ : ∃ X, X = k.tmod (M : Int) := ⟨_, rfl⟩
        rw [← hX] at hX1
        obtain ⟨s0, hs0⟩ : ∃ s0 : Nat, (s0 : Int) = X + (M : Int) := ⟨(X + (M : Int)).toNat, by omega⟩
        have hMz : ¬ (M : Int) = 0 := by omega
        have hMz2 : ¬ M = 0 := by omega
        have hXe : k.tmod (M : Int) = X := hX.symm
        have HX0 : Hid (k.tmod (M : Int) + (M : Int) = (s0 : Int)) := by show _ = _; rw [hXe, hs0]
        have hwr : IntKind.i64.wrap (X + (M : Int)) = (s0 : Int) := by rw [← hs0]; exact IntWalk.i64_in _ (by omega)
        have hs8 : s0 < 8192 := by omega
        have hM4 : M ≤ 4096 := by omega
        clear hX hs0 hX1
        have hs0B : s0 + M ≤ 12288 := by omega
        gi_wp2_with fail
        clear hck hwr hXe
        gi_loopw [33] (fun i wr => ∃ t : Nat, t ≤ M ∧ i = .int .i64 t ∧ wr.rowIs w1.heap.size 3 p.length (fun j => .int .i64 (nth (pwU p k (hdT p f) f t) j)) ∧ B.grownBy wr (some w1.heap.size)) (fun i _ => M - (intOf i).toNat)
        case atStart => exact ⟨0, Nat.zero_le _, rfl, HRU.out, grown_bel9 _ (Below.refl _ B)⟩
        case round =>
          obtain ⟨t, ht, rfl, hrow, hG⟩ := hrel
          have HG : Hid (B.grownBy wr (some w1.heap.size)) := hG
          have HR : Hid (wr.rowIs w1.heap.size 3 p.length (fun j => .int .i64 (nth (pwU p k (hdT p f) f t) j))) := hrow
          by_cases hlt : t < M
          · obtain ⟨Q, hQ⟩ : ∃ Q : Nat, Q = t + s0 := ⟨_, rfl⟩
            have hq1 : IntKind.i64.wrap ((t : Int) + (s0 : Int)) = (Q : Int) := by rw [hQ, Int.natCast_add]; exact IntWalk.i64_in _ (by omega)
            obtain ⟨m, hm⟩ : ∃ m : Nat, m = Q % M := ⟨_, rfl⟩
            have hmM : m < M := by rw [hm]; exact Nat.mod_lt _ hp0
            have hq2 : (Q : Int).tmod (M : Int) = (m : Int) := by rw [Int.tmod_eq_emod_of_nonneg (by omega), hm, Int.natCast_emod]
            have HXm := (HX.out t hlt m (by rw [HX0.out, ← hq2, hQ, Int.natCast_add])).2
            have HN : Hid ((pwU p k (hdT p f) f t).set (itr p t f) (itr p m f : Int) = pwU p k (hdT p f) f (t + 1)) := HXm
            have hci : wr.cell? ⟨b, off + t, none⟩ = some (.int .i64 (itr p t f : Nat)) := (World.cell?_of_block (w := B) (a := ⟨b, off + t, none⟩) (hG.block b hb1 (fun e => by have := Option.some.inj e; omega))).trans (HC.out t hlt)
            have hcm : wr.cell? ⟨b, off + m, none⟩ = some (.int .i64 (itr p m f : Nat)) := (World.cell?_of_block (w := B) (a := ⟨b, off + m, none⟩) (hG.block b hb1 (fun e => by have := Option.some.inj e; omega))).trans (HC.out m hmM)
            have hco : wr.cell? ⟨w2.heap.size, 0, none⟩ = some (.slice (some ⟨w1.heap.size, 0, none⟩) p.length p.length) := (World.cell?_of_block (w := B) (a := ⟨w2.heap.size, 0, none⟩) (hG.block w2.heap.size (by omega) (fun e => by have := Option.some.inj e; omega))).trans HbO.out.cell
            have hli := HL.out t
            have hcr := hrow.cell hli
            have hfr := hrow.frozen (itr p t f)
            have HLn : Hid ((pwU p k (hdT p f) f t).length = p.length) := pwU_length k (hdT p f) f t
            clear hrow hG HXm hQ hm
            generalize itr p m f = I2 at *
            generalize itr p t f = I1 at *
            gi_wp2_with fail
            refine anyT_beginIn 10 (fun w' => w'.cell? ⟨w2.heap.size, 0, none⟩ = some (.slice (some ⟨w1.heap.size, 0, none⟩) p.length p.length) ∧ w'.cell? ⟨b, off + m, none⟩ = some (.int .i64 (I2 : Nat))) 12 #[false, false, false, false, false, false, false, false, false, false, false, false] (by kernel_rfl) rfl rfl (by kernel_rfl) ?_
            refine anyT_take 0 38 ?rv0 #[true, false, false, false, false, false, false, false, false, false, false, false] rfl rfl rfl (by kernel_rfl) (by kernel_rfl) (by kernel_rfl) (fun _ _ _ h => h) (by kernel_rfl) (by decide) (by kernel_rfl) ?ry0 (⟨hco, hcm⟩) ?rm0
            case ry0 => first | exact Or.inl ⟨by rfl, by intro w' hw'; (try dsimp only at hw'); go_simp; first | done | rfl⟩
            case rm0 =>
            simp only [Act.put, List.setIfInBounds_toArray, List.set_cons_zero, List.set_cons_succ]
            refine anyT_put 1 39 ?rv1 #[true, true, false, false, false, false, false, false, false, false, false, false] rfl rfl rfl (by kernel_rfl) (by kernel_rfl) (by kernel_rfl) (fun _ _ _ h => h) (by decide) ?ry1 (fun _ => ⟨hco, hcm⟩) ?rm1
            case ry1 => first | exact Or.inl ⟨by rfl, by intro w'; go_simp; first | done | rfl⟩
            case rm1 =>
            simp only [Act.put, List.setIfInBounds_toArray, List.set_cons_zero, List.set_cons_succ]
            refine anyT_put 2 40 ?rv2 #[true, true, true, false, false, false, false, false, false, false, false, false] rfl rfl rfl (by kernel_rfl) (by kernel_rfl) (by kernel_rfl) (fun _ _ _ h => h) (by decide) ?ry2 (fun _ => ⟨hco, hcm⟩) ?rm2
            case ry2 => first | exact Or.inl ⟨by rfl, by intro w'; go_simp; first | done | rfl⟩
            case rm2 =>
            simp only [Act.put, List.setIfInBounds_toArray, List.set_cons_zero, List.set_cons_succ]
            refine anyT_put 3 41 ?rv3 #[true, true, true, true, false, false, false, false, false, false, false, false] rfl rfl rfl (by kernel_rfl) (by kernel_rfl) (by kernel_rfl) (fun _ _ _ h => h) (by decide) ?ry3 (fun _ => ⟨hco, hcm⟩) ?rm3
            case ry3 => first | exact Or.inl ⟨by rfl, by intro w'; go_simp; first | done | rfl⟩
            case rm3 =>
            simp only [Act.put, List.setIfInBounds_toArray, List.set_cons_zero, List.set_cons_succ]
            refine anyT_put 4 42 ?rv4 #[true, true, true, true, true, false, false, false, false, false, false, false] rfl rfl rfl (by kernel_rfl) (by kernel_rfl) (by kernel_rfl) (fun _ _ _ h => h) (by decide) ?ry4 (fun _ => ⟨hco, hcm⟩) ?rm4
            case ry4 => first | exact Or.inl ⟨by rfl, by intro w'; go_simp; first | done | rfl⟩
            case rm4 =>
            simp only [Act.put, List.setIfInBounds_toArray, List.set_cons_zero, List.set_cons_succ]
            refine anyT_put 5 43 ?rv5 #[true, true, true, true, true, true, false, false, false, false, false, false] rfl rfl rfl (by kernel_rfl) (by kernel_rfl) (by kernel_rfl) (fun _ _ _ h => h) (by decide) ?ry5 (fun _ => ⟨hco, hcm⟩) ?rm5
            case ry5 => first | exact Or.inl ⟨by rfl, by intro w'; go_simp; first | done | rfl⟩
            case rm5 =>
            simp only [Act.put, List.setIfInBounds_toArray, List.set_cons_zero, List.set_cons_succ]
            refine anyT_put 6 44 ?rv6 #[true, true, true, true, true, true, true, false, false, false, false, false] rfl rfl rfl (by kernel_rfl) (by kernel_rfl) (by kernel_rfl) (fun _ _ _ h => h) (by decide) ?ry6 (fun _ => ⟨hco, hcm⟩) ?rm6
            case ry6 => first | exact Or.inl ⟨by rfl, by intro w'; go_simp; first | done | rfl⟩
            case rm6 =>
            simp only [Act.put, List.setIfInBounds_toArray, List.set_cons_zero, List.set_cons_succ]
            refine anyT_put 7 45 ?rv7 #[true, true, true, true, true, true, true, true, false, false, false, false] rfl rfl rfl (by kernel_rfl) (by kernel_rfl) (by kernel_rfl) (fun _ _ _ h => h) (by decide) ?ry7 (fun _ => ⟨hco, hcm⟩) ?rm7
            case ry7 => first | exact Or.inl ⟨by rfl, by intro w'; go_simp; first | done | rfl⟩
            case rm7 =>
            simp only [Act.put, List.setIfInBounds_toArray, List.set_cons_zero, List.set_cons_succ]
            refine anyT_put 8 46 ?rv8 #[true, true, true, true, true, true, true, true, true, false, false, false] rfl rfl rfl (by kernel_rfl) (by kernel_rfl) (by kernel_rfl) (fun _ _ _ h => h) (by decide) ?ry8 (fun _ => ⟨hco, hcm⟩) ?rm8
            case ry8 => first | exact Or.inl ⟨by rfl, by intro w'; go_simp; first | done | rfl⟩
            case rm8 =>
            simp only [Act.put, List.setIfInBounds_toArray, List.set_cons_zero, List.set_cons_succ]
            refine anyT_take 9 47 ?rv9 #[true, true, true, true, true, true, true, true, true, true, false, false] rfl rfl rfl (by kernel_rfl) (by kernel_rfl) (by kernel_rfl) (fun _ _ _ h => h) (by kernel_rfl) (by decide) (by kernel_rfl) ?ry9 (⟨hco, hcm⟩) ?rm9
            case ry9 => first | exact Or.inl ⟨by rfl, by intro w' hw'; (try dsimp only at hw'); go_simp; first | done | rfl⟩
            case rm9 =>
            simp only [Act.put, List.setIfInBounds_toArray, List.set_cons_zero, List.set_cons_succ]
            refine anyT_one 10 #[true, true, true, true, true, true, true, true, true, true, true, false] (by kernel_rfl) rfl rfl (fun K hK => ?_)
            go_simp
            refine hK.out _ _ (fun h => absurd h (by decide)) ?_
            clear hK K
            refine anyT_one 11 #[true, true, true, true, true, true, true, true, true, true, true, true] (by kernel_rfl) rfl rfl (fun K hK => ?_)
            go_simp
            refine hK.out _ _ (fun h => absurd h (by decide)) ?_
            clear hK K
            refine anyT_done (by kernel_rfl) ?_
            simp only [onN]
            gi_wp2_with fail
            refine ⟨⟨t + 1, by omega, by go_num, ?_, grown_bel (grown_t9 HG.out (grown_set9 _ _ _ _)) (Below.refl _ _).drew⟩, by simp [intOf]; omega⟩
            rw [← HN.out]
            exact (rr_put HR.out HLn.out hli _).drew
          · obtain rfl : t = M := by omega
            rw [HM.out] at *
            clear hrow hG
            gi_wp2_with fail
            exact ⟨HR.out, HG.out⟩
      · rintro e _ C ⟨rfl, hrC, hgC⟩
        rw [pwU_all] at hrC
        refine ⟨rfl, fun k hk => hgC.block k (by omega) (fun e => by have := Option.some.inj e; omega), hrC, (hgC.block _ (by omega) (fun e => by have := Option.some.inj e; omega)).trans HbO.out, (hgC.block _ (by omega) (fun e => by have := Option.some.inj e; omega)).trans HbK.out, HBB.out.grown hgC HBB.out.size (fun j e => by have := Option.some.inj e; omega)⟩
    case done =>
      rintro W ⟨hrow, hbo, hbk, hBW⟩ hD
      rw [pwT_all HP.out] at hrow
      have hc0 := hbo.cell
      have HBW : Hid (Below w.heap.size w W) := hBW
      have HD : Hid (W.heap[V.heap.size]? = some (.deferred (some []))) := hD
      have HRW : Hid (W.rowIs w1.heap.size 3 p.length (fun j => .int .i64 (nth (pwI p k) j))) := hrow
      clear hbo hbk hBW hD bo bp bk hBV hRV hrow
      gi_wp2
      refine ⟨by simp, .inl ⟨_, _, rfl, run_takeDeferred HD.out, ?_⟩⟩
      have hr2 := HRW.out.of_block (w' := W.putObj V.heap.size (.deferred none)) (World.putObj_heap_other (by omega))
      have hL : (pwI p k).length = p.length := pwI_length k
      have := UL.mkok (L := pwI p k) HE.out (rr_list hr2 hL (lo := w.heap.size) (by omega)) (below_shut HBW.out (by omega))
      rw [hL] at this
      refine ⟨_, results_tmp2 rfl _ _ _, ?_⟩
      exact this
  · have hB0 : Below w.heap.size w (w.alloc (.cells #[.int .i64 k] 3)) := (Below.refl _ w).alloc (Nat.le_refl _) _
    have hC := pc_no a cap p (w.alloc (.cells #[.int .i64 k] 3)) hl ((hI.below hB0).mono hB0.size) h64 he
    have HE : Hid (orE p ≠ 0) := he
    have HB0 : Hid (Below w.heap.size w (w.alloc (.cells #[.int .i64 k] 3))) := hB0
    clear hI h64 he hB0
    generalize orE p = e0 at *
    refine (callsIn_wide (n := 5)).1 ?_
    refine callsIn_of_wp_marks Tryd.func17 rfl trivial ?_ rfl
    simp only [Tryd.ntmps17, List.size_toArray, List.length_cons, List.length_nil, Nat.reduceAdd, Nat.reduceSub, Array.replicate_succ, Array.replicate_zero, List.push_toArray, List.append_toArray, List.nil_append, List.cons_append]
    gi_wp2_with fail
    refine ⟨trivial, (callsIn_wide.2 hC).mono ?_⟩
    rintro e w1 ⟨rfl, hB⟩
    clear hC
    gi_wp2_with fail
    exact ⟨_, results_tmp2 rfl _ _ _, UL.mkno rfl HE.out (HB0.out.trans (hB.mono HB0.out.size))⟩
end Go.Proofs.YtcblakcaoecgpaaDoor
