/-
  The program's folds: may an array be folded along an axis; where a line begins; its cells.
-/
import Derived.BigQuiet
import Derived.Test.YtcpmendkocnlhabFldp
import Derived.Test.YtcpmendkocnlhabFldq
import Derived.Test.YtcpmendkocnlhabTwos
import Derived.Test.YtcpmendkocnlhabFstep
import Derived.Test.YtcpmendkocnlhabCutn
import Derived.Test.YtcpmendkocnlhabUbm
namespace Go.Proofs.Ytcpmendkocnlhab
open Go.RowKit
set_option linter.unusedVariables false

set_option maxRecDepth 100000 in
set_option maxHeartbeats 2000000 in
theorem fcheck_any (f x : Int) (c : Bool) (sa : Option Addr) (sc : Nat) (sz : List Int) (da : Option Addr) (dc : Nat) (dz : List Int) (h1 : sz.length ≤ 9223372036854775807) (h2 : dz.length ≤ 9223372036854775807) (w : World) (hs : IsInts w.heap.size w sa sz) (hd : IsInts w.heap.size w da dz) :
    Calls Try.prog 32 #[.int .i64 f, .int .i64 x, .agg #[.bool c, .slice sa sz.length sc, .slice da dz.length dc]] w fun e w' => e = .returned (errV (lnE f x c sz dz)) ∧ Below w.heap.size w w' := by
  have HI : Hid (IsInts w.heap.size w sa sz ∧ IsInts w.heap.size w da dz) := ⟨hs, hd⟩
  have hb0 : Hid (Below w.heap.size w (w.alloc (.cells #[.bool c, .slice sa sz.length sc, .slice da dz.length dc] 24))) := (Below.refl _ w).alloc (Nat.le_refl _) _
  have pa0 : Hid (Abx (w.alloc (.cells #[.bool c, .slice sa sz.length sc, .slice da dz.length dc] 24)) w.heap.size (.bool c) (.slice sa sz.length sc) (.slice da dz.length dc)) := Abx.new w _ _ _
  have h2w := two_any f 1 1 (by unfold In64; decide) (by unfold In64; decide) (w.alloc (.cells #[.bool c, .slice sa sz.length sc, .slice da dz.length dc] 24))
  clear hs hd
  by_cases hf : f < 1 ∨ 16 < f
  · have HE : Hid (errV (lnE f x c sz dz) = .iface 40 (.int .i64 1)) := by show _ = _; unfold lnE; rw [if_pos hf]; rfl
    have ht : errV (twoE f 1 1) = .iface 40 (.int .i64 1) := by unfold twoE; rw [if_pos hf]; rfl
    rw [ht] at h2w
    rw [HE.out]
    clear ht hf
    go_enter Try.func32, Try.ntmps32
    go_wp2_with fail
    refine h2w.mono ?_
    rintro e v1 ⟨rfl, hB⟩
    have HB : Hid (Below w.heap.size w v1) := hb0.out.trans (hB.mono hb0.out.size)
    clear hB h2w
    go_wp2_with fail
    go_ret
    exact ⟨rfl, HB.out⟩
  · have HF : Hid (¬ (f < 1 ∨ 16 < f)) := hf
    have ht : errV (twoE f 1 1) = .nilIface := by rw [te0 (by omega) (by omega) (fun _ => by decide) (fun _ => by decide)]; rfl
    rw [ht] at h2w
    clear ht hf
    go_enter Try.func32, Try.ntmps32
    go_wp2_with fail
    refine h2w.mono ?_
    rintro e v1 ⟨rfl, hB⟩
    have HB : Hid (Below w.heap.size w v1) := hb0.out.trans (hB.mono hb0.out.size)
    have HP : Hid (Abx v1 w.heap.size (.bool c) (.slice sa sz.length sc) (.slice da dz.length dc)) := pa0.out.go hB
    clear hB h2w pa0 hb0
    have p0 := HP.out.c0
    have p1 := HP.out.c1
    have p2 := HP.out.c2
    by_cases h3 : flawE c sz dz = 0
    · have H3 : Hid (flawE c sz dz = 0) := h3
      clear h3
      go_wp2_with fail
      refine (check_ok c sa sc sz da dc dz h1 h2 _ ((HI.out.1.below HB.out).mono HB.out.size) ((HI.out.2.below HB.out).mono HB.out.size) H3.out).mono ?_
      rintro e v2 ⟨rfl, hC⟩
      replace HB : Hid (Below w.heap.size w v2) := HB.out.trans (hC.mono HB.out.size)
      replace HP : Hid (Abx v2 w.heap.size (.bool c) (.slice sa sz.length sc) (.slice da dz.length dc)) := HP.out.go hC
      clear hC p0 p1 p2
      have p0 := HP.out.c0
      have p1 := HP.out.c1
      by_cases hx : x < 0
      · have HE : Hid (errV (lnE f x c sz dz) = .iface 40 (.int .i64 5)) := by
          show _ = _
          have e5 : axE x c sz dz = 5 := by unfold axE; rw [if_neg (not_not_intro H3.out), if_pos (.inl hx)]
          unfold lnE; rw [if_neg HF.out, e5]; rfl
        go_wp2_with fail
        go_ret
        exact ⟨by rw [HE.out]; rfl, HB.out⟩
      · by_cases hl : (sz.length : Int) ≤ x
        · have HE : Hid (errV (lnE f x c sz dz) = .iface 40 (.int .i64 5)) := by
            show _ = _
            have e5 : axE x c sz dz = 5 := by unfold axE; rw [if_neg (not_not_intro H3.out), if_pos (.inr hl)]
            unfold lnE; rw [if_neg HF.out, e5]; rfl
          go_wp2_with fail
          go_ret
          exact ⟨by rw [HE.out]; rfl, HB.out⟩
        · have HA : Hid (axE x c sz dz = 0) := axE_zero.2 ⟨H3.out, by omega, by omega⟩
          have HE : Hid (lnE f x c sz dz = if c = true then 6 else 0) := by show _ = _; unfold lnE; rw [if_neg HF.out, if_neg (not_not_intro HA.out)]
          cases c
          · go_wp2_with fail
            go_ret
            exact ⟨by rw [HE.out]; rfl, HB.out⟩
          · go_wp2_with fail
            go_ret
            exact ⟨by rw [HE.out]; rfl, HB.out⟩
    · have H3 : Hid (flawE c sz dz ≠ 0) := h3
      have HE : Hid (errV (lnE f x c sz dz) = .iface 40 (.int .i64 (flawE c sz dz))) := by
        show _ = _
        have : axE x c sz dz = flawE c sz dz := by unfold axE; rw [if_pos h3]
        unfold lnE; rw [if_neg HF.out, this, if_pos h3, errV_pos h3]
      clear h3
      go_wp2_with fail
      refine (check_no c sa sc sz da dc dz h1 h2 _ ((HI.out.1.below HB.out).mono HB.out.size) ((HI.out.2.below HB.out).mono HB.out.size) H3.out).mono ?_
      rintro e v2 ⟨rfl, hC⟩
      replace HB : Hid (Below w.heap.size w v2) := HB.out.trans (hC.mono HB.out.size)
      clear hC
      go_wp2_with fail
      go_ret
      exact ⟨by rw [HE.out]; rfl, HB.out⟩
theorem wsm {a : Nat} (h : a ≤ 9223372036854775807) : wrap64 (a : Int) = a := wrap64_small (by omega) (by omega)
/-- Where a line begins. -/
def stN (n m A : Nat) : Nat := n / A * m * A + n % A
set_option maxRecDepth 100000 in
set_option maxHeartbeats 2000000 in
theorem start_any (n m A : Nat) (hA : 0 < A) (hn : n ≤ 4096) (hm : m ≤ 4096) (hA4 : A ≤ 4096) (w : World) :
    Calls Try.prog 52 #[.int .i64 (n : Nat), .int .i64 (m : Nat), .int .i64 (A : Nat)] w fun e w' => e = .returned (.int .i64 ((stN n m A : Nat) : Int)) ∧ Below w.heap.size w w' := by
  have hA0 : ¬ (A : Int) = 0 := by omega
  have hq : n / A ≤ 4096 := Nat.le_trans (Nat.div_le_self n A) hn
  have h2 : n / A * m ≤ 4096 * 4096 := Nat.mul_le_mul hq hm
  have h3 : n / A * m * A ≤ 4096 * 4096 * 4096 := Nat.mul_le_mul h2 hA4
  have h4 : n % A ≤ n := Nat.mod_le _ _
  have HE : Hid (wrap64 (wrap64 (wrap64 (wrap64 ((n : Int) / (A : Int)) * (m : Int)) * (A : Int)) + (n : Int) % (A : Int)) = ((stN n m A : Nat) : Int)) := by
    show _ = _
    have e0 : (n : Int) / (A : Int) = ((n / A : Nat) : Int) := by simp
    have e1 : (n : Int) % (A : Int) = ((n % A : Nat) : Int) := by simp
    rw [e0, e1, wsm (a := n / A) (by omega), ← Int.natCast_mul, wsm (a := n / A * m) (by omega), ← Int.natCast_mul, wsm (a := n / A * m * A) (by omega), ← Int.natCast_add, wsm (by omega)]
    rfl
  clear hq h2 h3 h4
  go_enter Try.func52, Try.ntmps52
  go_wp2_with fail
  go_quiet (fail)
  go_wp2_with fail
  go_ret
  exact ⟨ret1 HE.out, bel_drewN (Below.refl _ _) _⟩
set_option maxRecDepth 100000 in
set_option maxHeartbeats 4000000 in
/-- The cells of a line. -/
theorem line_any (x n : Nat) (sa : Option Addr) (sc : Nat) (sz : List Int) (da : Option Addr) (dc : Nat) (dz : List Int) (L A : Nat) (hx : x < sz.length) (he : errOf sz = 0) (hL : (L : Int) = nth sz x) (hA : (A : Int) = apt x sz) (hd0 : (dz.length : Int) = prod sz) (hA0 : 0 < A) (hA4 : A ≤ 4096) (ho : errOf (xout x sz) = 0) (hn : (n : Int) < prod (xout x sz)) (w : World) (hs : IsC w.heap.size w sa sz sc) (hd : IsInts w.heap.size w da dz) :
    Calls Try.prog 51 #[.int .i64 (x : Nat), .agg #[.bool false, .slice sa sz.length sc, .slice da dz.length dc], .int .i64 (n : Nat)] w fun e w' => ∃ B, e = .returned (.slice (some ⟨B, 0, none⟩) L L) ∧ w.heap.size ≤ B ∧ w'.rowIs B 3 L (fun j => .int .i64 (nth (rdL sz dz x (cr (xout x sz) n)) j)) ∧ Below w.heap.size w w' := by
  have hz := errOf_zero.1 he
  have hl6 : sz.length ≤ 6 := hz.1
  have hL4 : L ≤ 4096 := by have := (hz.2.1.nth x).2; omega
  have hn4 : n ≤ 4096 := by have := (errOf_zero.1 ho).2.2; omega
  have hcr := cr_in ho (i := n) (by omega)
  obtain ⟨t, ht⟩ : ∃ t, t = cr (xout x sz) n := ⟨_, rfl⟩
  rw [← ht] at hcr ⊢
  have HP : Hid (∀ i, i < L → stN n L A + i * A < dz.length ∧ nth dz (stN n L A + i * A) = nth (rdL sz dz x t) i) := fun i hi => by
    have h1 := place_line (s := sz) (t := t) (i : Int) hx hcr.1
    rw [hcr.2, ← hL, ← hA] at h1
    have e1 : place sz (xin x (i : Int) t) = ((stN n L A + i * A : Nat) : Int) := by rw [h1]; unfold stN; simp
    have hin : insB sz (xin x (i : Int) t) = true := ins_xin hx hcr.1 ⟨by omega, by omega⟩
    have hb := place_bd hin
    rw [e1] at hb
    refine ⟨by omega, ?_⟩
    rw [rdL_nth hx hcr.1 (by omega)]
    unfold cel
    rw [e1, Int.toNat_natCast]
  have HLn : Hid ((rdL sz dz x t).length = L) := by show _ = _; rw [rdL_length]; omega
  generalize rdL sz dz x t = D at *
  have HI : Hid (IsC w.heap.size w sa sz sc ∧ IsInts w.heap.size w da dz) := ⟨hs, hd⟩
  have HF : Hid (errOf sz = 0) := he
  have HA : Hid (stp sz x = (A : Int)) := hA.symm
  have hb0 : Hid (Below w.heap.size w (w.alloc (.cells #[.bool false, .slice sa sz.length sc, .slice da dz.length dc] 24))) := (Below.refl _ w).alloc (Nat.le_refl _) _
  have pa0 : Hid (Abx (w.alloc (.cells #[.bool false, .slice sa sz.length sc, .slice da dz.length dc] 24)) w.heap.size (.bool false) (.slice sa sz.length sc) (.slice da dz.length dc)) := Abx.new w _ _ _
  have hsz0 : (w.alloc (.cells #[.bool false, .slice sa sz.length sc, .slice da dz.length dc] 24)).heap.size = w.heap.size + 1 := by simp
  obtain ⟨bs, os, rfl, hbs, hcS⟩ := (hs.1.below hb0.out).at hx
  have cs1 := hcS x hx
  rw [← hL] at cs1
  have hdl : dz.length ≤ 4096 := by have := hz.2.2; omega
  clear hcS hs hd he hL hA ho hn hcr ht hz hd0
  have p1 := pa0.out.c1
  go_enter Try.func51, Try.ntmps51
  go_wp2_with fail
  generalize (w.alloc (.cells #[.bool false, .slice (some ⟨bs, os, none⟩) sz.length sc, .slice da dz.length dc] 24)) = v1 at *
  refine anyT_begin 10 (fun w' => w'.cell? ⟨w.heap.size, 1, none⟩ = some (.slice (some ⟨bs, os, none⟩) sz.length sc) ∧ w'.cell? ⟨bs, os + x, none⟩ = some (.int .i64 (L : Nat))) 11 #[false, false, false, false, false, false, false, false, false, false, false] (by kernel_rfl) rfl rfl ?_
  refine anyT_put 0 12 ?rv0 #[true, false, false, false, false, false, false, false, false, false, false] rfl rfl rfl (by kernel_rfl) (by kernel_rfl) (by kernel_rfl) (fun _ _ _ h => h) (by decide) ?ry0 (fun _ => ⟨p1, cs1⟩) ?rm0
  case ry0 => first | exact Or.inl ⟨by rfl, by intro w'; go_simp; first | done | rfl⟩
  case rm0 =>
  simp only [Act.put, List.setIfInBounds_toArray, List.set_cons_zero, List.set_cons_succ]
  refine anyT_take 1 13 ?rv1 #[true, true, false, false, false, false, false, false, false, false, false] rfl rfl rfl (by kernel_rfl) (by kernel_rfl) (by kernel_rfl) (fun _ _ _ h => h) (by kernel_rfl) (by decide) (by kernel_rfl) ?ry1 (⟨p1, cs1⟩) ?rm1
  case ry1 => first | exact Or.inl ⟨by rfl, by intro w' hw'; (try dsimp only at hw'); go_simp; first | done | rfl⟩
  case rm1 =>
  simp only [Act.put, List.setIfInBounds_toArray, List.set_cons_zero, List.set_cons_succ]
  refine anyT_put 2 14 ?rv2 #[true, true, true, false, false, false, false, false, false, false, false] rfl rfl rfl (by kernel_rfl) (by kernel_rfl) (by kernel_rfl) (fun _ _ _ h => h) (by decide) ?ry2 (fun _ => ⟨p1, cs1⟩) ?rm2
  case ry2 => first | exact Or.inl ⟨by rfl, by intro w'; go_simp; first | done | rfl⟩
  case rm2 =>
  simp only [Act.put, List.setIfInBounds_toArray, List.set_cons_zero, List.set_cons_succ]
  refine anyT_put 3 15 ?rv3 #[true, true, true, true, false, false, false, false, false, false, false] rfl rfl rfl (by kernel_rfl) (by kernel_rfl) (by kernel_rfl) (fun _ _ _ h => h) (by decide) ?ry3 (fun _ => ⟨p1, cs1⟩) ?rm3
  case ry3 => first | exact Or.inl ⟨by rfl, by intro w'; go_simp; first | done | rfl⟩
  case rm3 =>
  simp only [Act.put, List.setIfInBounds_toArray, List.set_cons_zero, List.set_cons_succ]
  refine anyT_take 4 16 ?rv4 #[true, true, true, true, true, false, false, false, false, false, false] rfl rfl rfl (by kernel_rfl) (by kernel_rfl) (by kernel_rfl) (fun _ _ _ h => h) (by kernel_rfl) (by decide) (by kernel_rfl) ?ry4 (⟨p1, cs1⟩) ?rm4
  case ry4 => first | exact Or.inl ⟨by rfl, by intro w' hw'; (try dsimp only at hw'); go_simp; first | done | rfl⟩
  case rm4 =>
  simp only [Act.put, List.setIfInBounds_toArray, List.set_cons_zero, List.set_cons_succ]
  refine anyT_put 5 17 ?rv5 #[true, true, true, true, true, true, false, false, false, false, false] rfl rfl rfl (by kernel_rfl) (by kernel_rfl) (by kernel_rfl) (fun _ _ _ h => h) (by decide) ?ry5 (fun _ => ⟨p1, cs1⟩) ?rm5
  case ry5 => first | exact Or.inl ⟨by rfl, by intro w'; go_simp; first | done | rfl⟩
  case rm5 =>
  simp only [Act.put, List.setIfInBounds_toArray, List.set_cons_zero, List.set_cons_succ]
  refine anyT_take 6 18 ?rv6 #[true, true, true, true, true, true, true, false, false, false, false] rfl rfl rfl (by kernel_rfl) (by kernel_rfl) (by kernel_rfl) (fun _ _ _ h => h) (by kernel_rfl) (by decide) (by kernel_rfl) ?ry6 (⟨p1, cs1⟩) ?rm6
  case ry6 => first | exact Or.inl ⟨by rfl, by intro w' hw'; (try dsimp only at hw'); go_simp; first | done | rfl⟩
  case rm6 =>
  simp only [Act.put, List.setIfInBounds_toArray, List.set_cons_zero, List.set_cons_succ]
  refine anyT_put 7 19 ?rv7 #[true, true, true, true, true, true, true, true, false, false, false] rfl rfl rfl (by kernel_rfl) (by kernel_rfl) (by kernel_rfl) (fun _ _ _ h => h) (by decide) ?ry7 (fun _ => ⟨p1, cs1⟩) ?rm7
  case ry7 => first | exact Or.inl ⟨by rfl, by intro w'; go_simp; first | done | rfl⟩
  case rm7 =>
  simp only [Act.put, List.setIfInBounds_toArray, List.set_cons_zero, List.set_cons_succ]
  refine anyT_one 8 #[true, true, true, true, true, true, true, true, true, false, false] (by kernel_rfl) rfl rfl (fun K hK => ?_)
  go_simp
  go_wp2_with (go_at_call 50; refine (fstep_any (some ⟨bs, os, none⟩) sc sz x hx HF.out v1.heap.size v1.drew ((HI.out.1.below hb0.out).mono hb0.out.size)).mono ?_; rintro e w2 ⟨rfl, rfl⟩)
  refine hK.out _ _ (fun _ => ⟨p1, cs1⟩) ?_
  clear hK K
  refine anyT_one 9 #[true, true, true, true, true, true, true, true, true, true, false] (by kernel_rfl) rfl rfl (fun K hK => ?_)
  go_simp
  refine hK.out _ _ (fun _ => ⟨p1, cs1⟩) ?_
  clear hK K
  refine anyT_one 10 #[true, true, true, true, true, true, true, true, true, true, true] (by kernel_rfl) rfl rfl (fun K hK => ?_)
  go_simp
  refine hK.out _ _ (fun h => absurd h (by decide)) ?_
  clear hK K
  refine anyT_done (by kernel_rfl) ?_
  rw [HA.out]
  obtain ⟨v, hv⟩ : ∃ v, v = v1.drew := ⟨_, rfl⟩
  rw [← hv]
  have HB2 : Hid (Below w.heap.size w v) := by rw [hv]; exact hb0.out.drew
  have HP2 : Hid (Abx v w.heap.size (.bool false) (.slice (some ⟨bs, os, none⟩) sz.length sc) (.slice da dz.length dc)) := by rw [hv]; exact pa0.out
  clear hv hb0 pa0 p1 cs1 hsz0 v1
  go_wp2_with fail
  refine (start_any n L A hA0 hn4 hL4 hA4 v).mono ?_
  rintro e v2 ⟨rfl, hB⟩
  replace HB2 : Hid (Below w.heap.size w v2) := HB2.out.trans (hB.mono HB2.out.size)
  replace HP2 : Hid (Abx v2 w.heap.size (.bool false) (.slice (some ⟨bs, os, none⟩) sz.length sc) (.slice da dz.length dc)) := HP2.out.go hB
  clear hB v
  have hmk := run_make_row' (P := Try.prog) 22 3 (.int .i64 0) 8 Try.underlying22 Try.infoInt rfl .i64 .i64 L (by omega) (by omega)
  go_wp2_with fail
  clear hmk
  go_loopw [29] (fun i wr => ∃ k : Nat, k ≤ L ∧ i = .int .i64 k ∧ wr.rowIs v2.heap.size 3 L (upTo (nth D) k) ∧ Abx wr w.heap.size (.bool false) (.slice (some ⟨bs, os, none⟩) sz.length sc) (.slice da dz.length dc) ∧ Below w.heap.size w wr) (fun i _ => L - (intOf i).toNat)
  case atStart =>
    exact ⟨0, Nat.zero_le _, rfl, (World.rowIs_made v2 (.int .i64 0) L 3).congr (fun j _ => by simp [upTo]), HP2.out.al _, HB2.out.alloc HB2.out.size _⟩
  case round =>
    obtain ⟨k, hk, rfl, hrow, hA, hB⟩ := hrel
    have hvR : w.heap.size < v2.heap.size := HP2.out.lt
    by_cases hlt : k < L
    · obtain ⟨h1, h2⟩ := HP.out k hlt
      have hkA : k * A ≤ 4096 * 4096 := Nat.mul_le_mul (by omega) hA4
      have hd4 : dz.length ≤ 4096 := hdl
      obtain ⟨m, hm⟩ : ∃ m, m = stN n L A + k * A := ⟨_, rfl⟩
      rw [← hm] at h1 h2
      have hw : IntKind.i64.wrap (((stN n L A : Nat) : Int) + IntKind.i64.wrap ((k : Int) * (A : Int))) = (m : Int) := by
        rw [← Int.natCast_mul, IntWalk.i64_in ((k * A : Nat) : Int) (by omega), ← Int.natCast_add, ← hm]; exact IntWalk.i64_in _ (by omega)
      have HV : Hid (nth dz m = nth D k) := h2
      obtain ⟨bd, od, rfl, hbd, hcD⟩ := (HI.out.2.below hB).at h1
      have cd := hcD m h1
      have HQ : Hid (wr.rowIs v2.heap.size 3 L (upTo (nth D) k) ∧ Abx wr w.heap.size (.bool false) (.slice (some ⟨bs, os, none⟩) sz.length sc) (.slice (some ⟨bd, od, none⟩) dz.length dc) ∧ Below w.heap.size w wr) := ⟨hrow, hA, hB⟩
      have e2 := hA.c2
      have c2 := hrow.cell hlt
      have f2 := hrow.frozen k
      clear hrow hA hB hcD h2
      subst hm
      go_wp2_with fail
      exact ⟨⟨k + 1, by omega, by go_num, upTo_set HQ.out.1 _ HV.out, HQ.out.2.1.ot (a := ⟨v2.heap.size, k, none⟩) (by show w.heap.size ≠ v2.heap.size; omega) _, HQ.out.2.2.setCell (p := ⟨v2.heap.size, k, none⟩) (by show w.heap.size ≤ v2.heap.size; omega) _⟩, by simp [intOf]; omega⟩
    · obtain rfl : k = L := by omega
      have HY : Hid (wr.rowIs v2.heap.size 3 k (fun j => .int .i64 (nth D j))) := hrow.congr fun j hj => by unfold upTo; rw [if_pos hj]
      go_wp2_with fail
      go_ret
      exact ⟨v2.heap.size, rfl, by omega, HY.out, hB⟩
end Go.Proofs.Ytcpmendkocnlhab
