/-
  The place of the cell that is told at a place, as the program reckons it.
-/
import Derived.BigRegionIn
import Derived.Test.YteddkfeiikdekaaBka
import Derived.Test.YteddkfeiikdekaaBase
import Derived.Test.YteddkfeiikdekaaTillin
import Derived.Test.YteddkfeiikdekaaTurnq
import Derived.Test.YteddkfeiikdekaaPck2
namespace Go.Proofs.Yteddkfeiikdekaa
open Go.RowKit Go.Shelf
set_option linter.unusedVariables false
attribute [local go_sem] Oper.semAt_some

theorem bxd7 {W : World} {b : Nat} {t : TypeId} {v : Value} (h : Boxed W b t v) : Boxed W.drew b t v := h
theorem kpt_alloc {n₀ Bs : Nat} (W : World) (o : Obj) (h : n₀ ≤ W.heap.size) (hB : Bs < W.heap.size) : Kpt n₀ Bs W (W.alloc o) := fun k hk => Below.heap_alloc W o k (by omega)
theorem abx_own {β : Type} (X : Nat) (x y z : Value) (B : Nat) : OwnFrom B (fun (_ : β) W => Abx W X x y z) := fun s W W' row hs hg hr =>
  hs.of (hg.block X hs.lt (fun e => by obtain ⟨_, o, ho, hc⟩ := hr X e.symm; rw [show W.heap[X]? = _ from hs] at ho; cases ho; cases hc))
theorem pk_pos {bys : List Ar} (hf : flL bys = 0) (hl : bys.length ≤ 6) (he : errOf (pkS bys) = 0) {p : Nat} (hp : p < (prod (pkS bys)).toNat) : AllPos (gaS (pkR bys)) :=
  allPos_of_prod (pkR_in bys hf) (by rw [pkR_prod bys hf]; omega)
set_option maxRecDepth 100000 in
set_option maxHeartbeats 4000000 in
theorem src7_any (sa : Option Addr) (sc : Nat) (zs : List Int) (ba : Option Addr) (bc : Nat) (bs : List ArV) (p : Nat) (he : errOf zs = 0) (hl : bs.length = zs.length) (hf : flL (bya bs) = 0) (heS : errOf (pkS (bya bs)) = 0) (hix : ixB (bya bs) zs = true) (hp : p < (prod (pkS (bya bs))).toNat) (w : World) (hI : IsInts w.heap.size w sa zs) (hR : IsAs w.heap.size w ba bs) (V : Int) (hV : V = pkP zs (bya bs) p) :
    Calls Try.prog 62 #[.slice sa zs.length sc, .slice ba bs.length bc, .int .i64 (p : Nat)] w fun e w' => e = .returned (.int .i64 V) ∧ Below w.heap.size w w' := by
  have hz := errOf_zero.1 he
  have hzS := errOf_zero.1 heS
  have hlz : zs.length ≤ 6 := hz.1
  have hbl : (bya bs).length ≤ 6 := by rw [bya_length]; omega
  have HP : Hid (AllPos (gaS (pkR (bya bs)))) := pk_pos hf hbl heS hp
  have HAS : Hid (AllIn (gaS (pkR (bya bs)))) := pkR_in _ hf
  have hp3 : (p : Int) < 4096 := by omega
  have HL : Hid (bs.length = zs.length) := hl
  have HN : Hid (bs.length = (pkR (bya bs)).length) := by show _ = _; rw [pkR_length, bya_length]
  have hin := pkT_in (by rw [bya_length]; exact hl) hf hix (cr_in heS hp).1
  have HV : Hid (wrap64 (place zs (gaT (pkR (bya bs)) (cr (gaS (pkR (bya bs))) p))) = V) := by
    show _ = _
    rw [← pk_ga hf hbl heS hp, hV]
    have hb := place_bd hin
    exact w_small (by omega) (by omega)
  have hrl : bs.length ≤ 6 := by omega
  have hreach : bs.length ≤ 9223372036854775807 := by omega
  clear hz hzS hl he heS hp hV hin hf hix hbl
  refine (callsIn_wide (n := 5)).1 ?_
  refine callsIn_of_wp_marks Try.func62 rfl trivial ?_ rfl
  simp only [Try.ntmps62, List.size_toArray, List.length_cons, List.length_nil, Nat.reduceAdd, Nat.reduceSub, Array.replicate_succ, Array.replicate_zero, List.push_toArray, List.append_toArray, List.nil_append, List.cons_append]
  gi_wp2_with fail
  refine ⟨trivial, (ba_in Fence.wide 4 trivial rfl _ _ _ _).mono ?_⟩
  rintro e w' ⟨rfl, rfl⟩
  gi_wp2_with fail
  have b0 := Boxed.new w 22 (.slice sa zs.length sc)
  have b1 := Boxed.new (w.alloc (.cells #[.slice sa zs.length sc] 22)) 3 (.int .i64 (p : Int))
  have b2 := Boxed.new ((w.alloc (.cells #[.slice sa zs.length sc] 22)).alloc (.cells #[.int .i64 (p : Int)] 3)) 3 (.int .i64 0)
  have b3 := Boxed.new (((w.alloc (.cells #[.slice sa zs.length sc] 22)).alloc (.cells #[.int .i64 (p : Int)] 3)).alloc (.cells #[.int .i64 0] 3)) 3 (.int .i64 1)
  have b4 := Boxed.new ((((w.alloc (.cells #[.slice sa zs.length sc] 22)).alloc (.cells #[.int .i64 (p : Int)] 3)).alloc (.cells #[.int .i64 0] 3)).alloc (.cells #[.int .i64 1] 3)) 44 (.slice ba bs.length bc)
  simp only [World.size_alloc] at b1 b2 b3 b4
  replace b0 := ((((b0.alloc (.cells #[.int .i64 (p : Int)] 3)).alloc (.cells #[.int .i64 0] 3)).alloc (.cells #[.int .i64 1] 3)).alloc (.cells #[.slice ba bs.length bc] 44))
  replace b1 := (((b1.alloc (.cells #[.int .i64 0] 3)).alloc (.cells #[.int .i64 1] 3)).alloc (.cells #[.slice ba bs.length bc] 44))
  replace b2 := ((b2.alloc (.cells #[.int .i64 1] 3)).alloc (.cells #[.slice ba bs.length bc] 44))
  replace b3 := (b3.alloc (.cells #[.slice ba bs.length bc] 44))
  have hB0 : Below w.heap.size w (((((w.alloc (.cells #[.slice sa zs.length sc] 22)).alloc (.cells #[.int .i64 (p : Int)] 3)).alloc (.cells #[.int .i64 0] 3)).alloc (.cells #[.int .i64 1] 3)).alloc (.cells #[.slice ba bs.length bc] 44)) := ((((((Below.refl _ w).alloc (by simp <;> omega) _).alloc (by simp <;> omega) _).alloc (by simp <;> omega) _).alloc (by simp <;> omega) _).alloc (by simp <;> omega) _)
  refine wpIn_rangeFunc_ownH rfl (by omega) (gf := 71) (lb := #[.pointer (some ⟨w.heap.size + 1 + 1 + 1 + 1, 0, none⟩)]) rfl trivial (enters_of Try.func71 (by kernel_rfl) rfl)
    (ba_stops Fence.wide (5 - 1) trivial rfl (by omega) (w.heap.size + 1 + 1 + 1 + 1) w.heap.size ba bc bs hreach _ (by simp) (by simp; omega) b4.cell (hR.below hB0)) (fun h k => h.trans k) (kpt_b (by simp; omega) (by simp)) (Below.refl _ _) (fun _ => rfl)
    (fun pre W => ((((Boxed W (w.heap.size + 1 + 1) 3 (.int .i64 (gV (pkR (bya bs)) zs p pre)) ∧ Boxed W (w.heap.size + 1 + 1 + 1) 3 (.int .i64 (gA (pkR (bya bs)) zs p pre))) ∧ Boxed W (w.heap.size + 1) 3 (.int .i64 (gQ (pkR (bya bs)) zs p pre))) ∧ Boxed W w.heap.size 22 (.slice sa zs.length sc)) ∧ Boxed W (w.heap.size + 1 + 1 + 1 + 1) 44 (.slice ba bs.length bc)) ∧ Below w.heap.size w W)
    (fun _ _ _ => False)
    (OwnFrom.and (OwnFrom.and (OwnFrom.and (OwnFrom.and (OwnFrom.and (Own.from (boxed_own _ _ _) _) (Own.from (boxed_own _ _ _) _)) (Own.from (boxed_own _ _ _) _)) (Own.from (boxed_own _ _ _) _)) (Own.from (boxed_own _ _ _) _)) (ownFrom_below (Nat.le_refl _) (by simp; omega)))
    (fun _ _ _ _ _ hs _ _ => hs)
    ⟨⟨⟨⟨⟨b2, b3⟩, b1⟩, b0⟩, b4⟩, hB0⟩
    (fun x a' W => ∃ X, (a' = { tmps := #[.slice sa zs.length sc, .slice ba bs.length bc, .int .i64 (p : Int), .pointer (some ⟨w.heap.size, 0, none⟩), undef, .pointer (some ⟨w.heap.size + 1, 0, none⟩), .int .i64 0, .pointer (some ⟨w.heap.size + 1 + 1, 0, none⟩), .pointer (some ⟨w.heap.size + 1 + 1 + 1, 0, none⟩), .int .i64 (x.1 : Int), .pointer (some ⟨X, 0, none⟩), undef, .slice ba bs.length bc, .func (.func 71) #[] #[.pointer (some ⟨w.heap.size + 1 + 1 + 1 + 1, 0, none⟩)], .int .i64 (x.1 : Int), av (arz bs x.1), undef, undef, undef, undef, undef, undef, undef, undef, undef, undef, undef, undef, undef, undef, undef, undef, undef, undef, undef, undef, undef, undef, undef, undef], defers := [] } ∧ w.heap.size + 1 + 1 + 1 + 1 + 1 ≤ X) ∧ Abx W X (.bool (arz bs x.1).1) (.slice (arz bs x.1).2.1.1.1 (arz bs x.1).2.1.2.length (arz bs x.1).2.1.1.2) (.slice (arz bs x.1).2.2.1.1 (arz bs x.1).2.2.2.length (arz bs x.1).2.2.1.2))
    (fun x a' s W W' row hs hg hr => by obtain ⟨X, h1, h2⟩ := hs; exact ⟨X, h1, abx_own (β := Unit) X _ _ _ _ s W W' row h2 hg hr⟩) ?assign ?body ?done ?stop
  case assign =>
    rintro l pre ⟨k, hk⟩ W K ⟨⟨⟨⟨⟨hv, ha⟩, hq⟩, hsb⟩, h4⟩, hB⟩ hK
    have h4l := h4.lt
    have HK : Hid (∀ a' W', KeepsFrom (((((w.alloc (.cells #[.slice sa zs.length sc] 22)).alloc (.cells #[.int .i64 (p : Int)] 3)).alloc (.cells #[.int .i64 0] 3)).alloc (.cells #[.int .i64 1] 3)).alloc (.cells #[.slice ba bs.length bc] 44)).heap.size W W' → Kpt w.heap.size (w.heap.size + 1 + 1 + 1 + 1) W W' → (((((Boxed W' (w.heap.size + 1 + 1) 3 (.int .i64 (gV (pkR (bya bs)) zs p pre)) ∧ Boxed W' (w.heap.size + 1 + 1 + 1) 3 (.int .i64 (gA (pkR (bya bs)) zs p pre))) ∧ Boxed W' (w.heap.size + 1) 3 (.int .i64 (gQ (pkR (bya bs)) zs p pre))) ∧ Boxed W' w.heap.size 22 (.slice sa zs.length sc)) ∧ Boxed W' (w.heap.size + 1 + 1 + 1 + 1) 44 (.slice ba bs.length bc)) ∧ Below w.heap.size w W') → (∃ X, (a' = { tmps := #[.slice sa zs.length sc, .slice ba bs.length bc, .int .i64 (p : Int), .pointer (some ⟨w.heap.size, 0, none⟩), undef, .pointer (some ⟨w.heap.size + 1, 0, none⟩), .int .i64 0, .pointer (some ⟨w.heap.size + 1 + 1, 0, none⟩), .pointer (some ⟨w.heap.size + 1 + 1 + 1, 0, none⟩), .int .i64 (k : Int), .pointer (some ⟨X, 0, none⟩), undef, .slice ba bs.length bc, .func (.func 71) #[] #[.pointer (some ⟨w.heap.size + 1 + 1 + 1 + 1, 0, none⟩)], .int .i64 (k : Int), av (arz bs k), undef, undef, undef, undef, undef, undef, undef, undef, undef, undef, undef, undef, undef, undef, undef, undef, undef, undef, undef, undef, undef, undef, undef, undef], defers := [] } ∧ w.heap.size + 1 + 1 + 1 + 1 + 1 ≤ X) ∧ Abx W' X (.bool (arz bs k).1) (.slice (arz bs k).2.1.1.1 (arz bs k).2.1.2.length (arz bs k).2.1.1.2) (.slice (arz bs k).2.2.1.1 (arz bs k).2.2.2.length (arz bs k).2.2.1.2)) → K a' W') := hK
    have HQ : Hid (((((Boxed W (w.heap.size + 1 + 1) 3 (.int .i64 (gV (pkR (bya bs)) zs p pre)) ∧ Boxed W (w.heap.size + 1 + 1 + 1) 3 (.int .i64 (gA (pkR (bya bs)) zs p pre))) ∧ Boxed W (w.heap.size + 1) 3 (.int .i64 (gQ (pkR (bya bs)) zs p pre))) ∧ Boxed W w.heap.size 22 (.slice sa zs.length sc)) ∧ Boxed W (w.heap.size + 1 + 1 + 1 + 1) 44 (.slice ba bs.length bc)) ∧ Below w.heap.size w W) := ⟨⟨⟨⟨⟨hv, ha⟩, hq⟩, hsb⟩, h4⟩, hB⟩
    clear hK hv ha hq hsb h4 hB b0 b1 b2 b3 b4 hB0
    unfold av at HK ⊢
    generalize arz bs k = B at *
    obtain ⟨cb, ⟨⟨sb, scb⟩, szb⟩, ⟨⟨db, dcb⟩, dzb⟩⟩ := B
    dsimp only at HK ⊢
    have nb := Abx.new W (.bool cb) (.slice sb szb.length scb) (.slice db dzb.length dcb)
    gi_wp2
    have hs := HQ.out.2.size
    refine HK.out _ _ ((KeepsOthers.alloc W _).from _) (kpt_alloc W _ hs h4l) ⟨⟨⟨⟨⟨HQ.out.1.1.1.1.1.alloc _, HQ.out.1.1.1.1.2.alloc _⟩, HQ.out.1.1.1.2.alloc _⟩, HQ.out.1.1.2.alloc _⟩, HQ.out.1.2.alloc _⟩, HQ.out.2.alloc hs _⟩ ⟨W.heap.size, ⟨rfl, by omega⟩, nb⟩
  case body =>
    rintro l pre ⟨k, hk⟩ a' W _ _ ⟨⟨⟨⟨⟨hv, ha⟩, hq⟩, hsb⟩, h4⟩, hB⟩ ⟨X, ⟨rfl, hX⟩, hbx⟩ _
    dsimp only at hbx ⊢
    have hkz : k < zs.length := by rw [← HL.out]; exact hk
    have hqb := gQ_bd (zs := zs) HP.out HN.out (p := (p : Int)) (by omega) pre
    have hrow := (hR.below hB).2 k hk
    have hgs : nth (gaS (pkR (bya bs))) k = (arz bs k).2.2.2.length := by rw [gaS_nth (by rw [← HN.out]; exact hk), rl_pkR]
    have hRp : 0 < (arz bs k).2.2.2.length := by have := HP.out _ (nth_mem (gaS (pkR (bya bs))) k (by rw [gaS_length, ← HN.out]; exact hk)); omega
    have hR4 : (arz bs k).2.2.2.length ≤ 4096 := by have := (HAS.out.nth k).2; omega
    have HQ : Hid (gQ (pkR (bya bs)) zs p (pre ++ [⟨k, hk⟩]) = (gQ (pkR (bya bs)) zs p pre).tdiv ((arz bs k).2.2.2.length : Int)) := by show _ = _; rw [gQ_snoc, hgs]
    obtain ⟨m, hm⟩ : ∃ m : Nat, (gQ (pkR (bya bs)) zs p pre).tmod ((arz bs k).2.2.2.length : Int) = (m : Int) := ⟨((gQ (pkR (bya bs)) zs p pre).tmod ((arz bs k).2.2.2.length : Int)).toNat, by have := Int.tmod_nonneg ((arz bs k).2.2.2.length : Int) hqb.1; omega⟩
    have hml : m < (arz bs k).2.2.2.length := by have := Int.tmod_lt_of_pos (gQ (pkR (bya bs)) zs p pre) (show (0 : Int) < ((arz bs k).2.2.2.length : Int) by omega); omega
    have HG : Hid (gI (pkR (bya bs)) (gQ (pkR (bya bs)) zs p pre) k = nth (arz bs k).2.2.2 m) := by show _ = _; unfold gI; rw [hgs, hm, Int.toNat_natCast, rl_pkR]
    have HVV : Hid (gV (pkR (bya bs)) zs p (pre ++ [⟨k, hk⟩]) = wrap64 (gV (pkR (bya bs)) zs p pre + wrap64 (nth (arz bs k).2.2.2 m * gA (pkR (bya bs)) zs p pre))) := by show _ = _; rw [gV_snoc, HG.out]
    have HAA : Hid (gA (pkR (bya bs)) zs p (pre ++ [⟨k, hk⟩]) = wrap64 (gA (pkR (bya bs)) zs p pre * nth zs k)) := gA_snoc _ _ _ _ _ _
    obtain ⟨bi, oi, hri, hbi, hci⟩ := hrow.2.2.2.1.1.at hml
    have cm := hci m hml
    obtain ⟨b, off, rfl, hbb, hcell⟩ := (hI.below hB).at hkz
    have hck := hcell k hkz
    rw [hri] at hbx
    clear hcell hci
    have em : gQ (pkR (bya bs)) zs p pre % ((arz bs k).2.2.2.length : Int) = (m : Int) := by rw [← hm, Int.tmod_eq_emod_of_nonneg hqb.1]
    have ed : gQ (pkR (bya bs)) zs p pre / ((arz bs k).2.2.2.length : Int) = (gQ (pkR (bya bs)) zs p pre).tdiv ((arz bs k).2.2.2.length : Int) := (Int.tdiv_eq_ediv_of_nonneg hqb.1).symm
    have HED : Hid (gQ (pkR (bya bs)) zs p (pre ++ [⟨k, hk⟩]) = gQ (pkR (bya bs)) zs p pre / ((arz bs k).2.2.2.length : Int)) := by show _ = _; rw [HQ.out, ed]
    clear ed hm hgs hrow HG HQ
    have c0 := hsb.cell
    have c1 := hq.cell
    have f1 := hq.frozen
    have c2 := hv.cell
    have f2 := hv.frozen
    have c3 := ha.cell
    have f3 := ha.frozen
    have cx := hbx.c2
    generalize gV (pkR (bya bs)) zs p pre = V0 at *
    generalize gA (pkR (bya bs)) zs p pre = A0 at *
    generalize gQ (pkR (bya bs)) zs p pre = Q0 at *
    generalize nth (arz bs k).2.2.2 m = I0 at *
    generalize nth zs k = Z0 at *
    generalize (arz bs k).2.2.2.length = L0 at *
    generalize (arz bs k).2.2.1.2 = C0 at *
    generalize av (arz bs k) = AV0 at *
    obtain ⟨hq1, hq2⟩ := hqb
    refine wpIn_mono (Q := fun e _ W' => e = .normal ∧ W' = (((W.setCell ⟨w.heap.size + 1 + 1, 0, none⟩ (.int .i64 (wrap64 (V0 + wrap64 (I0 * A0))))).drew.setCell ⟨w.heap.size + 1 + 1 + 1, 0, none⟩ (.int .i64 (wrap64 (A0 * Z0)))).drew).setCell ⟨w.heap.size + 1, 0, none⟩ (.int .i64 (Q0 / (L0 : Int)))) ?_ ?_
    · clear b0 b1 b2 b3 b4 hB0 hI hR hv ha hq hsb hbx hB HAS HP HL HN HV HVV HAA HED h4 hri
      have hL0 : ¬ (L0 : Int) = 0 := by omega
      have hL1 : ¬ L0 = 0 := by omega
      have em2 : Q0.tmod (L0 : Int) = (m : Int) := by rw [Int.tmod_eq_emod_of_nonneg hq1]; exact em
      gi_wp2
      refine anyT_beginIn 11 (fun w' => w'.cell? ⟨w.heap.size + 1 + 1, 0, none⟩ = some (.int .i64 V0) ∧ w'.cell? ⟨X, 2, none⟩ = some (.slice (some ⟨bi, oi, none⟩) L0 C0) ∧ w'.cell? ⟨w.heap.size + 1, 0, none⟩ = some (.int .i64 Q0) ∧ w'.cell? ⟨bi, oi + m, none⟩ = some (.int .i64 I0) ∧ w'.cell? ⟨w.heap.size + 1 + 1 + 1, 0, none⟩ = some (.int .i64 A0)) 12 #[false, false, false, false, false, false, false, false, false, false, false, false] (by kernel_rfl) rfl rfl (by kernel_rfl) ?_
      refine anyT_take 0 19 ?rv23 #[true, false, false, false, false, false, false, false, false, false, false, false] rfl rfl rfl (by kernel_rfl) (by kernel_rfl) (by kernel_rfl) (fun _ _ _ h => h) (by kernel_rfl) (by decide) (by kernel_rfl) ?ry23 (⟨c2, cx, c1, cm, c3⟩) ?rm23
      case ry23 => first | exact Or.inl ⟨by rfl, by intro w' hw'; (try dsimp only at hw'); go_simp; first | done | rfl⟩
      case rm23 =>
      simp only [Act.put, List.setIfInBounds_toArray, List.set_cons_zero, List.set_cons_succ]
      refine anyT_put 1 20 ?rv24 #[true, true, false, false, false, false, false, false, false, false, false, false] rfl rfl rfl (by kernel_rfl) (by kernel_rfl) (by kernel_rfl) (fun _ _ _ h => h) (by decide) ?ry24 (fun _ => ⟨c2, cx, c1, cm, c3⟩) ?rm24
      case ry24 => first | exact Or.inl ⟨by rfl, by intro w'; go_simp; first | done | rfl⟩
      case rm24 =>
      simp only [Act.put, List.setIfInBounds_toArray, List.set_cons_zero, List.set_cons_succ]
      refine anyT_take 2 21 ?rv25 #[true, true, true, false, false, false, false, false, false, false, false, false] rfl rfl rfl (by kernel_rfl) (by kernel_rfl) (by kernel_rfl) (fun _ _ _ h => h) (by kernel_rfl) (by decide) (by kernel_rfl) ?ry25 (⟨c2, cx, c1, cm, c3⟩) ?rm25
      case ry25 => first | exact Or.inl ⟨by rfl, by intro w' hw'; (try dsimp only at hw'); go_simp; first | done | rfl⟩
      case rm25 =>
      simp only [Act.put, List.setIfInBounds_toArray, List.set_cons_zero, List.set_cons_succ]
      refine anyT_take 3 22 ?rv26 #[true, true, true, true, false, false, false, false, false, false, false, false] rfl rfl rfl (by kernel_rfl) (by kernel_rfl) (by kernel_rfl) (fun _ _ _ h => h) (by kernel_rfl) (by decide) (by kernel_rfl) ?ry26 (⟨c2, cx, c1, cm, c3⟩) ?rm26
      case ry26 => first | exact Or.inl ⟨by rfl, by intro w' hw'; (try dsimp only at hw'); go_simp; first | done | rfl⟩
      case rm26 =>
      simp only [Act.put, List.setIfInBounds_toArray, List.set_cons_zero, List.set_cons_succ]
      refine anyT_put 4 23 ?rv27 #[true, true, true, true, true, false, false, false, false, false, false, false] rfl rfl rfl (by kernel_rfl) (by kernel_rfl) (by kernel_rfl) (fun _ _ _ h => h) (by decide) ?ry27 (fun _ => ⟨c2, cx, c1, cm, c3⟩) ?rm27
      case ry27 => first | exact Or.inl ⟨by rfl, by intro w'; go_simp; first | done | rfl⟩
      case rm27 =>
      simp only [Act.put, List.setIfInBounds_toArray, List.set_cons_zero, List.set_cons_succ]
      refine anyT_put 5 24 ?rv28 #[true, true, true, true, true, true, false, false, false, false, false, false] rfl rfl rfl (by kernel_rfl) (by kernel_rfl) (by kernel_rfl) (fun _ _ _ h => h) (by decide) ?ry28 (fun _ => ⟨c2, cx, c1, cm, c3⟩) ?rm28
      case ry28 => first | exact Or.inl ⟨by rfl, by intro w'; go_simp; first | done | rfl⟩
      case rm28 =>
      simp only [Act.put, List.setIfInBounds_toArray, List.set_cons_zero, List.set_cons_succ]
      refine anyT_put 6 25 ?rv29 #[true, true, true, true, true, true, true, false, false, false, false, false] rfl rfl rfl (by kernel_rfl) (by kernel_rfl) (by kernel_rfl) (fun _ _ _ h => h) (by decide) ?ry29 (fun _ => ⟨c2, cx, c1, cm, c3⟩) ?rm29
      case ry29 => first | exact Or.inl ⟨by rfl, by intro w'; go_simp; first | done | rfl⟩
      case rm29 =>
      simp only [Act.put, List.setIfInBounds_toArray, List.set_cons_zero, List.set_cons_succ]
      refine anyT_take 7 26 ?rv30 #[true, true, true, true, true, true, true, true, false, false, false, false] rfl rfl rfl (by kernel_rfl) (by kernel_rfl) (by kernel_rfl) (fun _ _ _ h => h) (by kernel_rfl) (by decide) (by kernel_rfl) ?ry30 (⟨c2, cx, c1, cm, c3⟩) ?rm30
      case ry30 => first | exact Or.inl ⟨by rfl, by intro w' hw'; (try dsimp only at hw'); go_simp; first | done | rfl⟩
      case rm30 =>
      simp only [Act.put, List.setIfInBounds_toArray, List.set_cons_zero, List.set_cons_succ]
      refine anyT_take 8 27 ?rv31 #[true, true, true, true, true, true, true, true, true, false, false, false] rfl rfl rfl (by kernel_rfl) (by kernel_rfl) (by kernel_rfl) (fun _ _ _ h => h) (by kernel_rfl) (by decide) (by kernel_rfl) ?ry31 (⟨c2, cx, c1, cm, c3⟩) ?rm31
      case ry31 => first | exact Or.inl ⟨by rfl, by intro w' hw'; (try dsimp only at hw'); go_simp; first | done | rfl⟩
      case rm31 =>
      simp only [Act.put, List.setIfInBounds_toArray, List.set_cons_zero, List.set_cons_succ]
      refine anyT_put 9 28 ?rv32 #[true, true, true, true, true, true, true, true, true, true, false, false] rfl rfl rfl (by kernel_rfl) (by kernel_rfl) (by kernel_rfl) (fun _ _ _ h => h) (by decide) ?ry32 (fun _ => ⟨c2, cx, c1, cm, c3⟩) ?rm32
      case ry32 => first | exact Or.inl ⟨by rfl, by intro w'; go_simp; first | done | rfl⟩
      case rm32 =>
      simp only [Act.put, List.setIfInBounds_toArray, List.set_cons_zero, List.set_cons_succ]
      refine anyT_put 10 29 ?rv33 #[true, true, true, true, true, true, true, true, true, true, true, false] rfl rfl rfl (by kernel_rfl) (by kernel_rfl) (by kernel_rfl) (fun _ _ _ h => h) (by decide) ?ry33 (fun _ => ⟨c2, cx, c1, cm, c3⟩) ?rm33
      case ry33 => first | exact Or.inl ⟨by rfl, by intro w'; go_simp; first | done | rfl⟩
      case rm33 =>
      simp only [Act.put, List.setIfInBounds_toArray, List.set_cons_zero, List.set_cons_succ]
      refine anyT_one 11 #[true, true, true, true, true, true, true, true, true, true, true, true] (by kernel_rfl) rfl rfl (fun K hK => ?_)
      go_simp
      refine hK.out _ _ (fun h => absurd h (by decide)) ?_
      clear hK K
      refine anyT_done (by kernel_rfl) ?_
      simp only [onN]
      gi_wp2
      obtain ⟨W2, hW2⟩ : ∃ W2, W2 = (W.setCell ⟨w.heap.size + 1 + 1, 0, none⟩ (.int .i64 (IntKind.i64.wrap (V0 + IntKind.i64.wrap (I0 * A0))))).drew := ⟨_, rfl⟩
      rw [← hW2]
      have k3 : W2.cell? ⟨w.heap.size + 1 + 1 + 1, 0, none⟩ = some (.int .i64 A0) := by rw [hW2]; exact (World.cell?_setCell_other W _ _ _ (by intro e; simp only [Addr.mk.injEq] at e; omega)).trans c3
      have k1 : W2.cell? ⟨w.heap.size + 1, 0, none⟩ = some (.int .i64 Q0) := by rw [hW2]; exact (World.cell?_setCell_other W _ _ _ (by intro e; simp only [Addr.mk.injEq] at e; omega)).trans c1
      have k0 : W2.cell? ⟨w.heap.size, 0, none⟩ = some (.slice (some ⟨b, off, none⟩) zs.length sc) := by rw [hW2]; exact (World.cell?_setCell_other W _ _ _ (by intro e; simp only [Addr.mk.injEq] at e; omega)).trans c0
      have kc : W2.cell? ⟨b, off + k, none⟩ = some (.int .i64 Z0) := by rw [hW2]; exact (World.cell?_setCell_other W _ _ _ (by intro e; simp only [Addr.mk.injEq] at e; omega)).trans hck
      have g3 : W2.frozen? ⟨w.heap.size + 1 + 1 + 1, 0, none⟩ = false := by rw [hW2]; show World.frozen? (W.setCell _ _) _ = _; rw [World.frozen?_setCell]; exact f3
      have g1 : W2.frozen? ⟨w.heap.size + 1, 0, none⟩ = false := by rw [hW2]; show World.frozen? (W.setCell _ _) _ = _; rw [World.frozen?_setCell]; exact f1
      have HW2 : Hid (W2 = (W.setCell ⟨w.heap.size + 1 + 1, 0, none⟩ (.int .i64 (IntKind.i64.wrap (V0 + IntKind.i64.wrap (I0 * A0))))).drew) := hW2
      clear hW2 c0 c1 c2 c3 f1 f2 f3 hck cm cx
      refine anyT_beginIn 6 (fun w' => w'.cell? ⟨w.heap.size + 1 + 1 + 1, 0, none⟩ = some (.int .i64 A0) ∧ w'.cell? ⟨w.heap.size, 0, none⟩ = some (.slice (some ⟨b, off, none⟩) zs.length sc) ∧ w'.cell? ⟨b, off + k, none⟩ = some (.int .i64 Z0)) 7 #[false, false, false, false, false, false, false] (by kernel_rfl) rfl rfl (by kernel_rfl) ?_
      refine anyT_take 0 30 ?rv35 #[true, false, false, false, false, false, false] rfl rfl rfl (by kernel_rfl) (by kernel_rfl) (by kernel_rfl) (fun _ _ _ h => h) (by kernel_rfl) (by decide) (by kernel_rfl) ?ry35 (⟨k3, k0, kc⟩) ?rm35
      case ry35 => first | exact Or.inl ⟨by rfl, by intro w' hw'; (try dsimp only at hw'); go_simp; first | done | rfl⟩
      case rm35 =>
      simp only [Act.put, List.setIfInBounds_toArray, List.set_cons_zero, List.set_cons_succ]
      refine anyT_take 1 31 ?rv36 #[true, true, false, false, false, false, false] rfl rfl rfl (by kernel_rfl) (by kernel_rfl) (by kernel_rfl) (fun _ _ _ h => h) (by kernel_rfl) (by decide) (by kernel_rfl) ?ry36 (⟨k3, k0, kc⟩) ?rm36
      case ry36 => first | exact Or.inl ⟨by rfl, by intro w' hw'; (try dsimp only at hw'); go_simp; first | done | rfl⟩
      case rm36 =>
      simp only [Act.put, List.setIfInBounds_toArray, List.set_cons_zero, List.set_cons_succ]
      refine anyT_put 2 32 ?rv37 #[true, true, true, false, false, false, false] rfl rfl rfl (by kernel_rfl) (by kernel_rfl) (by kernel_rfl) (fun _ _ _ h => h) (by decide) ?ry37 (fun _ => ⟨k3, k0, kc⟩) ?rm37
      case ry37 => first | exact Or.inl ⟨by rfl, by intro w'; go_simp; first | done | rfl⟩
      case rm37 =>
      simp only [Act.put, List.setIfInBounds_toArray, List.set_cons_zero, List.set_cons_succ]
      refine anyT_put 3 33 ?rv38 #[true, true, true, true, false, false, false] rfl rfl rfl (by kernel_rfl) (by kernel_rfl) (by kernel_rfl) (fun _ _ _ h => h) (by decide) ?ry38 (fun _ => ⟨k3, k0, kc⟩) ?rm38
      case ry38 => first | exact Or.inl ⟨by rfl, by intro w'; go_simp; first | done | rfl⟩
      case rm38 =>
      simp only [Act.put, List.setIfInBounds_toArray, List.set_cons_zero, List.set_cons_succ]
      refine anyT_take 4 34 ?rv39 #[true, true, true, true, true, false, false] rfl rfl rfl (by kernel_rfl) (by kernel_rfl) (by kernel_rfl) (fun _ _ _ h => h) (by kernel_rfl) (by decide) (by kernel_rfl) ?ry39 (⟨k3, k0, kc⟩) ?rm39
      case ry39 => first | exact Or.inl ⟨by rfl, by intro w' hw'; (try dsimp only at hw'); go_simp; first | done | rfl⟩
      case rm39 =>
      simp only [Act.put, List.setIfInBounds_toArray, List.set_cons_zero, List.set_cons_succ]
      refine anyT_put 5 35 ?rv40 #[true, true, true, true, true, true, false] rfl rfl rfl (by kernel_rfl) (by kernel_rfl) (by kernel_rfl) (fun _ _ _ h => h) (by decide) ?ry40 (fun _ => ⟨k3, k0, kc⟩) ?rm40
      case ry40 => first | exact Or.inl ⟨by rfl, by intro w'; go_simp; first | done | rfl⟩
      case rm40 =>
      simp only [Act.put, List.setIfInBounds_toArray, List.set_cons_zero, List.set_cons_succ]
      refine anyT_one 6 #[true, true, true, true, true, true, true] (by kernel_rfl) rfl rfl (fun K hK => ?_)
      go_simp
      refine hK.out _ _ (fun h => absurd h (by decide)) ?_
      clear hK K
      refine anyT_done (by kernel_rfl) ?_
      simp only [onN]
      gi_wp2
      rw [HW2.out]
      rw [IntWalk.i64_left, IntWalk.i64_left]
      rfl
    · rintro e a9 W' ⟨rfl, rfl⟩
      refine ⟨((((((KeepsOthers.setCell _ _ _).trans (KeepsOthers.drew _)).trans (KeepsOthers.setCell _ _ _)).trans (KeepsOthers.drew _)).trans (KeepsOthers.setCell _ _ _))).from _, ((((Kpt.setCell W 0 _ (by omega) (by omega)).drew).set 0 _ (by omega) (by omega)).drew).set 0 _ (by omega) (by omega), ⟨⟨⟨⟨?_, ?_⟩, ?_⟩, ?_⟩, ?_⟩, ((((hB.setCell (p := ⟨w.heap.size + 1 + 1, 0, none⟩) (by simp; omega) _).drew).setCell (p := ⟨w.heap.size + 1 + 1 + 1, 0, none⟩) (by simp; omega) _).drew).setCell (p := ⟨w.heap.size + 1, 0, none⟩) (by simp) _⟩
      · rw [HVV.out]; exact Boxed.other (bxd7 (Boxed.other (bxd7 (Boxed.set _ hv)) (by omega) _)) (by omega) _
      · rw [HAA.out]; exact Boxed.other (bxd7 (Boxed.set _ (bxd7 (Boxed.other ha (by omega) _)))) (by omega) _
      · rw [HED.out]; exact Boxed.set _ (bxd7 (Boxed.other (bxd7 (Boxed.other hq (by omega) _)) (by omega) _))
      · exact Boxed.other (bxd7 (Boxed.other (bxd7 (Boxed.other hsb (by omega) _)) (by omega) _)) (by omega) _
      · exact Boxed.other (bxd7 (Boxed.other (bxd7 (Boxed.other h4 (by omega) _)) (by omega) _)) (by omega) _
  case done =>
    rintro D ys W hD rfl ⟨⟨⟨⟨⟨hv, ha⟩, hq⟩, hsb⟩, h4⟩, hB⟩ hK
    rw [(g_all (zs := zs) HN.out HL.out p).2, HV.out] at hv
    have c2 := hv.cell
    gi_wp2
    refine ⟨by simp, .inl ⟨_, _, rfl, run_takeDeferred hK, ?_⟩⟩
    exact ⟨_, results_tmp rfl _ _ _, rfl, hB.trans (belowK_b (w := w) (Nat.le_refl _) W D _ _ (by simp at hD; omega) hK rfl rfl)⟩
  case stop =>
    rintro D c pre W _ _ h _
    exact h.elim
end Go.Proofs.Yteddkfeiikdekaa
