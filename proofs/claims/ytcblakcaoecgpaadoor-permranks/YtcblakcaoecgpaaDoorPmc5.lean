/-
  The program's orders of a rank.
-/
import Derived.Lib.LazyBuf
import Derived.Test.YtcblakcaoecgpaaDoorPmc4
import Derived.Test.YtcblakcaoecgpaaDoorPmc2
import Derived.Test.YtcblakcaoecgpaaDoorShelf9
namespace Go.Proofs.YtcblakcaoecgpaaDoor
open Go.RowKit
set_option linter.unusedVariables false

/-- An array and a number that are told. -/
theorem results_row_tmp {P : Program} {fn : Func} {p q : Tmp} {ty : TypeId} (h : fn.results = #[.cell p ty, .tmp q]) (tmps : Array Value) (w : World) (g : Nat) (t : TypeId) (cs : Array Value) (fr : Nat × Nat) (d : TypeDesc)
    (hp : tmps.getD p undef = .pointer (some ⟨g, 0, none⟩)) (hg : w.heap[g]? = some (.cells cs t fr))
    (hu : P.underlying ty = some d) (hd : (match d with | .struct _ | .array _ _ => true | _ => false) = true) (hi : (P.info? ty).map (·.size) = some cs.size) (v : Value) (hv : tmps.getD q undef = v) :
    (results fn tmps).run P w = .ok (.tuple #[.agg cs, v]) w := by
  subst hv
  have hp' : tmps[p]?.getD undef = .pointer (some ⟨g, 0, none⟩) := by simpa using hp
  simp [results, h, hp', asAddr, run_loadVar_row w g t ty cs fr d hg hu hd hi]
set_option maxRecDepth 100000 in
set_option maxHeartbeats 4000000 in
theorem dgr_any (n : Nat) (k : Int) (h12 : n ≤ 12) (hk : In64 k) (w : World) :
    Calls Tryd.prog 36 #[.int .i64 (n : Nat), .int .i64 k] w fun r w' => r = .returned (.tuple #[agg (ugL n k 0), .int .i64 (ugK n k 0)]) ∧ Below w.heap.size w w' := by
  have HD0 : Hid (((w.alloc (.cells #[.int .i64 0, .int .i64 0, .int .i64 0, .int .i64 0, .int .i64 0, .int .i64 0, .int .i64 0, .int .i64 0, .int .i64 0, .int .i64 0, .int .i64 0, .int .i64 0] 59)).alloc (.cells #[.int .i64 0, .int .i64 0, .int .i64 0, .int .i64 0, .int .i64 0, .int .i64 0, .int .i64 0, .int .i64 0, .int .i64 0, .int .i64 0, .int .i64 0, .int .i64 0] 59)).rowIs (w.heap.size + 1) 59 12 (fun j => .int .i64 (nth (ugL n k n) j))) := by
    have := zero12 (w.alloc (.cells #[.int .i64 0, .int .i64 0, .int .i64 0, .int .i64 0, .int .i64 0, .int .i64 0, .int .i64 0, .int .i64 0, .int .i64 0, .int .i64 0, .int .i64 0, .int .i64 0] 59))
    rw [World.size_alloc] at this
    exact this.congr fun j _ => by rw [ugL_start, nth_rep0]
  have HR0 : Hid (((w.alloc (.cells #[.int .i64 0, .int .i64 0, .int .i64 0, .int .i64 0, .int .i64 0, .int .i64 0, .int .i64 0, .int .i64 0, .int .i64 0, .int .i64 0, .int .i64 0, .int .i64 0] 59)).alloc (.cells #[.int .i64 0, .int .i64 0, .int .i64 0, .int .i64 0, .int .i64 0, .int .i64 0, .int .i64 0, .int .i64 0, .int .i64 0, .int .i64 0, .int .i64 0, .int .i64 0] 59)).rowIs w.heap.size 59 12 (fun _ => .int .i64 0)) := (zero12 w).alloc _
  have HB0 : Hid (Below w.heap.size w ((w.alloc (.cells #[.int .i64 0, .int .i64 0, .int .i64 0, .int .i64 0, .int .i64 0, .int .i64 0, .int .i64 0, .int .i64 0, .int .i64 0, .int .i64 0, .int .i64 0, .int .i64 0] 59)).alloc (.cells #[.int .i64 0, .int .i64 0, .int .i64 0, .int .i64 0, .int .i64 0, .int .i64 0, .int .i64 0, .int .i64 0, .int .i64 0, .int .i64 0, .int .i64 0, .int .i64 0] 59))) := ((Below.refl _ w).alloc (Nat.le_refl _) _).alloc (by simp) _
  have HK : Hid (In64 k) := hk
  clear hk
  go_enter Tryd.func36, Tryd.ntmps36
  go_wp2_with fail
  go_loopw [1, 7] (fun v i wr => ((∃ q : Nat, q < n ∧ i = .int .i64 q ∧ v = .int .i64 (ugK n k (q + 1)) ∧ wr.rowIs (w.heap.size + 1) 59 12 (fun j => .int .i64 (nth (ugL n k (q + 1)) j))) ∨ (i = .int .i64 (-1) ∧ v = .int .i64 (ugK n k 0) ∧ wr.rowIs (w.heap.size + 1) 59 12 (fun j => .int .i64 (nth (ugL n k 0) j)))) ∧ wr.rowIs w.heap.size 59 12 (fun _ => .int .i64 0) ∧ Below w.heap.size w wr) (fun _ i _ => (intOf i + 1).toNat)
  case atStart =>
    refine ⟨?_, HR0.out, HB0.out⟩
    by_cases hz : n = 0
    · subst hz
      exact .inr ⟨int_eq (by omega), by rw [ugK_start], HD0.out⟩
    · refine .inl ⟨n - 1, by omega, int_eq (by omega), ?_, ?_⟩
      · rw [show n - 1 + 1 = n by omega, ugK_start]
      · rw [show n - 1 + 1 = n by omega]; exact HD0.out
  case round =>
    clear HD0 HR0 HB0
    obtain ⟨hst, hres, hB⟩ := hrel
    have HRes : Hid (wr.rowIs w.heap.size 59 12 (fun _ => .int .i64 0)) := hres
    have HB : Hid (Below w.heap.size w wr) := hB
    rcases hst with ⟨q, hq, rfl, rfl, hrow⟩ | ⟨rfl, rfl, hrow⟩
    · have HRw : Hid (wr.rowIs (w.heap.size + 1) 59 12 (fun j => .int .i64 (nth (ugL n k (q + 1)) j))) := hrow
      have hq12 : q < 12 := by omega
      have hcd := hrow.cell hq12
      have hfd := hrow.frozen q
      have HN : Hid ((ugL n k (q + 1)).set q (ugD n k q) = ugL n k q) := ugL_next k h12 hq
      have HKn : Hid ((ugK n k (q + 1)).tdiv ((n - q : Nat) : Int) = ugK n k q ∧ (ugK n k (q + 1)).tmod ((n - q : Nat) : Int) = ugD n k q) := ⟨ugK_next k hq, rfl⟩
      have h64 := ugK_in (n := n) q HK.out
      obtain ⟨m, hm⟩ : ∃ m : Nat, m = n - q := ⟨_, rfl⟩
      have e1 : IntKind.i64.wrap ((n : Int) - (q : Int)) = (m : Int) := by rw [IntWalk.i64_in _ (by omega)]; omega
      have hm0 : ¬ (m : Int) = 0 := by omega
      have hm1 : ¬ m = 0 := by omega
      rw [← hm] at HKn
      have e2 := HKn.out.1
      have e3 := HKn.out.2
      have e4 : IntKind.i64.wrap (ugK n k q) = ugK n k q := IntWalk.i64_in _ (by unfold In64 at h64; omega)
      have e5 : wrap64 (ugK n k q) = ugK n k q := by rw [← IntWalk.i64_left]; exact e4
      clear hrow hres hB HKn hm h64
      generalize hK2 : ugK n k q = K2 at *
      have HK2 : Hid (ugK n k q = K2) := hK2
      generalize ugK n k (q + 1) = K1 at *
      generalize ugD n k q = DD at *
      clear hK2
      go_wp2_with fail
      refine ⟨⟨?_, HRes.out.setOther (by show w.heap.size ≠ w.heap.size + 1; omega) _, HB.out.setCell (p := ⟨w.heap.size + 1, q, none⟩) (by show w.heap.size ≤ w.heap.size + 1; omega) _⟩, by simp [intOf]⟩
      have hr2 := rr_put HRw.out (ugL_length n k (q + 1)) hq12 DD
      rw [HN.out] at hr2
      by_cases h1 : q = 0
      · subst h1
        exact .inr ⟨int_eq (by omega), by rw [HK2.out], hr2⟩
      · refine .inl ⟨q - 1, by omega, int_eq (by omega), ?_, ?_⟩
        · rw [show q - 1 + 1 = q by omega, HK2.out]
        · rw [show q - 1 + 1 = q by omega]; exact hr2
    · obtain ⟨x0, x1, x2, x3, x4, x5, x6, x7, x8, x9, x10, x11, hL⟩ := twelve (ugL_length n k 0)
      have HL : Hid (ugL n k 0 = [x0, x1, x2, x3, x4, x5, x6, x7, x8, x9, x10, x11]) := hL
      rw [hL] at hrow
      clear hL
      have q0 : wr.cell? ⟨w.heap.size + 1, 0, none⟩ = some (.int .i64 x0) := hrow.cell (i := 0) (by decide)
      have q1 : wr.cell? ⟨w.heap.size + 1, 1, none⟩ = some (.int .i64 x1) := hrow.cell (i := 1) (by decide)
      have q2 : wr.cell? ⟨w.heap.size + 1, 2, none⟩ = some (.int .i64 x2) := hrow.cell (i := 2) (by decide)
      have q3 : wr.cell? ⟨w.heap.size + 1, 3, none⟩ = some (.int .i64 x3) := hrow.cell (i := 3) (by decide)
      have q4 : wr.cell? ⟨w.heap.size + 1, 4, none⟩ = some (.int .i64 x4) := hrow.cell (i := 4) (by decide)
      have q5 : wr.cell? ⟨w.heap.size + 1, 5, none⟩ = some (.int .i64 x5) := hrow.cell (i := 5) (by decide)
      have q6 : wr.cell? ⟨w.heap.size + 1, 6, none⟩ = some (.int .i64 x6) := hrow.cell (i := 6) (by decide)
      have q7 : wr.cell? ⟨w.heap.size + 1, 7, none⟩ = some (.int .i64 x7) := hrow.cell (i := 7) (by decide)
      have q8 : wr.cell? ⟨w.heap.size + 1, 8, none⟩ = some (.int .i64 x8) := hrow.cell (i := 8) (by decide)
      have q9 : wr.cell? ⟨w.heap.size + 1, 9, none⟩ = some (.int .i64 x9) := hrow.cell (i := 9) (by decide)
      have q10 : wr.cell? ⟨w.heap.size + 1, 10, none⟩ = some (.int .i64 x10) := hrow.cell (i := 10) (by decide)
      have q11 : wr.cell? ⟨w.heap.size + 1, 11, none⟩ = some (.int .i64 x11) := hrow.cell (i := 11) (by decide)
      have r0 := hres.cell (i := 0) (by decide)
      have rf0 := hres.frozen 0
      have r1 := hres.cell (i := 1) (by decide)
      have rf1 := hres.frozen 1
      have r2 := hres.cell (i := 2) (by decide)
      have rf2 := hres.frozen 2
      have r3 := hres.cell (i := 3) (by decide)
      have rf3 := hres.frozen 3
      have r4 := hres.cell (i := 4) (by decide)
      have rf4 := hres.frozen 4
      have r5 := hres.cell (i := 5) (by decide)
      have rf5 := hres.frozen 5
      have r6 := hres.cell (i := 6) (by decide)
      have rf6 := hres.frozen 6
      have r7 := hres.cell (i := 7) (by decide)
      have rf7 := hres.frozen 7
      have r8 := hres.cell (i := 8) (by decide)
      have rf8 := hres.frozen 8
      have r9 := hres.cell (i := 9) (by decide)
      have rf9 := hres.frozen 9
      have r10 := hres.cell (i := 10) (by decide)
      have rf10 := hres.frozen 10
      have r11 := hres.cell (i := 11) (by decide)
      have rf11 := hres.frozen 11
      clear hrow hres hB
      go_wp2_with fail
      refine bodyPost_ret (v := .tuple #[.agg #[.int .i64 x0, .int .i64 x1, .int .i64 x2, .int .i64 x3, .int .i64 x4, .int .i64 x5, .int .i64 x6, .int .i64 x7, .int .i64 x8, .int .i64 x9, .int .i64 x10, .int .i64 x11], .int .i64 (ugK n k 0)]) ?_ rfl ⟨by rw [HL.out]; rfl, ?_⟩
      · exact results_row_tmp rfl _ _ w.heap.size 59 _ (0, 0) _ rfl (put12 HRes.out (.int .i64 x0) (.int .i64 x1) (.int .i64 x2) (.int .i64 x3) (.int .i64 x4) (.int .i64 x5) (.int .i64 x6) (.int .i64 x7) (.int .i64 x8) (.int .i64 x9) (.int .i64 x10) (.int .i64 x11)) Tryd.underlying59 rfl (by kernel_rfl) _ rfl
      · exact bel12 HB.out (Nat.le_refl _) (.int .i64 x0) (.int .i64 x1) (.int .i64 x2) (.int .i64 x3) (.int .i64 x4) (.int .i64 x5) (.int .i64 x6) (.int .i64 x7) (.int .i64 x8) (.int .i64 x9) (.int .i64 x10) (.int .i64 x11)
theorem grown_cells9 (b : Nat) : ∀ (vs : List Value) (o : Nat) (w : World), w.grownBy (w.setCells b o vs) (some b)
  | [], _, w => grown_bel9 _ (Below.refl _ w)
  | v :: r, o, w => grown_t9 (grown_set9 w b o v) (grown_cells9 b r (o + 1) _)
/-- One number of a list is taken out, where it lies. -/
theorem del_any (Lb m n d d1 : Nat) (Z S : List Int) (hZ : Z.length = n) (hS : Z.take m = S) (hmn : m ≤ n) (hn : n ≤ 4096) (hd1 : d1 = d + 1) (hd : d < m) (w : World) (hrow : w.rowIs Lb 3 n (fun j => .int .i64 (nth Z j))) :
    Calls Tryd.prog 42 #[.slice (some ⟨Lb, 0, none⟩) m n, .int .i64 (d : Nat), .int .i64 (d1 : Nat)] w fun r w' => r = .returned (.slice (some ⟨Lb, 0, none⟩) (m - 1) n) ∧ (∃ Z2 : List Int, Z2.length = n ∧ Z2.take (m - 1) = S.eraseIdx d ∧ w'.rowIs Lb 3 n (fun j => .int .i64 (nth Z2 j))) ∧ w.grownBy w' (some Lb) := by
  subst hd1 hS
  have h := Any.slices_Delete_int_cells Tryd.laysDelete Lb 0 m n d (d + 1) Z w (by omega) hmn (by omega) (by omega) (by omega) (fun j hj => by rw [Nat.zero_add]; exact hrow.cell (by omega)) (fun j hj => by rw [Nat.zero_add]; exact hrow.frozen j)
  refine Calls.mono (f := 42) h ?_
  rintro e w' ⟨rfl, q, rfl⟩
  have hl : (Z.take m).length = m := by rw [List.length_take]; omega
  have hE : (Z.take m).take d ++ (Z.take m).drop (d + 1) = (Z.take m).eraseIdx d := (List.eraseIdx_eq_take_drop_succ _ _).symm
  have hEl : ((Z.take m).eraseIdx d).length = m - 1 := by rw [List.length_eraseIdx, if_pos (by omega), hl]
  have hvs : (Z.take m).take d ++ (Z.take m).drop (d + 1) ++ List.replicate (d + 1 - d) 0 = (Z.take m).eraseIdx d ++ [0] := by rw [hE, show d + 1 - d = 1 by omega]; rfl
  rw [hvs]
  refine ⟨by rw [show d + 1 - d = 1 by omega], ⟨(Z.take m).eraseIdx d ++ [0] ++ Z.drop m, ?_, ?_, ?_⟩, grown_t9 (show w.grownBy (w.drewN q) (some Lb) from ⟨rfl, rfl, rfl, Nat.le_refl _, fun _ _ _ => rfl⟩) (grown_cells9 _ _ _ _)⟩
  · rw [List.length_append, List.length_append, hEl, List.length_drop, List.length_singleton]; omega
  · rw [List.append_assoc, ← hEl, List.take_left]
  · have h0 : (w.drewN q).rowIs Lb 3 n (fun j => .int .i64 (nth Z j)) := hrow.of_block rfl
    refine (rowIs_setCells (((Z.take m).eraseIdx d ++ [0]).map (Value.int .i64)) 0 (w.drewN q) _ h0).congr fun j hj => ?_
    have hvl : (((Z.take m).eraseIdx d ++ [0]).map (Value.int .i64)).length = m := by rw [List.length_map, List.length_append, hEl, List.length_singleton]; omega
    rw [hvl]
    by_cases h1 : j < m
    · rw [if_pos (by omega), Nat.sub_zero, List.getElem?_map]
      have h2 : j < ((Z.take m).eraseIdx d ++ [0]).length := by rw [List.length_append, hEl, List.length_singleton]; omega
      rw [List.getElem?_eq_getElem h2]
      have h3 : nth ((Z.take m).eraseIdx d ++ [0] ++ Z.drop m) j = ((Z.take m).eraseIdx d ++ [0])[j] := by
        rw [nth_get _ j (by rw [List.length_append]; omega), List.getElem_append_left h2]
      rw [h3]; rfl
    · rw [if_neg (by omega)]
      have h3 : nth ((Z.take m).eraseIdx d ++ [0] ++ Z.drop m) j = nth Z j := by
        have hvl2 : ((Z.take m).eraseIdx d ++ [0]).length = m := by rw [List.length_append, hEl, List.length_singleton]; omega
        unfold nth
        rw [List.getD_eq_getElem?_getD, List.getD_eq_getElem?_getD, List.getElem?_append_right (by omega), hvl2, List.getElem?_drop, show m + (j - m) = j by omega]
      rw [h3]
theorem take_nth9 {Z S : List Int} {m d : Nat} (h : Z.take m = S) (hd : d < m) (hm : m ≤ Z.length) : nth Z d = nth S d := by
  subst h
  unfold nth
  rw [List.getD_eq_getElem?_getD, List.getD_eq_getElem?_getD, List.getElem?_take, if_pos hd]
theorem urO_nth {n k i : Nat} (h : i < n) : nth (urO n k n) i = nth (urR n k i) (urC n k i) := by
  rw [nth_get _ _ (by rw [urO_length]; exact h)]; simp [urO]
set_option maxRecDepth 100000 in
set_option maxHeartbeats 4000000 in
theorem ord9_any (n k : Nat) (h12 : n ≤ 12) (hk : k < fac n) (w : World) :
    Calls Tryd.prog 37 #[agg (ugL n (k : Int) 0), .int .i64 (n : Nat)] w fun r w' => ∃ g, r = .returned (.slice g n n) ∧ NewC w.heap.size w' g (ur n (idn n) k) n ∧ Below w.heap.size w w' := by
  obtain ⟨x0, x1, x2, x3, x4, x5, x6, x7, x8, x9, x10, x11, hL⟩ := twelve (ugL_length n (k : Int) 0)
  have e : agg (ugL n (k : Int) 0) = .agg #[.int .i64 x0, .int .i64 x1, .int .i64 x2, .int .i64 x3, .int .i64 x4, .int .i64 x5, .int .i64 x6, .int .i64 x7, .int .i64 x8, .int .i64 x9, .int .i64 x10, .int .i64 x11] := by rw [hL]; rfl
  rw [e]
  have HR : Hid ((w.alloc (.cells #[.int .i64 x0, .int .i64 x1, .int .i64 x2, .int .i64 x3, .int .i64 x4, .int .i64 x5, .int .i64 x6, .int .i64 x7, .int .i64 x8, .int .i64 x9, .int .i64 x10, .int .i64 x11] 59)).rowIs w.heap.size 59 12 (fun j => .int .i64 (nth (ugL n (k : Int) 0) j))) := by
    rw [hL]
    exact block_row (L := [x0, x1, x2, x3, x4, x5, x6, x7, x8, x9, x10, x11]) (n := 12) (heap_alloc_new w _) rfl
  have HB : Hid (Below w.heap.size w (w.alloc (.cells #[.int .i64 x0, .int .i64 x1, .int .i64 x2, .int .i64 x3, .int .i64 x4, .int .i64 x5, .int .i64 x6, .int .i64 x7, .int .i64 x8, .int .i64 x9, .int .i64 x10, .int .i64 x11] 59))) := (Below.refl _ w).alloc (Nat.le_refl _) _
  have hsz : (w.alloc (.cells #[.int .i64 x0, .int .i64 x1, .int .i64 x2, .int .i64 x3, .int .i64 x4, .int .i64 x5, .int .i64 x6, .int .i64 x7, .int .i64 x8, .int .i64 x9, .int .i64 x10, .int .i64 x11] 59)).heap.size = w.heap.size + 1 := by simp
  have HSZ : Hid ((w.alloc (.cells #[.int .i64 x0, .int .i64 x1, .int .i64 x2, .int .i64 x3, .int .i64 x4, .int .i64 x5, .int .i64 x6, .int .i64 x7, .int .i64 x8, .int .i64 x9, .int .i64 x10, .int .i64 x11] 59)).heap.size = w.heap.size + 1) := hsz
  have HF : Hid (urO n k n = ur n (idn n) k) := ur_all hk
  have HOl : Hid ((urO n k n).length = n) := urO_length n k n
  clear e hL hsz hk
  have hmk := run_make_row' (P := Tryd.prog) 22 3 (.int .i64 0) 8 Tryd.underlying22 Tryd.infoInt rfl .i64 .i64 n (by omega) (by omega)
  go_enter Tryd.func37, Tryd.ntmps37
  go_wp2_with fail
  generalize w.alloc (.cells #[.int .i64 x0, .int .i64 x1, .int .i64 x2, .int .i64 x3, .int .i64 x4, .int .i64 x5, .int .i64 x6, .int .i64 x7, .int .i64 x8, .int .i64 x9, .int .i64 x10, .int .i64 x11] 59) = V at *
  refine (upto_any n (by omega) V).mono ?_
  rintro e w1 ⟨rfl, hrow1, hB1⟩
  rw [HSZ.out] at hrow1 hB1 ⊢
  have hs1 : w.heap.size + 1 < w1.heap.size := hrow1.lt
  have HRd : Hid ((w1.alloc (.cells (madeCells #[.int .i64 0] n) 3)).rowIs w.heap.size 59 12 (fun j => .int .i64 (nth (ugL n (k : Int) 0) j))) := (HR.out.of_block (hB1.block _ (by omega))).alloc _
  have HRl : Hid ((w1.alloc (.cells (madeCells #[.int .i64 0] n) 3)).rowIs (w.heap.size + 1) 3 n (fun j => .int .i64 (nth (idn n) j))) := hrow1.alloc _
  have HRo : Hid ((w1.alloc (.cells (madeCells #[.int .i64 0] n) 3)).rowIs w1.heap.size 3 n (fun j => .int .i64 (nth (upl (urO n k n) 0) j))) := (World.rowIs_made w1 (.int .i64 0) n 3).congr fun j _ => by rw [upl_zero, nth_replicate]
  have HBw : Hid (Below w.heap.size w (w1.alloc (.cells (madeCells #[.int .i64 0] n) 3))) := (HB.out.trans (hB1.mono (by omega))).alloc (by omega) _
  clear hrow1 hB1 HR HB HSZ
  go_wp2_with fail
  clear hmk
  go_loopw [5, 14] (fun v i wr => ∃ (t : Nat) (Z : List Int), t ≤ n ∧ i = .int .i64 t ∧ v = .slice (some ⟨w.heap.size + 1, 0, none⟩) (n - t) n ∧ Z.length = n ∧ Z.take (n - t) = urR n k t ∧ wr.rowIs (w.heap.size + 1) 3 n (fun j => .int .i64 (nth Z j)) ∧ wr.rowIs w1.heap.size 3 n (fun j => .int .i64 (nth (upl (urO n k n) t) j)) ∧ wr.rowIs w.heap.size 59 12 (fun j => .int .i64 (nth (ugL n (k : Int) 0) j)) ∧ Below w.heap.size w wr) (fun _ i _ => n - (intOf i).toNat)
  case atStart => exact ⟨0, idn n, Nat.zero_le _, rfl, rfl, idn_length n, by rw [Nat.sub_zero, List.take_of_length_le (by rw [idn_length]; exact Nat.le_refl _)]; rfl, HRl.out, HRo.out, HRd.out, HBw.out⟩
  case round =>
    clear HRl HRo HRd HBw
    obtain ⟨t, Z, ht, rfl, rfl, hZl, hZs, hrl, hro, hrd, hB⟩ := hrel
    have HRl : Hid (wr.rowIs (w.heap.size + 1) 3 n (fun j => .int .i64 (nth Z j))) := hrl
    have HRo : Hid (wr.rowIs w1.heap.size 3 n (fun j => .int .i64 (nth (upl (urO n k n) t) j))) := hro
    have HRd : Hid (wr.rowIs w.heap.size 59 12 (fun j => .int .i64 (nth (ugL n (k : Int) 0) j))) := hrd
    have HB : Hid (Below w.heap.size w wr) := hB
    by_cases hlt : t < n
    · have hdg := hrd.cell (i := t) (by omega)
      rw [ugL_nth (by omega), if_pos ⟨Nat.zero_le _, hlt⟩, ugD_nat hlt] at hdg
      have hdl := urC_lt (n := n) (k := k) hlt
      have hcl := hrl.cell (i := urC n k t) (by omega)
      have hco := hro.cell hlt
      have hfo := hro.frozen t
      have HZs : Hid (Z.take (n - t) = urR n k t ∧ Z.length = n) := ⟨hZs, hZl⟩
      have HN : Hid ((upl (urO n k n) t).set t (nth Z (urC n k t)) = upl (urO n k n) (t + 1)) := by
        show _ = _
        rw [← upl_next (urO n k n) (by rw [HOl.out]; exact hlt), urO_nth hlt, take_nth9 hZs hdl (by omega)]
      have HLo : Hid ((upl (urO n k n) t).length = n) := by show _ = _; rw [upl_length _ (by rw [HOl.out]; exact ht), HOl.out]
      have HNx : Hid (urR n k (t + 1) = (urR n k t).eraseIdx (urC n k t)) := rfl
      obtain ⟨m, hm⟩ : ∃ m, m = n - t := ⟨_, rfl⟩
      have HM : Hid (m = n - t) := hm
      rw [← hm] at HZs hdl ⊢
      clear hrl hro hrd hB hZs hZl hm
      generalize urC n k t = d at *
      generalize hv : nth Z d = v0 at *
      have HV0 : Hid (nth Z d = v0) := hv
      clear hv
      obtain ⟨d1, hd1⟩ : ∃ d1 : Nat, d1 = d + 1 := ⟨_, rfl⟩
      have HD1 : Hid (d1 = d + 1) := hd1
      have hmn : m ≤ n := by have := HM.out; omega
      have e1 : IntKind.i64.wrap ((d : Int) + 1) = (d1 : Int) := by rw [IntWalk.i64_in _ (by omega), hd1]; rfl
      clear hd1
      go_wp2_with fail
      obtain ⟨w3, hw3⟩ : ∃ w3, w3 = wr.setCell ⟨w1.heap.size, t, none⟩ (.int .i64 v0) := ⟨_, rfl⟩
      rw [← hw3]
      have HR3l : Hid (w3.rowIs (w.heap.size + 1) 3 n (fun j => .int .i64 (nth Z j))) := by rw [hw3]; exact HRl.out.setOther (by show w.heap.size + 1 ≠ w1.heap.size; omega) _
      have HR3o : Hid (w3.rowIs w1.heap.size 3 n (fun j => .int .i64 (nth (upl (urO n k n) (t + 1)) j))) := by rw [hw3, ← HN.out]; exact rr_put HRo.out HLo.out hlt _
      have HR3d : Hid (w3.rowIs w.heap.size 59 12 (fun j => .int .i64 (nth (ugL n (k : Int) 0) j))) := by rw [hw3]; exact HRd.out.setOther (by show w.heap.size ≠ w1.heap.size; omega) _
      have HB3 : Hid (Below w.heap.size w w3) := by rw [hw3]; exact HB.out.setCell (p := ⟨w1.heap.size, t, none⟩) (by show w.heap.size ≤ w1.heap.size; omega) _
      have hdg3 : w3.cell? ⟨w.heap.size, t, none⟩ = some (.int .i64 (d : Nat)) := by rw [hw3]; exact (World.cell?_setCell_other wr _ _ _ (by intro e; simp only [Addr.mk.injEq] at e; omega)).trans hdg
      clear hw3 hdg hcl hco hfo HRl HRo HRd HB HN HLo
      have hdel := del_any (w.heap.size + 1) m n d d1 Z (urR n k t) HZs.out.2 HZs.out.1 hmn (by omega) HD1.out hdl w3.drew HR3l.out.drew
      have HDel : Hid (Calls Tryd.prog 42 #[.slice (some ⟨w.heap.size + 1, 0, none⟩) m n, .int .i64 (d : Nat), .int .i64 (d1 : Nat)] w3.drew fun r w' => r = .returned (.slice (some ⟨w.heap.size + 1, 0, none⟩) (m - 1) n) ∧ (∃ Z2 : List Int, Z2.length = n ∧ Z2.take (m - 1) = (urR n k t).eraseIdx d ∧ w'.rowIs (w.heap.size + 1) 3 n (fun j => .int .i64 (nth Z2 j))) ∧ w3.drew.grownBy w' (some (w.heap.size + 1))) := hdel
      clear hdel
      have ht12 : (t : Int) < 12 := by omega
      refine anyT_begin 9 (fun w' => w'.cell? ⟨w.heap.size, t, none⟩ = some (.int .i64 (d : Nat))) 10 #[false, false, false, false, false, false, false, false, false, false] (by kernel_rfl) rfl rfl ?_
      refine anyT_put 0 26 ?rv0 #[true, false, false, false, false, false, false, false, false, false] rfl rfl rfl (by kernel_rfl) (by kernel_rfl) (by kernel_rfl) (fun _ _ _ h => h) (by decide) ?ry0 (fun _ => hdg3) ?rm0
      case ry0 => first | exact Or.inl ⟨by rfl, by intro w'; go_simp; first | done | rfl⟩
      case rm0 =>
      simp only [Act.put, List.setIfInBounds_toArray, List.set_cons_zero, List.set_cons_succ]
      refine anyT_put 1 27 ?rv1 #[true, true, false, false, false, false, false, false, false, false] rfl rfl rfl (by kernel_rfl) (by kernel_rfl) (by kernel_rfl) (fun _ _ _ h => h) (by decide) ?ry1 (fun _ => hdg3) ?rm1
      case ry1 => first | exact Or.inl ⟨by rfl, by intro w'; go_simp; first | done | rfl⟩
      case rm1 =>
      simp only [Act.put, List.setIfInBounds_toArray, List.set_cons_zero, List.set_cons_succ]
      refine anyT_put 2 28 ?rv2 #[true, true, true, false, false, false, false, false, false, false] rfl rfl rfl (by kernel_rfl) (by kernel_rfl) (by kernel_rfl) (fun _ _ _ h => h) (by decide) ?ry2 (fun _ => hdg3) ?rm2
      case ry2 => first | exact Or.inl ⟨by rfl, by intro w'; go_simp; first | done | rfl⟩
      case rm2 =>
      simp only [Act.put, List.setIfInBounds_toArray, List.set_cons_zero, List.set_cons_succ]
      refine anyT_take 3 29 ?rv3 #[true, true, true, true, false, false, false, false, false, false] rfl rfl rfl (by kernel_rfl) (by kernel_rfl) (by kernel_rfl) (fun _ _ _ h => h) (by kernel_rfl) (by decide) (by kernel_rfl) ?ry3 (hdg3) ?rm3
      case ry3 => first | exact Or.inl ⟨by rfl, by intro w' hw'; (try dsimp only at hw'); go_simp; first | done | rfl⟩
      case rm3 =>
      simp only [Act.put, List.setIfInBounds_toArray, List.set_cons_zero, List.set_cons_succ]
      refine anyT_put 4 30 ?rv4 #[true, true, true, true, true, false, false, false, false, false] rfl rfl rfl (by kernel_rfl) (by kernel_rfl) (by kernel_rfl) (fun _ _ _ h => h) (by decide) ?ry4 (fun _ => hdg3) ?rm4
      case ry4 => first | exact Or.inl ⟨by rfl, by intro w'; go_simp; first | done | rfl⟩
      case rm4 =>
      simp only [Act.put, List.setIfInBounds_toArray, List.set_cons_zero, List.set_cons_succ]
      refine anyT_put 5 31 ?rv5 #[true, true, true, true, true, true, false, false, false, false] rfl rfl rfl (by kernel_rfl) (by kernel_rfl) (by kernel_rfl) (fun _ _ _ h => h) (by decide) ?ry5 (fun _ => hdg3) ?rm5
      case ry5 => first | exact Or.inl ⟨by rfl, by intro w'; go_simp; first | done | rfl⟩
      case rm5 =>
      simp only [Act.put, List.setIfInBounds_toArray, List.set_cons_zero, List.set_cons_succ]
      refine anyT_take 6 32 ?rv6 #[true, true, true, true, true, true, true, false, false, false] rfl rfl rfl (by kernel_rfl) (by kernel_rfl) (by kernel_rfl) (fun _ _ _ h => h) (by kernel_rfl) (by decide) (by kernel_rfl) ?ry6 (hdg3) ?rm6
      case ry6 => first | exact Or.inl ⟨by rfl, by intro w' hw'; (try dsimp only at hw'); go_simp; first | done | rfl⟩
      case rm6 =>
      simp only [Act.put, List.setIfInBounds_toArray, List.set_cons_zero, List.set_cons_succ]
      refine anyT_put 7 33 ?rv7 #[true, true, true, true, true, true, true, true, false, false] rfl rfl rfl (by kernel_rfl) (by kernel_rfl) (by kernel_rfl) (fun _ _ _ h => h) (by decide) ?ry7 (fun _ => hdg3) ?rm7
      case ry7 => first | exact Or.inl ⟨by rfl, by intro w'; go_simp; first | done | rfl⟩
      case rm7 =>
      simp only [Act.put, List.setIfInBounds_toArray, List.set_cons_zero, List.set_cons_succ]
      refine anyT_one 8 #[true, true, true, true, true, true, true, true, true, false] (by kernel_rfl) rfl rfl (fun K hK => ?_)
      go_simp
      go_wp2_with (go_at_call 42; refine HDel.out.mono ?_; rintro e w4 ⟨rfl, ⟨Z2, hZ2l, hZ2s, hr4⟩, hg4⟩)
      refine hK.out _ _ (fun _ => (World.cell?_of_block (w := w3.drew) (a := ⟨w.heap.size, t, none⟩) (hg4.block w.heap.size HR3d.out.lt (fun e => by have := Option.some.inj e; omega))).trans hdg3) ?_
      clear hK K
      refine anyT_one 9 #[true, true, true, true, true, true, true, true, true, true] (by kernel_rfl) rfl rfl (fun K hK => ?_)
      go_simp
      refine hK.out _ _ (fun h => absurd h (by decide)) ?_
      clear hK K
      refine anyT_done (by kernel_rfl) ?_
      go_wp2_with fail
      have hsw := HR3o.out.lt
      refine ⟨⟨t + 1, Z2, by omega, by go_num, by rw [show n - (t + 1) = m - 1 by have := HM.out; omega], hZ2l, by rw [show n - (t + 1) = m - 1 by have := HM.out; omega, hZ2s, HNx.out], hr4, HR3o.out.of_block (hg4.block _ hsw (fun e => by have := Option.some.inj e; omega)), HR3d.out.of_block (hg4.block _ HR3d.out.lt (fun e => by have := Option.some.inj e; omega)), HB3.out.drew.grown hg4 HB3.out.size (fun j e => by have := Option.some.inj e; omega)⟩, by simp [intOf]; omega⟩
    · obtain rfl : t = n := by omega
      have eO : upl (urO t k t) t = urO t k t := by have := upl_all (urO t k t); rw [HOl.out] at this; exact this
      rw [eO, HF.out] at hro
      have hN := rr_list hro (by rw [← HF.out]; exact HOl.out) (lo := w.heap.size) (by omega)
      have HN : Hid (NewC w.heap.size wr (some ⟨w1.heap.size, 0, none⟩) (ur t (idn t) k) t) := hN
      clear hrl hro hrd hZs hN eO HRo
      go_wp2_with fail
      go_ret
      exact ⟨some ⟨w1.heap.size, 0, none⟩, rfl, HN.out, hB⟩
set_option maxRecDepth 100000 in
set_option maxHeartbeats 4000000 in
theorem pu_holds : CPu := by
  intro n k w hn hk
  by_cases h0 : n < 0
  · have HE : Hid (urE n k = 6) := by show _ = _; unfold urE; rw [if_pos h0]
    go_enter Tryd.func27, Tryd.ntmps27
    go_wp2_with fail
    go_ret2
    exact UL.mkno HE.out (by decide) (Below.refl _ _)
  · by_cases h1 : 12 < n
    · have HE : Hid (urE n k = 7) := by show _ = _; unfold urE; rw [if_neg h0, if_pos h1]
      go_enter Tryd.func27, Tryd.ntmps27
      go_wp2_with fail
      go_ret2
      exact UL.mkno HE.out (by decide) (Below.refl _ _)
    · obtain ⟨N, rfl⟩ := Int.eq_ofNat_of_zero_le (Int.not_lt.1 h0)
      have hN : N ≤ 12 := by omega
      have hC := dgr_any N k hN hk w
      obtain ⟨x0, x1, x2, x3, x4, x5, x6, x7, x8, x9, x10, x11, hL⟩ := twelve (ugL_length N k 0)
      have e : agg (ugL N k 0) = .agg #[.int .i64 x0, .int .i64 x1, .int .i64 x2, .int .i64 x3, .int .i64 x4, .int .i64 x5, .int .i64 x6, .int .i64 x7, .int .i64 x8, .int .i64 x9, .int .i64 x10, .int .i64 x11] := by rw [hL]; rfl
      rw [e] at hC
      have HL : Hid (ugL N k 0 = [x0, x1, x2, x3, x4, x5, x6, x7, x8, x9, x10, x11]) := hL
      have HG : Hid (agg (ugL N k 0) = .agg #[.int .i64 x0, .int .i64 x1, .int .i64 x2, .int .i64 x3, .int .i64 x4, .int .i64 x5, .int .i64 x6, .int .i64 x7, .int .i64 x8, .int .i64 x9, .int .i64 x10, .int .i64 x11]) := e
      have hd0 : ¬ (N : Int) < 0 := h0
      have hd1 : ¬ (12 : Int) < (N : Int) := h1
      clear e hL
      by_cases hok : 0 ≤ k ∧ k < (fac N : Int)
      · obtain ⟨K, rfl⟩ := Int.eq_ofNat_of_zero_le hok.1
        have hKf : K < fac N := by omega
        have HE : Hid (urE (N : Int) (K : Int) = 0) := urE_zero.2 ⟨by omega, by omega, by omega, by rw [Int.toNat_natCast]; omega⟩
        have hr0 : ugK N (K : Int) 0 = 0 := by
          by_cases h : ugK N (K : Int) 0 = 0
          · exact h
          · have := (ugK_rest (n := N) (k := (K : Int)) (by omega)).1 h; omega
        rw [hr0] at hC
        have hO := fun w1 => ord9_any N K hN hKf w1
        rw [HG.out] at hO
        have HO : Hid (∀ w1 : World, Calls Tryd.prog 37 #[.agg #[.int .i64 x0, .int .i64 x1, .int .i64 x2, .int .i64 x3, .int .i64 x4, .int .i64 x5, .int .i64 x6, .int .i64 x7, .int .i64 x8, .int .i64 x9, .int .i64 x10, .int .i64 x11], .int .i64 (N : Nat)] w1 fun r w' => ∃ g, r = .returned (.slice g N N) ∧ NewC w1.heap.size w' g (ur N (idn N) K) N ∧ Below w1.heap.size w1 w') := hO
        have HUl : Hid ((ur N (idn N) K).length = N) := ur_length N (idn N) K
        clear hok hr0 hO
        go_enter Tryd.func27, Tryd.ntmps27
        go_wp2_with fail
        refine hC.mono ?_
        rintro e w1 ⟨rfl, hB⟩
        clear hC
        have HB : Hid (Below w.heap.size w (w1.alloc (.cells #[.int .i64 x0, .int .i64 x1, .int .i64 x2, .int .i64 x3, .int .i64 x4, .int .i64 x5, .int .i64 x6, .int .i64 x7, .int .i64 x8, .int .i64 x9, .int .i64 x10, .int .i64 x11] 59))) := hB.alloc hB.size _
        have hrow := block_row (L := [x0, x1, x2, x3, x4, x5, x6, x7, x8, x9, x10, x11]) (n := 12) (heap_alloc_new w1 (.cells #[.int .i64 x0, .int .i64 x1, .int .i64 x2, .int .i64 x3, .int .i64 x4, .int .i64 x5, .int .i64 x6, .int .i64 x7, .int .i64 x8, .int .i64 x9, .int .i64 x10, .int .i64 x11] 59)) rfl
        have hsz : (w1.alloc (.cells #[.int .i64 x0, .int .i64 x1, .int .i64 x2, .int .i64 x3, .int .i64 x4, .int .i64 x5, .int .i64 x6, .int .i64 x7, .int .i64 x8, .int .i64 x9, .int .i64 x10, .int .i64 x11] 59)).heap.size = w1.heap.size + 1 := by simp
        have q0 : (w1.alloc (.cells #[.int .i64 x0, .int .i64 x1, .int .i64 x2, .int .i64 x3, .int .i64 x4, .int .i64 x5, .int .i64 x6, .int .i64 x7, .int .i64 x8, .int .i64 x9, .int .i64 x10, .int .i64 x11] 59)).cell? ⟨w1.heap.size, 0, none⟩ = some (.int .i64 x0) := hrow.cell (i := 0) (by decide)
        have q1 : (w1.alloc (.cells #[.int .i64 x0, .int .i64 x1, .int .i64 x2, .int .i64 x3, .int .i64 x4, .int .i64 x5, .int .i64 x6, .int .i64 x7, .int .i64 x8, .int .i64 x9, .int .i64 x10, .int .i64 x11] 59)).cell? ⟨w1.heap.size, 1, none⟩ = some (.int .i64 x1) := hrow.cell (i := 1) (by decide)
        have q2 : (w1.alloc (.cells #[.int .i64 x0, .int .i64 x1, .int .i64 x2, .int .i64 x3, .int .i64 x4, .int .i64 x5, .int .i64 x6, .int .i64 x7, .int .i64 x8, .int .i64 x9, .int .i64 x10, .int .i64 x11] 59)).cell? ⟨w1.heap.size, 2, none⟩ = some (.int .i64 x2) := hrow.cell (i := 2) (by decide)
        have q3 : (w1.alloc (.cells #[.int .i64 x0, .int .i64 x1, .int .i64 x2, .int .i64 x3, .int .i64 x4, .int .i64 x5, .int .i64 x6, .int .i64 x7, .int .i64 x8, .int .i64 x9, .int .i64 x10, .int .i64 x11] 59)).cell? ⟨w1.heap.size, 3, none⟩ = some (.int .i64 x3) := hrow.cell (i := 3) (by decide)
        have q4 : (w1.alloc (.cells #[.int .i64 x0, .int .i64 x1, .int .i64 x2, .int .i64 x3, .int .i64 x4, .int .i64 x5, .int .i64 x6, .int .i64 x7, .int .i64 x8, .int .i64 x9, .int .i64 x10, .int .i64 x11] 59)).cell? ⟨w1.heap.size, 4, none⟩ = some (.int .i64 x4) := hrow.cell (i := 4) (by decide)
        have q5 : (w1.alloc (.cells #[.int .i64 x0, .int .i64 x1, .int .i64 x2, .int .i64 x3, .int .i64 x4, .int .i64 x5, .int .i64 x6, .int .i64 x7, .int .i64 x8, .int .i64 x9, .int .i64 x10, .int .i64 x11] 59)).cell? ⟨w1.heap.size, 5, none⟩ = some (.int .i64 x5) := hrow.cell (i := 5) (by decide)
        have q6 : (w1.alloc (.cells #[.int .i64 x0, .int .i64 x1, .int .i64 x2, .int .i64 x3, .int .i64 x4, .int .i64 x5, .int .i64 x6, .int .i64 x7, .int .i64 x8, .int .i64 x9, .int .i64 x10, .int .i64 x11] 59)).cell? ⟨w1.heap.size, 6, none⟩ = some (.int .i64 x6) := hrow.cell (i := 6) (by decide)
        have q7 : (w1.alloc (.cells #[.int .i64 x0, .int .i64 x1, .int .i64 x2, .int .i64 x3, .int .i64 x4, .int .i64 x5, .int .i64 x6, .int .i64 x7, .int .i64 x8, .int .i64 x9, .int .i64 x10, .int .i64 x11] 59)).cell? ⟨w1.heap.size, 7, none⟩ = some (.int .i64 x7) := hrow.cell (i := 7) (by decide)
        have q8 : (w1.alloc (.cells #[.int .i64 x0, .int .i64 x1, .int .i64 x2, .int .i64 x3, .int .i64 x4, .int .i64 x5, .int .i64 x6, .int .i64 x7, .int .i64 x8, .int .i64 x9, .int .i64 x10, .int .i64 x11] 59)).cell? ⟨w1.heap.size, 8, none⟩ = some (.int .i64 x8) := hrow.cell (i := 8) (by decide)
        have q9 : (w1.alloc (.cells #[.int .i64 x0, .int .i64 x1, .int .i64 x2, .int .i64 x3, .int .i64 x4, .int .i64 x5, .int .i64 x6, .int .i64 x7, .int .i64 x8, .int .i64 x9, .int .i64 x10, .int .i64 x11] 59)).cell? ⟨w1.heap.size, 9, none⟩ = some (.int .i64 x9) := hrow.cell (i := 9) (by decide)
        have q10 : (w1.alloc (.cells #[.int .i64 x0, .int .i64 x1, .int .i64 x2, .int .i64 x3, .int .i64 x4, .int .i64 x5, .int .i64 x6, .int .i64 x7, .int .i64 x8, .int .i64 x9, .int .i64 x10, .int .i64 x11] 59)).cell? ⟨w1.heap.size, 10, none⟩ = some (.int .i64 x10) := hrow.cell (i := 10) (by decide)
        have q11 : (w1.alloc (.cells #[.int .i64 x0, .int .i64 x1, .int .i64 x2, .int .i64 x3, .int .i64 x4, .int .i64 x5, .int .i64 x6, .int .i64 x7, .int .i64 x8, .int .i64 x9, .int .i64 x10, .int .i64 x11] 59)).cell? ⟨w1.heap.size, 11, none⟩ = some (.int .i64 x11) := hrow.cell (i := 11) (by decide)
        clear hrow hB
        go_wp2_with fail
        refine (HO.out _).mono ?_
        rintro e w2 ⟨g, rfl, hN2, hB2⟩
        go_wp2_with fail
        go_ret2
        have h3 := UL.mkok (L := ur N (idn N) K) HE.out (hN2.low HB.out.size) (HB.out.trans (hB2.mono HB.out.size))
        rw [HUl.out] at h3
        rw [Int.toNat_natCast, Int.toNat_natCast]
        exact h3
      · have HE : Hid (urE (N : Int) k = 5) := by
          show _ = _
          unfold urE
          rw [if_neg h0, if_neg h1, if_pos (by rw [Int.toNat_natCast]; omega)]
        by_cases hneg : k < 0
        · clear hok
          go_enter Tryd.func27, Tryd.ntmps27
          go_wp2_with fail
          refine hC.mono ?_
          rintro e w1 ⟨rfl, hB⟩
          clear hC
          go_wp2_with fail
          go_ret2
          exact UL.mkno HE.out (by decide) (hB.alloc hB.size _)
        · have hr0 : (ugK N k 0 != 0) = true := by rw [bne_iff_ne]; exact (ugK_rest (by omega)).2 (by omega)
          clear hok
          generalize ugK N k 0 = R at *
          go_enter Tryd.func27, Tryd.ntmps27
          go_wp2_with fail
          refine hC.mono ?_
          rintro e w1 ⟨rfl, hB⟩
          clear hC
          go_wp2_with fail
          go_ret2
          exact UL.mkno HE.out (by decide) (hB.alloc hB.size _)
end Go.Proofs.YtcblakcaoecgpaaDoor
