/-
  What the reference folds a line to; may an array be folded along an axis; the cells of a line.
-/
import Derived.Test.YtcpmendkocnlhaaDoorFldp
import Derived.Test.YtcpmendkocnlhaaDoorRtwo
import Derived.Test.YtcpmendkocnlhaaDoorRneut
import Derived.Test.YtcpmendkocnlhaaDoorRcopy
import Derived.Test.YtcpmendkocnlhaaDoorRmove
import Derived.Test.YtcpmendkocnlhaaDoorMidc
import Derived.Test.YtcpmendkocnlhaaDoorApps
namespace Go.Proofs.YtcpmendkocnlhaaDoor
open Go.RowKit
set_option linter.unusedVariables false

/-- The contract of Folded, for lines of that length. -/
def CFo (N : Nat) : Prop := ∀ (f : Int) (L : List Int) (b off cap : Nat) (w : World), L.length = N → N ≤ 4096 → N ≤ cap → (∀ j, j < N → w.cell? ⟨b, off + j, none⟩ = some (.int .i64 (nth L j))) → (∀ j, In64 (nth L j)) →
  Calls Tryd.prog 28 #[.int .i64 f, .slice (some ⟨b, off, none⟩) N cap] w fun e w' => e = .returned (.tuple #[.int .i64 (fdV f L), .int .i64 (fdE f L)]) ∧ w' = w
set_option maxRecDepth 100000 in
set_option maxHeartbeats 1000000 in
theorem fo_nil (f : Int) (a : Option Addr) (cap : Nat) (w : World) : Calls Tryd.prog 28 #[.int .i64 f, .slice a 0 cap] w fun e w' => e = .returned (.tuple #[.int .i64 (fdV f []), .int .i64 (fdE f [])]) ∧ w' = w := by
  go_enter Tryd.func28, Tryd.ntmps28
  go_wp2_with fail
  refine (rneut_any f w).mono ?_
  rintro e w1 ⟨rfl, rfl⟩
  go_wp2_with fail
  go_ret2
  exact ⟨rfl, rfl⟩
theorem fo_zero : CFo 0 := by
  intro f L b off cap w hl _ _ _ _
  rw [List.eq_nil_of_length_eq_zero hl]
  exact fo_nil f _ cap w
set_option maxRecDepth 100000 in
set_option maxHeartbeats 1000000 in
theorem fo_one : CFo 1 := by
  intro f L b off cap w hl _ _ hc _
  obtain ⟨c, rfl⟩ : ∃ c, L = [c] := by
    cases L with
    | nil => simp at hl
    | cons c r =>
      obtain rfl : r = [] := List.eq_nil_of_length_eq_zero (by simpa using hl)
      exact ⟨c, rfl⟩
  have h0 := hc 0 (by omega)
  rw [Nat.add_zero, show nth [c] 0 = c from rfl] at h0
  clear hc hl
  go_enter Tryd.func28, Tryd.ntmps28
  go_wp2_with fail
  go_ret2
  exact ⟨rfl, rfl⟩
set_option maxRecDepth 100000 in
set_option maxHeartbeats 2000000 in
theorem fo_more {N : Nat} (ih : CFo (N + 1)) : CFo (N + 1 + 1) := by
  intro f L b off cap w hl h4 hcap hc T
  obtain ⟨c, R, rfl⟩ : ∃ c R, L = c :: R := by
    cases L with
    | nil => simp at hl
    | cons c r => exact ⟨c, r, rfl⟩
  have hRl : R.length = N + 1 := by simpa using hl
  have hRn : R ≠ [] := fun e => by rw [e] at hRl; simp at hRl
  have TR : ∀ j, In64 (nth R j) := fun j => by have := T (j + 1); rwa [nth_succ] at this
  have hL := ih f R b (off + 1) (cap - 1) w hRl (by omega) (by omega) (fun j hj => by have := hc (j + 1) (by omega); rw [nth_succ] at this; rw [← this, Nat.add_assoc, Nat.add_comm 1 j]) TR
  have h0 := hc 0 (by omega)
  rw [Nat.add_zero, show nth (c :: R) 0 = c from rfl] at h0
  have hV : In64 (fdV f R) := fdV_in fun x hx => by
    obtain ⟨j, hj, rfl⟩ := List.getElem_of_mem hx
    have := TR j
    rwa [nth_get R j hj] at this
  have hT := rtwo_any f c (fdV f R) (by have := T 0; exact this) hV w
  have HE := fdE_cons f c hRn
  have HV := fdV_cons f c hRn
  have HEV : Hid ((fdE f (c :: R) = if fdE f R ≠ 0 then fdE f R else twoE f c (fdV f R)) ∧ fdV f (c :: R) = if fdE f R ≠ 0 then 0 else twoV f c (fdV f R)) := ⟨HE, HV⟩
  clear hc T TR hl hV HE HV hRl hRn
  generalize fdE f (c :: R) = E at *
  generalize fdV f (c :: R) = V at *
  by_cases he : fdE f R = 0
  · have t0 : (fdE f R != 0) = false := by simp [he]
    have HEV' : Hid (E = twoE f c (fdV f R) ∧ V = twoV f c (fdV f R)) := ⟨by rw [HEV.out.1, if_neg (not_not_intro he)], by rw [HEV.out.2, if_neg (not_not_intro he)]⟩
    clear he HEV
    go_enter Tryd.func28, Tryd.ntmps28
    go_wp2_with fail
    refine hL.mono ?_
    rintro e w1 ⟨rfl, rfl⟩
    go_wp2_with fail
    refine hT.mono ?_
    rintro e w2 ⟨rfl, rfl⟩
    go_wp2_with fail
    go_ret2
    exact ⟨by rw [HEV'.out.1, HEV'.out.2]; rfl, rfl⟩
  · have t0 : (fdE f R != 0) = true := by simp [he]
    have HEV' : Hid (E = fdE f R ∧ V = 0) := ⟨by rw [HEV.out.1, if_pos he], by rw [HEV.out.2, if_pos he]⟩
    clear he HEV hT
    go_enter Tryd.func28, Tryd.ntmps28
    go_wp2_with fail
    refine hL.mono ?_
    rintro e w1 ⟨rfl, rfl⟩
    go_wp2_with fail
    go_ret2
    exact ⟨by rw [HEV'.out.1, HEV'.out.2]; rfl, rfl⟩
theorem folded_all : ∀ N, CFo N
  | 0 => fo_zero
  | 1 => fo_one
  | N + 1 + 1 => fo_more (folded_all (N + 1))
theorem folded_any (f : Int) (L : List Int) (N : Nat) (hN : L.length = N) (a : Option Addr) (cap : Nat) (h4 : N ≤ 4096) (w : World) (hI : IsC w.heap.size w a L cap) (T : ∀ j, In64 (nth L j)) :
    Calls Tryd.prog 28 #[.int .i64 f, .slice a N cap] w fun e w' => e = .returned (.tuple #[.int .i64 (fdV f L), .int .i64 (fdE f L)]) ∧ w' = w := by
  rcases hI.1 with e | ⟨b, off, rfl, _, hc⟩
  · subst e
    obtain rfl : N = 0 := by simpa using hN.symm
    exact fo_nil f a cap w
  · exact folded_all N f L b off cap w hN h4 (by have := hI.2; omega) (fun j hj => hc j (by omega)) T
theorem where_l (a : Option Addr) (cap : Nat) (zs : List Int) (l : Nat) (hl : zs.length = l) (a' : Option Addr) (cap' n : Nat) (ts : List Int) (hn : ts.length = n) (P : Nat) (hP : place zs ts = P) (hreach : l ≤ 9223372036854775807) (he : errOf zs = 0) (hins : insB zs ts = true) (n₀ : Nat) (w : World) (hI : IsInts n₀ w a zs) (hI' : IsInts n₀ w a' ts) :
    Calls Tryd.prog 16 #[.slice a l cap, .slice a' n cap'] w fun e w' => e = .returned (.int .i64 (P : Nat)) ∧ w' = w := by
  subst hl
  exact where_n a cap zs a' cap' n ts hn P hP hreach he hins n₀ w hI hI'
set_option maxRecDepth 100000 in
set_option maxHeartbeats 8000000 in
theorem line2_any (c : Bool) (sa : Option Addr) (sc : Nat) (sz : List Int) (da : Option Addr) (dc : Nat) (dz : List Int) (x : Nat) (ta : Option Addr) (tc : Nat) (t : List Int) (a n l : Nat) (htl : t.length = l) (hls : sz.length = l) (hx : x < l) (he : errOf sz = 0) (hd0 : (dz.length : Int) = prod sz) (hin : ∀ j : Nat, j < n → insB sz (t.set x ((a : Int) + j)) = true) (ha : a ≤ 4096) (hn : n ≤ 4096) (w : World) (hs : IsInts w.heap.size w sa sz) (hd : IsInts w.heap.size w da dz) (ht : IsInts w.heap.size w ta t) :
    Calls Tryd.prog 27 #[.agg #[.bool c, .slice sa l sc, .slice da dz.length dc], .int .i64 (x : Nat), .slice ta l tc, .int .i64 (a : Nat), .int .i64 (n : Nat)] w fun e w' => ∃ g gc, e = .returned (.slice g n gc) ∧ NewC w.heap.size w' g (lnL sz dz x t a n) gc ∧ Below w.heap.size w w' := by
  have hz := errOf_zero.1 he
  have hl6 : l ≤ 6 := by rw [← hls]; exact hz.1
  have hdl : dz.length ≤ 4096 := by have := hz.2.2; omega
  have HI : Hid (IsInts w.heap.size w sa sz ∧ IsInts w.heap.size w da dz ∧ IsInts w.heap.size w ta t) := ⟨hs, hd, ht⟩
  have HF : Hid (errOf sz = 0 ∧ (dz.length : Int) = prod sz ∧ t.length = l ∧ sz.length = l ∧ ∀ j : Nat, j < n → insB sz (t.set x ((a : Int) + j)) = true) := ⟨he, hd0, htl, hls, hin⟩
  have hb0 : Hid (Below w.heap.size w (w.alloc (.cells #[.bool c, .slice sa l sc, .slice da dz.length dc] 25))) := (Below.refl _ w).alloc (Nat.le_refl _) _
  have pa : Hid (Abx (w.alloc (.cells #[.bool c, .slice sa l sc, .slice da dz.length dc] 25)) w.heap.size (.bool c) (.slice sa l sc) (.slice da dz.length dc)) := Abx.new w _ _ _
  have hs0 : (w.alloc (.cells #[.bool c, .slice sa l sc, .slice da dz.length dc] 25)).heap.size = w.heap.size + 1 := by simp
  clear hs hd ht he hd0 htl hls hin hz
  go_enter Tryd.func27, Tryd.ntmps27
  go_wp2_with fail
  go_loopw [12, 13] (fun v i wr => ∃ k : Nat, k ≤ l ∧ i = .int .i64 k ∧ wr.ownsRow (w.heap.size + 1) 3 1 v (t.take k).length ((t.take k).map (Value.int .i64)) ∧ Abx wr w.heap.size (.bool c) (.slice sa l sc) (.slice da dz.length dc) ∧ w.heap.size + 1 ≤ wr.heap.size ∧ Below w.heap.size w wr) (fun _ i _ => l - (intOf i).toNat)
  case atStart => exact ⟨0, Nat.zero_le _, rfl, World.ownsRow_nil _ _ _ _, pa.out, by rw [hs0]; exact Nat.le_refl _, hb0.out⟩
  case round =>
    clear pa hb0 hs0
    obtain ⟨k, hk, rfl, hown, hA, hsz, hB⟩ := hrel
    by_cases hlt : k < l
    · have htk : k < t.length := by rw [HF.out.2.2.1]; exact hlt
      obtain ⟨bt, ot, rfl, hbt, hcT⟩ := (HI.out.2.2.below hB).at htk
      have ct := hcT k htk
      obtain ⟨T0, hT0⟩ : ∃ T0, T0 = nth t k := ⟨_, rfl⟩
      rw [← hT0] at ct
      obtain ⟨Q, hQ⟩ : ∃ Q, Q = t.take k := ⟨_, rfl⟩
      rw [← hQ] at hown
      have HO : Hid (wr.ownsRow (w.heap.size + 1) 3 1 u12 Q.length (Q.map (Value.int .i64)) ∧ Q.length = k ∧ t.take (k + 1) = Q ++ [T0]) := ⟨hown, by rw [hQ, List.length_take]; omega, by rw [hT0, hQ, take_snoc t k htk]⟩
      have HA : Hid (Abx wr w.heap.size (.bool c) (.slice sa l sc) (.slice da dz.length dc) ∧ Below w.heap.size w wr) := ⟨hA, hB⟩
      have HN : Hid ((wr.alloc (.cells #[.int .i64 T0] 3)).heap[wr.heap.size]? = some (.cells #[.int .i64 T0] 3 (0, 0))) := World.alloc_heap_new _ _
      clear hcT hown hA hB hT0 htk hQ
      go_wp2_with (at_builtin; refine app_list rfl _ _ rfl _ (w.heap.size + 1) wr.heap.size u12 Q T0 rfl rfl (HO.out.1.alloc _) HN.out (by rw [HO.out.2.1]; omega) (by simp; omega) ?_; intro g1 gc1 w3 hown1 hB3)
      have hz3 := hB3.size
      simp at hz3
      refine ⟨⟨k + 1, by omega, by go_num, ?_, ((HA.out.1.al _).bel hB3 (by omega)), by omega, (HA.out.2.alloc (by omega) _).trans (hB3.mono (by omega))⟩, by simp [intOf]; omega⟩
      rw [HO.out.2.2, List.length_append, List.length_singleton]
      exact hown1
    · obtain rfl : k = l := by omega
      have htt : t.take k = t := List.take_of_length_le (by rw [HF.out.2.2.1]; exact Nat.le_refl _)
      rw [htt] at hown
      obtain ⟨g, gc, rfl, hN⟩ := own_cap hown
      have hM := hN.midc
      obtain ⟨bc, oc, rfl, hc1, hc2, _, _⟩ := hM.at (i := x) (by rw [HF.out.2.2.1]; exact hx)
      rw [HF.out.2.2.1]
      obtain ⟨u, hu⟩ : ∃ u, u = wr := ⟨_, rfl⟩
      have HU : Hid (MidC (w.heap.size + 1) u.heap.size wr (some ⟨bc, oc, none⟩) t gc ∧ Abx wr w.heap.size (.bool c) (.slice sa k sc) (.slice da dz.length dc) ∧ Below w.heap.size w wr) := by rw [hu]; exact ⟨hM, hA, hB⟩
      have hus : u.heap.size = wr.heap.size := by rw [hu]
      have hus1 : w.heap.size + 1 ≤ u.heap.size := by rw [hu]; exact hsz
      rw [← hus] at hc2
      clear hown htt hN hM hA hB hu hlt hk hsz
      go_wp2_with fail
      go_loopw [11, 14] (fun v i wq => ∃ (m : Nat) (t' : List Int), m ≤ n ∧ i = .int .i64 ((a + m : Nat) : Int) ∧ t'.length = t.length ∧ (∀ v, t'.set x v = t.set x v) ∧ wq.ownsRow u.heap.size 3 1 v (lnL sz dz x t a m).length ((lnL sz dz x t a m).map (Value.int .i64)) ∧ MidC (w.heap.size + 1) u.heap.size wq (some ⟨bc, oc, none⟩) t' gc ∧ Abx wq w.heap.size (.bool c) (.slice sa k sc) (.slice da dz.length dc) ∧ u.heap.size ≤ wq.heap.size ∧ Below w.heap.size w wq) (fun _ i _ => a + n - (intOf i).toNat)
      case atStart => exact ⟨0, t, Nat.zero_le _, rfl, rfl, fun _ => rfl, World.ownsRow_nil _ _ _ _, HU.out.1, HU.out.2.1, by rw [hus]; exact Nat.le_refl _, HU.out.2.2⟩
      case round =>
        clear HU hus
        obtain ⟨m, t', hm, rfl, ht'l, ht's, hown, hM, hA, hsq, hB⟩ := hrel
        by_cases hlm : m < n
        · have hins := HF.out.2.2.2.2 m hlm
          have hpb := place_bd hins
          obtain ⟨P, hP⟩ : ∃ P : Nat, place sz (t.set x ((a : Int) + m)) = P := ⟨(place sz (t.set x ((a : Int) + m))).toNat, by omega⟩
          have hPd : P < dz.length := by have := HF.out.2.1; omega
          have hcel : nth dz P = cel sz dz (t.set x ((a : Int) + m)) := by unfold cel; rw [hP, Int.toNat_natCast]
          obtain ⟨_, _, e1, _, _, cg, fg⟩ := hM.at (i := x) (by rw [ht'l, HF.out.2.2.1]; exact hx)
          cases e1
          have hM2 := hM.put (i := x) (by rw [ht'l, HF.out.2.2.1]; exact hx) ((a : Int) + m)
          rw [ht's] at hM2
          obtain ⟨y, hy⟩ : ∃ y, y = wr.setCell ⟨bc, oc + x, none⟩ (.int .i64 ((a : Int) + m)) := ⟨_, rfl⟩
          have HY : Hid (wr.setCell ⟨bc, oc + x, none⟩ (.int .i64 ((a : Int) + m)) = y) := hy.symm
          have hys : y.heap.size = wr.heap.size := by rw [hy]; simp [World.setCell]
          have HYM : Hid (MidC (w.heap.size + 1) u.heap.size y (some ⟨bc, oc, none⟩) (t.set x ((a : Int) + m)) gc) := by rw [hy]; exact hM2
          have HYA : Hid (Abx y w.heap.size (.bool c) (.slice sa k sc) (.slice da dz.length dc)) := by rw [hy]; exact hA.ot (a := ⟨bc, oc + x, none⟩) (by show w.heap.size ≠ bc; omega) _
          have HYB : Hid (Below w.heap.size w y) := by rw [hy]; exact hB.setCell (p := ⟨bc, oc + x, none⟩) (by show w.heap.size ≤ bc; omega) _
          have HYO : Hid (y.ownsRow u.heap.size 3 1 u11 (lnL sz dz x t a m).length ((lnL sz dz x t a m).map (Value.int .i64))) := by rw [hy]; exact ownsRow_setCell_below hown (by show bc < u.heap.size; omega) _
          have HSN : Hid (lnL sz dz x t a (m + 1) = lnL sz dz x t a m ++ [nth dz P] ∧ (lnL sz dz x t a m).length = m) := ⟨by rw [lnL_snoc, hcel], lnL_length _ _ _ _ _ _⟩
          have HPP : Hid (place sz (t.set x ((a : Int) + m)) = P ∧ insB sz (t.set x ((a : Int) + m)) = true ∧ (t.set x ((a : Int) + m)).length = k) := ⟨hP, hins, by rw [List.length_set]; exact HF.out.2.2.1⟩
          obtain ⟨bd, od, rfl, hbd, hcD⟩ := (HI.out.2.1.below HYB.out).at hPd
          have cd := hcD P hPd
          have d1 := HYA.out.c1
          have d2 := HYA.out.c2
          have ham : ((a + m : Nat) : Int) = (a : Int) + m := by omega
          have hyu : u.heap.size ≤ y.heap.size := by omega
          clear hins hpb hP hcel hM hM2 hA hB hy hown hcD hys hsq
          rw [ham]
          go_wp2_with fail
          rw [HY.out]
          obtain ⟨Q, hQ⟩ : ∃ Q, Q = lnL sz dz x t a m := ⟨_, rfl⟩
          rw [← hQ] at HYO HSN
          have hown2 := HYO.out
          have hQl : Q.length = m := HSN.out.2
          clear hQ
          refine anyT_begin 11 (fun w' => w'.cell? ⟨w.heap.size, 2, none⟩ = some (.slice (some ⟨bd, od, none⟩) dz.length dc) ∧ w'.cell? ⟨w.heap.size, 1, none⟩ = some (.slice sa k sc) ∧ w'.cell? ⟨bd, od + P, none⟩ = some (.int .i64 (nth dz P))) 12 #[false, false, false, false, false, false, false, false, false, false, false, false] (by kernel_rfl) rfl rfl ?_
          refine anyT_put 0 40 ?rv0 #[true, false, false, false, false, false, false, false, false, false, false, false] rfl rfl rfl (by kernel_rfl) (by kernel_rfl) (by kernel_rfl) (fun _ _ _ h => h) (by decide) ?ry0 (fun _ => ⟨d2, d1, cd⟩) ?rm0
          case ry0 => first | exact Or.inl ⟨by rfl, by intro w'; go_simp; first | done | rfl⟩
          case rm0 =>
          simp only [Act.put, List.setIfInBounds_toArray, List.set_cons_zero, List.set_cons_succ]
          refine anyT_put 1 41 ?rv1 #[true, true, false, false, false, false, false, false, false, false, false, false] rfl rfl rfl (by kernel_rfl) (by kernel_rfl) (by kernel_rfl) (fun _ _ _ h => h) (by decide) ?ry1 (fun _ => ⟨d2, d1, cd⟩) ?rm1
          case ry1 => first | exact Or.inl ⟨by rfl, by intro w'; go_simp; first | done | rfl⟩
          case rm1 =>
          simp only [Act.put, List.setIfInBounds_toArray, List.set_cons_zero, List.set_cons_succ]
          refine anyT_take 2 42 ?rv2 #[true, true, true, false, false, false, false, false, false, false, false, false] rfl rfl rfl (by kernel_rfl) (by kernel_rfl) (by kernel_rfl) (fun _ _ _ h => h) (by kernel_rfl) (by decide) (by kernel_rfl) ?ry2 (⟨d2, d1, cd⟩) ?rm2
          case ry2 => first | exact Or.inl ⟨by rfl, by intro w' hw'; (try dsimp only at hw'); go_simp; first | done | rfl⟩
          case rm2 =>
          simp only [Act.put, List.setIfInBounds_toArray, List.set_cons_zero, List.set_cons_succ]
          refine anyT_put 3 43 ?rv3 #[true, true, true, true, false, false, false, false, false, false, false, false] rfl rfl rfl (by kernel_rfl) (by kernel_rfl) (by kernel_rfl) (fun _ _ _ h => h) (by decide) ?ry3 (fun _ => ⟨d2, d1, cd⟩) ?rm3
          case ry3 => first | exact Or.inl ⟨by rfl, by intro w'; go_simp; first | done | rfl⟩
          case rm3 =>
          simp only [Act.put, List.setIfInBounds_toArray, List.set_cons_zero, List.set_cons_succ]
          refine anyT_take 4 44 ?rv4 #[true, true, true, true, true, false, false, false, false, false, false, false] rfl rfl rfl (by kernel_rfl) (by kernel_rfl) (by kernel_rfl) (fun _ _ _ h => h) (by kernel_rfl) (by decide) (by kernel_rfl) ?ry4 (⟨d2, d1, cd⟩) ?rm4
          case ry4 => first | exact Or.inl ⟨by rfl, by intro w' hw'; (try dsimp only at hw'); go_simp; first | done | rfl⟩
          case rm4 =>
          simp only [Act.put, List.setIfInBounds_toArray, List.set_cons_zero, List.set_cons_succ]
          refine anyT_put 5 45 ?rv5 #[true, true, true, true, true, true, false, false, false, false, false, false] rfl rfl rfl (by kernel_rfl) (by kernel_rfl) (by kernel_rfl) (fun _ _ _ h => h) (by decide) ?ry5 (fun _ => ⟨d2, d1, cd⟩) ?rm5
          case ry5 => first | exact Or.inl ⟨by rfl, by intro w'; go_simp; first | done | rfl⟩
          case rm5 =>
          simp only [Act.put, List.setIfInBounds_toArray, List.set_cons_zero, List.set_cons_succ]
          refine anyT_one 6 #[true, true, true, true, true, true, true, false, false, false, false, false] (by kernel_rfl) rfl rfl (fun K hK => ?_)
          go_simp
          go_wp2_with (go_at_call 16; refine (where_l sa sc sz k HF.out.2.2.2.1 (some ⟨bc, oc, none⟩) gc k (t.set x ((a : Int) + m)) HPP.out.2.2 P HPP.out.1 (by omega) HF.out.1 HPP.out.2.1 y.heap.size y.drew ((HI.out.1.below HYB.out).mono HYB.out.size) (HYM.out.is (by omega)).1).mono ?_; rintro e w3 ⟨rfl, rfl⟩)
          refine hK.out _ _ (fun _ => ⟨d2, d1, cd⟩) ?_
          clear hK K
          refine anyT_put 7 47 ?rv7 #[true, true, true, true, true, true, true, true, false, false, false, false] rfl rfl rfl (by kernel_rfl) (by kernel_rfl) (by kernel_rfl) (fun _ _ _ h => h) (by decide) ?ry7 (fun _ => ⟨d2, d1, cd⟩) ?rm7
          case ry7 => first | exact Or.inl ⟨by rfl, by intro w'; go_simp; first | done | rfl⟩
          case rm7 =>
          simp only [Act.put, List.setIfInBounds_toArray, List.set_cons_zero, List.set_cons_succ]
          refine anyT_take 8 48 ?rv8 #[true, true, true, true, true, true, true, true, true, false, false, false] rfl rfl rfl (by kernel_rfl) (by kernel_rfl) (by kernel_rfl) (fun _ _ _ h => h) (by kernel_rfl) (by decide) (by kernel_rfl) ?ry8 (⟨d2, d1, cd⟩) ?rm8
          case ry8 => first | exact Or.inl ⟨by rfl, by intro w' hw'; (try dsimp only at hw'); go_simp; first | done | rfl⟩
          case rm8 =>
          simp only [Act.put, List.setIfInBounds_toArray, List.set_cons_zero, List.set_cons_succ]
          refine anyT_one 9 #[true, true, true, true, true, true, true, true, true, true, false, false] (by kernel_rfl) rfl rfl (fun K hK => ?_)
          go_simp
          have k0 := HYA.out.al (.cells #[.int .i64 (nth dz P)] 3)
          have k2 : (y.alloc (.cells #[.int .i64 (nth dz P)] 3)).cell? ⟨bd, od + P, none⟩ = some (.int .i64 (nth dz P)) := (World.cell?_alloc_lt y _ ⟨bd, od + P, none⟩ (by have := HYB.out.size; show bd < y.heap.size; omega)).trans cd
          refine hK.out _ _ (fun _ => ⟨k0.c2, k0.c1, k2⟩) ?_
          clear hK K
          refine anyT_one 10 #[true, true, true, true, true, true, true, true, true, true, true, false] (by kernel_rfl) rfl rfl (fun K hK => ?_)
          refine app_step 50 rfl rfl _ _ rfl _ u.heap.size y.heap.size u11 Q (nth dz P) rfl rfl ((hown2.alloc _).drew) (heap_alloc_new y _) (by omega) (by simp; omega) ?_
          intro g1 gc1 w4 hown1 hB4
          have P7 := k0.dr.bel hB4 (by omega)
          have xd : w4.cell? ⟨bd, od + P, none⟩ = some (.int .i64 (nth dz P)) := (hB4.cell (p := ⟨bd, od + P, none⟩) (by show bd < _; have := HYB.out.size; omega)).trans k2
          refine hK.out _ _ (fun _ => ⟨P7.c2, P7.c1, xd⟩) ?_
          clear hK K
          simp only [Act.put, List.setIfInBounds_toArray, List.set_cons_zero, List.set_cons_succ]
          refine anyT_one 11 #[true, true, true, true, true, true, true, true, true, true, true, true] (by kernel_rfl) rfl rfl (fun K hK => ?_)
          go_simp
          refine hK.out _ _ (fun h => absurd h (by decide)) ?_
          clear hK K
          refine anyT_done (by kernel_rfl) ?_
          go_wp2_with fail
          have hz4 := hB4.size
          simp at hz4
          refine ⟨⟨m + 1, t.set x ((a : Int) + m), by omega, by go_num, List.length_set, fun v => set_set _, ?_, ?_, P7, by omega, ?_⟩, by simp [intOf]; omega⟩
          · rw [HSN.out.1, List.length_append, List.length_singleton, hQl]
            rw [hQl] at hown1
            exact hown1
          · exact ⟨(((HYM.out.1.al (by omega) _).dr).bel hB4), HYM.out.2⟩
          · exact ((HYB.out.alloc HYB.out.size _).drew).trans (hB4.mono (by omega))
        · obtain rfl : m = n := by omega
          obtain ⟨g1, gc1, rfl, hN1⟩ := own_cap hown
          clear hown hM hA
          go_wp2_with fail
          go_ret
          exact ⟨g1, gc1, by rw [lnL_length]; rfl, hN1.low (by omega), hB⟩
end Go.Proofs.YtcpmendkocnlhaaDoor
