/-
  Products of relations by bits, a relation flipped, and what the program's Inner, Two and Flip tell of them.
-/
import Derived.Test.YtgaelbgeoobgiaaPrdw
import Derived.Test.YtgaelbgeoobgiaaPrdy
import Derived.Test.YtgaelbgeoobgiaaFldl
import Derived.Test.YtgaelbgeoobgiaaRlw
namespace Go.Proofs.Ytgaelbgeoobgiaa
open Go.RowKit
set_option linter.unusedVariables false

theorem err24 {n : Nat} (hn : n ≤ 24) : errOf [(n : Int), (n : Int)] = 0 := err_two ⟨by omega, by omega⟩ ⟨by omega, by omega⟩
theorem clL_TA {n : Nat} (hn : n ≤ 24) (A : Rl) : clL n A = TA [(n : Int), (n : Int)] fun t => bI (A (nth t 0).toNat (nth t 1).toNat) :=
  two_ext (xs := clL n A) (G := fun i j => bI (A i j)) (err24 hn) (by rw [clL_len]; simp [prod]) fun i j hi hj => by
    rw [gm_nth (N := n) rfl]
    exact clL_at A (by omega) (by omega)
theorem flaw24 {n : Nat} (hn : n ≤ 24) (A : Rl) : flawE false [(n : Int), (n : Int)] (clL n A) = 0 := by
  rw [clL_TA hn]
  exact TA_flaw (err24 hn) fun e => absurd e (by decide)
theorem bI_64 (x : Bool) : In64 (bI x) := by cases x <;> (unfold bI In64; decide)
theorem clL_64 (n : Nat) (A : Rl) : ∀ j, In64 (nth (clL n A) j) := fun j => by
  by_cases h : j < n * n
  · rw [clL_nth A h]; exact bI_64 _
  · rw [show nth (clL n A) j = 0 by unfold nth; rw [List.getD_eq_getElem?_getD, List.getElem?_eq_none (by rw [clL_len]; omega)]; rfl]
    unfold In64; decide
theorem and_bits (a b : Bool) : twoV 14 (bI a) (bI b) = bI (a && b) := by cases a <;> cases b <;> decide +kernel
theorem or_bits (a b : Bool) : twoV 15 (bI a) (bI b) = bI (a || b) := by cases a <;> cases b <;> decide +kernel
theorem srg24 : Srg 15 14 := .inr (.inr (.inr (.inl ⟨rfl, rfl⟩)))
theorem fold_or (p : Nat → Bool) : ∀ n, fdV 15 ((List.range n).map fun k => bI (p k)) = bI ((List.range n).any p)
  | 0 => by rw [List.range_zero, List.map_nil, fdV_nil, List.any_nil]; decide +kernel
  | n + 1 => by
    have hl : L64 ((List.range n).map fun k => bI (p k)) := L64.map fun k _ => bI_64 _
    have h1 : L64 [bI (p n)] := fun x hx => by rw [List.mem_singleton.1 hx]; exact bI_64 _
    rw [List.range_succ, List.map_append, List.map_cons, List.map_nil, srg24.su.app h1 hl, fdV_one, fold_or p n, or_bits, List.any_append, List.any_cons, List.any_nil, Bool.or_false]
/-- One step and then what there is. -/
def stB (R U : Rl) (n : Nat) : Rl := fun i j => (List.range n).any fun l => R i l && U l j
theorem st_inner {n : Nat} (hn : n ≤ 24) (R U : Rl) :
    inE 15 14 false [(n : Int), (n : Int)] (clL n R) false [(n : Int), (n : Int)] (clL n U) = 0 ∧ inS [(n : Int), (n : Int)] [(n : Int), (n : Int)] = [(n : Int), (n : Int)] ∧ inD 15 14 false [(n : Int), (n : Int)] (clL n R) false [(n : Int), (n : Int)] (clL n U) = clL n (stB R U n) := by
  obtain ⟨h1, h2, h3⟩ := in_two srg24.su srg24.pr (flaw24 hn R) (flaw24 hn U) (err24 hn) (clL_64 n R) (clL_64 n U)
  refine ⟨h1, h2, h3.trans ?_⟩
  rw [clL_TA hn (stB R U n)]
  refine TA_congr (err24 hn) fun t ht => ?_
  obtain ⟨i, j, rfl, hi, hj⟩ := ins_two ht
  show imm 15 14 n _ _ i j = bI (stB R U n i j)
  unfold imm stB
  rw [← fold_or]
  congr 1
  refine List.map_congr_left fun l hl => ?_
  have hl' := List.mem_range.1 hl
  rw [gm_nth (N := n) rfl, gm_nth (N := n) rfl, clL_at R (by omega) hl', clL_at U hl' (by omega), and_bits]
theorem st_two {n : Nat} (hn : n ≤ 24) (R U : Rl) :
    e2E 15 false [(n : Int), (n : Int)] (clL n R) false [(n : Int), (n : Int)] (clL n U) = 0 ∧ shp [(n : Int), (n : Int)] [(n : Int), (n : Int)] = [(n : Int), (n : Int)] ∧ e2V 15 false [(n : Int), (n : Int)] (clL n R) false [(n : Int), (n : Int)] (clL n U) = clL n fun i j => R i j || U i j := by
  rw [clL_TA hn R, clL_TA hn U, clL_TA hn fun i j => R i j || U i j]
  obtain ⟨h1, h2, h3⟩ := e2_mon (S := [(n : Int), (n : Int)]) (u := fun t => bI (R (nth t 0).toNat (nth t 1).toNat)) (v := fun t => bI (U (nth t 0).toNat (nth t 1).toNat)) srg24.su (err24 hn)
  exact ⟨h1, h2, h3.trans (TA_congr (err24 hn) fun t _ => or_bits _ _)⟩
theorem st_first (R : Rl) (n : Nat) : (clL n fun i j => R i j || stB R (clB R n) n i j) = clL n (clB R n) := clL_congr fun i hi j hj => by
  rw [Bool.eq_iff_iff, cl_first hj, Bool.or_eq_true]
  refine or_congr Iff.rfl ?_
  unfold stB
  rw [any_iff]
  exact ⟨fun ⟨m, h1, h2⟩ => ⟨m, h1, (Bool.and_eq_true _ _ ▸ h2)⟩, fun ⟨m, h1, h2, h3⟩ => ⟨m, h1, by rw [h2, h3]; rfl⟩⟩
theorem st_flip {n : Nat} (hn : n ≤ 24) (A : Rl) : flE [1, 0] false [(n : Int), (n : Int)] (clL n A) = 0 ∧ axVal [(n : Int), (n : Int)] [1, 0] = [(n : Int), (n : Int)] ∧ GA [(n : Int), (n : Int)] (clL n A) [(n : Int), (n : Int)] (flpT [1, 0]) = clL n fun i j => A j i := by
  obtain ⟨h1, h2, h3⟩ := flp2_is (c := false) (dz := clL n A) (err24 hn) (err24 hn)
  refine ⟨?_, h2, h3.trans ?_⟩
  · unfold flE
    rw [if_neg (by rw [flaw24 hn]; decide)]
    exact h1
  · rw [clL_TA hn fun i j => A j i]
    unfold flp2
    refine TA_congr (err24 hn) fun t ht => ?_
    obtain ⟨i, j, rfl, hi, hj⟩ := ins_two ht
    show gm n n (clL n A) j i = bI (A j i)
    rw [gm_nth (N := n) rfl, clL_at A (by omega) (by omega)]
theorem st_turn (R : Rl) (n : Nat) : clL n (clB (rdR n (clL n fun i j => R j i)) n) = clL n fun i j => clB R n j i := clL_congr fun i hi j hj => by
  rw [cl_eqv (A := rdR n (clL n fun i j => R j i)) (B := fun i j => R j i) (fun i hi j hj => rdR_clL _ hi hj) hi, Bool.eq_iff_iff]
  exact cl_turn hj hi
/-! ### What the program tells -/
def OkN (n N : Nat) (D : List Int) (w : World) (r : Ending) (w' : World) : Prop :=
  ∃ xa xc ya yc, r = .returned (.tuple #[.agg #[.bool false, .slice xa 2 xc, .slice ya N yc], .nilIface]) ∧ NewC w.heap.size w' xa [(n : Int), (n : Int)] xc ∧ NewC w.heap.size w' ya D yc ∧ Below w.heap.size w w'
/-- The same, of whose second list's room nothing is told. -/
def OkF (n N : Nat) (D : List Int) (w : World) (r : Ending) (w' : World) : Prop :=
  ∃ xa xc ya yc, r = .returned (.tuple #[.agg #[.bool false, .slice xa 2 xc, .slice ya N yc], .nilIface]) ∧ NewC w.heap.size w' xa [(n : Int), (n : Int)] xc ∧ NewC w.heap.size w' ya D N ∧ Below w.heap.size w w'
theorem okn_of {n N : Nat} {D : List Int} {w w' : World} {r : Ending} (hN : D.length = N) (h : OkB false [(n : Int), (n : Int)] D w r w') : OkN n N D w r w' := by subst hN; exact h
theorem inner24 (HNi : CNi) (n N : Nat) (hn : n ≤ 24) (R U : Rl) (hN : N = n * n) (sa : Option Addr) (sc : Nat) (da : Option Addr) (dc : Nat) (dz : List Int) (hz : dz = clL n R) (sa' : Option Addr) (sc' : Nat) (da' : Option Addr) (dc' : Nat) (dz' : List Int) (hz' : dz' = clL n U) (w : World)
    (hs : IsC w.heap.size w sa [(n : Int), (n : Int)] sc) (hd : IsInts w.heap.size w da dz) (hs' : IsC w.heap.size w sa' [(n : Int), (n : Int)] sc') (hd' : IsInts w.heap.size w da' dz') :
    Calls Try.prog 10 #[.int .i64 15, .int .i64 14, .agg #[.bool false, .slice sa 2 sc, .slice da N dc], .agg #[.bool false, .slice sa' 2 sc', .slice da' N dc']] w (OkN n N (clL n (stB R U n)) w) := by
  have h576 : n * n ≤ 24 * 24 := Nat.mul_le_mul hn hn
  subst hz hz'
  exact (niw_ok 15 14 false sa sc [(n : Int), (n : Int)] 2 rfl da dc (clL n R) N (by rw [clL_len, hN]) false sa' sc' [(n : Int), (n : Int)] 2 rfl da' dc' (clL n U) N (by rw [clL_len, hN]) w (by unfold In64; decide) (by unfold In64; decide) (by decide) (by omega) hs hd (clL_64 n R) (by decide) (by omega) hs' hd' (clL_64 n U) [(n : Int), (n : Int)] _ HNi (st_inner hn R U)).mono fun r w' h => okn_of (by rw [clL_len, hN]) h
theorem two24 (H : C2d) (n N : Nat) (hn : n ≤ 24) (R U : Rl) (hN : N = n * n) (sa : Option Addr) (sc : Nat) (da : Option Addr) (dc : Nat) (dz : List Int) (hz : dz = clL n R) (sa' : Option Addr) (sc' : Nat) (da' : Option Addr) (dc' : Nat) (dz' : List Int) (hz' : dz' = clL n U) (D : List Int) (hD : (clL n fun i j => R i j || U i j) = D) (w : World)
    (hs : IsC w.heap.size w sa [(n : Int), (n : Int)] sc) (hd : IsInts w.heap.size w da dz) (hs' : IsC w.heap.size w sa' [(n : Int), (n : Int)] sc') (hd' : IsInts w.heap.size w da' dz') :
    Calls Try.prog 11 #[.int .i64 15, .agg #[.bool false, .slice sa 2 sc, .slice da N dc], .agg #[.bool false, .slice sa' 2 sc', .slice da' N dc']] w (OkN n N D w) := by
  have h576 : n * n ≤ 24 * 24 := Nat.mul_le_mul hn hn
  subst hz hz' hD
  exact (c2w_ok H 15 false sa sc [(n : Int), (n : Int)] 2 rfl da dc (clL n R) N (by rw [clL_len, hN]) false sa' sc' [(n : Int), (n : Int)] 2 rfl da' dc' (clL n U) N (by rw [clL_len, hN]) w (by unfold In64; decide) (by decide) (by omega) hs.1 hd (clL_64 n R) (by decide) (by omega) hs'.1 hd' (clL_64 n U) [(n : Int), (n : Int)] _ (st_two hn R U)).mono fun r w' h => okn_of (by rw [clL_len, hN]) h
theorem flip24 (HFl : CFl) (n N : Nat) (hn : n ≤ 24) (A : Rl) (hN : N = n * n) (pa : Option Addr) (pc : Nat) (sa : Option Addr) (sc : Nat) (da : Option Addr) (dc : Nat) (dz : List Int) (hz : dz = clL n A) (w : World)
    (hp : IsInts w.heap.size w pa [1, 0]) (hs : IsC w.heap.size w sa [(n : Int), (n : Int)] sc) (hd : IsInts w.heap.size w da dz) :
    Calls Try.prog 12 #[.slice pa 2 pc, .agg #[.bool false, .slice sa 2 sc, .slice da N dc]] w (OkF n N (clL n fun i j => A j i) w) := by
  have h576 : n * n ≤ 24 * 24 := Nat.mul_le_mul hn hn
  have hl : (clL n A).length = N := by rw [clL_len, hN]
  subst hz
  have h := flw13 false sa sc [(n : Int), (n : Int)] da dc (clL n A) w (by simp) (by rw [clL_len]; omega) hs hd (clL_64 n A) HFl pa pc [1, 0] 2 rfl (by decide) hp [(n : Int), (n : Int)] _ (st_flip hn A)
  rw [hl] at h
  refine h.mono fun r w' h2 => ?_
  obtain ⟨xa, xc, ya, yc, q1, q2, q3, q4⟩ := h2
  have hl2 : (clL n fun i j => A j i).length = N := by rw [clL_len, hN]
  rw [hl2] at q1
  rw [hl2] at q3
  exact ⟨xa, xc, ya, yc, q1, q2, q3, q4⟩
end Go.Proofs.Ytgaelbgeoobgiaa
