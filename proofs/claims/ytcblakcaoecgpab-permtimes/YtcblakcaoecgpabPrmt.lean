/-
  Cycles as they are told; the product of their lengths so far; is a number between two.
-/
import Derived.Test.YtcblakcaoecgpabPrmv
namespace Go.Proofs.Ytcblakcaoecgpab
open Go.RowKit
set_option linter.unusedVariables false

/-- Lists are told. -/
def OkR (R : List (List Int)) (w : World) (r : Ending) (w' : World) : Prop := ∃ g gc rs, r = .returned (.tuple #[.slice g rs.length gc, .nilIface]) ∧ Hid (rws rs = R) ∧ IsRs w'.heap.size w' g rs ∧ Below w.heap.size w w'
theorem UR9.ok {e : Int} {R : List (List Int)} {w w' : World} {r : Ending} (h : e = 0) (H : UR9 e R w r w') : OkR R w r w' := by
  subst h
  obtain ⟨g, gc, rs, hr, h1, h2, h3⟩ := H
  exact ⟨g, gc, rs, hr, h1, h2, h3⟩
def NoR (e : Int) (w : World) (r : Ending) (w' : World) : Prop := ∃ g gc, r = .returned (.tuple #[.slice g 0 gc, .iface 45 (.int .i64 e)]) ∧ Below w.heap.size w w'
theorem UR9.no {e : Int} {R : List (List Int)} {w w' : World} {r : Ending} (h : e ≠ 0) (H : UR9 e R w r w') : NoR e w r w' := by
  obtain ⟨g, gc, rs, hr, h1, h2, h3⟩ := H
  rw [if_neg h] at h1
  have e1 : rs = [] := List.map_eq_nil_iff.1 h1
  subst e1
  exact ⟨g, gc, by rw [hr, errV_pos h]; rfl, h3⟩
theorem cy_ok (a : Option Addr) (cap : Nat) (p : List Int) (l : Nat) (hl : p.length = l) (w : World) (h1 : l ≤ 9223372036854775807) (hs : IsInts w.heap.size w a p) (T : ∀ j, In64 (nth p j)) (H : CPy) (h : orE p = 0) :
    Calls Try.prog 10 #[.slice a l cap] w (OkR (rnds p) w) := by
  subst hl
  exact (H a cap p w h1 hs T).mono fun r w' h' => UR9.ok h h'
theorem cy_no (a : Option Addr) (cap : Nat) (p : List Int) (l : Nat) (hl : p.length = l) (w : World) (h1 : l ≤ 9223372036854775807) (hs : IsInts w.heap.size w a p) (T : ∀ j, In64 (nth p j)) (H : CPy) (h : orE p ≠ 0) :
    Calls Try.prog 10 #[.slice a l cap] w (NoR (orE p) w) := by
  subst hl
  exact (H a cap p w h1 hs T).mono fun r w' h' => UR9.no h h'
/-- The product of the first lengths. -/
def pnk (p : List Int) (k : Nat) : Nat := prodN (((rnds p).take k).map List.length)
theorem prodN_snoc : ∀ (l : List Nat) (x : Nat), prodN (l ++ [x]) = prodN l * x
  | [], x => by simp [prodN]
  | y :: l, x => by
    show y * prodN (l ++ [x]) = y * prodN l * x
    rw [prodN_snoc l x, Nat.mul_assoc]
theorem sum_snoc : ∀ (l r : List Nat), (l ++ r).foldr (· + ·) 0 = l.foldr (· + ·) 0 + r.foldr (· + ·) 0
  | [], r => by simp
  | y :: l, r => by simp only [List.cons_append, List.foldr_cons, sum_snoc l r]; omega
section
variable {p : List Int}
theorem pnk_succ {k : Nat} (h : k < (rnds p).length) : pnk p (k + 1) = pnk p k * (rnds p)[k].length := by
  unfold pnk
  rw [List.take_succ_eq_append_getElem h, List.map_append, List.map_cons, List.map_nil, prodN_snoc]
theorem pnk_le (hp : IsOrd p) (h : p.length ≤ 20) (k : Nat) : pnk p k ≤ 1048576 := by
  unfold pnk
  refine Nat.le_trans (prod_small _) (Nat.le_trans (Nat.pow_le_pow_right (n := 2) (j := 20) (by decide) ?_) (by decide))
  have h1 := lens_sum hp
  have h2 : (rnds p).map List.length = ((rnds p).take k).map List.length ++ ((rnds p).drop k).map List.length := by rw [← List.map_append, List.take_append_drop]
  rw [h2, sum_snoc] at h1
  omega
theorem pnk_all (hp : IsOrd p) : pwI p (pnk p (rnds p).length : Nat) = idn p.length := by
  unfold pnk
  rw [List.take_length, pwI_nat]
  exact pw_long hp
theorem rws_len {rs : List RwV} (h : rws rs = rnds p) : rs.length = (rnds p).length := by rw [← h]; simp [rws]
theorem rws_at {rs : List RwV} (h : rws rs = rnds p) {k : Nat} (hk : k < rs.length) (hk' : k < (rnds p).length) : (rwz rs k).2 = (rnds p)[k] := by
  rw [rwz_get hk]
  have : (rws rs)[k]'(by simpa [rws] using hk) = rs[k].2 := by simp [rws]
  rw [← this]
  simp [h]
/-- What the rounds of a loop over the cycles' lengths need. -/
theorem rws_step {rs : List RwV} (hp : IsOrd p) (h20 : p.length ≤ 20) (h : rws rs = rnds p) {k : Nat} (hk : k < rs.length) : 2 ≤ (rwz rs k).2.length ∧ (rwz rs k).2.length ≤ 20 ∧ pnk p (k + 1) = pnk p k * (rwz rs k).2.length := by
  have hk' : k < (rnds p).length := by rw [← rws_len h]; exact hk
  have e := rws_at h hk hk'
  have hl := rnds_len hp (List.getElem_mem hk')
  rw [e]
  exact ⟨hl.1, by omega, pnk_succ hk'⟩
end
set_option maxRecDepth 100000 in
set_option maxHeartbeats 1000000 in
theorem within_any (n lo hi : Int) (w : World) :
    Calls Try.prog 7 #[.int .i64 n, .int .i64 lo, .int .i64 hi] w fun e w' => e = .returned (.bool (decide (lo ≤ n ∧ n ≤ hi))) ∧ Below w.heap.size w w' := by
  obtain ⟨b, hb⟩ : ∃ b, b = decide (lo ≤ n ∧ n ≤ hi) := ⟨_, rfl⟩
  rw [← hb]
  have HB : Hid (b = decide (lo ≤ n ∧ n ≤ hi)) := hb
  clear hb
  by_cases h1 : lo ≤ n
  · by_cases h2 : n ≤ hi
    · have HD : Hid (b = true) := HB.out.trans (decide_eq_true ⟨h1, h2⟩)
      go_enter Try.func7, Try.ntmps7
      go_wp2_with fail
      go_ret
      exact ⟨ret_bool HD.out.symm, Below.refl _ _⟩
    · have HD : Hid (b = false) := HB.out.trans (decide_eq_false fun q => h2 q.2)
      go_enter Try.func7, Try.ntmps7
      go_wp2_with fail
      go_ret
      exact ⟨ret_bool HD.out.symm, Below.refl _ _⟩
  · have HD : Hid (b = false) := HB.out.trans (decide_eq_false fun q => h1 q.1)
    go_enter Try.func7, Try.ntmps7
    go_wp2_with fail
    go_ret
    exact ⟨ret_bool HD.out.symm, Below.refl _ _⟩
theorem within_ok (n lo hi : Int) (h : lo ≤ n ∧ n ≤ hi) (w : World) : Calls Try.prog 7 #[.int .i64 n, .int .i64 lo, .int .i64 hi] w fun e w' => e = .returned (.bool true) ∧ Below w.heap.size w w' :=
  (within_any n lo hi w).mono fun e w' ⟨h1, h2⟩ => ⟨by rw [h1, decide_eq_true h], h2⟩
theorem within_no (n lo hi : Int) (h : ¬ (lo ≤ n ∧ n ≤ hi)) (w : World) : Calls Try.prog 7 #[.int .i64 n, .int .i64 lo, .int .i64 hi] w fun e w' => e = .returned (.bool false) ∧ Below w.heap.size w w' :=
  (within_any n lo hi w).mono fun e w' ⟨h1, h2⟩ => ⟨by rw [h1, decide_eq_false h], h2⟩
end Go.Proofs.Ytcblakcaoecgpab
