/-
  The library's sort in place, of numbers: two runs, one behind the other, turned round.
-/
import Derived.Test.YtmbgomljofngnabSrts
namespace Go.Proofs.Ytmbgomljofngnab
open Go.RowKit
set_option linter.unusedVariables false

theorem swr_int {S n sc f : Nat} {cs : List Value} {x y : Int} (a b m : Nat) (z : List Int) (hl : z.length = n) (hn : n ≤ 4096) (h1 : a + m ≤ b) (h2 : b + m ≤ n) (w : World) (hrow : w.rowIs S 3 n (zc z)) (hx : x = (a : Int)) (hy : y = (b : Int)) :
    Calls Try.prog 88 #[.slice (some ⟨S, 0, none⟩) n sc, .int .i64 x, .int .i64 y, .int .i64 (m : Nat), .func (.func f) #[] cs.toArray] w (SwP S n (mvL (swF a b m) z) w) := by
  subst hx hy; exact swr_any S n sc f cs a b m z hl hn h1 h2 w hrow
set_option maxRecDepth 100000 in
set_option maxHeartbeats 4000000 in
theorem rot_any (S n sc : Nat) (f : Nat) (cs : List Value) (a m b : Nat) (z : List Int) (hl : z.length = n) (hn : n ≤ 4096) (h1 : a < m) (h2 : m < b) (h3 : b ≤ n) (w : World) (hrow : w.rowIs S 3 n (zc z)) :
    Calls Try.prog 87 #[.slice (some ⟨S, 0, none⟩) n sc, .int .i64 (a : Nat), .int .i64 (m : Nat), .int .i64 (b : Nat), .func (.func f) #[] cs.toArray] w (SwP S n (mvL (rtF m (m - a) (b - m)) z) w) := by
  have HR : Hid (w.rowIs S 3 n (zc z)) := hrow
  have HL : Hid (z.length = n) := hl
  clear hrow hl
  obtain ⟨F, hF⟩ : ∃ F, F = mvL (rtF m (m - a) (b - m)) z := ⟨_, rfl⟩
  rw [← hF]
  have HF : Hid (F = mvL (rtF m (m - a) (b - m)) z) := hF
  clear hF
  go_enter Try.func87, Try.ntmps87
  go_wp2_with fail
  go_loopw [10, 11] (fun vi vj wr => ∃ i j : Nat, ∃ zr : List Int, 1 ≤ i ∧ 1 ≤ j ∧ i ≤ m ∧ m + j ≤ n ∧ vi = .int .i64 i ∧ vj = .int .i64 j ∧ zr.length = n ∧ mvL (rtF m i j) zr = F ∧ wr.rowIs S 3 n (zc zr) ∧ w.grownBy wr (some S)) (fun vi vj _ => (intOf vi).toNat + (intOf vj).toNat)
  case atStart => exact ⟨m - a, b - m, z, by omega, by omega, by omega, by omega, by congr 1; omega, by congr 1; omega, HL.out, HF.out.symm, HR.out, World.grownBy.refl _ _⟩
  case round =>
    obtain ⟨i, j, zr, hi, hj, him, hjn, rfl, rfl, hl, he, hrow, hG⟩ := hrel
    have HRr : Hid (wr.rowIs S 3 n (zc zr)) := hrow
    have HG : Hid (w.grownBy wr (some S)) := hG
    have HE : Hid (mvL (rtF m i j) zr = F) := he
    have HLr : Hid (zr.length = n) := hl
    clear hrow hG he hl
    by_cases hij : i = j
    · subst hij
      go_wp2_with fail
      refine (swr_int (m - i) m i zr HLr.out hn (by omega) (by omega) wr HRr.out (by omega) rfl).mono ?_
      rintro e w1 ⟨⟨v, rfl⟩, hrow1, hG1⟩
      have HR1 : Hid (w1.rowIs S 3 n (zc (mvL (swF (m - i) m i) zr))) := hrow1
      have HG1 : Hid (w.grownBy w1 (some S)) := sgrown_t HG.out hG1
      clear hrow1 hG1
      go_wp2_with fail
      go_end0
      refine ⟨⟨_, rfl⟩, ?_, HG1.out⟩
      rw [← HE.out, ← rtF_last him (by rw [HLr.out]; exact hjn)]
      exact HR1.out
    · have hne : ((i : Int) == (j : Int)) = false := by rw [beq_eq_false_iff_ne]; omega
      by_cases hlt : j < i
      · go_wp2_with fail
        refine (swr_int (m - i) m j zr HLr.out hn (by omega) (by omega) wr HRr.out (by omega) rfl).mono ?_
        rintro e w1 ⟨⟨v, rfl⟩, hrow1, hG1⟩
        have HR1 : Hid (w1.rowIs S 3 n (zc (mvL (swF (m - i) m j) zr))) := hrow1
        have HG1 : Hid (w.grownBy w1 (some S)) := sgrown_t HG.out hG1
        clear hrow1 hG1
        go_wp2_with fail
        exact ⟨⟨i - j, j, mvL (swF (m - i) m j) zr, by omega, hj, by omega, hjn, by congr 1; omega, rfl, by rw [mvL_length]; exact HLr.out, by rw [rtF_left hlt him (by rw [HLr.out]; exact hjn)]; exact HE.out, HR1.out, HG1.out⟩, by simp [intOf]; omega⟩
      · go_wp2_with fail
        refine (swr_int (m - i) (m + j - i) i zr HLr.out hn (by omega) (by omega) wr HRr.out (by omega) (by omega)).mono ?_
        rintro e w1 ⟨⟨v, rfl⟩, hrow1, hG1⟩
        have HR1 : Hid (w1.rowIs S 3 n (zc (mvL (swF (m - i) (m + j - i) i) zr))) := hrow1
        have HG1 : Hid (w.grownBy w1 (some S)) := sgrown_t HG.out hG1
        clear hrow1 hG1
        go_wp2_with fail
        exact ⟨⟨i, j - i, mvL (swF (m - i) (m + j - i) i) zr, hi, by omega, him, by omega, rfl, by congr 1; omega, by rw [mvL_length]; exact HLr.out, by rw [rtF_right (by omega) him (by rw [HLr.out]; exact hjn)]; exact HE.out, HR1.out, HG1.out⟩, by simp [intOf]; omega⟩
theorem rot_int {S n sc f : Nat} {cs : List Value} {x y : Int} (a m b : Nat) (z : List Int) (hl : z.length = n) (hn : n ≤ 4096) (h1 : a < m) (h2 : m < b) (h3 : b ≤ n) (w : World) (hrow : w.rowIs S 3 n (zc z)) (hx : x = (a : Int)) (hy : y = (b : Int)) :
    Calls Try.prog 87 #[.slice (some ⟨S, 0, none⟩) n sc, .int .i64 x, .int .i64 (m : Nat), .int .i64 y, .func (.func f) #[] cs.toArray] w (SwP S n (mvL (rtF m (m - a) (b - m)) z) w) := by
  subst hx hy; exact rot_any S n sc f cs a m b z hl hn h1 h2 h3 w hrow
end Go.Proofs.Ytmbgomljofngnab
