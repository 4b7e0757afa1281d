/-
  A matrix flipped, as the program tells it.
-/
import Derived.Test.YtjaabemlpiafaabMte
import Derived.Test.YtjaabemlpiafaabMgu
namespace Go.Proofs.Ytjaabemlpiafaab
open Go.RowKit
set_option linter.unusedVariables false

theorem flp_sq {n : Nat} (hn : n ≤ 6) (dz : List Int) : flp2 (n : Int) (n : Int) dz = cls n (tr (rdg n dz)) := by
  rw [cls_TA hn]
  unfold flp2
  refine TA_congr (err_sq hn) fun t ht => ?_
  obtain ⟨i, j, rfl, hi, hj⟩ := ins_two ht
  show gm n n dz j i = rdg n dz j i
  rw [gm_nth (N := n) rfl, rdg_at (by omega) (by omega)]
theorem flp_flE {n : Nat} (hn : n ≤ 6) {dz : List Int} (hl : dz.length = n * n) : flE [1, 0] false [(n : Int), (n : Int)] dz = 0 ∧ axVal [(n : Int), (n : Int)] [1, 0] = [(n : Int), (n : Int)] ∧ GA [(n : Int), (n : Int)] dz [(n : Int), (n : Int)] (flpT [1, 0]) = cls n (tr (rdg n dz)) := by
  obtain ⟨h1, h2, h3⟩ := flp2_is (c := false) (dz := dz) (err_sq hn) (err_sq hn)
  refine ⟨?_, h2, h3.trans (flp_sq hn dz)⟩
  unfold flE
  rw [if_neg (by rw [sq_flaw hn hl]; decide)]
  exact h1
theorem tr_64 (n : Nat) {dz : List Int} (T : ∀ j, In64 (nth dz j)) : ∀ p, In64 (nth (cls n (tr (rdg n dz))) p) := cls_64 fun i j => by
  unfold tr rdg
  split
  · exact T _
  · unfold In64; decide
theorem dt_turned (n : Nat) (dz : List Int) : wrap64 (dt n (rdg n (cls n (tr (rdg n dz))))) = wrap64 (dt n (rdg n dz)) := by
  rw [dt_ext (D := tr (rdg n dz)) fun i hi j hj => rdg_cls hi hj, dt_tr]
theorem ch_turned (n : Nat) (dz : List Int) : chR n (rdg n (cls n (tr (rdg n dz)))) = chR n (rdg n dz) := by
  unfold chR
  refine List.map_congr_left fun t _ => ?_
  rw [← chc_tr n (rdg n dz)]
  exact cg.chc (fun i hi j hj => by rw [rdg_cls hi hj]; exact cg.rfl' _) _
theorem aj_turned (n : Nat) (dz : List Int) : cls n (ajg n (rdg n (cls n (tr (rdg n dz))))) = cls n (tr (rdg n (cls n (ajg n (rdg n dz))))) := cls_congr fun i hi j hj => by
  show _ = rdg n (cls n (ajg n (rdg n dz))) j i
  rw [ajg_at hj hi, show ajg n (rdg n (cls n (tr (rdg n dz)))) i j = wrap64 (ad (n - 1) (rdg n (cls n (tr (rdg n dz)))) i j) from if_pos ⟨hi, hj⟩]
  obtain ⟨m, rfl⟩ : ∃ m, n = m + 1 := ⟨n - 1, by omega⟩
  show wrap64 (ad m _ i j) = wrap64 (tr (ad m (rdg (m + 1) dz)) i j)
  rw [← ad_tr]
  exact cg.ad (fun a ha b hb => by rw [rdg_cls ha hb]; exact cg.rfl' _) hi hj
end Go.Proofs.Ytjaabemlpiafaab
