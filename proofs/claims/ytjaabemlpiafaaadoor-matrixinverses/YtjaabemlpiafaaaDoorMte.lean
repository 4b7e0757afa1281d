/-
  A matrix and its adjugate, as the program tells them.
-/
import Derived.Test.YtjaabemlpiafaaaDoorMtb
import Derived.Test.YtjaabemlpiafaaaDoorMgl
namespace Go.Proofs.YtjaabemlpiafaaaDoor
open Go.RowKit
set_option linter.unusedVariables false

theorem ajg_64 (n : Nat) (A : Mx) : ∀ p, In64 (nth (cls n (ajg n A)) p) := cls_64 fun i j => by
  unfold ajg
  split
  · exact w_64 _
  · unfold In64; decide
theorem ajg_at {n : Nat} {A : Mx} {i j : Nat} (hi : i < n) (hj : j < n) : rdg n (cls n (ajg n A)) i j = wrap64 (ad (n - 1) A i j) := by
  rw [rdg_cls hi hj]
  exact if_pos ⟨hi, hj⟩
theorem adj_r (n : Nat) (dz : List Int) : mmL n dz (cls n (ajg n (rdg n dz))) = cls n (dgm (wrap64 (dt n (rdg n dz)))) := cls_congr fun i hi j hj => by
  obtain ⟨m, rfl⟩ : ∃ m, n = m + 1 := ⟨n - 1, by omega⟩
  have h : cg (mm (m + 1) (rdg (m + 1) dz) (rdg (m + 1) (cls (m + 1) (ajg (m + 1) (rdg (m + 1) dz)))) i j) (mm (m + 1) (rdg (m + 1) dz) (ad m (rdg (m + 1) dz)) i j) := cg.mm (fun _ _ _ _ => cg.rfl' _) (fun a ha b hb => by rw [ajg_at ha hb]; exact cg_w _) i hi j hj
  unfold cg at h
  rw [h, ad_right m _ hi hj]
  unfold dgm
  by_cases e : i = j
  · rw [if_pos e, if_pos e]
  · rw [if_neg e, if_neg e]
    exact w_small (by decide) (by decide)
theorem adj_l (n : Nat) (dz : List Int) : mmL n (cls n (ajg n (rdg n dz))) dz = cls n (dgm (wrap64 (dt n (rdg n dz)))) := cls_congr fun i hi j hj => by
  obtain ⟨m, rfl⟩ : ∃ m, n = m + 1 := ⟨n - 1, by omega⟩
  have h : cg (mm (m + 1) (rdg (m + 1) (cls (m + 1) (ajg (m + 1) (rdg (m + 1) dz)))) (rdg (m + 1) dz) i j) (mm (m + 1) (ad m (rdg (m + 1) dz)) (rdg (m + 1) dz) i j) := cg.mm (fun a ha b hb => by rw [ajg_at ha hb]; exact cg_w _) (fun _ _ _ _ => cg.rfl' _) i hi j hj
  unfold cg at h
  rw [h, ad_left m _ hi hj]
  unfold dgm
  by_cases e : i = j
  · rw [if_pos e, if_pos e]
  · rw [if_neg e, if_neg e]
    exact w_small (by decide) (by decide)
end Go.Proofs.YtjaabemlpiafaaaDoor
