/-
  Powers of a matrix, as the program tells them.
-/
import Derived.Test.YtjaabemlpiafaaaDoorMtb
import Derived.Test.YtjaabemlpiafaaaDoorMgm
namespace Go.Proofs.YtjaabemlpiafaaaDoor
open Go.RowKit
set_option linter.unusedVariables false

theorem pwg_64 (n : Nat) (A : Mx) (e : Nat) : ∀ p, In64 (nth (cls n (pwg n A e)) p) := cls_64 fun i j => by
  unfold pwg
  split
  · exact w_64 _
  · unfold In64; decide
theorem pwg_at {n : Nat} {A : Mx} {e i j : Nat} (hi : i < n) (hj : j < n) : rdg n (cls n (pwg n A e)) i j = wrap64 (pwM n A e i j) := by
  rw [rdg_cls hi hj]
  exact if_pos ⟨hi, hj⟩
theorem pow_mul (n : Nat) (A : Mx) (e f : Nat) : mmL n (cls n (pwg n A e)) (cls n (pwg n A f)) = cls n (pwg n A (e + f)) := cls_congr fun i hi j hj => by
  have h : cg (mm n (rdg n (cls n (pwg n A e))) (rdg n (cls n (pwg n A f))) i j) (mm n (pwM n A e) (pwM n A f) i j) := cg.mm (fun a ha b hb => by rw [pwg_at ha hb]; exact cg_w _) (fun a ha b hb => by rw [pwg_at ha hb]; exact cg_w _) i hi j hj
  unfold cg at h
  rw [h, pwM_add n A e f i hi j hj]
  exact (if_pos ⟨hi, hj⟩).symm
theorem pow_one {n : Nat} {dz : List Int} (hl : dz.length = n * n) (T : ∀ j, In64 (nth dz j)) : cls n (pwg n (rdg n dz) 1) = dz := by
  refine (cls_congr fun i hi j hj => ?_).trans (cls_rdg hl)
  exact (rdg_pw T i j).symm
end Go.Proofs.YtjaabemlpiafaaaDoor
