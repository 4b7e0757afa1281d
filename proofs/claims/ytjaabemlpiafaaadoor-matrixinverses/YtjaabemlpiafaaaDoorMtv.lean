/-
  A matrix and its inverse, as the program tells them.
-/
import Derived.Test.YtjaabemlpiafaaaDoorMte
import Derived.Test.YtjaabemlpiafaaaDoorMgn
namespace Go.Proofs.YtjaabemlpiafaaaDoor
open Go.RowKit
set_option linter.unusedVariables false

/-- The inverse's cells. -/
def vI (n : Nat) (dz : List Int) : List Int := cls n fun i j => wrap64 (ajg n (rdg n dz) i j * rcI (wrap64 (dt n (rdg n dz))) 5)
section
variable {n : Nat} {dz : List Int}
theorem vI_len (n : Nat) (dz : List Int) : (vI n dz).length = n * n := cls_len n _
theorem vI_64 (n : Nat) (dz : List Int) : ∀ p, In64 (nth (vI n dz) p) := cls_64 fun i j => w_64 _
theorem vI_at {i j : Nat} (hi : i < n) (hj : j < n) : cg (rdg n (vI n dz) i j) (ad (n - 1) (rdg n dz) i j * rcI (wrap64 (dt n (rdg n dz))) 5) := by
  unfold vI
  rw [rdg_cls hi hj]
  refine (cg_w _).trans (cg.mul ?_ (cg.rfl' _))
  rw [show ajg n (rdg n dz) i j = wrap64 (ad (n - 1) (rdg n dz) i j) from if_pos ⟨hi, hj⟩]
  exact cg_w _
theorem vI_o (h : wrap64 (dt n (rdg n dz)) % 2 = 1) : cg (rcI (wrap64 (dt n (rdg n dz))) 5 * dt n (rdg n dz)) 1 :=
  (cg.mul (cg.rfl' _) (cg_w _).symm).trans (rc_odd h)
theorem vI_right (h : wrap64 (dt n (rdg n dz)) % 2 = 1) : ∀ i, i < n → ∀ k, k < n → cg (mm n (rdg n dz) (rdg n (vI n dz)) i k) (un i k) := fun i hi k hk => by
  obtain ⟨m, rfl⟩ : ∃ m, n = m + 1 := ⟨n - 1, by omega⟩
  exact (cg.mm (fun _ _ _ _ => cg.rfl' _) (fun a ha b hb => vI_at ha hb) i hi k hk).trans (inv_right (vI_o h) hi hk)
theorem vI_left (h : wrap64 (dt n (rdg n dz)) % 2 = 1) : ∀ i, i < n → ∀ k, k < n → cg (mm n (rdg n (vI n dz)) (rdg n dz) i k) (un i k) := fun i hi k hk => by
  obtain ⟨m, rfl⟩ : ∃ m, n = m + 1 := ⟨n - 1, by omega⟩
  exact (cg.mm (fun a ha b hb => vI_at ha hb) (fun _ _ _ _ => cg.rfl' _) i hi k hk).trans (inv_left (vI_o h) hi hk)
theorem un_dgm (i j : Nat) : wrap64 (un i j) = dgm 1 i j := by
  unfold dgm
  by_cases e : i = j
  · subst e
    rw [if_pos rfl, show un i i = 1 from one_at i]
    exact w_small (by decide) (by decide)
  · rw [if_neg e, show un i j = 0 from one_ne (fun q => e q.symm)]
    exact w_small (by decide) (by decide)
theorem vI_r (h : wrap64 (dt n (rdg n dz)) % 2 = 1) : mmL n dz (vI n dz) = cls n (dgm 1) := cls_congr fun i hi j hj => by
  have := vI_right h i hi j hj
  unfold cg at this
  rw [this, un_dgm]
theorem vI_l (h : wrap64 (dt n (rdg n dz)) % 2 = 1) : mmL n (vI n dz) dz = cls n (dgm 1) := cls_congr fun i hi j hj => by
  have := vI_left h i hi j hj
  unfold cg at this
  rw [this, un_dgm]
theorem vI_odd (h : wrap64 (dt n (rdg n dz)) % 2 = 1) : wrap64 (dt n (rdg n (vI n dz))) % 2 = 1 := by
  have h1 : cg (dt n (mm n (rdg n dz) (rdg n (vI n dz)))) (dt n un) := cg.dt fun i hi k hk => vI_right h i hi k hk
  rw [dt_mul, dt_un] at h1
  have h2 := cg_even h1
  have h3 := cg_even (cg_w (dt n (rdg n dz)))
  rw [cg_even (cg_w (dt n (rdg n (vI n dz))))]
  rw [h] at h3
  rw [Int.mul_emod, ← h3] at h2
  have e2 : dt n (rdg n (vI n dz)) % 2 = 0 ∨ dt n (rdg n (vI n dz)) % 2 = 1 := by omega
  rcases e2 with e | e
  · rw [e] at h2
    exact absurd h2 (by decide)
  · exact e
theorem vI_back (hl : dz.length = n * n) (T : ∀ j, In64 (nth dz j)) (h : wrap64 (dt n (rdg n dz)) % 2 = 1) : vI n (vI n dz) = dz := by
  have hk := inv_only (vI_left (vI_odd h)) (vI_left h)
  refine Eq.trans (cls_congr fun i hi j hj => ?_) (cls_rdg hl)
  have e := hk i hi j hj
  unfold vI at e
  rw [rdg_cls hi hj] at e
  unfold cg at e
  rw [w_w] at e
  rw [show wrap64 (rdg n dz i j) = rdg n dz i j from by rw [rdg_at hi hj]; exact (T _).same] at e
  exact e
end
theorem minv_v (n : Nat) (hn : n ≤ 6) (sa : Option Addr) (sc : Nat) (da : Option Addr) (dc : Nat) (dz : List Int) (m : Nat) (hm : dz.length = m) (hl : dz.length = n * n) (w : World) (hs : IsInts w.heap.size w sa [(n : Int), (n : Int)]) (hd : IsInts w.heap.size w da dz) (hod : wrap64 (dt n (rdg n dz)) % 2 = 1) :
    Calls Tryd.prog 21 #[.agg #[.bool false, .slice sa 2 sc, .slice da m dc]] w (OkM n (vI n dz) w) := minv_ok n hn sa sc da dc dz m hm hl w hs hd hod
end Go.Proofs.YtjaabemlpiafaaaDoor
