/-
  Plain mathematics of cells that are gathered by lists of indices, one for each axis; nothing of the program.
-/
import Derived.Test.YtnfdcdoelhanlaaCutq
import Derived.Test.YtnfdcdoelhanlaaBase
import Derived.Test.YtnfdcdoelhanlaaPlacem
namespace Go.Proofs.Ytnfdcdoelhanlaa
open Go.RowKit
set_option linter.unusedVariables false

def rl (rs : List (List Int)) (k : Nat) : List Int := rs.getD k []
def gaS (rs : List (List Int)) : List Int := rs.map fun r => (r.length : Int)
def gaT (rs : List (List Int)) (t : List Int) : List Int := (List.range rs.length).map fun k => nth (rl rs k) (nth t k).toNat
def gaC (c : Bool) (s dz : List Int) (rs : List (List Int)) (t : List Int) : Int := if insB s (gaT rs t) = true then cel s dz (gaT rs t) else fillE c
def gaD (c : Bool) (s dz : List Int) (rs : List (List Int)) : List Int := TA (gaS rs) (gaC c s dz rs)
section
variable {rs : List (List Int)} {t : List Int} {k : Nat}
theorem gaS_length : (gaS rs).length = rs.length := by simp [gaS]
theorem gaS_nth (h : k < rs.length) : nth (gaS rs) k = (rl rs k).length := by simp [gaS, rl, nth, h]
theorem gaT_length : (gaT rs t).length = rs.length := by simp [gaT]
theorem gaT_nth (h : k < rs.length) : nth (gaT rs t) k = nth (rl rs k) (nth t k).toNat := by simp [gaT, nth, h]
end
theorem crd_drop : ∀ (s : List Int) (p : Int) (k : Nat), (crd s p).1.drop k = (crd (s.drop k) p).1
  | _, _, 0 => rfl
  | [], p, k + 1 => by simp [crd]
  | x :: s, p, k + 1 => by
    simp only [crd, List.drop_succ_cons]
    exact crd_drop s p k
theorem crd_at (s : List Int) (p : Int) {k : Nat} (h : k < s.length) : nth (crd s p).1 k = (crd (s.drop (k + 1)) p).2.tmod (nth s k) := by
  have e := crd_drop s p k
  rw [drop_nth s k h, drop_nth _ k (by rw [crd_len]; exact h)] at e
  simp only [crd] at e
  exact (List.cons.inj e).1
/-! ### What the program reckons -/
def gI (rs : List (List Int)) (q : Int) (k : Nat) : Int := nth (rl rs k) (q.tmod (nth (gaS rs) k)).toNat
def gstep {N : Nat} (rs : List (List Int)) (zs : List Int) (q : (Int × Int) × (Int × Bool)) (x : Ax N) : (Int × Int) × (Int × Bool) :=
  ((q.1.1.tdiv (nth (gaS rs) x.1), wrap64 (q.1.2 + wrap64 (gI rs q.1.1 x.1 * q.2.1))), (wrap64 (q.2.1 * nth zs x.1), q.2.2 && decide (0 ≤ gI rs q.1.1 x.1 ∧ gI rs q.1.1 x.1 < nth zs x.1)))
section
variable {N : Nat} (rs : List (List Int)) (zs : List Int) (p : Int) (pre : List (Ax N))
def gQ : Int := (pre.foldl (gstep rs zs) ((p, 0), (1, true))).1.1
def gV : Int := (pre.foldl (gstep rs zs) ((p, 0), (1, true))).1.2
def gA : Int := (pre.foldl (gstep rs zs) ((p, 0), (1, true))).2.1
def gB : Bool := (pre.foldl (gstep rs zs) ((p, 0), (1, true))).2.2
theorem gQ_snoc (k : Nat) (hk : k < N) : gQ rs zs p (pre ++ [⟨k, hk⟩]) = (gQ rs zs p pre).tdiv (nth (gaS rs) k) := by
  simp only [gQ, List.foldl_append, List.foldl_cons, List.foldl_nil, gstep]
theorem gV_snoc (k : Nat) (hk : k < N) : gV rs zs p (pre ++ [⟨k, hk⟩]) = wrap64 (gV rs zs p pre + wrap64 (gI rs (gQ rs zs p pre) k * gA rs zs p pre)) := by
  simp only [gQ, gV, gA, List.foldl_append, List.foldl_cons, List.foldl_nil, gstep]
theorem gA_snoc (k : Nat) (hk : k < N) : gA rs zs p (pre ++ [⟨k, hk⟩]) = wrap64 (gA rs zs p pre * nth zs k) := by
  simp only [gA, List.foldl_append, List.foldl_cons, List.foldl_nil, gstep]
theorem gB_snoc (k : Nat) (hk : k < N) : gB rs zs p (pre ++ [⟨k, hk⟩]) = (gB rs zs p pre && decide (0 ≤ gI rs (gQ rs zs p pre) k ∧ gI rs (gQ rs zs p pre) k < nth zs k)) := by
  unfold gB gQ
  rw [List.foldl_append]
  rfl
end
theorem gQ_fold {N : Nat} {rs : List (List Int)} {zs : List Int} (h : AllPos (gaS rs)) (hN : N = rs.length) : ∀ (pre : List (Ax N)) (s : (Int × Int) × (Int × Bool)), 0 ≤ s.1.1 → 0 ≤ (pre.foldl (gstep rs zs) s).1.1 ∧ (pre.foldl (gstep rs zs) s).1.1 ≤ s.1.1
  | [], s, hs => ⟨hs, Int.le_refl _⟩
  | x :: pre, s, hs => by
    have hx := h _ (nth_mem (gaS rs) x.1 (by rw [gaS_length, ← hN]; exact x.2))
    have e1 : 0 ≤ s.1.1.tdiv (nth (gaS rs) x.1) := Int.tdiv_nonneg hs (by omega)
    have e2 : s.1.1.tdiv (nth (gaS rs) x.1) ≤ s.1.1 := by
      have ed := Int.tmod_add_mul_tdiv s.1.1 (nth (gaS rs) x.1)
      have em := Int.tmod_nonneg (nth (gaS rs) x.1) hs
      have : 1 * s.1.1.tdiv (nth (gaS rs) x.1) ≤ nth (gaS rs) x.1 * s.1.1.tdiv (nth (gaS rs) x.1) := Int.mul_le_mul_of_nonneg_right (by omega) e1
      omega
    have ih := gQ_fold (zs := zs) h hN pre (gstep rs zs s x) e1
    rw [List.foldl_cons]
    have e3 : (gstep rs zs s x).1.1 = s.1.1.tdiv (nth (gaS rs) x.1) := rfl
    omega
theorem gQ_bd {N : Nat} {rs : List (List Int)} {zs : List Int} (h : AllPos (gaS rs)) (hN : N = rs.length) {p : Int} (hp : 0 ≤ p) (pre : List (Ax N)) : 0 ≤ gQ rs zs p pre ∧ gQ rs zs p pre ≤ p := gQ_fold h hN pre ((p, 0), (1, true)) hp
theorem gw (V i A : Int) : wrap64 (wrap64 V + wrap64 (i * wrap64 A)) = wrap64 (i * A + V) := by
  rw [w_mulr, w_addl, w_addr, Int.add_comm]
theorem gfold {N : Nat} (rs : List (List Int)) (zs : List Int) (hN : N = rs.length) (hl : N = zs.length) (p : Int) (k : Nat) (hk : k ≤ N) :
    (dn N k).foldl (gstep rs zs) ((p, 0), (1, true)) = (((crd ((gaS rs).drop (N - k)) p).2, wrap64 (place (zs.drop (N - k)) ((gaT rs (crd (gaS rs) p).1).drop (N - k)))), (wrap64 (prod (zs.drop (N - k))), insB (zs.drop (N - k)) ((gaT rs (crd (gaS rs) p).1).drop (N - k)))) := by
  have := fold_dn N (gstep rs zs) (fun k => (((crd ((gaS rs).drop k) p).2, wrap64 (place (zs.drop k) ((gaT rs (crd (gaS rs) p).1).drop k))), (wrap64 (prod (zs.drop k)), insB (zs.drop k) ((gaT rs (crd (gaS rs) p).1).drop k)))) (fun k hk => by
    have hk' : k < rs.length := by omega
    have e1 := drop_nth zs k (by omega)
    have e2 := drop_nth (gaT rs (crd (gaS rs) p).1) k (by rw [gaT_length]; exact hk')
    have e3 := drop_nth (gaS rs) k (by rw [gaS_length]; exact hk')
    have e4 : gI rs (crd ((gaS rs).drop (k + 1)) p).2 k = nth (gaT rs (crd (gaS rs) p).1) k := by
      rw [gaT_nth hk', crd_at _ _ (by rw [gaS_length]; exact hk')]; rfl
    simp only [gstep, e4]
    rw [e1, e2, e3]
    simp only [crd, place, prod, insB, gw, w_mull]
    rw [Int.mul_comm (prod _) (nth zs k), Bool.and_comm]) k hk
  have h1 : (gaS rs).drop N = [] := List.drop_eq_nil_of_le (by rw [gaS_length]; omega)
  have h2 : (gaT rs (crd (gaS rs) p).1).drop N = [] := List.drop_eq_nil_of_le (by rw [gaT_length]; omega)
  have h3 : zs.drop N = [] := List.drop_eq_nil_of_le (by omega)
  have e0 : (((p, 0), (1, true)) : (Int × Int) × (Int × Bool)) = (((crd [] p).2, wrap64 (place [] [])), (wrap64 (prod []), insB [] [])) := by simp [crd, place, prod, insB, wrap64]
  rw [← this, h1, h2, h3, e0]
theorem g_all {N : Nat} {rs : List (List Int)} {zs : List Int} (hN : N = rs.length) (hl : N = zs.length) (p : Nat) : gB rs zs p (dn N N) = insB zs (gaT rs (cr (gaS rs) p)) ∧ gV rs zs p (dn N N) = wrap64 (place zs (gaT rs (cr (gaS rs) p))) := by
  have h := gfold rs zs hN hl p N (Nat.le_refl _)
  rw [Nat.sub_self] at h
  unfold gB gV
  rw [h]
  exact ⟨rfl, rfl⟩
theorem g_some {N : Nat} {rs : List (List Int)} {zs : List Int} (hN : N = rs.length) (hl : N = zs.length) (p : Nat) {k : Nat} (hk : k ≤ N) (h : gB rs zs p (dn N k) = false) : insB zs (gaT rs (cr (gaS rs) p)) = false := by
  have e := gfold rs zs hN hl p k hk
  unfold gB at h
  rw [e] at h
  cases hq : insB zs (gaT rs (cr (gaS rs) p))
  · rfl
  · rw [← h]; exact (insB_drop (N - k) hq).symm
/-! ### Numbers one behind the other -/
def runL (f : Int) (m : Nat) : List Int := (List.range m).map fun j => f + (j : Nat)
theorem runL_length (f : Int) (m : Nat) : (runL f m).length = m := by simp [runL]
theorem runL_nth (f : Int) {m j : Nat} (h : j < m) : nth (runL f m) j = f + j := by simp [runL, nth, h]
/-! ### Take, Drop -/
def endL (n l : Int) : List Int := runL (if 0 ≤ n then 0 else l + n) (tks n).toNat
def tkR (s n : List Int) : List (List Int) := (List.range n.length).map fun k => endL (nth n k) (nth s k)
theorem tkR_length (s n : List Int) : (tkR s n).length = n.length := by simp [tkR]
theorem tkR_at (s n : List Int) {k : Nat} (h : k < n.length) : rl (tkR s n) k = endL (nth n k) (nth s k) := by simp [tkR, rl, h]
theorem tks_nn (x : Int) : 0 ≤ tks x := by unfold tks; split <;> omega
theorem tkR_S (s n : List Int) : gaS (tkR s n) = tkS n := by
  refine nth_ext (by rw [gaS_length, tkR_length, tkS_length]) fun k hk => ?_
  rw [gaS_length, tkR_length] at hk
  rw [gaS_nth (by rw [tkR_length]; exact hk), tkR_at s n hk, tkS_nth n hk, endL, runL_length]
  have := tks_nn (nth n k)
  omega
theorem tkR_T {s n t : List Int} (ht : insB (tkS n) t = true) : gaT (tkR s n) t = addL t (tkU s n) := by
  have hl := insB_len ht
  rw [tkS_length] at hl
  refine nth_ext (by rw [gaT_length, tkR_length, addL_length, hl]) fun k hk => ?_
  rw [gaT_length, tkR_length] at hk
  have hb := ins_at ht (x := k) (by rw [tkS_length]; exact hk)
  rw [tkS_nth n hk] at hb
  rw [gaT_nth (by rw [tkR_length]; exact hk), tkR_at s n hk, endL, runL_nth _ (by omega), addL_nth _ _ (by omega), tkU_nth s n hk]
  omega
theorem tk_ga {s n dz : List Int} {c : Bool} (he : errOf (tkS n) = 0) : gaD c s dz (tkR s n) = tkD n c s dz := by
  unfold gaD tkD ptD
  rw [tkR_S]
  exact TA_congr he fun t ht => by unfold gaC ptC; rw [tkR_T ht]
def rst (n l : Int) : Int := if n < 0 then max (l + n) 0 else -max (l - n) 0
def lft (s n : List Int) : List Int := (List.range n.length).map fun k => rst (nth n k) (nth s k)
theorem lft_length (s n : List Int) : (lft s n).length = n.length := by simp [lft]
theorem lft_nth (s n : List Int) {k : Nat} (h : k < n.length) : nth (lft s n) k = rst (nth n k) (nth s k) := by simp [lft, nth, h]
theorem rst_tks {n l : Int} (h : 0 ≤ l) : tks (rst n l) = drs l n ∧ (if 0 ≤ rst n l then 0 else l + rst n l) = dru l n := by
  unfold rst tks drs dru
  repeat' split
  all_goals omega
theorem lft_S {s n : List Int} (hs : AllIn s) (hl : n.length = s.length) : tkS (lft s n) = drS s n := by
  refine nth_ext (by rw [tkS_length, lft_length, drS_length]) fun k hk => ?_
  rw [tkS_length, lft_length] at hk
  rw [tkS_nth _ (by rw [lft_length]; exact hk), lft_nth s n hk, drS_nth s n hk]
  exact (rst_tks (hs.nth k).1).1
theorem lft_U {s n : List Int} (hs : AllIn s) (hl : n.length = s.length) : tkU s (lft s n) = drU s n := by
  refine nth_ext (by rw [tkU_length, lft_length, drU_length]) fun k hk => ?_
  rw [tkU_length, lft_length] at hk
  rw [tkU_nth _ _ (by rw [lft_length]; exact hk), lft_nth s n hk, drU_nth s n hk]
  exact (rst_tks (hs.nth k).1).2
/-! ### Along one axis -/
def idR (s : List Int) : List (List Int) := s.map fun l => runL 0 l.toNat
def alR (s : List Int) (x : Nat) (L : List Int) : List (List Int) := (idR s).set x L
theorem idR_length (s : List Int) : (idR s).length = s.length := by simp [idR]
theorem idR_at (s : List Int) {k : Nat} (h : k < s.length) : rl (idR s) k = runL 0 (nth s k).toNat := by simp [idR, rl, nth, h]
theorem alR_length (s : List Int) (x : Nat) (L : List Int) : (alR s x L).length = s.length := by simp [alR, idR]
theorem rl_set (rs : List (List Int)) (x : Nat) (L : List Int) (h : x < rs.length) (k : Nat) : rl (rs.set x L) k = if k = x then L else rl rs k := by
  unfold rl
  simp only [List.getD_eq_getElem?_getD, List.getElem?_set]
  by_cases e : x = k
  · subst e; simp [h]
  · rw [if_neg e, if_neg (Ne.symm e)]
theorem alR_at (s : List Int) {x : Nat} (L : List Int) (hx : x < s.length) {k : Nat} (h : k < s.length) : rl (alR s x L) k = if k = x then L else runL 0 (nth s k).toNat := by
  unfold alR
  rw [rl_set _ _ _ (by rw [idR_length]; exact hx), idR_at s h]
theorem alR_S {s : List Int} (hs : AllIn s) {x : Nat} (L : List Int) (hx : x < s.length) : gaS (alR s x L) = s.set x L.length := by
  refine nth_ext (by rw [gaS_length, alR_length, List.length_set]) fun k hk => ?_
  rw [gaS_length, alR_length] at hk
  rw [gaS_nth (by rw [alR_length]; exact hk), alR_at s L hx hk, nth_set _ _ _ _ hx]
  split
  · rfl
  · rw [runL_length]; have := hs.nth k; omega
theorem alR_T {s t : List Int} {x : Nat} {L : List Int} (hx : x < s.length) (ht : insB (s.set x L.length) t = true) : gaT (alR s x L) t = t.set x (nth L (nth t x).toNat) := by
  have h := (insS hx).1 ht
  refine nth_ext (by rw [gaT_length, alR_length, List.length_set, h.1]) fun k hk => ?_
  rw [gaT_length, alR_length] at hk
  rw [gaT_nth (by rw [alR_length]; exact hk), alR_at s L hx hk, nth_set _ _ _ _ (by omega)]
  split
  · rename_i e; rw [e]
  · rename_i e; have := h.2.1 k hk e; rw [runL_nth _ (by omega)]; omega
/-! ### Keep, Spread -/
def kpl (m : List Int) : Nat → List Int
  | 0 => []
  | i + 1 => if nth m i = 1 then kpl m i ++ [(i : Int)] else kpl m i
theorem kpl_fact {m : List Int} (h : mskB m = true) : ∀ i, i ≤ m.length → ((kpl m i).length : Int) = rnk m i ∧ ∀ j, j < (kpl m i).length → nth (kpl m i) j = pos1 m j
  | 0, _ => ⟨rfl, fun j hj => by simp [kpl] at hj⟩
  | i + 1, hi => by
    obtain ⟨h1, h2⟩ := kpl_fact h i (by omega)
    rw [rnk_succ m (by omega)]
    simp only [kpl]
    rcases mskB_nth h (j := i) (by omega) with e | e
    · rw [if_neg (by omega)]; exact ⟨by omega, h2⟩
    · rw [if_pos e]
      refine ⟨by simp only [List.length_append, List.length_cons, List.length_nil]; omega, fun j hj => ?_⟩
      by_cases hlt : j < (kpl m i).length
      · rw [nth_append_left _ _ _ hlt]; exact h2 j hlt
      · simp only [List.length_append, List.length_cons, List.length_nil] at hj
        obtain rfl : j = (kpl m i).length := by omega
        have := pos1_rnk h (i := i) (by omega) e
        rw [← h1, Int.toNat_natCast] at this
        rw [this]
        simp [nth]
theorem kpl_le (m : List Int) : ∀ i, (kpl m i).length ≤ i
  | 0 => Nat.le_refl _
  | i + 1 => by
    have := kpl_le m i
    simp only [kpl]
    split
    · simp only [List.length_append, List.length_cons, List.length_nil]; omega
    · omega
theorem kpl_64 (m : List Int) : ∀ i j, nth (kpl m i) j ≤ i ∧ 0 ≤ nth (kpl m i) j
  | 0, j => by simp [kpl, nth]
  | i + 1, j => by
    have := kpl_64 m i j
    simp only [kpl]
    split
    · by_cases hlt : j < (kpl m i).length
      · rw [nth_append_left _ _ _ hlt]; omega
      · by_cases he : j = (kpl m i).length
        · subst he; simp [nth]; omega
        · have : nth (kpl m i ++ [(i : Int)]) j = 0 := by
            unfold nth
            rw [List.getD_eq_getElem?_getD, List.getElem?_eq_none (by simp only [List.length_append, List.length_cons, List.length_nil]; omega)]; rfl
          omega
    · omega
theorem kp_ga {m : List Int} {x : Nat} {c : Bool} {s dz : List Int} (h : kpE m x c s dz = 0) : gaS (alR s x (kpl m m.length)) = kpS m x s ∧ gaD c s dz (alR s x (kpl m m.length)) = kpD m x s dz := by
  obtain ⟨h1, h2, h3, h4⟩ := kpZ.1 h
  have hz := errOf_zero.1 (flawE_zero h1).1
  have hk := kpl_fact h4 m.length (Nat.le_refl _)
  rw [rnk_all] at hk
  have e : gaS (alR s x (kpl m m.length)) = kpS m x s := by rw [alR_S hz.2.1 _ h2, hk.1]; rfl
  refine ⟨e, ?_⟩
  unfold gaD kpD
  rw [e]
  refine TA_congr (kp_err h) fun t ht => ?_
  have ht' : insB (s.set x (kpl m m.length).length) t = true := by rw [hk.1]; exact ht
  have hb := (insS h2).1 ht'
  have eT : gaT (alR s x (kpl m m.length)) t = kpT m x t := by rw [alR_T h2 ht', hk.2 _ (by omega)]; rfl
  unfold gaC
  rw [eT, if_pos (kp_in h ht).1]
def spl (m : List Int) : List Int := (List.range m.length).map fun k => if nth m k = 1 then rnk m k else -1
theorem spl_length (m : List Int) : (spl m).length = m.length := by simp [spl]
theorem spl_nth (m : List Int) {k : Nat} (h : k < m.length) : nth (spl m) k = if nth m k = 1 then rnk m k else -1 := by simp [spl, nth, h]
theorem sp_ga {m : List Int} {x : Nat} {c : Bool} {s dz : List Int} (h : spE m x c s dz = 0) : gaS (alR s x (spl m)) = spS m x s ∧ gaD c s dz (alR s x (spl m)) = spD m x c s dz := by
  obtain ⟨h1, h2, h3, h4, h5⟩ := spZ.1 h
  have hz := errOf_zero.1 (flawE_zero h1).1
  have e : gaS (alR s x (spl m)) = spS m x s := by rw [alR_S hz.2.1 _ h2, spl_length]; rfl
  refine ⟨e, ?_⟩
  unfold gaD spD
  rw [e]
  refine TA_congr h5 fun t ht => ?_
  have ht' : insB (s.set x (spl m).length) t = true := by rw [spl_length]; exact ht
  have hb := (insS h2).1 ht'
  rw [spl_length] at hb
  have hj : (nth t x).toNat < m.length := by omega
  have eT := alR_T h2 ht'
  rw [spl_nth m hj] at eT
  unfold gaC spC
  rcases mskB_nth h3 hj with e0 | e1
  · rw [if_neg (by rw [e0]; decide)] at eT
    rw [eT, if_pos e0, if_neg]
    intro hq
    have := ins_at hq h2
    rw [nth_set_self (by omega)] at this
    omega
  · rw [if_pos e1] at eT
    rw [eT, if_neg (show ¬ nth m (nth t x).toNat = 0 by rw [e1]; decide), if_pos (sp_in h ht (by rw [e1]; decide))]
theorem sp_err6 {m : List Int} {x : Nat} {s : List Int} (hs : AllIn s) (hx : x < s.length) : gaS (alR s x (spl m)) = spS m x s := by rw [alR_S hs _ hx, spl_length]; rfl
end Go.Proofs.Ytnfdcdoelhanlaa
