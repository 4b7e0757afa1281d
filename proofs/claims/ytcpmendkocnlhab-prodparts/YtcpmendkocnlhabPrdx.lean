/-
  Plain mathematics of products of matrices, as the statements' walks use it.
-/
import Derived.Test.YtcpmendkocnlhabPrg
import Derived.Test.YtcpmendkocnlhabPrdl
namespace Go.Proofs.Ytcpmendkocnlhab
open Go.RowKit
set_option linter.unusedVariables false

section
variable {f g : Int} {c1 c2 c3 : Bool} {sz1 dz1 sz2 dz2 sz3 dz3 : List Int}
theorem grd_form {c : Bool} {sz dz : List Int} (h : GrdP 16 c sz dz) : ∃ m n : Int, sz = [m, n] ∧ nth sz 0 = m ∧ nth sz 1 = n ∧ (0 ≤ m ∧ m ≤ 64) ∧ (0 ≤ n ∧ n ≤ 64) ∧ flawE false [m, n] dz = 0 := by
  have hs := h.two.2
  refine ⟨nth sz 0, nth sz 1, hs, rfl, rfl, by have := h.2.2.1; omega, by have := h.2.2.2.1; omega, ?_⟩
  have hf := (h.flaw (by decide)).2
  rw [hs] at hf
  exact hf
theorem short13 {s d : List Int} (h : flawE false s d = 0) : s.length ≤ 4096 ∧ d.length ≤ 4096 := by have := flawE_short h; omega
theorem chain13 (h : Srg f g) (G1 : GrdP 16 c1 sz1 dz1) (G2 : GrdP 16 c2 sz2 dz2) (G3 : GrdP 16 c3 sz3 dz3) (e1 : nth sz1 1 = nth sz2 0) (e2 : nth sz2 1 = nth sz3 0) (T1 : ∀ j, In64 (nth dz1 j)) (T2 : ∀ j, In64 (nth dz2 j)) (T3 : ∀ j, In64 (nth dz3 j)) :
    ∃ S1 D1 S2 D2 S3 D3 : List Int, (inE f g false sz1 dz1 false sz2 dz2 = 0 ∧ inS sz1 sz2 = S1 ∧ inD f g false sz1 dz1 false sz2 dz2 = D1) ∧ (inE f g false S1 D1 false sz3 dz3 = 0 ∧ inS S1 sz3 = S2 ∧ inD f g false S1 D1 false sz3 dz3 = D2) ∧
      (inE f g false sz2 dz2 false sz3 dz3 = 0 ∧ inS sz2 sz3 = S3 ∧ inD f g false sz2 dz2 false sz3 dz3 = D3) ∧ (inE f g false sz1 dz1 false S3 D3 = 0 ∧ inS sz1 S3 = S2 ∧ inD f g false sz1 dz1 false S3 D3 = D2) ∧
      ((∀ j, In64 (nth D1 j)) ∧ ∀ j, In64 (nth D3 j)) ∧ (S1.length ≤ 4096 ∧ D1.length ≤ 4096) ∧ (S2.length ≤ 4096 ∧ D2.length ≤ 4096) ∧ S3.length ≤ 4096 ∧ D3.length ≤ 4096 := by
  obtain ⟨m, k, rfl, a1, a2, hm, hk, f1⟩ := grd_form G1
  obtain ⟨k', n, rfl, b1, b2, hk', hn, f2⟩ := grd_form G2
  obtain ⟨n', p, rfl, d1, d2, hn', hp, f3⟩ := grd_form G3
  rw [a2, b1] at e1
  rw [b2, d1] at e2
  subst e1 e2
  have q1 := in_two h.su h.pr f1 f2 (err_two hm hn) T1 T2
  have q3 := in_two h.su h.pr f2 f3 (err_two hk hp) T2 T3
  have t1 := in_64 (f := f) (g := g) (c := false) (c' := false) (s := [m, k]) (s' := [k, n]) (err_two hm hn) T1 T2
  have t3 := in_64 (f := f) (g := g) (c := false) (c' := false) (s := [k, n]) (s' := [n, p]) (err_two hk hp) T2 T3
  have q2 := in_two h.su h.pr (in_flaw q1.1) f3 (err_two hm hp) t1 T3
  have q4 := in_two h.su h.pr f1 (in_flaw q3.1) (err_two hm hp) T1 t3
  exact ⟨[m, n], _, [m, p], _, [k, p], _, ⟨q1.1, rfl, rfl⟩, ⟨q2.1, rfl, rfl⟩, ⟨q3.1, rfl, rfl⟩, ⟨q4.1, rfl, (in_chain h f1 f2 f3 (err_two hm hn) (err_two hk hp) (err_two hm hp) T1 T2 T3).symm⟩, ⟨t1, t3⟩, short13 (in_flaw q1.1), short13 (in_flaw q2.1), short13 (in_flaw q3.1)⟩
/-- A sum of two matrices. -/
theorem sum13 (G2 : GrdP 16 c2 sz2 dz2) (G3 : GrdP 16 c3 sz3 dz3) (e : sz2 = sz3) (T2 : ∀ j, In64 (nth dz2 j)) (T3 : ∀ j, In64 (nth dz3 j)) :
    ∃ D0 : List Int, (e2E 1 false sz2 dz2 false sz3 dz3 = 0 ∧ shp sz2 sz3 = sz2 ∧ e2V 1 false sz2 dz2 false sz3 dz3 = D0) ∧ (∀ j, In64 (nth D0 j)) ∧ sz2.length ≤ 4096 ∧ D0.length ≤ 4096 := by
  obtain ⟨m, n, rfl, a1, a2, hm, hn, f2⟩ := grd_form G2
  subst e
  have f3 := (G3.flaw (by decide)).2
  have hs := gm_e2 srg13.su (err_two hm hn) f2 f3
  exact ⟨_, ⟨hs.1, hs.2.1, rfl⟩, by rw [hs.2.2.2]; exact TA_64 (err_two hm hn) fun t _ => In64.two (cel_64 T2 _) (cel_64 T3 _), short13 hs.2.2.1⟩
theorem sumr13 (G1 : GrdP 16 c1 sz1 dz1) (G2 : GrdP 16 c2 sz2 dz2) (G3 : GrdP 16 c3 sz3 dz3) (e : sz2 = sz3) (h : nth sz1 1 = nth sz2 0) (T1 : ∀ j, In64 (nth dz1 j)) (T2 : ∀ j, In64 (nth dz2 j)) (T3 : ∀ j, In64 (nth dz3 j)) {D0 : List Int} (h0 : e2V 1 false sz2 dz2 false sz3 dz3 = D0) :
    ∃ S DX DP DQ : List Int, (inE 1 3 false sz1 dz1 false sz2 D0 = 0 ∧ inS sz1 sz2 = S ∧ inD 1 3 false sz1 dz1 false sz2 D0 = DX) ∧ (inE 1 3 false sz1 dz1 false sz2 dz2 = 0 ∧ inS sz1 sz2 = S ∧ inD 1 3 false sz1 dz1 false sz2 dz2 = DP) ∧ (inE 1 3 false sz1 dz1 false sz3 dz3 = 0 ∧ inS sz1 sz3 = S ∧ inD 1 3 false sz1 dz1 false sz3 dz3 = DQ) ∧
      (e2E 1 false S DP false S DQ = 0 ∧ shp S S = S ∧ e2V 1 false S DP false S DQ = DX) ∧ ((∀ j, In64 (nth DP j)) ∧ ∀ j, In64 (nth DQ j)) ∧ S.length ≤ 4096 ∧ DX.length ≤ 4096 ∧ DP.length ≤ 4096 ∧ DQ.length ≤ 4096 := by
  obtain ⟨m, k, rfl, a1, a2, hm, hk, f1⟩ := grd_form G1
  obtain ⟨k', n, rfl, b1, b2, hk', hn, f2⟩ := grd_form G2
  subst e
  rw [a2, b1] at h
  subst h h0
  have f3 := (G3.flaw (by decide)).2
  have hs := gm_e2 srg13.su (err_two hk hn) f2 f3
  have ts : ∀ j, In64 (nth (e2V 1 false [k, n] dz2 false [k, n] dz3) j) := by rw [hs.2.2.2]; exact TA_64 (err_two hk hn) fun t _ => In64.two (cel_64 T2 _) (cel_64 T3 _)
  have qx := in_two srg13.su srg13.pr f1 hs.2.2.1 (err_two hm hn) T1 ts
  have qp := in_two srg13.su srg13.pr f1 f2 (err_two hm hn) T1 T2
  have qq := in_two srg13.su srg13.pr f1 f3 (err_two hm hn) T1 T3
  have he := gm_e2 srg13.su (err_two hm hn) (in_flaw qp.1) (in_flaw qq.1)
  exact ⟨[m, n], _, _, _, ⟨qx.1, rfl, rfl⟩, ⟨qp.1, rfl, rfl⟩, ⟨qq.1, rfl, rfl⟩, ⟨he.1, he.2.1, (in_sum_right f1 f2 f3 (err_two hm hn) T1 T2 T3).symm⟩, ⟨in_64 (f := 1) (g := 3) (c := false) (c' := false) (s := [m, k]) (s' := [k, n]) (err_two hm hn) T1 T2, in_64 (f := 1) (g := 3) (c := false) (c' := false) (s := [m, k]) (s' := [k, n]) (err_two hm hn) T1 T3⟩, (short13 (in_flaw qx.1)).1, (short13 (in_flaw qx.1)).2, (short13 (in_flaw qp.1)).2, (short13 (in_flaw qq.1)).2⟩
theorem suml13 (G1 : GrdP 16 c1 sz1 dz1) (G2 : GrdP 16 c2 sz2 dz2) (G3 : GrdP 16 c3 sz3 dz3) (e : sz2 = sz3) (h : nth sz2 1 = nth sz1 0) (T1 : ∀ j, In64 (nth dz1 j)) (T2 : ∀ j, In64 (nth dz2 j)) (T3 : ∀ j, In64 (nth dz3 j)) {D0 : List Int} (h0 : e2V 1 false sz2 dz2 false sz3 dz3 = D0) :
    ∃ S DX DP DQ : List Int, (inE 1 3 false sz2 D0 false sz1 dz1 = 0 ∧ inS sz2 sz1 = S ∧ inD 1 3 false sz2 D0 false sz1 dz1 = DX) ∧ (inE 1 3 false sz2 dz2 false sz1 dz1 = 0 ∧ inS sz2 sz1 = S ∧ inD 1 3 false sz2 dz2 false sz1 dz1 = DP) ∧ (inE 1 3 false sz3 dz3 false sz1 dz1 = 0 ∧ inS sz3 sz1 = S ∧ inD 1 3 false sz3 dz3 false sz1 dz1 = DQ) ∧
      (e2E 1 false S DP false S DQ = 0 ∧ shp S S = S ∧ e2V 1 false S DP false S DQ = DX) ∧ ((∀ j, In64 (nth DP j)) ∧ ∀ j, In64 (nth DQ j)) ∧ S.length ≤ 4096 ∧ DX.length ≤ 4096 ∧ DP.length ≤ 4096 ∧ DQ.length ≤ 4096 := by
  obtain ⟨k, n, rfl, a1, a2, hk, hn, f1⟩ := grd_form G1
  obtain ⟨m, k', rfl, b1, b2, hm, hk', f2⟩ := grd_form G2
  subst e
  rw [b2, a1] at h
  subst h h0
  have f3 := (G3.flaw (by decide)).2
  have hs := gm_e2 srg13.su (err_two hm hk') f2 f3
  have ts : ∀ j, In64 (nth (e2V 1 false [m, k'] dz2 false [m, k'] dz3) j) := by rw [hs.2.2.2]; exact TA_64 (err_two hm hk') fun t _ => In64.two (cel_64 T2 _) (cel_64 T3 _)
  have qx := in_two srg13.su srg13.pr hs.2.2.1 f1 (err_two hm hn) ts T1
  have qp := in_two srg13.su srg13.pr f2 f1 (err_two hm hn) T2 T1
  have qq := in_two srg13.su srg13.pr f3 f1 (err_two hm hn) T3 T1
  have he := gm_e2 srg13.su (err_two hm hn) (in_flaw qp.1) (in_flaw qq.1)
  exact ⟨[m, n], _, _, _, ⟨qx.1, rfl, rfl⟩, ⟨qp.1, rfl, rfl⟩, ⟨qq.1, rfl, rfl⟩, ⟨he.1, he.2.1, (in_sum_left f1 f2 f3 (err_two hm hn) T1 T2 T3).symm⟩, ⟨in_64 (f := 1) (g := 3) (c := false) (c' := false) (s := [m, k']) (s' := [k', n]) (err_two hm hn) T2 T1, in_64 (f := 1) (g := 3) (c := false) (c' := false) (s := [m, k']) (s' := [k', n]) (err_two hm hn) T3 T1⟩, (short13 (in_flaw qx.1)).1, (short13 (in_flaw qx.1)).2, (short13 (in_flaw qp.1)).2, (short13 (in_flaw qq.1)).2⟩
end
end Go.Proofs.Ytcpmendkocnlhab
