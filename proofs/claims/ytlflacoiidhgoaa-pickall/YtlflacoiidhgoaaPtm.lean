/-
  Cells put one behind the other: plain mathematics of Put.
-/
import Derived.Test.YtlflacoiidhgoaaPikl
import Derived.Test.YtlflacoiidhgoaaAlm
import Derived.Test.YtlflacoiidhgoaaPck2
namespace Go.Proofs.Ytlflacoiidhgoaa
open Go.RowKit
set_option linter.unusedVariables false

section
variable {c cv : Bool} {s dz sv dv : List Int} {bys : List Ar}
theorem ptE_al (h : alE c s dz bys ≠ 0) : ptE c s dz bys cv sv dv = alE c s dz bys := by
  unfold ptE
  by_cases e : flawE c s dz = 0
  · rw [alE_ok _ e] at h ⊢
    rw [if_neg (not_not_intro e), if_pos h]
  · rw [alE_no _ e, if_pos e]
theorem ptE_v (h : alE c s dz bys = 0) (hv : flawE cv sv dv ≠ 0) : ptE c s dz bys cv sv dv = flawE cv sv dv := by
  unfold ptE
  rw [if_neg (not_not_intro (alE_zero h).1), if_neg (not_not_intro (alE_zero h).2), if_pos hv]
theorem ptE_nm (h : alE c s dz bys = 0) (hv : flawE cv sv dv = 0) (hn : nmE s bys ≠ 0) : ptE c s dz bys cv sv dv = nmE s bys := by
  unfold ptE
  rw [if_neg (not_not_intro (alE_zero h).1), if_neg (not_not_intro (alE_zero h).2), if_neg (not_not_intro hv), if_pos hn]
theorem ptE_fi (h : alE c s dz bys = 0) (hv : flawE cv sv dv = 0) (hn : nmE s bys = 0) : ptE c s dz bys cv sv dv = fiE c (pkS bys) cv sv := by
  unfold ptE
  rw [if_neg (not_not_intro (alE_zero h).1), if_neg (not_not_intro (alE_zero h).2), if_neg (not_not_intro hv), if_neg (not_not_intro hn)]
  rfl
/-- What stands there when the first k cells were put. -/
def ptK (s dz : List Int) (bys : List Ar) (sv dv : List Int) (k : Nat) : List Int := (List.range dz.length).map fun (j : Nat) => lstV (pkP s bys) (putW (prod (pkS bys)).toNat sv dv) (j : Int) (nth dz j) k
theorem ptK_length (k : Nat) : (ptK s dz bys sv dv k).length = dz.length := by simp [ptK]
theorem ptK_nth (k : Nat) {j : Nat} (h : j < dz.length) : nth (ptK s dz bys sv dv k) j = lstV (pkP s bys) (putW (prod (pkS bys)).toNat sv dv) j (nth dz j) k := by simp [ptK, nth, h]
theorem ptK_zero : ptK s dz bys sv dv 0 = dz := nth_ext (ptK_length 0) fun j hj => by rw [ptK_length] at hj; rw [ptK_nth 0 hj]; rfl
theorem ptK_all : ptK s dz bys sv dv (prod (pkS bys)).toNat = ptV s dz bys sv dv := rfl
theorem ptK_next {k L : Nat} (hL : pkP s bys k = (L : Int)) (h : L < dz.length) : (ptK s dz bys sv dv k).set L (nth (putW (prod (pkS bys)).toNat sv dv) k) = ptK s dz bys sv dv (k + 1) := by
  refine nth_ext (by rw [List.length_set, ptK_length, ptK_length]) fun j hj => ?_
  rw [List.length_set, ptK_length] at hj
  rw [nth_set _ _ _ _ (by rw [ptK_length]; exact h), ptK_nth _ hj, ptK_nth _ hj]
  simp only [lstV]
  rw [hL]
  by_cases e : j = L
  · rw [if_pos e, if_pos (by omega)]
  · rw [if_neg e, if_neg (by omega)]
theorem put7_at (h : ptE c s dz bys cv sv dv = 0) {k : Nat} (hk : k < (prod (pkS bys)).toNat) : 0 < dv.length ∧ nth dv (k % dv.length) = nth (putW (prod (pkS bys)).toNat sv dv) k := by
  obtain ⟨h1, h2, h3, h4⟩ := ptE_zero.1 h
  have hd := (flawE_zero h2).2.1
  unfold putW
  by_cases h6 : sv.length = 0
  · rw [List.eq_nil_of_length_eq_zero h6, prod_nil] at hd
    have hd1 : dv.length = 1 := by omega
    rw [if_pos h6, nth_rep _ _ hk, hd1, Nat.mod_one]
    exact ⟨by omega, rfl⟩
  · rw [if_neg h6]
    rcases h4 with h4 | h4
    · exact absurd h4 h6
    · rw [h4] at hd
      rw [Nat.mod_eq_of_lt (by omega)]
      exact ⟨by omega, rfl⟩
end
/-- append(nil, x...): the same list in memory of its own. -/
theorem app_copy {ops : Array Oper} {rest : List Oper} {o : Oper} {a : Act} {Q : Exit → Act → World → Prop} (hgd : o.guard = none) (S T : Operand) (ho : o.op = .call { callee := .builtin .append, args := #[S, T], argTypes := #[22, 22] })
    (W : World) (da : Option Addr) (dz : List Int) (n dc : Nat) (hn : dz.length = n) (hS : a.eval S = .slice none 0 0) (hT : a.eval T = .slice da n dc) (hI : IsInts W.heap.size W da dz) (hlen : n ≤ 1000000)
    (k : ∀ g gc w1, NewC W.heap.size w1 g dz gc → Below W.heap.size W w1 → wpList Try.prog ops Q rest (a.put o.dst (.slice g n gc)) w1) :
    wpList Try.prog ops Q (o :: rest) a W := by
  refine app_all hgd S T ho W W.heap.size (.slice none 0 0) [] 0 rfl da dz n dc hn hS hT (World.ownsRow_nil _ _ _ _) hI (by omega) (Nat.le_refl _) fun g gc w1 _ h2 h3 => ?_
  rw [Nat.zero_add]
  exact k g gc w1 h2 h3
theorem app_copy_step {ops : Array Oper} {o : Oper} {a : Act} {K : Act → World → Prop} {Q : Exit → Act → World → Prop} {E : Prop} (d : Nat) (hd : o.dst = some d) (hgd : o.guard = none) (S T : Operand) (ho : o.op = .call { callee := .builtin .append, args := #[S, T], argTypes := #[22, 22] })
    (W : World) (da : Option Addr) (dz : List Int) (n dc : Nat) (hn : dz.length = n) (hS : a.eval S = .slice none 0 0) (hT : a.eval T = .slice da n dc) (hI : IsInts W.heap.size W da dz) (hlen : n ≤ 1000000)
    (k : ∀ g gc w1, NewC W.heap.size w1 g dz gc → Below W.heap.size W w1 → K (a.put (some d) (.slice g n gc)) w1) :
    if Region.wanted o (yielded ops a.tmps) = true then Oper.wp Try.prog o a W K Q else E := by
  refine app_all_step d hd hgd S T ho W W.heap.size (.slice none 0 0) [] 0 rfl da dz n dc hn hS hT (World.ownsRow_nil _ _ _ _) hI (by omega) (Nat.le_refl _) fun g gc w1 _ h2 h3 => ?_
  rw [Nat.zero_add]
  exact k g gc w1 h2 h3
theorem new_put7 {lo : Nat} {W : World} {b off : Nat} {zs : List Int} {cap : Nat} (h : NewC lo W (some ⟨b, off, none⟩) zs cap) {i : Nat} (hi : i < zs.length) (v : Int) : NewC lo (W.setCell ⟨b, off + i, none⟩ (.int .i64 v)) (some ⟨b, off, none⟩) (zs.set i v) cap := by
  refine ⟨?_, by rw [List.length_set]; exact h.2⟩
  rcases h.1 with e | ⟨b', off', e, h0, hb, hc, hz⟩
  · subst e; simp at hi
  · cases e
    refine .inr ⟨b, off, rfl, h0, by simpa [World.setCell] using hb, fun j hj => ?_, fun j => by rw [World.frozen?_setCell]; exact hz j⟩
    rw [List.length_set] at hj
    rw [nth_set _ _ _ _ hi]
    by_cases e : j = i
    · subst e
      rw [if_pos rfl]
      exact World.cell?_setCell_same _ _ _ (hc j hj)
    · rw [if_neg e, World.cell?_setCell_other _ _ _ _ (by intro e2; simp only [Addr.mk.injEq] at e2; omega)]
      exact hc j hj
theorem NewC.at7 {lo : Nat} {W : World} {a : Option Addr} {zs : List Int} {cap : Nat} (h : NewC lo W a zs cap) {i : Nat} (hi : i < zs.length) : ∃ b off, a = some ⟨b, off, none⟩ ∧ lo ≤ b ∧ b < W.heap.size ∧ W.cell? ⟨b, off + i, none⟩ = some (.int .i64 (nth zs i)) ∧ W.frozen? ⟨b, off + i, none⟩ = false := by
  rcases h.1 with e | ⟨b, off, e, h0, hb, hc, hz⟩
  · subst e; simp at hi
  · exact ⟨b, off, e, h0, hb, hc i hi, hz i⟩
end Go.Proofs.Ytlflacoiidhgoaa
