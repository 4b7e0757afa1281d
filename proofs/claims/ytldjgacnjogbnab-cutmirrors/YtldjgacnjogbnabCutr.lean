/-
  Plain mathematics: arrays cut and turned, and lists cut again; nothing of the program.
-/
import Derived.Test.YtldjgacnjogbnabCutn
import Derived.Test.YtldjgacnjogbnabTurnw
namespace Go.Proofs.Ytldjgacnjogbnab
open Go.RowKit
set_option linter.unusedVariables false

section
variable {x : Nat} {c c' : Bool} {s dz s' dz' : List Int}
theorem axN : axE x c s dz = 0 ↔ flawE c s dz = 0 ∧ x < s.length := by
  rw [axE_zero, Int.toNat_natCast]
  exact ⟨fun h => ⟨h.1, h.2.2⟩, fun h => ⟨h.1, by omega, h.2⟩⟩
theorem rvG_TA (s dz : List Int) : rvG x s dz = TA s (fun t => cel s dz (revT s x t)) := rfl
theorem rvG_at (h : axE x c s dz = 0) {t : List Int} (ht : insB s t = true) : cel s (rvG x s dz) t = cel s dz (revT s x t) := by rw [rvG_TA]; exact TA_at (flawE_zero (axN.1 h).1).1 ht
theorem rvN_flaw (h : axE x c s dz = 0) : flawE c s (rvG x s dz) = 0 := rv_flaw h
/-- Joined and reversed: the second one reversed, and behind it the first one reversed. -/
theorem jn_mirror (h : jnE x c s dz c' s' dz' = 0) :
    axE x c (jnS x s s') (jnD x s dz s' dz') = 0 ∧ axE x c s dz = 0 ∧ axE x c' s' dz' = 0 ∧ jnE x c' s' (rvG x s' dz') c s (rvG x s dz) = 0 ∧ jnS x s' s = jnS x s s'
    ∧ jnD x s' (rvG x s' dz') s (rvG x s dz) = rvG x (jnS x s s') (jnD x s dz s' dz') := by
  obtain ⟨a1, a2, a3, a5, a6, a7, a8⟩ := jnZ.1 h
  subst a7
  have o1 := othB_iff.1 a6
  have hx' : x < s'.length := by omega
  have hxS : x < (jnS x s s').length := by rw [jnS_length]; exact a5
  have A1 : axE x c (jnS x s s') (jnD x s dz s' dz') = 0 := axN.2 ⟨jn_flawN h, hxS⟩
  have A2 : axE x c s dz = 0 := axN.2 ⟨a1, a5⟩
  have A3 : axE x c s' dz' = 0 := axN.2 ⟨a2, hx'⟩
  have z1 := (errOf_zero.1 (flawE_zero a1).1).2.1.nth x
  have z2 := (errOf_zero.1 (flawE_zero a2).1).2.1.nth x
  have eS : jnS x s' s = jnS x s s' := by
    refine nth_ext (by rw [jnS_length, jnS_length]; omega) fun k hk => ?_
    rw [jnS_length] at hk
    by_cases e : k = x
    · subst e; rw [jnS_at hx', jnS_at a5]; omega
    · rw [jnS_ne hx' e, jnS_ne a5 e]; exact (o1 k (by omega) e).symm
  have o2 : othB x s' s = true := othB_iff.2 fun k hk e => (o1 k (by omega) e).symm
  refine ⟨A1, A2, A3, jnZ.2 ⟨rvN_flaw A3, rvN_flaw A2, by omega, hx', o2, rfl, by rw [eS]; exact a8⟩, eS, ?_⟩
  unfold jnD
  rw [eS, rvG_TA (jnS x s s')]
  refine TA_congr a8 fun t ht => ?_
  have hi := (insS a5).1 ht
  have hxt : x < t.length := by omega
  have hr : insB (jnS x s s') (revT (jnS x s s') x t) = true := revT_in ht hxS
  rw [TA_at a8 hr]
  unfold jnC
  have er : nth (revT (jnS x s s') x t) x = nth s x + nth s' x - 1 - nth t x := by rw [revT_nth ht hxS, if_pos rfl, jnS_at a5]
  rw [er]
  by_cases g : nth t x < nth s' x
  · have hl' : insB s' t = true := ins_mk (by omega) fun k hk => by
      by_cases e : k = x
      · subst e; omega
      · rw [← o1 k (by omega) e]; exact hi.2.1 k (by omega) e
    rw [if_pos g, rvG_at A3 hl', if_neg (by omega)]
    congr 1
    unfold revT
    rw [set_set]
    congr 1
    omega
  · have hr' : insB s (t.set x (nth t x - nth s' x)) = true := ins_mk (by rw [List.length_set]; exact hi.1) fun k hk => by
      rw [nth_set _ _ _ _ hxt]
      split
      · rename_i e; subst e; omega
      · rename_i e; exact hi.2.1 k hk e
    rw [if_neg g, rvG_at A2 hr', if_pos (by omega)]
    congr 1
    unfold revT
    rw [nth_set_self hxt, set_set, jnS_at a5]
    congr 1
    omega
/-- The first ones reversed are the last ones of it reversed. -/
theorem tk_mirror {n : Int} (hf : flawE c s dz = 0) (hx : x < s.length) (h0 : 0 ≤ n) (h1 : n ≤ nth s x) :
    axE x c (s.set x n) (tkD (s.set x n) c s dz) = 0 ∧ tkE (s.set x (-n)) c s (rvG x s dz) = 0 ∧ tkS (s.set x (-n)) = s.set x n ∧ tkD (s.set x (-n)) c s (rvG x s dz) = rvG x (s.set x n) (tkD (s.set x n) c s dz) := by
  have he := (flawE_zero hf).1
  have A : axE x c s dz = 0 := axN.2 ⟨hf, hx⟩
  obtain ⟨t1, t2, t3⟩ := tk_head (n := n) hf hx h0 h1
  have l := tk_last (n := nth s x - n) (rvN_flaw A) hx (by omega) (by omega)
  rw [show nth s x - n - nth s x = -n by omega, show nth s x - (nth s x - n) = n by omega] at l
  have hE := err_set (v := n) he hx h0 h1
  have hl : x < (s.set x n).length := by rw [List.length_set]; exact hx
  have F : flawE c (s.set x n) (tkD (s.set x n) c s dz) = 0 := by
    unfold tkD
    rw [t2]
    exact pt_flaw hf hE
  have B : axE x c (s.set x n) (tkD (s.set x n) c s dz) = 0 := axN.2 ⟨F, hl⟩
  refine ⟨B, l.1, l.2.1, ?_⟩
  rw [l.2.2, rvG_TA (s.set x n)]
  refine TA_congr hE fun t ht => ?_
  have hi := (insS hx).1 ht
  have hxt : x < t.length := by omega
  have hr := revT_in ht hl
  rw [t3, TA_at hE hr, rvG_at A (ins_mk (by rw [List.length_set]; exact hi.1) fun k hk => by
    rw [nth_set _ _ _ _ hxt]
    split
    · rename_i e; subst e; omega
    · rename_i e; exact hi.2.1 k hk e)]
  congr 1
  unfold revT
  rw [nth_set_self hxt, set_set, nth_set_self hx]
  congr 1
  omega
end
/-! ### One axis -/
/-- The first ones of a list, and fills. -/
def tk1 (c : Bool) (m : Nat) (d : List Int) : List Int := (List.range m).map fun i => if i < d.length then nth d i else fillE c
theorem tk1_length (c : Bool) (m : Nat) (d : List Int) : (tk1 c m d).length = m := by simp [tk1]
theorem tk1_nth (c : Bool) (m : Nat) (d : List Int) {i : Nat} (h : i < m) : nth (tk1 c m d) i = if i < d.length then nth d i else fillE c := by simp [tk1, nth, h]
theorem tk1_tk1 (c : Bool) {k m : Nat} (h : k ≤ m) (d : List Int) : tk1 c k (tk1 c m d) = tk1 c k d := by
  refine nth_ext (by rw [tk1_length, tk1_length]) fun i hi => ?_
  rw [tk1_length] at hi
  rw [tk1_nth _ _ _ hi, tk1_nth _ _ _ hi, tk1_length, if_pos (by omega), tk1_nth _ _ _ (by omega)]
theorem cr1 {l : Int} {i : Nat} (h : (i : Int) < l) : cr [l] i = [(i : Int)] := by
  unfold cr
  simp only [crd]
  rw [Int.tmod_eq_emod_of_nonneg (by omega), Int.emod_eq_of_lt (by omega) h]
theorem one_flaw {c : Bool} {l : Int} {d : List Int} (h : flawE c [l] d = 0) : l = d.length ∧ d.length ≤ 4096 := by
  obtain ⟨h1, h2, _⟩ := flawE_zero h
  have := (errOf_zero.1 h1).2.2
  simp only [prod, Int.mul_one] at h2 this
  omega
theorem err1 {l : Int} (h0 : 0 ≤ l) (h1 : l ≤ 4096) : errOf [l] = 0 := errOf_zero.2 ⟨by simp, fun y hy => by rw [List.mem_singleton.1 hy]; omega, by simp only [prod, Int.mul_one]; exact h1⟩
theorem tk_one {c : Bool} {d : List Int} (h : flawE c [(d.length : Int)] d = 0) {m : Nat} (hm : m ≤ 4096) : tkE [(m : Int)] c [(d.length : Int)] d = 0 ∧ tkS [(m : Int)] = [(m : Int)] ∧ tkD [(m : Int)] c [(d.length : Int)] d = tk1 c m d := by
  have hS : tkS [(m : Int)] = [(m : Int)] := by simp [tkS, tks]
  have hE : errOf [(m : Int)] = 0 := err1 (by omega) (by omega)
  refine ⟨tkE_zero.2 ⟨h, rfl, by simp [tkBig]; omega, by rw [hS]; exact hE⟩, hS, ?_⟩
  unfold tkD ptD
  rw [hS]
  refine nth_ext (by rw [TA_length, tk1_length]; simp [prod]) fun i hi => ?_
  rw [TA_length] at hi
  have hi' : i < m := by simpa [prod] using hi
  rw [TA_nth hi, tk1_nth _ _ _ hi', cr1 (by omega)]
  have ha : addL [(i : Int)] (tkU [(d.length : Int)] [(m : Int)]) = [(i : Int)] := by simp [addL, tkU, nth]
  unfold ptC
  rw [ha]
  by_cases g : i < d.length
  · rw [if_pos (by simp [insB]; omega), if_pos g]
    simp [cel, place, prod]
  · rw [if_neg (by simp [insB]; omega), if_neg g]
theorem dr_one {c : Bool} {d : List Int} (h : flawE c [(d.length : Int)] d = 0) (m : Nat) : drE [(m : Int)] c [(d.length : Int)] d = 0 ∧ drS [(d.length : Int)] [(m : Int)] = [((d.drop m).length : Int)] ∧ drD [(m : Int)] c [(d.length : Int)] d = d.drop m := by
  have hd : drs (d.length : Int) (m : Int) = ((d.drop m).length : Int) := by
    rw [List.length_drop]
    unfold drs
    repeat' split
    all_goals omega
  have hS : drS [(d.length : Int)] [(m : Int)] = [((d.drop m).length : Int)] := by
    simp only [drS, List.length_singleton]
    show [drs _ _] = _
    rw [← hd]; rfl
  refine ⟨drE_zero.2 ⟨h, rfl⟩, hS, ?_⟩
  unfold drD ptD
  rw [hS]
  refine nth_ext (by rw [TA_length]; simp [prod]) fun i hi => ?_
  rw [TA_length] at hi
  have hi' : i < (d.drop m).length := by simpa [prod] using hi
  have hi2 := hi'
  rw [List.length_drop] at hi2
  rw [TA_nth hi, cr1 (by omega)]
  have ha : addL [(i : Int)] (drU [(d.length : Int)] [(m : Int)]) = [(i : Int) + dru d.length m] := by
    simp only [addL, drU, List.length_singleton]; rfl
  have hu : dru (d.length : Int) (m : Int) = m := by
    unfold dru
    repeat' split
    all_goals omega
  unfold ptC
  rw [ha, hu, if_pos (by simp [insB]; omega)]
  simp only [cel, place, prod, Int.mul_one, Int.add_zero]
  rw [show ((i : Int) + (m : Int)).toNat = m + i by omega]
  simp [nth]
end Go.Proofs.Ytldjgacnjogbnab
