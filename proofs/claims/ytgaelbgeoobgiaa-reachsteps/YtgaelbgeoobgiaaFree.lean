/-
  A region that draws its order, some of whose operations may come up in whatever order: an invariant over what has come up.
-/
import Derived.Test.YtgaelbgeoobgiaaBase
namespace Go.Proofs.Ytgaelbgeoobgiaa
set_option linter.unusedVariables false

section
variable {P : Program} {ops : Array Oper} {Q : Exit → Act → World → Prop} {md : Region.Mode} {s : Nat} {C : World → Prop}
/-- As long as m operations of the free ones are left, one may come up, and each that may keeps the invariant; behind all of them the walk goes on. -/
theorem anyT_free (n : Nat) (I : Nat → Array Bool → Act → World → Prop)
    (hs : ∀ m l a w, I (m + 1) l a w → Region.ready md ops l ≠ [] ∧ ∀ i ∈ Region.ready md ops l, wpOp P ops Q i (fun a' w' => Till s C (l.setIfInBounds i true) w' ∧ I m (l.setIfInBounds i true) a' w') a w)
    (h0 : ∀ l a w, I 0 l a w → anyT P md ops Q s C n l a w) : ∀ m l a w, I m l a w → anyT P md ops Q s C (n + m) l a w
  | 0, l, a, w, h => h0 l a w h
  | m + 1, l, a, w, h => ⟨fun h' => absurd h' (hs m l a w h).1, fun i hi => wpOp_mono (fun a' w' k => ⟨k.1, anyT_free n I hs h0 m _ a' w' k.2⟩) ((hs m l a w h).2 i hi)⟩
/-- An operation that comes up is carried out. -/
theorem op_at {R : Act → World → Prop} (i : Nat) {o : Oper} {a : Act} {w : World} (ho : ops[i]? = some o)
    (h : ∀ K : Act → World → Prop, RowKit.Hid (∀ a w, R a w → K a w) → if Region.wanted o (yielded ops a.tmps) = true then Oper.wp P o a w K Q else K (a.put o.dst undef) w) : wpOp P ops Q i R a w :=
  wpOp_step ho fun K hK => h K hK
end
def allB (p : Bool → Bool) : Bool := p false && p true
theorem allB_at {p : Bool → Bool} (h : allB p = true) : ∀ x, p x = true := by
  unfold allB at h
  rw [Bool.and_eq_true] at h
  intro x
  cases x
  · exact h.1
  · exact h.2
/-! ### Four operations, in whatever order they may come up -/
def cnt4 (x : Bool) : Nat := if x = true then 0 else 1
def ok4 (i1 i2 i3 i4 : Nat) (x1 x2 x3 x4 : Bool) (i : Nat) : Bool := (i == i1 && !x1) || (i == i2 && !x2) || (i == i3 && !x3) || (i == i4 && !x4)
def chk4 (md : Region.Mode) (ops : Array Oper) (i1 i2 i3 i4 : Nat) (L : Bool → Bool → Bool → Bool → Array Bool) : Bool := allB fun x1 => allB fun x2 => allB fun x3 => allB fun x4 =>
  (x1 && x2 && x3 && x4) || ((Region.ready md ops (L x1 x2 x3 x4)).all (ok4 i1 i2 i3 i4 x1 x2 x3 x4) && !(Region.ready md ops (L x1 x2 x3 x4)).isEmpty)
def put4 (a : Act) (d1 d2 d3 d4 : Nat) (v1 v2 v3 v4 : Value) : Act := (((a.put (some d1) v1).put (some d2) v2).put (some d3) v3).put (some d4) v4
section
variable {P : Program} {ops : Array Oper} {Q : Exit → Act → World → Prop} {md : Region.Mode} {C : World → Prop}
theorem free4 {a0 : Act} {wI : World} (s n k : Nat) (hk : n + 4 = k) (i1 i2 i3 i4 d1 d2 d3 d4 : Nat) (L : Bool → Bool → Bool → Bool → Array Bool) (St : Bool → Bool → Bool → Bool → Value → Value → Value → Value → World → Prop) (hchk : chk4 md ops i1 i2 i3 i4 L = true)
    (s1 : ∀ x1 x2 x3 x4, (L x1 x2 x3 x4).setIfInBounds i1 true = L true x2 x3 x4) (s2 : ∀ x1 x2 x3 x4, (L x1 x2 x3 x4).setIfInBounds i2 true = L x1 true x3 x4) (s3 : ∀ x1 x2 x3 x4, (L x1 x2 x3 x4).setIfInBounds i3 true = L x1 x2 true x4) (s4 : ∀ x1 x2 x3 x4, (L x1 x2 x3 x4).setIfInBounds i4 true = L x1 x2 x3 true)
    (hC : ∀ x1 x2 x3 x4 v1 v2 v3 v4 w, St x1 x2 x3 x4 v1 v2 v3 v4 w → C w)
    (h1 : ∀ x2 x3 x4 v1 v2 v3 v4 w, St false x2 x3 x4 v1 v2 v3 v4 w → wpOp P ops Q i1 (fun a' w' => ∃ v, a' = put4 a0 d1 d2 d3 d4 v v2 v3 v4 ∧ St true x2 x3 x4 v v2 v3 v4 w') (put4 a0 d1 d2 d3 d4 v1 v2 v3 v4) w)
    (h2 : ∀ x1 x3 x4 v1 v2 v3 v4 w, St x1 false x3 x4 v1 v2 v3 v4 w → wpOp P ops Q i2 (fun a' w' => ∃ v, a' = put4 a0 d1 d2 d3 d4 v1 v v3 v4 ∧ St x1 true x3 x4 v1 v v3 v4 w') (put4 a0 d1 d2 d3 d4 v1 v2 v3 v4) w)
    (h3 : ∀ x1 x2 x4 v1 v2 v3 v4 w, St x1 x2 false x4 v1 v2 v3 v4 w → wpOp P ops Q i3 (fun a' w' => ∃ v, a' = put4 a0 d1 d2 d3 d4 v1 v2 v v4 ∧ St x1 x2 true x4 v1 v2 v v4 w') (put4 a0 d1 d2 d3 d4 v1 v2 v3 v4) w)
    (h4 : ∀ x1 x2 x3 v1 v2 v3 v4 w, St x1 x2 x3 false v1 v2 v3 v4 w → wpOp P ops Q i4 (fun a' w' => ∃ v, a' = put4 a0 d1 d2 d3 d4 v1 v2 v3 v ∧ St x1 x2 x3 true v1 v2 v3 v w') (put4 a0 d1 d2 d3 d4 v1 v2 v3 v4) w)
    (h0 : ∀ v1 v2 v3 v4 w, St true true true true v1 v2 v3 v4 w → anyT P md ops Q s C n (L true true true true) (put4 a0 d1 d2 d3 d4 v1 v2 v3 v4) w)
    (hid : put4 a0 d1 d2 d3 d4 (a0.tmps.getD d1 undef) (a0.tmps.getD d2 undef) (a0.tmps.getD d3 undef) (a0.tmps.getD d4 undef) = a0)
    (hinit : St false false false false (a0.tmps.getD d1 undef) (a0.tmps.getD d2 undef) (a0.tmps.getD d3 undef) (a0.tmps.getD d4 undef) wI) :
    anyT P md ops Q s C k (L false false false false) a0 wI := by
  subst hk
  refine anyT_free n (fun m l a w => ∃ x1 x2 x3 x4 v1 v2 v3 v4, l = L x1 x2 x3 x4 ∧ a = put4 a0 d1 d2 d3 d4 v1 v2 v3 v4 ∧ m = cnt4 x1 + cnt4 x2 + cnt4 x3 + cnt4 x4 ∧ St x1 x2 x3 x4 v1 v2 v3 v4 w) ?_ ?_ 4 _ _ _ ⟨_, _, _, _, _, _, _, _, rfl, hid.symm, rfl, hinit⟩
  · rintro m l a w ⟨x1, x2, x3, x4, v1, v2, v3, v4, rfl, rfl, hm, hst⟩
    have hc := allB_at (allB_at (allB_at (allB_at hchk x1) x2) x3) x4
    have n3 : (x1 && x2 && x3 && x4) = false := by
      cases hh : (x1 && x2 && x3 && x4)
      · rfl
      · simp only [Bool.and_eq_true] at hh
        obtain ⟨⟨⟨rfl, rfl⟩, rfl⟩, rfl⟩ := hh
        simp [cnt4] at hm
    rw [n3, Bool.false_or, Bool.and_eq_true] at hc
    refine ⟨fun h => ?_, fun i hi => ?_⟩
    · have h' := hc.2
      rw [h] at h'
      simp at h'
    · have ho := List.all_eq_true.1 hc.1 i hi
      clear hc hi
      unfold ok4 at ho
      simp only [Bool.or_eq_true, Bool.and_eq_true, beq_iff_eq, Bool.not_eq_true'] at ho
      rcases ho with ((⟨rfl, rfl⟩ | ⟨rfl, rfl⟩) | ⟨rfl, rfl⟩) | ⟨rfl, rfl⟩
      · exact wpOp_mono (fun a' w' ⟨v, e, h⟩ => ⟨fun _ => hC _ _ _ _ _ _ _ _ _ h, _, _, _, _, _, _, _, _, s1 _ _ _ _, e, by simp [cnt4] at hm ⊢; omega, h⟩) (h1 _ _ _ _ _ _ _ _ hst)
      · exact wpOp_mono (fun a' w' ⟨v, e, h⟩ => ⟨fun _ => hC _ _ _ _ _ _ _ _ _ h, _, _, _, _, _, _, _, _, s2 _ _ _ _, e, by simp [cnt4] at hm ⊢; omega, h⟩) (h2 _ _ _ _ _ _ _ _ hst)
      · exact wpOp_mono (fun a' w' ⟨v, e, h⟩ => ⟨fun _ => hC _ _ _ _ _ _ _ _ _ h, _, _, _, _, _, _, _, _, s3 _ _ _ _, e, by simp [cnt4] at hm ⊢; omega, h⟩) (h3 _ _ _ _ _ _ _ _ hst)
      · exact wpOp_mono (fun a' w' ⟨v, e, h⟩ => ⟨fun _ => hC _ _ _ _ _ _ _ _ _ h, _, _, _, _, _, _, _, _, s4 _ _ _ _, e, by simp [cnt4] at hm ⊢; omega, h⟩) (h4 _ _ _ _ _ _ _ _ hst)
  · rintro l a w ⟨x1, x2, x3, x4, v1, v2, v3, v4, rfl, rfl, hm, hst⟩
    have t : ∀ {x : Bool}, cnt4 x = 0 → x = true := fun {x} h => by cases x; exact absurd h (by decide); rfl
    obtain rfl : x1 = true := t (by omega)
    obtain rfl : x2 = true := t (by omega)
    obtain rfl : x3 = true := t (by omega)
    obtain rfl : x4 = true := t (by omega)
    exact h0 _ _ _ _ w hst
end
end Go.Proofs.Ytgaelbgeoobgiaa
