/-
  A region that draws its order: a load may be taken first where the first store waits for it and what it reads is kept till then.
-/
import Derived.OrdersHeld
import Derived.Deep.RegionWith
import Derived.WalkKit
namespace Go.Proofs.Ythmiaiephkcdfaa
set_option linter.unusedVariables false

section
variable {P : Program} {ops : Array Oper} {Q : Exit → Act → World → Prop} {md : Region.Mode} {s : Nat} {C : World → Prop}

/-- As long as operation s has not come up, C holds. -/
def Till (s : Nat) (C : World → Prop) (l : Array Bool) (w : World) : Prop := l.getD s true = false → C w
/-- Any order from here on; behind each operation C holds as long as s has not come up. -/
def anyT (P : Program) (md : Region.Mode) (ops : Array Oper) (Q : Exit → Act → World → Prop) (s : Nat) (C : World → Prop) : Nat → Array Bool → Act → World → Prop
  | 0, l, a, w => Region.ready md ops l = [] ∧ Q .normal a w
  | n + 1, l, a, w => (Region.ready md ops l = [] → Q .normal a w) ∧ ∀ i, i ∈ Region.ready md ops l →
      wpOp P ops Q i (fun a' w' => Till s C (l.setIfInBounds i true) w' ∧ anyT P md ops Q s C n (l.setIfInBounds i true) a' w') a w
theorem anyT.plain {n : Nat} : ∀ {l : Array Bool} {a : Act} {w : World}, anyT P md ops Q s C n l a w → wpAny P md ops Q n l a w := by
  induction n with
  | zero => exact fun h => h
  | succ n ih => exact fun h => ⟨h.1, fun i hi => wpOp_mono (fun _ _ k => ih k.2) (h.2 i hi)⟩
theorem till_back {l : Array Bool} {i j : Nat} {w : World} (hi : i ≠ s) (h : Till s C ((l.setIfInBounds i true).setIfInBounds j true) w) : Till s C (l.setIfInBounds j true) w := by
  intro h0
  refine h ?_
  by_cases hj : j = s
  · subst hj
    rw [Array.setIfInBounds_comm _ _ hi, getD_set_ne true hi]
    exact h0
  · rw [getD_set_ne true hj, getD_set_ne true hi]
    rwa [getD_set_ne true hj] at h0
/-- s waits for i. -/
def Waits (md : Region.Mode) (ops : Array Oper) (s i : Nat) : Prop := ∃ os, ops[s]? = some os ∧ ∃ e ∈ os.after, Region.binds md e = true ∧ e.on = i
theorem Waits.not_ready {i : Nat} (h : Waits md ops s i) {l : Array Bool} (hl : l.getD i true = false) : s ∉ Region.ready md ops l := by
  obtain ⟨os, ho, e, he, hb, rfl⟩ := h
  intro hr
  obtain ⟨_, o, ho', hall⟩ := mem_ready.1 hr
  rw [ho] at ho'
  obtain rfl := Option.some.inj ho'
  have h1 := hall e he hb
  simp only [Array.getD_eq_getD_getElem?] at h1 hl
  cases hx : l[e.on]? with
  | none => simp [hx] at h1
  | some b => simp only [hx, Option.getD_some] at h1 hl; rw [h1] at hl; cases hl
def waitsB (md : Region.Mode) (ops : Array Oper) (s i : Nat) : Bool := match ops[s]? with
  | some os => os.after.any fun e => Region.binds md e && e.on == i
  | none => false
theorem Waits.of {i : Nat} (h : waitsB md ops s i = true) : Waits md ops s i := by
  unfold waitsB at h
  split at h
  · rename_i os ho
    obtain ⟨k, hk, hx⟩ := Array.any_eq_true.1 h
    rw [Bool.and_eq_true, beq_iff_eq] at hx
    exact ⟨os, ho, os.after[k], Array.getElem_mem hk, hx.1, hx.2⟩
  · cases h
/-- A load, or the like, taken first: in every world that meets C it yields its value, and s waits for it. -/
theorem anyT_load {i : Nat} {oi : Oper} {v : Value} (hi : ops[i]? = some oi) (hsel : ∀ (j : Nat) (o : Oper) cs b, ops[j]? = some o → o.op ≠ .select cs b)
    (hQ : ∀ c a w, Q (.panic c) (a.put oi.dst v) w → Q (.panic c) a w) (hw : Waits md ops s i) (his : i ≠ s) (n : Nat) :
    ∀ (l : Array Bool) (a : Act) (w : World),
      (∀ j oj, ops[j]? = some oj → j ≠ i → l.getD j true = false → (∀ e ∈ oj.after, Region.binds md e = true → e.on ≠ i) → oi.apart ops oj = true) →
      i ∈ Region.ready md ops l → YieldsIf P ops C oi v a → l.getD s true = false → C w →
      anyT P md ops Q s C n (l.setIfInBounds i true) (a.put oi.dst v) w → anyT P md ops Q s C (n + 1) l a w := by
  induction n with
  | zero =>
    intro l a w _ hr hy hl hC H
    refine ⟨fun h => absurd hr (by rw [h]; simp), fun j hj => ?_⟩
    by_cases hji : j = i
    · subst hji; exact hy.wpOp hi hC ⟨fun _ => hC, H⟩
    · exact absurd (ready_mono hj hji) (by rw [H.1]; simp)
  | succ n ih =>
    intro l a w hfree hr hy hl hC H
    refine ⟨fun h => absurd hr (by rw [h]; simp), fun j hj => ?_⟩
    by_cases hji : j = i
    · subst hji; exact hy.wpOp hi hC ⟨fun _ => hC, H⟩
    · have hli := (mem_ready.1 hr).1
      have hjs : j ≠ s := fun e => hw.not_ready hli (e ▸ hj)
      obtain ⟨hjl, oj, hoj, hall⟩ := mem_ready.1 hj
      have hnot : ∀ e ∈ oj.after, Region.binds md e = true → e.on ≠ i := fun e he hb heq => (Waits.not_ready ⟨oj, hoj, e, he, hb, heq⟩ hli) hj
      refine wpOp_mono (fun a' w' k => ?_) (wpOp_putIf hoj (hfree j oj hoj hji hjl hnot) (fun cs b => hsel i oi cs b hi) (fun cs b => hsel j oj cs b hoj) hQ hy (H.2 j (ready_mono hj hji)))
      obtain ⟨hy', hT, hrest⟩ := k
      have hT' := till_back his hT
      have hl' : (l.setIfInBounds j true).getD s true = false := by rw [getD_set_ne true hjs]; exact hl
      refine ⟨hT', ih (l.setIfInBounds j true) a' w' ?_ (ready_mono hr (Ne.symm hji)) hy' hl' (hT' hl') ?_⟩
      · intro k ok hk hki hun hno
        refine hfree k ok hk hki ?_ hno
        by_cases hjk : j = k
        · subst hjk; exact hjl
        · rwa [getD_set_ne true hjk] at hun
      · rw [Array.setIfInBounds_comm _ _ hji]; exact hrest
theorem anyT_take (i d : Nat) (v : Value) (l' : Array Bool) {oi : Oper} {n : Nat} {l : Array Bool} {a : Act} {w : World} (hi : ops[i]? = some oi) (hd : oi.dst = some d) (hl' : l.setIfInBounds i true = l')
    (hs : Region.noSelect ops = true) (hf : Region.free md ops l i = true) (hr : (Region.ready md ops l).contains i = true)
    (hQ : ∀ c a w, Q (.panic c) (a.put oi.dst v) w → Q (.panic c) a w) (hw : waitsB md ops s i = true) (his : i ≠ s) (hl : l.getD s true = false) (hy : YieldsIf P ops C oi v a) (hC : C w)
    (h : anyT P md ops Q s C n l' (a.put (some d) v) w) : anyT P md ops Q s C (n + 1) l a w :=
  anyT_load hi (Region.noSelect_spec hs) hQ (Waits.of hw) his n l a w (Region.free_spec hi hf) (by simpa using hr) hy hl hC (by rw [hd, hl']; exact h)
theorem anyT_all {rs : List Nat} {n : Nat} {l : Array Bool} {a : Act} {w : World} (hr : Region.ready md ops l = rs) (hne : rs ≠ [])
    (h : ∀ i ∈ rs, wpOp P ops Q i (fun a' w' => Till s C (l.setIfInBounds i true) w' ∧ anyT P md ops Q s C n (l.setIfInBounds i true) a' w') a w) : anyT P md ops Q s C (n + 1) l a w :=
  ⟨fun h0 => absurd (hr ▸ h0) hne, hr ▸ h⟩
theorem anyT_begin (s : Nat) (C : World → Prop) (n : Nat) (l : Array Bool) {id : Nat} {a : Act} {w : World} (hm : P.follows .mixedOrders = true) (hn : ops.size = n) (hl : Array.replicate ops.size false = l)
    (h : anyT P .any ops Q s C n l a w.drew) : (Code.region id ops true).wp P Q a w := wp_region_any hm (by rw [hl, hn]; exact h.plain)
/-- An operation that yields its value in whatever world is taken first. -/
theorem anyT_pure {i : Nat} {oi : Oper} {v : Value} (hi : ops[i]? = some oi) (hsel : ∀ (j : Nat) (o : Oper) cs b, ops[j]? = some o → o.op ≠ .select cs b)
    (hQ : ∀ c a w, Q (.panic c) (a.put oi.dst v) w → Q (.panic c) a w) (his : i ≠ s) (n : Nat) :
    ∀ (l : Array Bool) (a : Act) (w : World),
      (∀ j oj, ops[j]? = some oj → j ≠ i → l.getD j true = false → (∀ e ∈ oj.after, Region.binds md e = true → e.on ≠ i) → oi.apart ops oj = true) →
      i ∈ Region.ready md ops l → Yields P ops oi v a → Till s C l w →
      anyT P md ops Q s C n (l.setIfInBounds i true) (a.put oi.dst v) w → anyT P md ops Q s C (n + 1) l a w := by
  have up : ∀ {l : Array Bool} {w : World}, Till s C l w → Till s C (l.setIfInBounds i true) w := fun h h0 => h (by rwa [getD_set_ne true his] at h0)
  induction n with
  | zero =>
    intro l a w _ hr hy hC H
    refine ⟨fun h => absurd hr (by rw [h]; simp), fun j hj => ?_⟩
    by_cases hji : j = i
    · subst hji; exact hy.wpOp hi ⟨up hC, H⟩
    · exact absurd (ready_mono hj hji) (by rw [H.1]; simp)
  | succ n ih =>
    intro l a w hfree hr hy hC H
    refine ⟨fun h => absurd hr (by rw [h]; simp), fun j hj => ?_⟩
    by_cases hji : j = i
    · subst hji; exact hy.wpOp hi ⟨up hC, H⟩
    · have hli := (mem_ready.1 hr).1
      obtain ⟨hjl, oj, hoj, hall⟩ := mem_ready.1 hj
      have hnot : ∀ e ∈ oj.after, Region.binds md e = true → e.on ≠ i := fun e he hb heq => (Waits.not_ready ⟨oj, hoj, e, he, hb, heq⟩ hli) hj
      refine wpOp_mono (fun a' w' k => ?_) (wpOp_put hoj (hfree j oj hoj hji hjl hnot) (fun cs b => hsel i oi cs b hi) (fun cs b => hsel j oj cs b hoj) hQ hy (H.2 j (ready_mono hj hji)))
      obtain ⟨hy', hT, hrest⟩ := k
      have hT' := till_back his hT
      refine ⟨hT', ih (l.setIfInBounds j true) a' w' ?_ (ready_mono hr (Ne.symm hji)) hy' hT' ?_⟩
      · intro k ok hk hki hun hno
        refine hfree k ok hk hki ?_ hno
        by_cases hjk : j = k
        · subst hjk; exact hjl
        · rwa [getD_set_ne true hjk] at hun
      · rw [Array.setIfInBounds_comm _ _ hji]; exact hrest
theorem anyT_put (i d : Nat) (v : Value) (l' : Array Bool) {oi : Oper} {n : Nat} {l : Array Bool} {a : Act} {w : World} (hi : ops[i]? = some oi) (hd : oi.dst = some d) (hl' : l.setIfInBounds i true = l')
    (hs : Region.noSelect ops = true) (hf : Region.free md ops l i = true) (hr : (Region.ready md ops l).contains i = true)
    (hQ : ∀ c a w, Q (.panic c) (a.put oi.dst v) w → Q (.panic c) a w) (his : i ≠ s) (hy : Yields P ops oi v a) (hC : Till s C l w)
    (h : anyT P md ops Q s C n l' (a.put (some d) v) w) : anyT P md ops Q s C (n + 1) l a w :=
  anyT_pure hi (Region.noSelect_spec hs) hQ his n l a w (Region.free_spec hi hf) (by simpa using hr) hy hC (by rw [hd, hl']; exact h)
/-- One operation alone may come up: it is carried out. -/
theorem anyT_one (i : Nat) (l' : Array Bool) {o : Oper} {n : Nat} {l : Array Bool} {a : Act} {w : World} (hr : Region.ready md ops l = [i]) (ho : ops[i]? = some o) (hl' : l.setIfInBounds i true = l')
    (h : ∀ K : Act → World → Prop, RowKit.Hid (∀ a w, Till s C l' w → anyT P md ops Q s C n l' a w → K a w) → if Region.wanted o (yielded ops a.tmps) = true then Oper.wp P o a w K Q else K (a.put o.dst undef) w) : anyT P md ops Q s C (n + 1) l a w := by
  refine anyT_all hr (by simp) fun j hj => ?_
  obtain rfl := List.mem_singleton.1 hj
  exact wpOp_step ho fun K hK => h K fun a w h1 h2 => hK a w (by rw [hl']; exact ⟨h1, h2⟩)
/-- Two may come up: each that reads alone, in the world at hand. -/
theorem anyT_two (i j d e : Nat) (v u : Value) (li lj : Array Bool) {oi oj : Oper} {n : Nat} {l : Array Bool} {a : Act} {w : World} (hr : Region.ready md ops l = [i, j]) (hi : ops[i]? = some oi) (hj : ops[j]? = some oj) (hd : oi.dst = some d) (he : oj.dst = some e)
    (hli : l.setIfInBounds i true = li) (hlj : l.setIfInBounds j true = lj) (hyi : YieldsIf P ops C oi v a) (hyj : YieldsIf P ops C oj u a) (hC : C w)
    (h1 : anyT P md ops Q s C n li (a.put (some d) v) w) (h2 : anyT P md ops Q s C n lj (a.put (some e) u) w) : anyT P md ops Q s C (n + 1) l a w := by
  refine anyT_all hr (by simp) fun k hk => ?_
  rcases List.mem_cons.1 hk with rfl | hk
  · exact hyi.wpOp hi hC ⟨fun _ => hC, by rw [hd, hli]; exact h1⟩
  · obtain rfl := List.mem_singleton.1 hk
    exact hyj.wpOp hj hC ⟨fun _ => hC, by rw [he, hlj]; exact h2⟩
/-- Either of two may come up: each is carried out. -/
theorem anyT_br2 (i j : Nat) (li lj : Array Bool) {oi oj : Oper} {n : Nat} {l : Array Bool} {a : Act} {w : World} (hr : Region.ready md ops l = [i, j]) (hoi : ops[i]? = some oi) (hoj : ops[j]? = some oj) (hli : l.setIfInBounds i true = li) (hlj : l.setIfInBounds j true = lj)
    (h1 : ∀ K : Act → World → Prop, RowKit.Hid (∀ a w, Till s C li w → anyT P md ops Q s C n li a w → K a w) → if Region.wanted oi (yielded ops a.tmps) = true then Oper.wp P oi a w K Q else K (a.put oi.dst undef) w)
    (h2 : ∀ K : Act → World → Prop, RowKit.Hid (∀ a w, Till s C lj w → anyT P md ops Q s C n lj a w → K a w) → if Region.wanted oj (yielded ops a.tmps) = true then Oper.wp P oj a w K Q else K (a.put oj.dst undef) w) : anyT P md ops Q s C (n + 1) l a w := by
  refine anyT_all hr (by simp) fun k hk => ?_
  rcases List.mem_cons.1 hk with rfl | hk
  · exact wpOp_step hoi fun K hK => h1 K fun a w q1 q2 => hK a w (by rw [hli]; exact ⟨q1, q2⟩)
  · obtain rfl := List.mem_singleton.1 hk
    exact wpOp_step hoj fun K hK => h2 K fun a w q1 q2 => hK a w (by rw [hlj]; exact ⟨q1, q2⟩)
theorem anyT_read (i d : Nat) (v : Value) (l' : Array Bool) {oi : Oper} {n : Nat} {l : Array Bool} {a : Act} {w : World} (hr : Region.ready md ops l = [i]) (hi : ops[i]? = some oi) (hd : oi.dst = some d)
    (hli : l.setIfInBounds i true = l') (hyi : YieldsIf P ops C oi v a) (hC : C w) (h1 : anyT P md ops Q s C n l' (a.put (some d) v) w) : anyT P md ops Q s C (n + 1) l a w := by
  refine anyT_all hr (by simp) fun k hk => ?_
  obtain rfl := List.mem_singleton.1 hk
  exact hyi.wpOp hi hC ⟨fun _ => hC, by rw [hd, hli]; exact h1⟩
theorem anyT_done {l : Array Bool} {a : Act} {w : World} (hr : Region.ready md ops l = []) (h : Q .normal a w) : anyT P md ops Q s C 0 l a w := ⟨hr, h⟩
end
end Go.Proofs.Ythmiaiephkcdfaa
