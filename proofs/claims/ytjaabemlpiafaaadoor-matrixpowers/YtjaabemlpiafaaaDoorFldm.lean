/-
  Plain mathematics of folds: a line of numbers folds to one; functions that are the same whichever two come first, and either way round.
-/
import Derived.Test.YtjaabemlpiafaaaDoorNeum
import Derived.Test.YtjaabemlpiafaaaDoorBitm
import Derived.Test.YtjaabemlpiafaaaDoorBase
namespace Go.Proofs.YtjaabemlpiafaaaDoor
open Go.RowKit
set_option linter.unusedVariables false

/-- What a line folds to, and the error of it: from the right. -/
def fd (f : Int) : List Int → Int × Int
  | [] => (neutV f, neutE f)
  | [c] => (c, 0)
  | c :: d :: r => if (fd f (d :: r)).2 ≠ 0 then (0, (fd f (d :: r)).2) else (twoV f c (fd f (d :: r)).1, twoE f c (fd f (d :: r)).1)
def fdV (f : Int) (l : List Int) : Int := (fd f l).1
def fdE (f : Int) (l : List Int) : Int := (fd f l).2
theorem fdV_nil (f : Int) : fdV f [] = neutV f := rfl
theorem fdE_nil (f : Int) : fdE f [] = neutE f := rfl
theorem fdV_one (f c : Int) : fdV f [c] = c := rfl
theorem fdE_one (f c : Int) : fdE f [c] = 0 := rfl
theorem fdE_cons (f c : Int) {l : List Int} (h : l ≠ []) : fdE f (c :: l) = if fdE f l ≠ 0 then fdE f l else twoE f c (fdV f l) := by
  cases l with
  | nil => exact absurd rfl h
  | cons d r =>
    unfold fdE fdV
    rw [fd]
    by_cases h1 : (fd f (d :: r)).2 ≠ 0
    · rw [if_pos h1, if_pos h1]
    · rw [if_neg h1, if_neg h1]
theorem fdV_cons (f c : Int) {l : List Int} (h : l ≠ []) : fdV f (c :: l) = if fdE f l ≠ 0 then 0 else twoV f c (fdV f l) := by
  cases l with
  | nil => exact absurd rfl h
  | cons d r =>
    unfold fdE fdV
    rw [fd]
    by_cases h1 : (fd f (d :: r)).2 ≠ 0
    · rw [if_pos h1, if_pos h1]
    · rw [if_neg h1, if_neg h1]
theorem fdV_in {f : Int} : ∀ {l : List Int}, (∀ x, x ∈ l → In64 x) → In64 (fdV f l)
  | [], _ => neutV_in f
  | [c], h => h c (by simp)
  | c :: d :: r, h => by
    rw [fdV_cons f c (by simp)]
    split
    · unfold In64; decide
    · exact In64.two (h c (by simp)) (fdV_in fun x hx => h x (List.mem_cons_of_mem _ hx))
/-- Which errors a fold may have, of a function that is one. -/
theorem fdE_cases {f : Int} (hf : 1 ≤ f ∧ f ≤ 16) : ∀ l : List Int, fdE f l = 0 ∨ fdE f l = 6
  | [] => by
    rw [fdE_nil]
    unfold neutE
    rw [if_neg (by omega)]
    split <;> simp
  | [c] => .inl rfl
  | c :: d :: r => by
    rw [fdE_cons f c (by simp)]
    have ih := fdE_cases hf (d :: r)
    split
    · exact ih
    · unfold twoE
      rw [if_neg (by omega)]
      split
      · simp
      · split <;> simp

/-! ### Whichever two come first, and either way round -/
def Mon (f : Int) : Prop := f = 1 ∨ f = 3 ∨ f = 6 ∨ f = 7 ∨ f = 14 ∨ f = 15
section
variable {f : Int}
theorem Mon.fn (h : Mon f) : 1 ≤ f ∧ f ≤ 16 := by unfold Mon at h; omega
theorem Mon.te (h : Mon f) (a b : Int) : twoE f a b = 0 := by unfold Mon at h; exact te0 (by omega) (by omega) (fun e => by omega) (fun e => by omega)
theorem Mon.ne (h : Mon f) : neutE f = 0 := by unfold Mon at h; unfold neutE; rw [if_neg (by omega), if_neg (by omega)]
theorem Mon.comm (h : Mon f) {a b : Int} (ha : In64 a) (hb : In64 b) : twoV f a b = twoV f b a := by
  rcases h with rfl | rfl | rfl | rfl | rfl | rfl
  · rw [tv1, tv1, Int.add_comm]
  · rw [tv3, tv3, Int.mul_comm]
  · rw [tv6, tv6]; omega
  · rw [tv7, tv7]; omega
  · obtain ⟨x, rfl⟩ := bv_of ha; obtain ⟨y, rfl⟩ := bv_of hb
    rw [tv14, tv14, band_bv, band_bv, BitVec.and_comm]
  · obtain ⟨x, rfl⟩ := bv_of ha; obtain ⟨y, rfl⟩ := bv_of hb
    rw [tv15, tv15, bor_bv, bor_bv, BitVec.or_comm]
theorem Mon.assoc (h : Mon f) {a b c : Int} (ha : In64 a) (hb : In64 b) (hc : In64 c) : twoV f (twoV f a b) c = twoV f a (twoV f b c) := by
  rcases h with rfl | rfl | rfl | rfl | rfl | rfl
  · simp only [tv1]; rw [w_addl, w_addr, Int.add_assoc]
  · simp only [tv3]; rw [w_mull, w_mulr, Int.mul_assoc]
  · simp only [tv6]; omega
  · simp only [tv7]; omega
  · obtain ⟨x, rfl⟩ := bv_of ha; obtain ⟨y, rfl⟩ := bv_of hb; obtain ⟨z, rfl⟩ := bv_of hc
    simp only [tv14, band_bv, BitVec.and_assoc]
  · obtain ⟨x, rfl⟩ := bv_of ha; obtain ⟨y, rfl⟩ := bv_of hb; obtain ⟨z, rfl⟩ := bv_of hc
    simp only [tv15, bor_bv, BitVec.or_assoc]
theorem Mon.unit (h : Mon f) {a : Int} (ha : In64 a) : twoV f a (neutV f) = a := by
  have h2 := ha
  unfold In64 at h2
  rcases h with rfl | rfl | rfl | rfl | rfl | rfl
  · rw [tv1, show neutV 1 = 0 from rfl, Int.add_zero, ha.same]
  · rw [tv3, show neutV 3 = 1 from rfl, Int.mul_one, ha.same]
  · rw [tv6, show neutV 6 = -9223372036854775808 from rfl]; omega
  · rw [tv7, show neutV 7 = 9223372036854775807 from rfl]; omega
  · obtain ⟨x, rfl⟩ := bv_of ha
    rw [tv14, show neutV 14 = (BitVec.allOnes 64).toInt from rfl, band_bv, BitVec.and_allOnes]
  · obtain ⟨x, rfl⟩ := bv_of ha
    rw [tv15, show neutV 15 = (0#64).toInt from rfl, bor_bv, BitVec.or_zero]
theorem Mon.unit' (h : Mon f) {a : Int} (ha : In64 a) : twoV f (neutV f) a = a := by rw [h.comm (neutV_in f) ha, h.unit ha]
theorem Mon.swap (h : Mon f) {a b c : Int} (ha : In64 a) (hb : In64 b) (hc : In64 c) : twoV f a (twoV f b c) = twoV f b (twoV f a c) := by
  rw [← h.assoc ha hb hc, h.comm ha hb, h.assoc hb ha hc]
theorem Mon.four (h : Mon f) {a b c d : Int} (ha : In64 a) (hb : In64 b) (hc : In64 c) (hd : In64 d) : twoV f (twoV f a b) (twoV f c d) = twoV f (twoV f a c) (twoV f b d) := by
  rw [h.assoc ha hb (In64.two hc hd), h.swap hb hc hd, ← h.assoc ha hc (In64.two hb hd)]
/-- All of a list, by such a function. -/
def L64 (l : List Int) : Prop := ∀ x, x ∈ l → In64 x
theorem L64.tail {x : Int} {l : List Int} (h : L64 (x :: l)) : L64 l := fun y hy => h y (List.mem_cons_of_mem _ hy)
theorem L64.head {x : Int} {l : List Int} (h : L64 (x :: l)) : In64 x := h x (by simp)
theorem L64.map {α : Type} {l : List α} {g : α → Int} (h : ∀ x, x ∈ l → In64 (g x)) : L64 (l.map g) := fun y hy => by
  obtain ⟨x, hx, rfl⟩ := List.mem_map.1 hy
  exact h x hx
theorem Mon.fold (h : Mon f) : ∀ {l : List Int}, L64 l → fdE f l = 0 ∧ fdV f l = l.foldr (twoV f) (neutV f)
  | [], _ => ⟨h.ne, rfl⟩
  | [c], hl => ⟨rfl, (h.unit hl.head).symm⟩
  | c :: d :: r, hl => by
    have ih := h.fold hl.tail
    rw [fdE_cons f c (by simp), fdV_cons f c (by simp), if_neg (by simp [ih.1]), if_neg (by simp [ih.1]), ih.2]
    exact ⟨h.te _ _, rfl⟩
theorem Mon.ok (h : Mon f) {l : List Int} (hl : L64 l) : fdE f l = 0 := (h.fold hl).1
theorem Mon.step (h : Mon f) {c : Int} {l : List Int} (hl : L64 (c :: l)) : fdV f (c :: l) = twoV f c (fdV f l) := by
  rw [(h.fold hl).2, (h.fold hl.tail).2]; rfl
theorem Mon.app (h : Mon f) {b : List Int} (hb : L64 b) : ∀ {a : List Int}, L64 a → fdV f (a ++ b) = twoV f (fdV f a) (fdV f b)
  | [], _ => by rw [List.nil_append, fdV_nil, h.unit' (fdV_in hb)]
  | c :: a, ha => by
    have hab : L64 (c :: (a ++ b)) := fun x hx => by
      rcases List.mem_cons.1 hx with e | e
      · exact e ▸ ha.head
      · rcases List.mem_append.1 e with e | e
        · exact ha.tail x e
        · exact hb x e
    rw [List.cons_append, h.step hab, h.step ha, h.app hb ha.tail, h.assoc ha.head (fdV_in ha.tail) (fdV_in hb)]
theorem Mon.perm (h : Mon f) {a b : List Int} (hp : a.Perm b) : L64 a → fdV f a = fdV f b := by
  induction hp with
  | nil => intro _; rfl
  | cons x hp ih =>
    intro ha
    rw [h.step ha, ih ha.tail, h.step fun y hy => ha y ((hp.cons x).mem_iff.2 hy)]
  | swap x y l =>
    intro ha
    have hb : L64 (x :: y :: l) := fun z hz => ha z (by simp only [List.mem_cons] at hz ⊢; rcases hz with e | e | e <;> simp [e])
    rw [h.step ha, h.step ha.tail, h.step hb, h.step hb.tail]
    exact h.swap ha.head ha.tail.head (fdV_in ha.tail.tail)
  | trans h1 h2 ih1 ih2 =>
    intro ha
    exact (ih1 ha).trans (ih2 fun x hx => ha x (h1.mem_iff.2 hx))
theorem Mon.zip (h : Mon f) {α : Type} {u v : α → Int} : ∀ {l : List α}, (∀ x, x ∈ l → In64 (u x) ∧ In64 (v x)) → fdV f (l.map fun x => twoV f (u x) (v x)) = twoV f (fdV f (l.map u)) (fdV f (l.map v))
  | [], _ => (h.unit (neutV_in f)).symm
  | x :: l, hl => by
    have ih := h.zip (u := u) (v := v) (l := l) fun y hy => hl y (List.mem_cons_of_mem _ hy)
    have hx := hl x (by simp)
    have lu : L64 ((x :: l).map u) := L64.map fun y hy => (hl y hy).1
    have lv : L64 ((x :: l).map v) := L64.map fun y hy => (hl y hy).2
    have lw : L64 ((x :: l).map fun x => twoV f (u x) (v x)) := L64.map fun y hy => In64.two (hl y hy).1 (hl y hy).2
    rw [List.map_cons] at lu lv lw ⊢
    rw [h.step lw, ih, List.map_cons, List.map_cons, h.step lu, h.step lv]
    exact h.four hx.1 hx.2 (fdV_in lu.tail) (fdV_in lv.tail)
/-- Along one line and then along another one, either way round. -/
theorem Mon.fubini (h : Mon f) {α β : Type} (m : List β) {g : α → β → Int} : ∀ {l : List α}, (∀ x y, In64 (g x y)) → fdV f (l.map fun x => fdV f (m.map fun y => g x y)) = fdV f (m.map fun y => fdV f (l.map fun x => g x y))
  | [], hg => by
    simp only [List.map_nil, fdV_nil]
    have e : ∀ m : List β, fdV f (m.map fun _ => neutV f) = neutV f := fun m => by
      induction m with
      | nil => rfl
      | cons y m ih => rw [List.map_cons, h.step (by rw [← List.map_cons (f := fun _ : β => neutV f) (a := y)]; exact L64.map fun _ _ => neutV_in f), ih, h.unit (neutV_in f)]
    rw [e]
  | x :: l, hg => by
    have ih := h.fubini m (l := l) hg
    have e : (m.map fun y => fdV f ((x :: l).map fun x => g x y)) = m.map fun y => twoV f (g x y) (fdV f (l.map fun x => g x y)) := List.map_congr_left fun y _ => by
      rw [List.map_cons, h.step (by rw [← List.map_cons (f := fun x => g x y)]; exact L64.map fun z _ => hg z y)]
    rw [List.map_cons, h.step (by rw [← List.map_cons (f := fun x => fdV f (m.map fun y => g x y))]; exact L64.map fun z _ => fdV_in (L64.map fun y _ => hg z y)), ih, e, h.zip fun y _ => ⟨hg x y, fdV_in (L64.map fun z _ => hg z y)⟩]
end
end Go.Proofs.YtjaabemlpiafaaaDoor
