/-
  Neum Bitm Fldm Prdm, together.
-/
import Derived.Test.YtgaelbgeoobgiaaBase
/-! Neum: Which number changes nothing, by function. -/
namespace Go.Proofs.Ytgaelbgeoobgiaa
open Go.RowKit

def neutE (f : Int) : Int := if f < 1 ∨ 16 < f then 1 else if 8 ≤ f ∧ f ≤ 13 then 6 else 0
def neutV (f : Int) : Int := if f = 3 ∨ f = 4 ∨ f = 16 then 1 else if f = 6 then -9223372036854775808 else if f = 7 then 9223372036854775807 else if f = 14 then -1 else 0
theorem neutV_in (f : Int) : In64 (neutV f) := by
  unfold neutV
  repeat' split
  all_goals (unfold In64; decide)
theorem neutE_cases (f : Int) : neutE f = 0 ∨ neutE f = 1 ∨ neutE f = 6 := by
  unfold neutE
  repeat' split
  all_goals simp
end Go.Proofs.Ytgaelbgeoobgiaa
/-! Bitm: Plain mathematics of bits: both, either, and all the others; nothing of the program. -/
namespace Go.Proofs.Ytgaelbgeoobgiaa
open Go.RowKit
set_option linter.unusedVariables false

theorem w_bmod (n : Int) : wrap64 n = Int.bmod n (2 ^ 64) := by
  unfold wrap64
  rw [Int.bmod_def]
  simp only [Nat.reducePow]
  split <;> omega
theorem w_nat (x : BitVec 64) : wrap64 (x.toNat : Int) = x.toInt := by rw [w_bmod, BitVec.toInt_eq_toNat_bmod]
theorem bv_of {a : Int} (h : In64 a) : ∃ x : BitVec 64, a = x.toInt := ⟨BitVec.ofInt 64 a, by rw [BitVec.toInt_ofInt, ← w_bmod, h.same]⟩
theorem band_bv (x y : BitVec 64) : bandV x.toInt y.toInt = (x &&& y).toInt := by
  unfold bandV Go.bits
  simp only [IntWalk.i64_left]
  show wrap64 ((BitVec.ofInt 64 x.toInt &&& BitVec.ofInt 64 y.toInt).toNat : Int) = _
  rw [BitVec.ofInt_toInt, BitVec.ofInt_toInt, w_nat]
theorem bor_bv (x y : BitVec 64) : borV x.toInt y.toInt = (x ||| y).toInt := by
  unfold borV Go.bits
  simp only [IntWalk.i64_left]
  show wrap64 ((BitVec.ofInt 64 x.toInt ||| BitVec.ofInt 64 y.toInt).toNat : Int) = _
  rw [BitVec.ofInt_toInt, BitVec.ofInt_toInt, w_nat]
theorem bnot_bv (x : BitVec 64) : wrap64 (-1 - x.toInt) = (~~~x).toInt := by
  rw [BitVec.toInt_eq_toNat_cond, BitVec.toInt_eq_toNat_cond, BitVec.toNat_not]
  have := x.isLt
  simp only [Nat.reducePow] at *
  unfold wrap64
  split <;> split <;> omega
theorem add_bv (x y : BitVec 64) : wrap64 (x.toInt + y.toInt) = (x + y).toInt := by rw [w_bmod, BitVec.toInt_add]
theorem nat_and_or (x y : Nat) : (x &&& y) + (x ||| y) = x + y := by
  induction x using Nat.strongRecOn generalizing y with
  | _ x ih =>
    by_cases h0 : x = 0
    · subst h0; simp
    · have h1 := ih (x / 2) (by omega) (y / 2)
      have a1 : (x &&& y) / 2 = x / 2 &&& y / 2 := Nat.and_div_two
      have a2 : (x ||| y) / 2 = x / 2 ||| y / 2 := Nat.or_div_two
      have b1 : (x &&& y) % 2 = 1 ↔ x % 2 = 1 ∧ y % 2 = 1 := Nat.and_mod_two_eq_one
      have b2 : (x ||| y) % 2 = 1 ↔ x % 2 = 1 ∨ y % 2 = 1 := Nat.or_mod_two_eq_one
      rw [← a1, ← a2] at h1
      omega
theorem and_or_bv (x y : BitVec 64) : (x &&& y) + (x ||| y) = x + y := by
  apply BitVec.eq_of_toNat_eq
  rw [BitVec.toNat_add, BitVec.toNat_add, BitVec.toNat_and, BitVec.toNat_or, nat_and_or]
theorem or_abs (x y : BitVec 64) : x ||| (x &&& y) = x := by ext i; simp; intro h _; exact h
theorem and_abs (x y : BitVec 64) : x &&& (x ||| y) = x := by ext i; simp; intro h; exact Or.inl h
theorem and_not (x : BitVec 64) : (x &&& ~~~x).toInt = 0 := by rw [show x &&& ~~~x = 0#64 from by ext i; simp]; rfl
theorem or_not (x : BitVec 64) : (x ||| ~~~x).toInt = -1 := by rw [show x ||| ~~~x = BitVec.allOnes 64 from by ext i; simp]; rfl
end Go.Proofs.Ytgaelbgeoobgiaa
/-! Fldm: Plain mathematics of folds: a line of numbers folds to one; functions that are the same whichever two come first, and either way round. -/
namespace Go.Proofs.Ytgaelbgeoobgiaa
open Go.RowKit
set_option linter.unusedVariables false

/-- What a line folds to, and the error of it: from the right. -/
def fd (f : Int) : List Int → Int × Int
  | [] => (neutV f, neutE f)
  | [c] => (c, 0)
  | c :: d :: r => if (fd f (d :: r)).2 ≠ 0 then (0, (fd f (d :: r)).2) else (twoV f c (fd f (d :: r)).1, twoE f c (fd f (d :: r)).1)
def fdV (f : Int) (l : List Int) : Int := (fd f l).1
def fdE (f : Int) (l : List Int) : Int := (fd f l).2
theorem fdV_nil (f : Int) : fdV f [] = neutV f := rfl
theorem fdE_nil (f : Int) : fdE f [] = neutE f := rfl
theorem fdV_one (f c : Int) : fdV f [c] = c := rfl
theorem fdE_one (f c : Int) : fdE f [c] = 0 := rfl
theorem fdE_cons (f c : Int) {l : List Int} (h : l ≠ []) : fdE f (c :: l) = if fdE f l ≠ 0 then fdE f l else twoE f c (fdV f l) := by
  cases l with
  | nil => exact absurd rfl h
  | cons d r =>
    unfold fdE fdV
    rw [fd]
    by_cases h1 : (fd f (d :: r)).2 ≠ 0
    · rw [if_pos h1, if_pos h1]
    · rw [if_neg h1, if_neg h1]
theorem fdV_cons (f c : Int) {l : List Int} (h : l ≠ []) : fdV f (c :: l) = if fdE f l ≠ 0 then 0 else twoV f c (fdV f l) := by
  cases l with
  | nil => exact absurd rfl h
  | cons d r =>
    unfold fdE fdV
    rw [fd]
    by_cases h1 : (fd f (d :: r)).2 ≠ 0
    · rw [if_pos h1, if_pos h1]
    · rw [if_neg h1, if_neg h1]
theorem fdV_in {f : Int} : ∀ {l : List Int}, (∀ x, x ∈ l → In64 x) → In64 (fdV f l)
  | [], _ => neutV_in f
  | [c], h => h c (by simp)
  | c :: d :: r, h => by
    rw [fdV_cons f c (by simp)]
    split
    · unfold In64; decide
    · exact In64.two (h c (by simp)) (fdV_in fun x hx => h x (List.mem_cons_of_mem _ hx))
/-- Which errors a fold may have, of a function that is one. -/
theorem fdE_cases {f : Int} (hf : 1 ≤ f ∧ f ≤ 16) : ∀ l : List Int, fdE f l = 0 ∨ fdE f l = 6
  | [] => by
    rw [fdE_nil]
    unfold neutE
    rw [if_neg (by omega)]
    split <;> simp
  | [c] => .inl rfl
  | c :: d :: r => by
    rw [fdE_cons f c (by simp)]
    have ih := fdE_cases hf (d :: r)
    split
    · exact ih
    · unfold twoE
      rw [if_neg (by omega)]
      split
      · simp
      · split <;> simp

/-! ### Whichever two come first, and either way round -/
def Mon (f : Int) : Prop := f = 1 ∨ f = 3 ∨ f = 6 ∨ f = 7 ∨ f = 14 ∨ f = 15
section
variable {f : Int}
theorem Mon.fn (h : Mon f) : 1 ≤ f ∧ f ≤ 16 := by unfold Mon at h; omega
theorem Mon.te (h : Mon f) (a b : Int) : twoE f a b = 0 := by unfold Mon at h; exact te0 (by omega) (by omega) (fun e => by omega) (fun e => by omega)
theorem Mon.ne (h : Mon f) : neutE f = 0 := by unfold Mon at h; unfold neutE; rw [if_neg (by omega), if_neg (by omega)]
theorem Mon.comm (h : Mon f) {a b : Int} (ha : In64 a) (hb : In64 b) : twoV f a b = twoV f b a := by
  rcases h with rfl | rfl | rfl | rfl | rfl | rfl
  · rw [tv1, tv1, Int.add_comm]
  · rw [tv3, tv3, Int.mul_comm]
  · rw [tv6, tv6]; omega
  · rw [tv7, tv7]; omega
  · obtain ⟨x, rfl⟩ := bv_of ha; obtain ⟨y, rfl⟩ := bv_of hb
    rw [tv14, tv14, band_bv, band_bv, BitVec.and_comm]
  · obtain ⟨x, rfl⟩ := bv_of ha; obtain ⟨y, rfl⟩ := bv_of hb
    rw [tv15, tv15, bor_bv, bor_bv, BitVec.or_comm]
theorem Mon.assoc (h : Mon f) {a b c : Int} (ha : In64 a) (hb : In64 b) (hc : In64 c) : twoV f (twoV f a b) c = twoV f a (twoV f b c) := by
  rcases h with rfl | rfl | rfl | rfl | rfl | rfl
  · simp only [tv1]; rw [w_addl, w_addr, Int.add_assoc]
  · simp only [tv3]; rw [w_mull, w_mulr, Int.mul_assoc]
  · simp only [tv6]; omega
  · simp only [tv7]; omega
  · obtain ⟨x, rfl⟩ := bv_of ha; obtain ⟨y, rfl⟩ := bv_of hb; obtain ⟨z, rfl⟩ := bv_of hc
    simp only [tv14, band_bv, BitVec.and_assoc]
  · obtain ⟨x, rfl⟩ := bv_of ha; obtain ⟨y, rfl⟩ := bv_of hb; obtain ⟨z, rfl⟩ := bv_of hc
    simp only [tv15, bor_bv, BitVec.or_assoc]
theorem Mon.unit (h : Mon f) {a : Int} (ha : In64 a) : twoV f a (neutV f) = a := by
  have h2 := ha
  unfold In64 at h2
  rcases h with rfl | rfl | rfl | rfl | rfl | rfl
  · rw [tv1, show neutV 1 = 0 from rfl, Int.add_zero, ha.same]
  · rw [tv3, show neutV 3 = 1 from rfl, Int.mul_one, ha.same]
  · rw [tv6, show neutV 6 = -9223372036854775808 from rfl]; omega
  · rw [tv7, show neutV 7 = 9223372036854775807 from rfl]; omega
  · obtain ⟨x, rfl⟩ := bv_of ha
    rw [tv14, show neutV 14 = (BitVec.allOnes 64).toInt from rfl, band_bv, BitVec.and_allOnes]
  · obtain ⟨x, rfl⟩ := bv_of ha
    rw [tv15, show neutV 15 = (0#64).toInt from rfl, bor_bv, BitVec.or_zero]
theorem Mon.unit' (h : Mon f) {a : Int} (ha : In64 a) : twoV f (neutV f) a = a := by rw [h.comm (neutV_in f) ha, h.unit ha]
theorem Mon.swap (h : Mon f) {a b c : Int} (ha : In64 a) (hb : In64 b) (hc : In64 c) : twoV f a (twoV f b c) = twoV f b (twoV f a c) := by
  rw [← h.assoc ha hb hc, h.comm ha hb, h.assoc hb ha hc]
theorem Mon.four (h : Mon f) {a b c d : Int} (ha : In64 a) (hb : In64 b) (hc : In64 c) (hd : In64 d) : twoV f (twoV f a b) (twoV f c d) = twoV f (twoV f a c) (twoV f b d) := by
  rw [h.assoc ha hb (In64.two hc hd), h.swap hb hc hd, ← h.assoc ha hc (In64.two hb hd)]
/-- All of a list, by such a function. -/
def L64 (l : List Int) : Prop := ∀ x, x ∈ l → In64 x
theorem L64.tail {x : Int} {l : List Int} (h : L64 (x :: l)) : L64 l := fun y hy => h y (List.mem_cons_of_mem _ hy)
theorem L64.head {x : Int} {l : List Int} (h : L64 (x :: l)) : In64 x := h x (by simp)
theorem L64.map {α : Type} {l : List α} {g : α → Int} (h : ∀ x, x ∈ l → In64 (g x)) : L64 (l.map g) := fun y hy => by
  obtain ⟨x, hx, rfl⟩ := List.mem_map.1 hy
  exact h x hx
theorem Mon.fold (h : Mon f) : ∀ {l : List Int}, L64 l → fdE f l = 0 ∧ fdV f l = l.foldr (twoV f) (neutV f)
  | [], _ => ⟨h.ne, rfl⟩
  | [c], hl => ⟨rfl, (h.unit hl.head).symm⟩
  | c :: d :: r, hl => by
    have ih := h.fold hl.tail
    rw [fdE_cons f c (by simp), fdV_cons f c (by simp), if_neg (by simp [ih.1]), if_neg (by simp [ih.1]), ih.2]
    exact ⟨h.te _ _, rfl⟩
theorem Mon.ok (h : Mon f) {l : List Int} (hl : L64 l) : fdE f l = 0 := (h.fold hl).1
theorem Mon.step (h : Mon f) {c : Int} {l : List Int} (hl : L64 (c :: l)) : fdV f (c :: l) = twoV f c (fdV f l) := by
  rw [(h.fold hl).2, (h.fold hl.tail).2]; rfl
theorem Mon.app (h : Mon f) {b : List Int} (hb : L64 b) : ∀ {a : List Int}, L64 a → fdV f (a ++ b) = twoV f (fdV f a) (fdV f b)
  | [], _ => by rw [List.nil_append, fdV_nil, h.unit' (fdV_in hb)]
  | c :: a, ha => by
    have hab : L64 (c :: (a ++ b)) := fun x hx => by
      rcases List.mem_cons.1 hx with e | e
      · exact e ▸ ha.head
      · rcases List.mem_append.1 e with e | e
        · exact ha.tail x e
        · exact hb x e
    rw [List.cons_append, h.step hab, h.step ha, h.app hb ha.tail, h.assoc ha.head (fdV_in ha.tail) (fdV_in hb)]
theorem Mon.perm (h : Mon f) {a b : List Int} (hp : a.Perm b) : L64 a → fdV f a = fdV f b := by
  induction hp with
  | nil => intro _; rfl
  | cons x hp ih =>
    intro ha
    rw [h.step ha, ih ha.tail, h.step fun y hy => ha y ((hp.cons x).mem_iff.2 hy)]
  | swap x y l =>
    intro ha
    have hb : L64 (x :: y :: l) := fun z hz => ha z (by simp only [List.mem_cons] at hz ⊢; rcases hz with e | e | e <;> simp [e])
    rw [h.step ha, h.step ha.tail, h.step hb, h.step hb.tail]
    exact h.swap ha.head ha.tail.head (fdV_in ha.tail.tail)
  | trans h1 h2 ih1 ih2 =>
    intro ha
    exact (ih1 ha).trans (ih2 fun x hx => ha x (h1.mem_iff.2 hx))
theorem Mon.zip (h : Mon f) {α : Type} {u v : α → Int} : ∀ {l : List α}, (∀ x, x ∈ l → In64 (u x) ∧ In64 (v x)) → fdV f (l.map fun x => twoV f (u x) (v x)) = twoV f (fdV f (l.map u)) (fdV f (l.map v))
  | [], _ => (h.unit (neutV_in f)).symm
  | x :: l, hl => by
    have ih := h.zip (u := u) (v := v) (l := l) fun y hy => hl y (List.mem_cons_of_mem _ hy)
    have hx := hl x (by simp)
    have lu : L64 ((x :: l).map u) := L64.map fun y hy => (hl y hy).1
    have lv : L64 ((x :: l).map v) := L64.map fun y hy => (hl y hy).2
    have lw : L64 ((x :: l).map fun x => twoV f (u x) (v x)) := L64.map fun y hy => In64.two (hl y hy).1 (hl y hy).2
    rw [List.map_cons] at lu lv lw ⊢
    rw [h.step lw, ih, List.map_cons, List.map_cons, h.step lu, h.step lv]
    exact h.four hx.1 hx.2 (fdV_in lu.tail) (fdV_in lv.tail)
/-- Along one line and then along another one, either way round. -/
theorem Mon.fubini (h : Mon f) {α β : Type} (m : List β) {g : α → β → Int} : ∀ {l : List α}, (∀ x y, In64 (g x y)) → fdV f (l.map fun x => fdV f (m.map fun y => g x y)) = fdV f (m.map fun y => fdV f (l.map fun x => g x y))
  | [], hg => by
    simp only [List.map_nil, fdV_nil]
    have e : ∀ m : List β, fdV f (m.map fun _ => neutV f) = neutV f := fun m => by
      induction m with
      | nil => rfl
      | cons y m ih => rw [List.map_cons, h.step (by rw [← List.map_cons (f := fun _ : β => neutV f) (a := y)]; exact L64.map fun _ _ => neutV_in f), ih, h.unit (neutV_in f)]
    rw [e]
  | x :: l, hg => by
    have ih := h.fubini m (l := l) hg
    have e : (m.map fun y => fdV f ((x :: l).map fun x => g x y)) = m.map fun y => twoV f (g x y) (fdV f (l.map fun x => g x y)) := List.map_congr_left fun y _ => by
      rw [List.map_cons, h.step (by rw [← List.map_cons (f := fun x => g x y)]; exact L64.map fun z _ => hg z y)]
    rw [List.map_cons, h.step (by rw [← List.map_cons (f := fun x => fdV f (m.map fun y => g x y))]; exact L64.map fun z _ => fdV_in (L64.map fun y _ => hg z y)), ih, e, h.zip fun y _ => ⟨hg x y, fdV_in (L64.map fun z _ => hg z y)⟩]
end
end Go.Proofs.Ytgaelbgeoobgiaa
/-! Prdm: Plain mathematics of sums of products, by functions that go together like sums and products. -/
namespace Go.Proofs.Ytgaelbgeoobgiaa
open Go.RowKit
set_option linter.unusedVariables false

/-- The two go together like sums and products. -/
def Srg (f g : Int) : Prop := f = 1 ∧ g = 3 ∨ f = 6 ∧ g = 7 ∨ f = 7 ∧ g = 6 ∨ f = 15 ∧ g = 14 ∨ f = 14 ∧ g = 15
section
variable {f g : Int}
theorem Srg.su (h : Srg f g) : Mon f := by unfold Srg at h; unfold Mon; omega
theorem Srg.pr (h : Srg f g) : Mon g := by unfold Srg at h; unfold Mon; omega
theorem and_or_dist (x y z : BitVec 64) : (x ||| y) &&& z = (x &&& z) ||| (y &&& z) := by ext i; simp [Bool.and_or_distrib_right]
theorem or_and_dist (x y z : BitVec 64) : (x &&& y) ||| z = (x ||| z) &&& (y ||| z) := by ext i; simp [Bool.or_and_distrib_right]
/-- A product of a sum is the sum of the products. -/
theorem Srg.dist (h : Srg f g) {a b c : Int} (ha : In64 a) (hb : In64 b) (hc : In64 c) : twoV g (twoV f a b) c = twoV f (twoV g a c) (twoV g b c) := by
  rcases h with ⟨rfl, rfl⟩ | ⟨rfl, rfl⟩ | ⟨rfl, rfl⟩ | ⟨rfl, rfl⟩ | ⟨rfl, rfl⟩
  · simp only [tv1, tv3]; rw [w_mull, w_addl, w_addr, Int.add_mul]
  · simp only [tv6, tv7]; omega
  · simp only [tv6, tv7]; omega
  · obtain ⟨x, rfl⟩ := bv_of ha; obtain ⟨y, rfl⟩ := bv_of hb; obtain ⟨z, rfl⟩ := bv_of hc
    simp only [tv14, tv15, band_bv, bor_bv, and_or_dist]
  · obtain ⟨x, rfl⟩ := bv_of ha; obtain ⟨y, rfl⟩ := bv_of hb; obtain ⟨z, rfl⟩ := bv_of hc
    simp only [tv14, tv15, band_bv, bor_bv, or_and_dist]
/-- Nothing times a number is nothing. -/
theorem Srg.none (h : Srg f g) {c : Int} (hc : In64 c) : twoV g (neutV f) c = neutV f := by
  have h2 := hc
  unfold In64 at h2
  rcases h with ⟨rfl, rfl⟩ | ⟨rfl, rfl⟩ | ⟨rfl, rfl⟩ | ⟨rfl, rfl⟩ | ⟨rfl, rfl⟩
  · rw [tv3, show neutV 1 = 0 from rfl, Int.zero_mul]; exact w_small (by omega) (by omega)
  · rw [tv7, show neutV 6 = -9223372036854775808 from rfl]; omega
  · rw [tv6, show neutV 7 = 9223372036854775807 from rfl]; omega
  · obtain ⟨x, rfl⟩ := bv_of hc
    rw [tv14, show neutV 15 = (0#64).toInt from rfl, band_bv, BitVec.zero_and]
  · obtain ⟨x, rfl⟩ := bv_of hc
    rw [tv15, show neutV 14 = (BitVec.allOnes 64).toInt from rfl, bor_bv, BitVec.allOnes_or]
theorem Srg.right (h : Srg f g) {c : Int} (hc : In64 c) {α : Type} {u : α → Int} : ∀ {l : List α}, (∀ x, x ∈ l → In64 (u x)) → twoV g (fdV f (l.map u)) c = fdV f (l.map fun x => twoV g (u x) c)
  | [], _ => h.none hc
  | x :: l, hl => by
    have lu : L64 ((x :: l).map u) := L64.map hl
    have lv : L64 ((x :: l).map fun x => twoV g (u x) c) := L64.map fun y hy => In64.two (hl y hy) hc
    rw [List.map_cons] at lu lv ⊢
    rw [h.su.step lu, h.dist lu.head (fdV_in lu.tail) hc, h.right hc fun y hy => hl y (List.mem_cons_of_mem _ hy), List.map_cons, h.su.step lv]
theorem Srg.left (h : Srg f g) {c : Int} (hc : In64 c) {α : Type} {u : α → Int} {l : List α} (hl : ∀ x, x ∈ l → In64 (u x)) : twoV g c (fdV f (l.map u)) = fdV f (l.map fun x => twoV g c (u x)) := by
  rw [h.pr.comm hc (fdV_in (L64.map hl)), h.right hc hl]
  congr 1
  exact List.map_congr_left fun x hx => h.pr.comm (hl x hx) hc
/-- Sums of products: of rows with columns. -/
def imm (f g : Int) (k : Nat) (A B : Nat → Nat → Int) : Nat → Nat → Int := fun i j => fdV f ((List.range k).map fun l => twoV g (A i l) (B l j))
def M64 (A : Nat → Nat → Int) : Prop := ∀ i j, In64 (A i j)
theorem imm_64 {k : Nat} {A B : Nat → Nat → Int} (hA : M64 A) (hB : M64 B) : M64 (imm f g k A B) := fun i j => fdV_in (L64.map fun l _ => In64.two (hA i l) (hB l j))
/-- Whichever two come first. -/
theorem Srg.chain (h : Srg f g) {A B C : Nat → Nat → Int} (hA : M64 A) (hB : M64 B) (hC : M64 C) (k k' : Nat) (i j : Nat) : imm f g k' (imm f g k A B) C i j = imm f g k A (imm f g k' B C) i j := by
  unfold imm
  have e1 : ((List.range k').map fun l => twoV g (fdV f ((List.range k).map fun m => twoV g (A i m) (B m l))) (C l j)) = (List.range k').map fun l => fdV f ((List.range k).map fun m => twoV g (twoV g (A i m) (B m l)) (C l j)) :=
    List.map_congr_left fun l _ => h.right (hC l j) fun m _ => In64.two (hA i m) (hB m l)
  have e2 : ((List.range k).map fun m => twoV g (A i m) (fdV f ((List.range k').map fun l => twoV g (B m l) (C l j)))) = (List.range k).map fun m => fdV f ((List.range k').map fun l => twoV g (twoV g (A i m) (B m l)) (C l j)) :=
    List.map_congr_left fun m _ => by
      rw [h.left (hA i m) fun l _ => In64.two (hB m l) (hC l j)]
      congr 1
      exact List.map_congr_left fun l _ => (h.pr.assoc (hA i m) (hB m l) (hC l j)).symm
  rw [e1, e2]
  exact h.su.fubini (List.range k) (g := fun l m => twoV g (twoV g (A i m) (B m l)) (C l j)) fun l m => In64.two (In64.two (hA i m) (hB m l)) (hC l j)
/-- Turned round they change places. -/
theorem Srg.turned (h : Srg f g) {A B : Nat → Nat → Int} (hA : M64 A) (hB : M64 B) (k i j : Nat) : imm f g k A B i j = imm f g k (fun r c => B c r) (fun r c => A c r) j i := by
  unfold imm
  congr 1
  exact List.map_congr_left fun l _ => h.pr.comm (hA i l) (hB l j)
/-- Sums may be taken apart. -/
theorem srg13 : Srg 1 3 := .inl ⟨rfl, rfl⟩
theorem imm_add_right {A B C : Nat → Nat → Int} (hA : M64 A) (hB : M64 B) (hC : M64 C) (k i j : Nat) : imm 1 3 k A (fun r c => twoV 1 (B r c) (C r c)) i j = twoV 1 (imm 1 3 k A B i j) (imm 1 3 k A C i j) := by
  unfold imm
  rw [← srg13.su.zip fun l _ => ⟨In64.two (hA i l) (hB l j), In64.two (hA i l) (hC l j)⟩]
  congr 1
  exact List.map_congr_left fun l _ => by
    rw [srg13.pr.comm (hA i l) (In64.two (hB l j) (hC l j)), srg13.dist (hB l j) (hC l j) (hA i l), srg13.pr.comm (hB l j) (hA i l), srg13.pr.comm (hC l j) (hA i l)]
theorem imm_add_left {A B C : Nat → Nat → Int} (hA : M64 A) (hB : M64 B) (hC : M64 C) (k i j : Nat) : imm 1 3 k (fun r c => twoV 1 (B r c) (C r c)) A i j = twoV 1 (imm 1 3 k B A i j) (imm 1 3 k C A i j) := by
  unfold imm
  rw [← srg13.su.zip fun l _ => ⟨In64.two (hB i l) (hA l j), In64.two (hC i l) (hA l j)⟩]
  congr 1
  exact List.map_congr_left fun l _ => srg13.dist (hB i l) (hC i l) (hA l j)
/-- One of a list, and nothing else. -/
theorem fold_pick {u : Nat → Int} (hu : ∀ i, In64 (u i)) {p : Nat} : ∀ {n : Nat}, p < n → (∀ i, i < n → i ≠ p → u i = 0) → fdV 1 ((List.range n).map u) = u p
  | 0, h, _ => by omega
  | n + 1, h, e => by
    have hl : ∀ m, L64 ((List.range m).map u) := fun m => L64.map fun i _ => hu i
    have h1 : L64 [u n] := fun x hx => by rw [List.mem_singleton.1 hx]; exact hu n
    have hz : ∀ m, (∀ i, i < m → u i = 0) → fdV 1 ((List.range m).map u) = 0 := fun m => by
      induction m with
      | zero => intro _; rfl
      | succ m ih =>
        intro hm
        have h2 : L64 [u m] := fun x hx => by rw [List.mem_singleton.1 hx]; exact hu m
        rw [List.range_succ, List.map_append, List.map_cons, List.map_nil, srg13.su.app h2 (hl m), ih fun i hi => hm i (by omega), fdV_one, hm m (by omega), tv1]
        exact w_small (by omega) (by omega)
    rw [List.range_succ, List.map_append, List.map_cons, List.map_nil, srg13.su.app h1 (hl n), fdV_one, tv1]
    by_cases hp : p = n
    · subst hp
      rw [hz p fun i hi => e i (by omega) (by omega), Int.zero_add]
      exact (hu p).same
    · rw [fold_pick hu (by omega) fun i hi hne => e i (by omega) hne, e n (by omega) (fun h => hp h.symm), Int.add_zero]
      exact (hu p).same
/-- What changes nothing. -/
def idM : Nat → Nat → Int := fun i j => if i = j then 1 else 0
theorem idM_64 : M64 idM := fun i j => by unfold idM; split <;> (unfold In64; decide)
theorem imm_id_left {A : Nat → Nat → Int} (hA : M64 A) {k i : Nat} (hi : i < k) (j : Nat) : imm 1 3 k idM A i j = A i j := by
  unfold imm
  rw [fold_pick (fun l => In64.two (idM_64 i l) (hA l j)) hi fun l _ hne => by rw [tv3, show idM i l = 0 from if_neg (fun e => hne e.symm), Int.zero_mul]; exact w_small (by omega) (by omega)]
  rw [tv3, show idM i i = 1 from if_pos rfl, Int.one_mul]
  exact (hA i j).same
theorem imm_id_right {A : Nat → Nat → Int} (hA : M64 A) {k j : Nat} (i : Nat) (hj : j < k) : imm 1 3 k A idM i j = A i j := by
  unfold imm
  rw [fold_pick (fun l => In64.two (hA i l) (idM_64 l j)) hj fun l _ hne => by rw [tv3, show idM l j = 0 from if_neg hne, Int.mul_zero]; exact w_small (by omega) (by omega)]
  rw [tv3, show idM j j = 1 from if_pos rfl, Int.mul_one]
  exact (hA i j).same
end
end Go.Proofs.Ytgaelbgeoobgiaa
