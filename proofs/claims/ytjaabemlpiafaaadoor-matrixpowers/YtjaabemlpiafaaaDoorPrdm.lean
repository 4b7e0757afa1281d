/-
  Plain mathematics of sums of products, by functions that go together like sums and products.
-/
import Derived.Test.YtjaabemlpiafaaaDoorFldm
namespace Go.Proofs.YtjaabemlpiafaaaDoor
open Go.RowKit
set_option linter.unusedVariables false

/-- The two go together like sums and products. -/
def Srg (f g : Int) : Prop := f = 1 ∧ g = 3 ∨ f = 6 ∧ g = 7 ∨ f = 7 ∧ g = 6 ∨ f = 15 ∧ g = 14 ∨ f = 14 ∧ g = 15
section
variable {f g : Int}
theorem Srg.su (h : Srg f g) : Mon f := by unfold Srg at h; unfold Mon; omega
theorem Srg.pr (h : Srg f g) : Mon g := by unfold Srg at h; unfold Mon; omega
theorem and_or_dist (x y z : BitVec 64) : (x ||| y) &&& z = (x &&& z) ||| (y &&& z) := by ext i; simp [Bool.and_or_distrib_right]
theorem or_and_dist (x y z : BitVec 64) : (x &&& y) ||| z = (x ||| z) &&& (y ||| z) := by ext i; simp [Bool.or_and_distrib_right]
/-- A product of a sum is the sum of the products. -/
theorem Srg.dist (h : Srg f g) {a b c : Int} (ha : In64 a) (hb : In64 b) (hc : In64 c) : twoV g (twoV f a b) c = twoV f (twoV g a c) (twoV g b c) := by
  rcases h with ⟨rfl, rfl⟩ | ⟨rfl, rfl⟩ | ⟨rfl, rfl⟩ | ⟨rfl, rfl⟩ | ⟨rfl, rfl⟩
  · simp only [tv1, tv3]; rw [w_mull, w_addl, w_addr, Int.add_mul]
  · simp only [tv6, tv7]; omega
  · simp only [tv6, tv7]; omega
  · obtain ⟨x, rfl⟩ := bv_of ha; obtain ⟨y, rfl⟩ := bv_of hb; obtain ⟨z, rfl⟩ := bv_of hc
    simp only [tv14, tv15, band_bv, bor_bv, and_or_dist]
  · obtain ⟨x, rfl⟩ := bv_of ha; obtain ⟨y, rfl⟩ := bv_of hb; obtain ⟨z, rfl⟩ := bv_of hc
    simp only [tv14, tv15, band_bv, bor_bv, or_and_dist]
/-- Nothing times a number is nothing. -/
theorem Srg.none (h : Srg f g) {c : Int} (hc : In64 c) : twoV g (neutV f) c = neutV f := by
  have h2 := hc
  unfold In64 at h2
  rcases h with ⟨rfl, rfl⟩ | ⟨rfl, rfl⟩ | ⟨rfl, rfl⟩ | ⟨rfl, rfl⟩ | ⟨rfl, rfl⟩
  · rw [tv3, show neutV 1 = 0 from rfl, Int.zero_mul]; exact w_small (by omega) (by omega)
  · rw [tv7, show neutV 6 = -9223372036854775808 from rfl]; omega
  · rw [tv6, show neutV 7 = 9223372036854775807 from rfl]; omega
  · obtain ⟨x, rfl⟩ := bv_of hc
    rw [tv14, show neutV 15 = (0#64).toInt from rfl, band_bv, BitVec.zero_and]
  · obtain ⟨x, rfl⟩ := bv_of hc
    rw [tv15, show neutV 14 = (BitVec.allOnes 64).toInt from rfl, bor_bv, BitVec.allOnes_or]
theorem Srg.right (h : Srg f g) {c : Int} (hc : In64 c) {α : Type} {u : α → Int} : ∀ {l : List α}, (∀ x, x ∈ l → In64 (u x)) → twoV g (fdV f (l.map u)) c = fdV f (l.map fun x => twoV g (u x) c)
  | [], _ => h.none hc
  | x :: l, hl => by
    have lu : L64 ((x :: l).map u) := L64.map hl
    have lv : L64 ((x :: l).map fun x => twoV g (u x) c) := L64.map fun y hy => In64.two (hl y hy) hc
    rw [List.map_cons] at lu lv ⊢
    rw [h.su.step lu, h.dist lu.head (fdV_in lu.tail) hc, h.right hc fun y hy => hl y (List.mem_cons_of_mem _ hy), List.map_cons, h.su.step lv]
theorem Srg.left (h : Srg f g) {c : Int} (hc : In64 c) {α : Type} {u : α → Int} {l : List α} (hl : ∀ x, x ∈ l → In64 (u x)) : twoV g c (fdV f (l.map u)) = fdV f (l.map fun x => twoV g c (u x)) := by
  rw [h.pr.comm hc (fdV_in (L64.map hl)), h.right hc hl]
  congr 1
  exact List.map_congr_left fun x hx => h.pr.comm (hl x hx) hc
/-- Sums of products: of rows with columns. -/
def imm (f g : Int) (k : Nat) (A B : Nat → Nat → Int) : Nat → Nat → Int := fun i j => fdV f ((List.range k).map fun l => twoV g (A i l) (B l j))
def M64 (A : Nat → Nat → Int) : Prop := ∀ i j, In64 (A i j)
theorem imm_64 {k : Nat} {A B : Nat → Nat → Int} (hA : M64 A) (hB : M64 B) : M64 (imm f g k A B) := fun i j => fdV_in (L64.map fun l _ => In64.two (hA i l) (hB l j))
/-- Whichever two come first. -/
theorem Srg.chain (h : Srg f g) {A B C : Nat → Nat → Int} (hA : M64 A) (hB : M64 B) (hC : M64 C) (k k' : Nat) (i j : Nat) : imm f g k' (imm f g k A B) C i j = imm f g k A (imm f g k' B C) i j := by
  unfold imm
  have e1 : ((List.range k').map fun l => twoV g (fdV f ((List.range k).map fun m => twoV g (A i m) (B m l))) (C l j)) = (List.range k').map fun l => fdV f ((List.range k).map fun m => twoV g (twoV g (A i m) (B m l)) (C l j)) :=
    List.map_congr_left fun l _ => h.right (hC l j) fun m _ => In64.two (hA i m) (hB m l)
  have e2 : ((List.range k).map fun m => twoV g (A i m) (fdV f ((List.range k').map fun l => twoV g (B m l) (C l j)))) = (List.range k).map fun m => fdV f ((List.range k').map fun l => twoV g (twoV g (A i m) (B m l)) (C l j)) :=
    List.map_congr_left fun m _ => by
      rw [h.left (hA i m) fun l _ => In64.two (hB m l) (hC l j)]
      congr 1
      exact List.map_congr_left fun l _ => (h.pr.assoc (hA i m) (hB m l) (hC l j)).symm
  rw [e1, e2]
  exact h.su.fubini (List.range k) (g := fun l m => twoV g (twoV g (A i m) (B m l)) (C l j)) fun l m => In64.two (In64.two (hA i m) (hB m l)) (hC l j)
/-- Turned round they change places. -/
theorem Srg.turned (h : Srg f g) {A B : Nat → Nat → Int} (hA : M64 A) (hB : M64 B) (k i j : Nat) : imm f g k A B i j = imm f g k (fun r c => B c r) (fun r c => A c r) j i := by
  unfold imm
  congr 1
  exact List.map_congr_left fun l _ => h.pr.comm (hA i l) (hB l j)
/-- Sums may be taken apart. -/
theorem srg13 : Srg 1 3 := .inl ⟨rfl, rfl⟩
theorem imm_add_right {A B C : Nat → Nat → Int} (hA : M64 A) (hB : M64 B) (hC : M64 C) (k i j : Nat) : imm 1 3 k A (fun r c => twoV 1 (B r c) (C r c)) i j = twoV 1 (imm 1 3 k A B i j) (imm 1 3 k A C i j) := by
  unfold imm
  rw [← srg13.su.zip fun l _ => ⟨In64.two (hA i l) (hB l j), In64.two (hA i l) (hC l j)⟩]
  congr 1
  exact List.map_congr_left fun l _ => by
    rw [srg13.pr.comm (hA i l) (In64.two (hB l j) (hC l j)), srg13.dist (hB l j) (hC l j) (hA i l), srg13.pr.comm (hB l j) (hA i l), srg13.pr.comm (hC l j) (hA i l)]
theorem imm_add_left {A B C : Nat → Nat → Int} (hA : M64 A) (hB : M64 B) (hC : M64 C) (k i j : Nat) : imm 1 3 k (fun r c => twoV 1 (B r c) (C r c)) A i j = twoV 1 (imm 1 3 k B A i j) (imm 1 3 k C A i j) := by
  unfold imm
  rw [← srg13.su.zip fun l _ => ⟨In64.two (hB i l) (hA l j), In64.two (hC i l) (hA l j)⟩]
  congr 1
  exact List.map_congr_left fun l _ => srg13.dist (hB i l) (hC i l) (hA l j)
/-- One of a list, and nothing else. -/
theorem fold_pick {u : Nat → Int} (hu : ∀ i, In64 (u i)) {p : Nat} : ∀ {n : Nat}, p < n → (∀ i, i < n → i ≠ p → u i = 0) → fdV 1 ((List.range n).map u) = u p
  | 0, h, _ => by omega
  | n + 1, h, e => by
    have hl : ∀ m, L64 ((List.range m).map u) := fun m => L64.map fun i _ => hu i
    have h1 : L64 [u n] := fun x hx => by rw [List.mem_singleton.1 hx]; exact hu n
    have hz : ∀ m, (∀ i, i < m → u i = 0) → fdV 1 ((List.range m).map u) = 0 := fun m => by
      induction m with
      | zero => intro _; rfl
      | succ m ih =>
        intro hm
        have h2 : L64 [u m] := fun x hx => by rw [List.mem_singleton.1 hx]; exact hu m
        rw [List.range_succ, List.map_append, List.map_cons, List.map_nil, srg13.su.app h2 (hl m), ih fun i hi => hm i (by omega), fdV_one, hm m (by omega), tv1]
        exact w_small (by omega) (by omega)
    rw [List.range_succ, List.map_append, List.map_cons, List.map_nil, srg13.su.app h1 (hl n), fdV_one, tv1]
    by_cases hp : p = n
    · subst hp
      rw [hz p fun i hi => e i (by omega) (by omega), Int.zero_add]
      exact (hu p).same
    · rw [fold_pick hu (by omega) fun i hi hne => e i (by omega) hne, e n (by omega) (fun h => hp h.symm), Int.add_zero]
      exact (hu p).same
/-- What changes nothing. -/
def idM : Nat → Nat → Int := fun i j => if i = j then 1 else 0
theorem idM_64 : M64 idM := fun i j => by unfold idM; split <;> (unfold In64; decide)
theorem imm_id_left {A : Nat → Nat → Int} (hA : M64 A) {k i : Nat} (hi : i < k) (j : Nat) : imm 1 3 k idM A i j = A i j := by
  unfold imm
  rw [fold_pick (fun l => In64.two (idM_64 i l) (hA l j)) hi fun l _ hne => by rw [tv3, show idM i l = 0 from if_neg (fun e => hne e.symm), Int.zero_mul]; exact w_small (by omega) (by omega)]
  rw [tv3, show idM i i = 1 from if_pos rfl, Int.one_mul]
  exact (hA i j).same
theorem imm_id_right {A : Nat → Nat → Int} (hA : M64 A) {k j : Nat} (i : Nat) (hj : j < k) : imm 1 3 k A idM i j = A i j := by
  unfold imm
  rw [fold_pick (fun l => In64.two (hA i l) (idM_64 l j)) hj fun l _ hne => by rw [tv3, show idM l j = 0 from if_neg hne, Int.mul_zero]; exact w_small (by omega) (by omega)]
  rw [tv3, show idM j j = 1 from if_pos rfl, Int.mul_one]
  exact (hA i j).same
end
end Go.Proofs.YtjaabemlpiafaaaDoor
