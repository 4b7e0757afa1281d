/-
  A slice of arrays of the call's own: its cells, and the lists that its arrays lead to.
-/
import Derived.Deep.AppendLies
import Derived.Test.YteddkfeiikdekaaPikq
import Derived.Test.YteddkfeiikdekaaTurnw
import Derived.Test.YteddkfeiikdekaaMidc
namespace Go.Proofs.Yteddkfeiikdekaa
open Go.RowKit
set_option linter.unusedVariables false

theorem Try.infoArr : (Try.prog.info? 24).map (fun i => (i.zero, i.size, i.bytes)) = some (some (.agg #[.bool false, .slice none 0 0, .slice none 0 0]), 3, 56) := by kernel_rfl
/-- The cells of arrays, one behind the other. -/
def cl3 : List ArV → List Value
  | [] => []
  | b :: r => .bool b.1 :: b.s :: b.d :: cl3 r
theorem cl3_length : ∀ bs : List ArV, (cl3 bs).length = bs.length * 3
  | [] => rfl
  | b :: r => by simp only [cl3, List.length_cons, cl3_length r]; omega
theorem cl3_snoc : ∀ (bs : List ArV) (b : ArV), cl3 (bs ++ [b]) = cl3 bs ++ [.bool b.1, b.s, b.d]
  | [], b => rfl
  | x :: r, b => by simp only [List.cons_append, cl3, cl3_snoc r b]
theorem cl3_at : ∀ (bs : List ArV) (j : Nat), j < bs.length → (cl3 bs)[j * 3]? = some (.bool (arz bs j).1) ∧ (cl3 bs)[j * 3 + 1]? = some (arz bs j).s ∧ (cl3 bs)[j * 3 + 2]? = some (arz bs j).d
  | [], j, h => by simp at h
  | b :: r, 0, _ => ⟨rfl, rfl, rfl⟩
  | b :: r, j + 1, h => by
    have ih := cl3_at r j (by simpa using h)
    have e : arz (b :: r) (j + 1) = arz r j := by simp [arz]
    rw [e, show (j + 1) * 3 = j * 3 + 3 by omega]
    simpa [cl3] using ih
theorem arz_snoc (bs : List ArV) (b : ArV) (j : Nat) : arz (bs ++ [b]) j = if j < bs.length then arz bs j else if j = bs.length then b else arz [] 0 := by
  unfold arz
  simp only [List.getD_eq_getElem?_getD]
  by_cases h : j < bs.length
  · rw [if_pos h, List.getElem?_append_left h]
  · rw [if_neg h]
    by_cases e : j = bs.length
    · subst e; simp
    · rw [if_neg e, List.getElem?_eq_none (by simp; omega)]; rfl
theorem arz_set (bs : List ArV) (b : ArV) (h : 0 < bs.length) (j : Nat) : arz (bs.set 0 b) j = if j = 0 then b else arz bs j := by
  unfold arz
  simp only [List.getD_eq_getElem?_getD, List.getElem?_set]
  by_cases e : j = 0
  · subst e; simp [h]
  · rw [if_neg (Ne.symm e), if_neg e]
/-- A row of arrays in a block of its own, read. -/
theorem own3_cells {w : World} {base : Nat} {v : Value} {n : Nat} {bs : List ArV} (hn : bs.length = n) (h : w.ownsRow base 24 3 v n (cl3 bs)) :
    (bs = [] ∧ ∃ a cap, v = .slice a 0 cap) ∨ ∃ g cap, v = .slice (some ⟨g, 0, none⟩) n cap ∧ base ≤ g ∧ g < w.heap.size ∧ n ≤ cap ∧ (∀ j, j < bs.length → w.cell? ⟨g, 0 + j * 3, none⟩ = some (.bool (arz bs j).1) ∧ w.cell? ⟨g, 0 + j * 3 + 1, none⟩ = some (arz bs j).s ∧ w.cell? ⟨g, 0 + j * 3 + 2, none⟩ = some (arz bs j).d) ∧ ∀ i, w.frozen? ⟨g, i, none⟩ = false := by
  subst hn
  rcases h.2 with ⟨rfl, h0⟩ | ⟨g, cap, cur, rfl, h1, hg, h2, _, h3, h4⟩
  · exact .inl ⟨List.eq_nil_of_length_eq_zero h0, none, 0, rfl⟩
  · refine .inr ⟨g, cap, rfl, h1, (Array.getElem?_eq_some_iff.1 hg).1, h2, fun j hj => ?_, fun i => by simp [World.frozen?, hg]⟩
    have rd : ∀ i, i < bs.length * 3 → w.cell? ⟨g, i, none⟩ = (cl3 bs)[i]? := fun i hi => by
      rw [← h4, List.getElem?_take, if_pos hi]
      simp [World.cell?, hg]
    obtain ⟨c0, c1, c2⟩ := cl3_at bs j hj
    rw [Nat.zero_add, rd _ (by omega), rd _ (by omega), rd _ (by omega)]
    exact ⟨c0, c1, c2⟩
/-- A list in blocks from lo on, and not in that block. -/
def SepO (o : Option Nat) (lo : Nat) (W : World) (a : Option Addr) (zs : List Int) : Prop :=
  zs = [] ∨ ∃ b off, a = some ⟨b, off, none⟩ ∧ lo ≤ b ∧ b < W.heap.size ∧ some b ≠ o ∧ ∀ j, j < zs.length → W.cell? ⟨b, off + j, none⟩ = some (.int .i64 (nth zs j))
section
variable {o : Option Nat} {lo : Nat} {W W' : World} {a : Option Addr} {zs : List Int}
theorem SepO.go (h : SepO o lo W a zs) (hB : Below W.heap.size W W') : SepO o lo W' a zs := by
  rcases h with e | ⟨b, off, e, h0, hb, hne, hc⟩
  · exact .inl e
  · exact .inr ⟨b, off, e, h0, Nat.lt_of_lt_of_le hb hB.size, hne, fun j hj => (hB.cell (p := ⟨b, off + j, none⟩) hb).trans (hc j hj)⟩
theorem SepO.al (h : SepO o lo W a zs) (ob : Obj) : SepO o lo (W.alloc ob) a zs := h.go ((Below.refl _ W).alloc (Nat.le_refl _) ob)
theorem SepO.grow {w1 : World} {g : Nat} (h : SepO o lo W a zs) (hg : W.grownBy w1 o) (hw : o = some g ∨ g = W.heap.size) : SepO (some g) lo w1 a zs := by
  rcases h with e | ⟨b, off, e, h0, hb, hne, hc⟩
  · exact .inl e
  · refine .inr ⟨b, off, e, h0, Nat.lt_of_lt_of_le hb hg.size, ?_, fun j hj => (World.cell?_of_block (hg.block b hb hne)).trans (hc j hj)⟩
    rcases hw with hw | hw
    · rw [← hw]; exact hne
    · intro e2; cases e2; omega
theorem SepO.of_new (h : NewInts lo W a zs) {o : Option Nat} {lo' : Nat} (hl : lo' ≤ lo) (ho : ∀ g, o = some g → g < lo) : SepO o lo' W a zs := by
  rcases h with e | ⟨b, off, e, h0, hb, hc, hz⟩
  · exact .inl e
  · exact .inr ⟨b, off, e, by omega, hb, fun e2 => by have := ho b e2.symm; omega, hc⟩
theorem SepO.ints (h : SepO o lo W a zs) : IsInts W.heap.size W a zs := by
  rcases h with e | ⟨b, off, e, h0, hb, hne, hc⟩
  · exact .inl e
  · exact .inr ⟨b, off, e, hb, hc⟩
theorem SepO.set {g i : Nat} (h : SepO (some g) lo W a zs) (v : Value) : SepO (some g) lo (W.setCell ⟨g, i, none⟩ v) a zs := by
  rcases h with e | ⟨b, off, e, h0, hb, hne, hc⟩
  · exact .inl e
  · refine .inr ⟨b, off, e, h0, by simpa [World.setCell] using hb, hne, fun j hj => ?_⟩
    rw [World.cell?_setCell_other _ _ _ _ (by intro e2; simp only [Addr.mk.injEq] at e2; exact hne (by rw [e2.1]))]
    exact hc j hj
end
/-- An array whose lists lie apart from that block. -/
def AvO (o : Option Nat) (lo : Nat) (W : World) (b : ArV) : Prop :=
  b.2.1.2.length ≤ 9223372036854775807 ∧ b.2.2.2.length ≤ 9223372036854775807 ∧ (SepO o lo W b.2.1.1.1 b.2.1.2 ∧ b.2.1.2.length ≤ b.2.1.1.2) ∧ (SepO o lo W b.2.2.1.1 b.2.2.2 ∧ b.2.2.2.length ≤ b.2.2.1.2) ∧ (∀ j, In64 (nth b.2.1.2 j)) ∧ ∀ j, In64 (nth b.2.2.2 j)
section
variable {o : Option Nat} {lo : Nat} {W W' : World} {b : ArV}
theorem AvO.go (h : AvO o lo W b) (hB : Below W.heap.size W W') : AvO o lo W' b := ⟨h.1, h.2.1, ⟨h.2.2.1.1.go hB, h.2.2.1.2⟩, ⟨h.2.2.2.1.1.go hB, h.2.2.2.1.2⟩, h.2.2.2.2⟩
theorem AvO.grow {w1 : World} {g : Nat} (h : AvO o lo W b) (hg : W.grownBy w1 o) (hw : o = some g ∨ g = W.heap.size) : AvO (some g) lo w1 b := ⟨h.1, h.2.1, ⟨h.2.2.1.1.grow hg hw, h.2.2.1.2⟩, ⟨h.2.2.2.1.1.grow hg hw, h.2.2.2.1.2⟩, h.2.2.2.2⟩
theorem AvO.is (h : AvO o lo W b) : IsAv W.heap.size W b := ⟨h.1, h.2.1, ⟨h.2.2.1.1.ints, h.2.2.1.2⟩, ⟨h.2.2.2.1.1.ints, h.2.2.2.1.2⟩, h.2.2.2.2⟩
theorem AvO.set {g i : Nat} (h : AvO (some g) lo W b) (v : Value) : AvO (some g) lo (W.setCell ⟨g, i, none⟩ v) b := ⟨h.1, h.2.1, ⟨h.2.2.1.1.set v, h.2.2.1.2⟩, ⟨h.2.2.2.1.1.set v, h.2.2.2.1.2⟩, h.2.2.2.2⟩
end
/-- The row as a slice of arrays. -/
theorem own_as {w : World} {base lo : Nat} {v : Value} {n : Nat} {bs : List ArV} (hn : bs.length = n) (h : w.ownsRow base 24 3 v n (cl3 bs)) (ha : ∀ j, j < n → AvO v.ownBlock lo w (arz bs j)) : ∃ a cap, v = .slice a n cap ∧ IsAs w.heap.size w a bs := by
  rcases own3_cells hn h with ⟨e, a, cap, rfl⟩ | ⟨g, cap, rfl, h1, hg, h2, hc, hz⟩
  · subst e
    obtain rfl : n = 0 := hn.symm
    exact ⟨a, cap, rfl, .inl rfl, fun j hj => by simp at hj⟩
  · exact ⟨some ⟨g, 0, none⟩, cap, rfl, .inr ⟨g, 0, rfl, hg, hc⟩, fun j hj => (ha j (by omega)).is⟩
/-- The first one of them is another one. -/
theorem set_as {w : World} {g lo : Nat} {bs : List ArV} {b : ArV} (h0 : 0 < bs.length) (hg : g < w.heap.size) (hc : ∀ j, j < bs.length → w.cell? ⟨g, 0 + j * 3, none⟩ = some (.bool (arz bs j).1) ∧ w.cell? ⟨g, 0 + j * 3 + 1, none⟩ = some (arz bs j).s ∧ w.cell? ⟨g, 0 + j * 3 + 2, none⟩ = some (arz bs j).d)
    (ha : ∀ j, j < bs.length → AvO (some g) lo w (arz bs j)) (hb : AvO (some g) lo w b) :
    IsAs (((w.setCell ⟨g, 0, none⟩ (.bool b.1)).setCell ⟨g, 1, none⟩ b.s).setCell ⟨g, 2, none⟩ b.d).heap.size (((w.setCell ⟨g, 0, none⟩ (.bool b.1)).setCell ⟨g, 1, none⟩ b.s).setCell ⟨g, 2, none⟩ b.d) (some ⟨g, 0, none⟩) (bs.set 0 b) := by
  have ne : ∀ {i j : Nat}, i ≠ j → (⟨g, i, none⟩ : Addr) ≠ ⟨g, j, none⟩ := fun h e => by simp only [Addr.mk.injEq] at e; exact h e.2.1
  obtain ⟨z0, z1, z2⟩ := hc 0 h0
  simp only [Nat.zero_mul, Nat.zero_add] at z0 z1 z2
  refine ⟨.inr ⟨g, 0, rfl, by simpa [World.setCell] using hg, fun j hj => ?_⟩, fun j hj => ?_⟩
  · rw [List.length_set] at hj
    rw [arz_set bs b h0]
    by_cases e : j = 0
    · subst e
      rw [if_pos rfl]
      simp only [Nat.zero_mul, Nat.zero_add]
      have a1 : (w.setCell ⟨g, 0, none⟩ (.bool b.1)).cell? ⟨g, 1, none⟩ = some (arz bs 0).s := by rw [World.cell?_setCell_other _ _ _ _ (ne (by omega))]; exact z1
      have a2 : ((w.setCell ⟨g, 0, none⟩ (.bool b.1)).setCell ⟨g, 1, none⟩ b.s).cell? ⟨g, 2, none⟩ = some (arz bs 0).d := by rw [World.cell?_setCell_other _ _ _ _ (ne (by omega)), World.cell?_setCell_other _ _ _ _ (ne (by omega))]; exact z2
      refine ⟨?_, ?_, World.cell?_setCell_same _ _ _ a2⟩
      · rw [World.cell?_setCell_other _ _ _ _ (ne (by omega)), World.cell?_setCell_other _ _ _ _ (ne (by omega))]
        exact World.cell?_setCell_same _ _ _ z0
      · rw [World.cell?_setCell_other _ _ _ _ (ne (by omega))]
        exact World.cell?_setCell_same _ _ _ a1
    · rw [if_neg e]
      obtain ⟨c0, c1, c2⟩ := hc j hj
      have t : ∀ i, 3 ≤ i → (((w.setCell ⟨g, 0, none⟩ (.bool b.1)).setCell ⟨g, 1, none⟩ b.s).setCell ⟨g, 2, none⟩ b.d).cell? ⟨g, i, none⟩ = w.cell? ⟨g, i, none⟩ := fun i hi => by
        rw [World.cell?_setCell_other _ _ _ _ (ne (by omega)), World.cell?_setCell_other _ _ _ _ (ne (by omega)), World.cell?_setCell_other _ _ _ _ (ne (by omega))]
      rw [t _ (by omega), t _ (by omega), t _ (by omega)]
      exact ⟨c0, c1, c2⟩
  · rw [List.length_set] at hj
    rw [arz_set bs b h0]
    by_cases e : j = 0
    · rw [if_pos e]; exact (((hb.set _).set _).set _).is
    · rw [if_neg e]; exact ((((ha j hj).set _).set _).set _).is
theorem own_lt7 {w : World} {base : Nat} {e : TypeId} {size : Nat} {v : Value} {n : Nat} {xs : List Value} (h : w.ownsRow base e size v n xs) {b : Nat} (hb : v.ownBlock = some b) : b < w.heap.size := by
  rcases h.2 with ⟨rfl, _⟩ | ⟨g, cap, cur, rfl, _, hg, _⟩
  · simp [Value.ownBlock] at hb
  · simp [Value.ownBlock] at hb
    subst hb
    exact (Array.getElem?_eq_some_iff.1 hg).1
theorem SepO.of_mid {lo lo' hi g : Nat} {W : World} {a : Option Addr} {zs : List Int} {cap : Nat} (h : MidC lo' hi W a zs cap) (hh : hi ≤ W.heap.size) (hl : lo ≤ lo') (hg : g < lo') : SepO (some g) lo W a zs := by
  rcases h.1 with e | ⟨b, off, e, h0, hb, hc, hz⟩
  · exact .inl e
  · exact .inr ⟨b, off, e, by omega, by omega, fun e2 => by cases e2; omega, hc⟩
/-- A slice of arrays in a block of its own, that holds all of it. -/
def OWA (g lo : Nat) (W : World) (bs : List ArV) : Prop :=
  g < W.heap.size ∧ (∀ j, j < bs.length → W.cell? ⟨g, 0 + j * 3, none⟩ = some (.bool (arz bs j).1) ∧ W.cell? ⟨g, 0 + j * 3 + 1, none⟩ = some (arz bs j).s ∧ W.cell? ⟨g, 0 + j * 3 + 2, none⟩ = some (arz bs j).d) ∧ (∀ i, W.frozen? ⟨g, i, none⟩ = false) ∧ ∀ j, j < bs.length → AvO (some g) lo W (arz bs j)
theorem OWA.go {g lo : Nat} {W W' : World} {bs : List ArV} (h : OWA g lo W bs) (hB : Below W.heap.size W W') : OWA g lo W' bs :=
  ⟨Nat.lt_of_lt_of_le h.1 hB.size, fun j hj => ⟨(hB.cell (p := ⟨g, 0 + j * 3, none⟩) h.1).trans (h.2.1 j hj).1, (hB.cell (p := ⟨g, 0 + j * 3 + 1, none⟩) h.1).trans (h.2.1 j hj).2.1, (hB.cell (p := ⟨g, 0 + j * 3 + 2, none⟩) h.1).trans (h.2.1 j hj).2.2⟩, fun i => (World.frozen?_of_block (hB.block g h.1)).trans (h.2.2.1 i), fun j hj => (h.2.2.2 j hj).go hB⟩
theorem OWA.is {g lo : Nat} {W : World} {bs : List ArV} (h : OWA g lo W bs) : IsAs W.heap.size W (some ⟨g, 0, none⟩) bs := ⟨.inr ⟨g, 0, rfl, h.1, h.2.1⟩, fun j hj => (h.2.2.2 j hj).is⟩
theorem OWA.store {g lo : Nat} {W : World} {bs : List ArV} {b : ArV} (h : OWA g lo W bs) (h0 : 0 < bs.length) (hb : AvO (some g) lo W b) :
    IsAs (((W.setCell ⟨g, 0, none⟩ (.bool b.1)).setCell ⟨g, 1, none⟩ b.s).setCell ⟨g, 2, none⟩ b.d).heap.size (((W.setCell ⟨g, 0, none⟩ (.bool b.1)).setCell ⟨g, 1, none⟩ b.s).setCell ⟨g, 2, none⟩ b.d) (some ⟨g, 0, none⟩) (bs.set 0 b) := set_as h0 h.1 h.2.1 h.2.2.2 hb
theorem OWA.store7 {g lo : Nat} {W : World} {bs : List ArV} {b : ArV} (h : OWA g lo W bs) (h0 : 0 < bs.length) (hb : AvO (some g) lo W b) (x y z : Value) (hx : x = .bool b.1) (hy : y = b.s) (hz : z = b.d) :
    IsAs (((W.setCell ⟨g, 0, none⟩ x).setCell ⟨g, 1, none⟩ y).setCell ⟨g, 2, none⟩ z).heap.size (((W.setCell ⟨g, 0, none⟩ x).setCell ⟨g, 1, none⟩ y).setCell ⟨g, 2, none⟩ z) (some ⟨g, 0, none⟩) (bs.set 0 b) := by
  subst hx hy hz
  exact h.store h0 hb
end Go.Proofs.Yteddkfeiikdekaa
