/-
  A slice of lists of the call's own: its cells, and the lists that they lead to.
-/
import Derived.Deep.AppendLies
import Derived.Laws.OwnMore
import Derived.Test.YtcblakcaoecgpaaDoorPrmq
import Derived.Test.YtcblakcaoecgpaaDoorApps
namespace Go.Proofs.YtcblakcaoecgpaaDoor
open Go.RowKit
set_option linter.unusedVariables false

theorem infoSl9 : (Tryd.prog.info? 22).map (fun i => (i.zero, i.size, i.bytes)) = some (some (.slice none 0 0), 1, 24) := by kernel_rfl
/-- A list in blocks from lo on, and not in that block. -/
def SepR (o : Option Nat) (lo : Nat) (W : World) (a : Option Addr) (zs : List Int) : Prop :=
  zs = [] ∨ ∃ b off, a = some ⟨b, off, none⟩ ∧ lo ≤ b ∧ b < W.heap.size ∧ some b ≠ o ∧ ∀ j, j < zs.length → W.cell? ⟨b, off + j, none⟩ = some (.int .i64 (nth zs j))
section
variable {o : Option Nat} {lo : Nat} {W W' : World} {a : Option Addr} {zs : List Int}
theorem SepR.go (h : SepR o lo W a zs) (hB : Below W.heap.size W W') : SepR o lo W' a zs := by
  rcases h with e | ⟨b, off, e, h0, hb, hne, hc⟩
  · exact .inl e
  · exact .inr ⟨b, off, e, h0, Nat.lt_of_lt_of_le hb hB.size, hne, fun j hj => (hB.cell (p := ⟨b, off + j, none⟩) hb).trans (hc j hj)⟩
theorem SepR.al (h : SepR o lo W a zs) (ob : Obj) : SepR o lo (W.alloc ob) a zs := h.go ((Below.refl _ W).alloc (Nat.le_refl _) ob)
theorem SepR.grow {w1 : World} {g : Nat} (h : SepR o lo W a zs) (hg : W.grownBy w1 o) (hw : o = some g ∨ g = W.heap.size) : SepR (some g) lo w1 a zs := by
  rcases h with e | ⟨b, off, e, h0, hb, hne, hc⟩
  · exact .inl e
  · refine .inr ⟨b, off, e, h0, Nat.lt_of_lt_of_le hb hg.size, ?_, fun j hj => (World.cell?_of_block (hg.block b hb hne)).trans (hc j hj)⟩
    rcases hw with hw | hw
    · rw [← hw]; exact hne
    · intro e2; cases e2; omega
theorem SepR.of_new (h : NewInts lo W a zs) {o : Option Nat} {lo' : Nat} (hl : lo' ≤ lo) (ho : ∀ g, o = some g → g < lo) : SepR o lo' W a zs := by
  rcases h with e | ⟨b, off, e, h0, hb, hc, hz⟩
  · exact .inl e
  · exact .inr ⟨b, off, e, by omega, hb, fun e2 => by have := ho b e2.symm; omega, hc⟩
theorem SepR.ints (h : SepR o lo W a zs) : IsInts W.heap.size W a zs := by
  rcases h with e | ⟨b, off, e, h0, hb, hne, hc⟩
  · exact .inl e
  · exact .inr ⟨b, off, e, hb, hc⟩
end
/-- A slice of lists of the call's own, from lo on. -/
def OwnR (lo : Nat) (W : World) (v : Value) (rs : List RwV) : Prop :=
  W.ownsRow lo 22 1 v rs.length (rs.map RwV.v) ∧ ∀ j, j < rs.length → SepR v.ownBlock lo W (rwz rs j).1.1 (rwz rs j).2
section
variable {lo : Nat} {W W' : World} {v : Value} {rs : List RwV}
theorem OwnR.nil (lo : Nat) (W : World) : OwnR lo W (.slice none 0 0) [] := ⟨World.ownsRow_nil _ _ _ _, fun j hj => by simp at hj⟩
theorem OwnR.go (h : OwnR lo W v rs) (hB : Below W.heap.size W W') : OwnR lo W' v rs := ⟨own_go h.1 hB, fun j hj => (h.2 j hj).go hB⟩
theorem OwnR.al (h : OwnR lo W v rs) (ob : Obj) : OwnR lo (W.alloc ob) v rs := h.go ((Below.refl _ W).alloc (Nat.le_refl _) ob)
theorem rwz_snoc (rs : List RwV) (r : RwV) {j : Nat} (h : j < rs.length + 1) : rwz (rs ++ [r]) j = if j < rs.length then rwz rs j else r := by
  unfold rwz
  simp only [List.getD_eq_getElem?_getD]
  by_cases h1 : j < rs.length
  · rw [if_pos h1, List.getElem?_append_left h1]
  · rw [if_neg h1, show j = rs.length by omega]; simp
/-- One more. -/
theorem OwnR.snoc {w1 : World} {g gc : Nat} {r : RwV} (h : OwnR lo W v rs) (hr : SepR v.ownBlock lo W r.1.1 r.2) (hown : w1.ownsRow lo 22 1 (.slice (some ⟨g, 0, none⟩) (rs.length + 1) gc) (rs.length + 1) ((rs ++ [r]).map RwV.v)) (hg : W.grownBy w1 v.ownBlock) (hw : v.ownBlock = some g ∨ g = W.heap.size) :
    OwnR lo w1 (.slice (some ⟨g, 0, none⟩) (rs.length + 1) gc) (rs ++ [r]) := by
  refine ⟨by rw [List.length_append]; exact hown, fun j hj => ?_⟩
  rw [List.length_append] at hj
  rw [rwz_snoc rs r (by simpa using hj)]
  show SepR (some g) lo w1 _ _
  split
  · rename_i h1; exact (h.2 j h1).grow hg hw
  · exact hr.grow hg hw
theorem OwnR.is (h : OwnR lo W v rs) : ∃ a cap, v = .slice a rs.length cap ∧ IsRs W.heap.size W a rs := by
  obtain ⟨⟨hl, hc⟩, hs⟩ := h
  rcases hc with ⟨rfl, h0⟩ | ⟨g, cap, cur, rfl, h1, hg, h2, _, h3, h4⟩
  · have e : rs = [] := List.eq_nil_of_length_eq_zero h0
    subst e
    exact ⟨none, 0, rfl, .inl rfl, fun j hj => by simp at hj⟩
  · refine ⟨_, _, rfl, .inr ⟨g, 0, rfl, (Array.getElem?_eq_some_iff.1 hg).1, fun j hj => ?_⟩, fun j hj => (hs j hj).ints⟩
    have e : (rs.map RwV.v)[j]? = some (rwz rs j).v := by rw [List.getElem?_map, List.getElem?_eq_getElem hj, rwz_get hj]; rfl
    rw [← h4, List.getElem?_take, if_pos (by omega)] at e
    rw [Nat.zero_add]
    simpa [World.cell?, hg] using e
theorem OwnR.lt (h : OwnR lo W v rs) : ∀ b, v.ownBlock = some b → b < W.heap.size := fun b hb => (h.1.lt b hb).2
end
/-- append of one list. -/
theorem app_rows {ops : Array Oper} {rest : List Oper} {o : Oper} {a : Act} {Q : Exit → Act → World → Prop} (hgd : o.guard = none) (s x : Operand)
    (ho : o.op = .call { callee := .builtin .append, args := #[s, x], argTypes := #[40, 40] }) (W : World)
    (base B : Nat) (v : Value) (rs : List RwV) (r : RwV) (y : Value) (hy : y = r.v) (hs : a.eval s = v) (hx : a.eval x = .slice (some ⟨B, 0, none⟩) 1 1) (hown : OwnR base W v rs) (hr : SepR v.ownBlock base W r.1.1 r.2)
    (hnew : W.heap[B]? = some (.cells #[y] 22 (0, 0))) (hlen : rs.length ≤ 1000000) (hbase : base ≤ W.heap.size)
    (h : ∀ g gc w1, OwnR base w1 (.slice (some ⟨g, 0, none⟩) (rs.length + 1) gc) (rs ++ [r]) → Below base W w1 → wpList Tryd.prog ops Q rest (a.put o.dst (.slice (some ⟨g, 0, none⟩) (rs.length + 1) gc)) w1) :
    wpList Tryd.prog ops Q (o :: rest) a W := by
  subst hy
  obtain ⟨i0, hi, hz0, hz1, hz2⟩ := info_parts infoSl9
  refine wpList_append_lies W hgd s x 40 ho base 22 i0 (.slice none 0 0) 1 24 Tryd.underlying40 hi hz0 hz1 hz2 rfl (by decide) v rs.length (rs.map RwV.v) hs hown.1 ⟨B, 0, none⟩ 1 1 [r.v] hx rfl
    (World.news_of_block (cs := #[r.v]) (t := 22) (fr := (0, 0)) hnew) (by simp [Value.oneCell', RwV.v]) (by omega) (by unfold maxLen; omega) (by omega) hbase W.heap.size rfl ?_
  intro g gc w1 hown1 hgrow hw _
  refine h g gc w1 (hown.snoc hr (by rw [List.map_append]; exact hown1) hgrow hw) ?_
  exact (Below.refl base W).grown hgrow hbase (fun j hj => (hown.1.lt j hj).1)
end Go.Proofs.YtcblakcaoecgpaaDoor
