/-
  What prod.Inner makes on its way: the line, two variables; its errors.
-/
import Derived.Laws.EntriesVeiled
import Derived.Deep.DeepCutAuto
import Derived.Test.YtgaelbgeoobgiaaPin1
import Derived.Test.YtgaelbgeoobgiaaPrdq
import Derived.Test.YtgaelbgeoobgiaaConc
import Derived.Test.YtgaelbgeoobgiaaNeut
import Derived.Test.YtgaelbgeoobgiaaMidc
import Derived.Test.YtgaelbgeoobgiaaFree
import Derived.Test.YtgaelbgeoobgiaaUbm
namespace Go.Proofs.Ytgaelbgeoobgiaa
open Go.RowKit
set_option linter.unusedVariables false

theorem Boxed.go13 {w w' : World} {b : Nat} {t : TypeId} {v : Value} (h : Boxed w b t v) (hB : Below w.heap.size w w') : Boxed w' b t v := blk_to h hB
theorem ni_pc {f g : Int} {c : Bool} {sz dz : List Int} {c' : Bool} {sz' dz' : List Int} (h : pcE [f, g] c sz dz c' sz' dz' ≠ 0) : inE f g c sz dz c' sz' dz' = pcE [f, g] c sz dz c' sz' dz' := by
  unfold pcE at *
  unfold inE
  by_cases hf : (f < 1 ∨ 16 < f) ∨ g < 1 ∨ 16 < g
  · have hb : pcB [f, g] = false := by
      rcases hf with h | h
      · exact pcB_bad (k := 0) (by simp) (by show ¬ (1 ≤ f ∧ f ≤ 16); omega)
      · exact pcB_bad (k := 1) (by simp) (by show ¬ (1 ≤ g ∧ g ≤ 16); omega)
    rw [if_pos hf, if_neg (by rw [hb]; decide)]
  · have hg : pcB [f, g] = true := pcB_good fun j hj => by
      have : j = 0 ∨ j = 1 := by simp at hj; omega
      rcases this with rfl | rfl
      · show 1 ≤ f ∧ f ≤ 16; omega
      · show 1 ≤ g ∧ g ≤ 16; omega
    rw [if_pos hg] at h ⊢
    rw [if_neg hf, if_pos h]
theorem ni_pc0 {f g : Int} {c : Bool} {sz dz : List Int} {c' : Bool} {sz' dz' : List Int} (h : pcE [f, g] c sz dz c' sz' dz' = 0) : ¬ ((f < 1 ∨ 16 < f) ∨ g < 1 ∨ 16 < g) ∧ flawsE c sz dz c' sz' dz' = 0 := by
  unfold pcE at h
  by_cases hg : pcB [f, g] = true
  · rw [if_pos hg] at h
    refine ⟨fun hf => ?_, h⟩
    have hb : pcB [f, g] = false := by
      rcases hf with h | h
      · exact pcB_bad (k := 0) (by simp) (by show ¬ (1 ≤ f ∧ f ≤ 16); omega)
      · exact pcB_bad (k := 1) (by simp) (by show ¬ (1 ≤ g ∧ g ≤ 16); omega)
    rw [hb] at hg
    exact absurd hg (by decide)
  · rw [if_neg hg] at h
    exact absurd h (by decide)
theorem is_take13 {n : Nat} {w : World} {b off : Nat} {zs : List Int} (h : IsInts n w (some ⟨b, off, none⟩) zs) (k : Nat) : IsInts n w (some ⟨b, off, none⟩) (zs.take k) := by
  by_cases h0 : (zs.take k).length = 0
  · exact .inl (List.eq_nil_of_length_eq_zero h0)
  · have hz : 0 < zs.length := by rw [List.length_take] at h0; omega
    obtain ⟨b', off', e, hb, hc⟩ := h.at (q := 0) hz
    cases e
    refine .inr ⟨b, off, rfl, hb, fun j hj => ?_⟩
    rw [List.length_take] at hj
    rw [hc j (by omega)]
    unfold nth
    rw [List.getD_eq_getElem?_getD, List.getD_eq_getElem?_getD, List.getElem?_take_of_lt (by omega)]
theorem is_tail13 {n : Nat} {w : World} {b off : Nat} {zs : List Int} (h : IsInts n w (some ⟨b, off, none⟩) zs) {cap : Nat} (hc : zs.length ≤ cap) (h0 : zs.length ≠ 0) : IsInts n w (if cap = 1 then some ⟨b, off, none⟩ else some ⟨b, off + 1, none⟩) (zs.drop 1) := by
  by_cases h1 : zs.length = 1
  · exact .inl (List.eq_nil_of_length_eq_zero (by rw [List.length_drop]; omega))
  · rw [if_neg (by omega)]
    obtain ⟨b', off', e, hb, hcl⟩ := h.at (q := 0) (by omega)
    cases e
    refine .inr ⟨b, off + 1, rfl, hb, fun j hj => ?_⟩
    rw [List.length_drop] at hj
    rw [show off + 1 + j = off + (1 + j) by omega, hcl (1 + j) (by omega)]
    simp [nth, Nat.add_comm]
theorem mid_gb {w w' : World} {lo hi r : Nat} {a : Option Addr} {zs : List Int} {c : Nat} (h : MidC lo hi w a zs c) (hh : hi ≤ w.heap.size) (hg : w.grownBy w' (some r)) (hr : hi ≤ r) : MidC lo hi w' a zs c := by
  refine ⟨?_, h.2⟩
  rcases h.1 with e | ⟨b, o, e, h0, h1, h2, h3⟩
  · exact .inl e
  · have hbk := hg.block b (by omega) (fun e => by have := Option.some.inj e; omega)
    exact .inr ⟨b, o, e, h0, h1, fun j hj => (World.cell?_of_block (a := ⟨b, o + j, none⟩) hbk).trans (h2 j hj), fun j => (World.frozen?_of_block (a := ⟨b, o + j, none⟩) hbk).trans (h3 j)⟩
theorem abx_gb {w w' : World} {b r : Nat} {x y z : Value} (h : Abx w b x y z) (hg : w.grownBy w' (some r)) (hne : b ≠ r) : Abx w' b x y z := h.of (hg.block b h.lt (fun e => hne (Option.some.inj e)))
/-- What is left of the error behind the lengths. -/
theorem ni_E {f g : Int} {c : Bool} {sz dz : List Int} {c' : Bool} {sz' dz' : List Int} (h1 : ¬ ((f < 1 ∨ 16 < f) ∨ g < 1 ∨ 16 < g)) (h2 : flawsE c sz dz c' sz' dz' = 0) (h3 : sz.length ≠ 0) (h4 : sz'.length ≠ 0) (h5 : inN sz = nth sz' 0) :
    inE f g c sz dz c' sz' dz' = if errOf (inS sz sz') ≠ 0 then errOf (inS sz sz') else if (c = true ∨ c' = true) ∧ g ≠ 8 ∧ g ≠ 9 then 6 else if inN sz = 0 ∧ neutE f ≠ 0 then neutE f else if okT (inS sz sz') (inX f g c sz dz c' sz' dz') = true then 0 else 6 := by
  unfold inE
  rw [if_neg h1, if_neg (not_not_intro h2), if_neg (by omega), if_neg (not_not_intro h5)]
theorem ni_at {f g : Int} {c : Bool} {s dz : List Int} {c' : Bool} {s' dz' : List Int} (hs : s.length ≠ 0) (hs' : s'.length ≠ 0) (hn : inN s = nth s' 0) (he : errOf (inS s s') = 0) {p L A : Nat} (hL : (L : Int) = inN s) (hA : (A : Int) = prod (s'.drop 1)) (hp : (p : Int) < prod (inS s s')) :
    inL g c s dz c' s' dz' (cr (inS s s') p) = lnI g (c == c') (fun k => nth dz (p / A * L + k)) (fun k => nth dz' (p % A + k * A)) L ∧ inX f g c s dz c' s' dz' (cr (inS s s') p) = lnX f g (c == c') (fun k => nth dz (p / A * L + k)) (fun k => nth dz' (p % A + k * A)) L := by
  obtain ⟨_, h⟩ := in_at (dz := dz) (dz' := dz') hs hs' hn he hL hA hp
  have eL : (inN s).toNat = L := by omega
  have e1 : inL g c s dz c' s' dz' (cr (inS s s') p) = lnI g (c == c') (fun k => nth dz (p / A * L + k)) (fun k => nth dz' (p % A + k * A)) L := by
    unfold inL lnI
    rw [eL]
    exact List.map_congr_left fun k _ => by rw [(h k).1, (h k).2.1]
  refine ⟨e1, ?_⟩
  unfold inX lnX
  rw [e1]
  have e2 : inO g c s dz c' s' dz' (cr (inS s s') p) = (List.range L).all fun k => tcE g (c == c') (nth dz (p / A * L + k)) (nth dz' (p % A + k * A)) == 0 := by
    unfold inO
    rw [eL]
    congr 1
    funext k
    rw [(h k).1, (h k).2.1]
  rw [e2]
/-! ### The line, the two variables, and how far cells are apart -/
def bk : Value → Nat
  | .slice (some a) _ _ => a.block
  | .pointer (some a) => a.block
  | _ => 0
def St18 (w0 : World) (L : Nat) (A : Int) (x1 x4 y5 y6 : Bool) (v88 v91 v18 v19 : Value) (w : World) : Prop :=
  Below w0.heap.size w0 w ∧ (x1 = true → ∃ B, v88 = .slice (some ⟨B, 0, none⟩) L L ∧ w0.heap.size ≤ B ∧ Rw13 w B L (List.replicate L 0)) ∧ (x4 = true → v91 = .int .i64 A) ∧ (y5 = true → ∃ b, v18 = .pointer (some ⟨b, 0, none⟩) ∧ w0.heap.size ≤ b ∧ Boxed w b 22 (.slice none 0 0)) ∧ (y6 = true → ∃ b, v19 = .pointer (some ⟨b, 0, none⟩) ∧ w0.heap.size ≤ b ∧ Boxed w b 3 (.int .i64 0)) ∧
  (x1 = true → y5 = true → bk v88 ≠ bk v18) ∧ (x1 = true → y6 = true → bk v88 ≠ bk v19) ∧ (y5 = true → y6 = true → bk v18 ≠ bk v19)
section
variable {w0 w w' : World} {L : Nat} {A : Int} {x1 x4 y5 y6 : Bool} {v88 v91 v18 v19 : Value}
theorem St18.go (h : St18 w0 L A x1 x4 y5 y6 v88 v91 v18 v19 w) (hB : Below w.heap.size w w') : St18 w0 L A x1 x4 y5 y6 v88 v91 v18 v19 w' := by
  obtain ⟨a1, a2, a3, a4, a5, a6⟩ := h
  exact ⟨a1.trans (hB.mono a1.size), fun e => by obtain ⟨B, e1, e2, e3⟩ := a2 e; exact ⟨B, e1, e2, e3.go hB⟩, a3, fun e => by obtain ⟨b, e1, e2, e3⟩ := a4 e; exact ⟨b, e1, e2, blk_to e3 hB⟩, fun e => by obtain ⟨b, e1, e2, e3⟩ := a5 e; exact ⟨b, e1, e2, blk_to e3 hB⟩, a6⟩
theorem St18.l88 (h : St18 w0 L A x1 x4 y5 y6 v88 v91 v18 v19 w) (e : x1 = true) : bk v88 < w.heap.size := by obtain ⟨B, rfl, _, h3⟩ := h.2.1 e; exact h3.2.lt
theorem St18.l18 (h : St18 w0 L A x1 x4 y5 y6 v88 v91 v18 v19 w) (e : y5 = true) : bk v18 < w.heap.size := by obtain ⟨b, rfl, _, h3⟩ := h.2.2.2.1 e; exact h3.lt
theorem St18.l19 (h : St18 w0 L A x1 x4 y5 y6 v88 v91 v18 v19 w) (e : y6 = true) : bk v19 < w.heap.size := by obtain ⟨b, rfl, _, h3⟩ := h.2.2.2.2.1 e; exact h3.lt
theorem al13 (w : World) (o : Obj) : Below w.heap.size w (w.alloc o) := (Below.refl _ w).alloc (Nat.le_refl _) o
theorem zeros13 (w : World) (L : Nat) (t : TypeId) (ht : t = 3) : Rw13 (w.alloc (.cells (madeCells #[.int .i64 0] L) t)) w.heap.size L (List.replicate L 0) := by
  subst ht
  refine ⟨by simp, (World.rowIs_made w (.int .i64 0) L 3).congr fun j hj => ?_⟩
  rw [nth_replicate]
theorem St18.m1 (h : St18 w0 L A false x4 y5 y6 v88 v91 v18 v19 w) : St18 w0 L A true x4 y5 y6 (.slice (some ⟨w.heap.size, 0, none⟩) L L) v91 v18 v19 (w.alloc (.cells (madeCells #[.int .i64 0] L) 3)) := by
  obtain ⟨a1, a2, a3, a4, a5, a6, a7, a8⟩ := h.go (al13 w (.cells (madeCells #[.int .i64 0] L) 3))
  exact ⟨a1, fun _ => ⟨w.heap.size, rfl, h.1.size, zeros13 w L _ rfl⟩, a3, a4, a5, fun _ e => by have := h.l18 e; show w.heap.size ≠ _; omega, fun _ e => by have := h.l19 e; show w.heap.size ≠ _; omega, a8⟩
theorem St18.m4 (h : St18 w0 L A x1 false y5 y6 v88 v91 v18 v19 w) : St18 w0 L A x1 true y5 y6 v88 (.int .i64 A) v18 v19 w := by
  obtain ⟨a1, a2, a3, a4, a5, a6⟩ := h
  exact ⟨a1, a2, fun _ => rfl, a4, a5, a6⟩
theorem St18.m5 (h : St18 w0 L A x1 x4 false y6 v88 v91 v18 v19 w) : St18 w0 L A x1 x4 true y6 v88 v91 (.pointer (some ⟨w.heap.size, 0, none⟩)) v19 (w.alloc (.cells #[.slice none 0 0] 22)) := by
  obtain ⟨a1, a2, a3, a4, a5, a6, a7, a8⟩ := h.go (al13 w (.cells #[.slice none 0 0] 22))
  exact ⟨a1, a2, a3, fun _ => ⟨w.heap.size, rfl, h.1.size, Boxed.new _ _ _⟩, a5, fun e _ => by have := h.l88 e; show _ ≠ w.heap.size; omega, a7, fun _ e => by have := h.l19 e; show w.heap.size ≠ _; omega⟩
theorem St18.m6 (h : St18 w0 L A x1 x4 y5 false v88 v91 v18 v19 w) : St18 w0 L A x1 x4 y5 true v88 v91 v18 (.pointer (some ⟨w.heap.size, 0, none⟩)) (w.alloc (.cells #[.int .i64 0] 3)) := by
  obtain ⟨a1, a2, a3, a4, a5, a6, a7, a8⟩ := h.go (al13 w (.cells #[.int .i64 0] 3))
  exact ⟨a1, a2, a3, a4, fun _ => ⟨w.heap.size, rfl, h.1.size, Boxed.new _ _ _⟩, a6, fun e _ => by have := h.l88 e; show _ ≠ w.heap.size; omega, fun e _ => by have := h.l18 e; show _ ≠ w.heap.size; omega⟩
end
end Go.Proofs.Ytgaelbgeoobgiaa
