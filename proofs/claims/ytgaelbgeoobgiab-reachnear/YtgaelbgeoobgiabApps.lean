/-
  One number put behind a list of the call's own, at a step of a region that draws its order.
-/
import Derived.Deep.AppendLies
import Derived.Laws.Rows
import Derived.BigRegion
import Derived.Test.YtgaelbgeoobgiabBase
namespace Go.Proofs.Ytgaelbgeoobgiab
open Go.RowKit
set_option linter.unusedVariables false

theorem grown_below {w w1 : World} {base : Nat} {e : TypeId} {v : Value} {n : Nat} {xs : List Value} (hown : w.ownsRow base e 1 v n xs) (hg : w.grownBy w1 v.ownBlock) (hb : base ≤ w.heap.size) : Below base w w1 :=
  (Below.refl base w).grown hg hb (own_ge hown)
theorem cell_new1 (w : World) (o : Obj) (t : TypeId) (x : Value) : ((w.alloc o).alloc (.cells #[x] t)).cell? ⟨w.heap.size + 1, 0, none⟩ = some x := by
  have hb : ((w.alloc o).alloc (.cells #[x] t)).heap[(w.alloc o).heap.size]? = some (.cells #[x] t (0, 0)) := World.alloc_heap_new _ _
  rw [World.size_alloc] at hb
  simp only [World.cell?, hb]; rfl
theorem app_step {ops : Array Oper} {o : Oper} {a : Act} {K : Act → World → Prop} {Q : Exit → Act → World → Prop} {E : Prop} (d : Nat) (hd : o.dst = some d) (hgd : o.guard = none) (s x : Operand)
    (ho : o.op = .call { callee := .builtin .append, args := #[s, x], argTypes := #[22, 22] }) (W : World)
    (base B : Nat) (v : Value) (zs : List Int) (y : Int) (hs : a.eval s = v) (hx : a.eval x = .slice (some ⟨B, 0, none⟩) 1 1) (hown : W.ownsRow base 3 1 v zs.length (zs.map (Value.int .i64)))
    (hnew : W.heap[B]? = some (.cells #[.int .i64 y] 3 (0, 0))) (hlen : zs.length ≤ 1000000) (hbase : base ≤ W.heap.size)
    (h : ∀ g gc w1, w1.ownsRow base 3 1 (.slice (some ⟨g, 0, none⟩) (zs.length + 1) gc) (zs.length + 1) ((zs ++ [y]).map (Value.int .i64)) → Below base W w1 → K (a.put (some d) (.slice (some ⟨g, 0, none⟩) (zs.length + 1) gc)) w1) :
    if Region.wanted o (yielded ops a.tmps) = true then Oper.wp Try.prog o a W K Q else E := by
  obtain ⟨i0, hi, hz0, hz1, hz2⟩ := info_parts Try.infoInt
  refine step_append_lies W hgd s x 22 ho base 3 i0 (.int .i64 0) 1 8 Try.underlying22 hi hz0 hz1 hz2 rfl (by decide) v zs.length (zs.map (Value.int .i64)) hs hown ⟨B, 0, none⟩ 1 1 [.int .i64 y] hx rfl
    (World.news_of_block (cs := #[.int .i64 y]) (t := 3) (fr := (0, 0)) hnew) (by simp [Value.oneCell']) (by omega) (by unfold maxLen; omega) (by omega) hbase W.heap.size rfl ?_
  intro g gc w1 hown1 hgrow _ _
  rw [hd]
  refine h g gc w1 ?_ (grown_below hown hgrow hbase)
  rw [List.map_append]
  exact hown1
theorem app_list {ops : Array Oper} {rest : List Oper} {o : Oper} {a : Act} {Q : Exit → Act → World → Prop} (hgd : o.guard = none) (s x : Operand)
    (ho : o.op = .call { callee := .builtin .append, args := #[s, x], argTypes := #[22, 22] }) (W : World)
    (base B : Nat) (v : Value) (zs : List Int) (y : Int) (hs : a.eval s = v) (hx : a.eval x = .slice (some ⟨B, 0, none⟩) 1 1) (hown : W.ownsRow base 3 1 v zs.length (zs.map (Value.int .i64)))
    (hnew : W.heap[B]? = some (.cells #[.int .i64 y] 3 (0, 0))) (hlen : zs.length ≤ 1000000) (hbase : base ≤ W.heap.size)
    (h : ∀ g gc w1, w1.ownsRow base 3 1 (.slice (some ⟨g, 0, none⟩) (zs.length + 1) gc) (zs.length + 1) ((zs ++ [y]).map (Value.int .i64)) → Below base W w1 → wpList Try.prog ops Q rest (a.put o.dst (.slice (some ⟨g, 0, none⟩) (zs.length + 1) gc)) w1) :
    wpList Try.prog ops Q (o :: rest) a W := by
  obtain ⟨i0, hi, hz0, hz1, hz2⟩ := info_parts Try.infoInt
  refine wpList_append_lies W hgd s x 22 ho base 3 i0 (.int .i64 0) 1 8 Try.underlying22 hi hz0 hz1 hz2 rfl (by decide) v zs.length (zs.map (Value.int .i64)) hs hown ⟨B, 0, none⟩ 1 1 [.int .i64 y] hx rfl
    (World.news_of_block (cs := #[.int .i64 y]) (t := 3) (fr := (0, 0)) hnew) (by simp [Value.oneCell']) (by omega) (by unfold maxLen; omega) (by omega) hbase W.heap.size rfl ?_
  intro g gc w1 hown1 hgrow _ _
  refine h g gc w1 ?_ (grown_below hown hgrow hbase)
  rw [List.map_append]
  exact hown1
end Go.Proofs.Ytgaelbgeoobgiab
