/-
  Two lists of the call's own, and one number put behind one of them.
-/
import Derived.Test.YtldjgacnjogbnaaDoorApps
namespace Go.Proofs.YtldjgacnjogbnaaDoor
open Go.RowKit
set_option linter.unusedVariables false

theorem own_other {w w' : World} {base : Nat} {e : TypeId} {size : Nat} {v : Value} {n : Nat} {xs : List Value} {row : Option Nat} (h : w.ownsRow base e size v n xs) (hg : w.grownBy w' row) (hne : ∀ b, v.ownBlock = some b → row ≠ some b) : w'.ownsRow base e size v n xs := by
  obtain ⟨hl, hc⟩ := h
  refine ⟨hl, ?_⟩
  rcases hc with hc | ⟨g, cap, cur, rfl, h2, hgc, hr⟩
  · exact .inl hc
  · have hlt := (Array.getElem?_eq_some_iff.1 hgc).1
    exact .inr ⟨g, cap, cur, rfl, h2, (hg.block g hlt (fun e => hne g rfl e.symm)).trans hgc, hr⟩
theorem own_lt {w : World} {base : Nat} {e : TypeId} {size : Nat} {v : Value} {n : Nat} {xs : List Value} (h : w.ownsRow base e size v n xs) {b : Nat} (hb : v.ownBlock = some b) : b < w.heap.size := by
  rcases h.2 with ⟨rfl, _⟩ | ⟨g, cap, cur, rfl, _, hg, _⟩
  · simp [Value.ownBlock] at hb
  · simp [Value.ownBlock] at hb
    subst hb
    exact (Array.getElem?_eq_some_iff.1 hg).1
/-- Two lists, in memory from base on, of which none lies in the other's. -/
def Two2 (W : World) (base : Nat) (v : Value) (xs : List Int) (v' : Value) (ys : List Int) : Prop :=
  W.ownsRow base 3 1 v xs.length (xs.map (Value.int .i64)) ∧ W.ownsRow base 3 1 v' ys.length (ys.map (Value.int .i64)) ∧ ∀ b, v.ownBlock = some b → v'.ownBlock ≠ some b
section
variable {W : World} {base : Nat} {v v' : Value} {xs ys : List Int}
theorem Two2.nil (W : World) (base : Nat) : Two2 W base (.slice none 0 0) [] (.slice none 0 0) [] := ⟨World.ownsRow_nil _ _ _ _, World.ownsRow_nil _ _ _ _, fun b h => by simp [Value.ownBlock] at h⟩
theorem Two2.symm (h : Two2 W base v xs v' ys) : Two2 W base v' ys v xs := ⟨h.2.1, h.1, fun b hb he => h.2.2 b he hb⟩
theorem Two2.al (h : Two2 W base v xs v' ys) (o : Obj) : Two2 (W.alloc o) base v xs v' ys := ⟨h.1.alloc o, h.2.1.alloc o, h.2.2⟩
theorem Two2.dr (h : Two2 W base v xs v' ys) : Two2 W.drew base v xs v' ys := ⟨h.1.drew, h.2.1.drew, h.2.2⟩
theorem Two2.go {W' : World} (h : Two2 W base v xs v' ys) (hB : Below W.heap.size W W') : Two2 W' base v xs v' ys := ⟨own_go h.1 hB, own_go h.2.1 hB, h.2.2⟩
theorem Two2.grow {w1 : World} {g gc : Nat} {y : Int} (h : Two2 W base v xs v' ys) (hb : base ≤ W.heap.size) (hown : w1.ownsRow base 3 1 (.slice (some ⟨g, 0, none⟩) (xs.length + 1) gc) (xs.length + 1) (xs.map (Value.int .i64) ++ [.int .i64 y])) (hg : W.grownBy w1 v.ownBlock) (hw : v.ownBlock = some g ∨ g = W.heap.size) :
    Two2 w1 base (.slice (some ⟨g, 0, none⟩) (xs.length + 1) gc) (xs ++ [y]) v' ys ∧ Below base W w1 := by
  refine ⟨⟨by rw [List.map_append, List.length_append]; exact hown, own_other h.2.1 hg fun b hb' he => h.2.2 b he hb', fun b hb' => ?_⟩, grown_below h.1 hg hb⟩
  simp only [Value.ownBlock, Option.some.injEq] at hb'
  subst hb'
  rcases hw with hw | hw
  · exact h.2.2 _ hw
  · intro he
    have := own_lt h.2.1 he
    omega
end
theorem app2_list {ops : Array Oper} {rest : List Oper} {o : Oper} {a : Act} {Q : Exit → Act → World → Prop} (hgd : o.guard = none) (s x : Operand)
    (ho : o.op = .call { callee := .builtin .append, args := #[s, x], argTypes := #[22, 22] }) (W : World)
    (base B : Nat) (v : Value) (xs : List Int) (v' : Value) (ys : List Int) (y : Int) (m : Nat) (hm : xs.length = m) (hs : a.eval s = v) (hx : a.eval x = .slice (some ⟨B, 0, none⟩) 1 1) (hT : Two2 W base v xs v' ys)
    (hnew : W.heap[B]? = some (.cells #[.int .i64 y] 3 (0, 0))) (hlen : m ≤ 1000000) (hbase : base ≤ W.heap.size)
    (h : ∀ g gc w1, Two2 w1 base (.slice (some ⟨g, 0, none⟩) (m + 1) gc) (xs ++ [y]) v' ys → Below base W w1 → wpList Tryd.prog ops Q rest (a.put o.dst (.slice (some ⟨g, 0, none⟩) (m + 1) gc)) w1) :
    wpList Tryd.prog ops Q (o :: rest) a W := by
  subst hm
  obtain ⟨i0, hi, hz0, hz1, hz2⟩ := info_parts Tryd.infoInt
  refine wpList_append_lies W hgd s x 22 ho base 3 i0 (.int .i64 0) 1 8 Tryd.underlying22 hi hz0 hz1 hz2 rfl (by decide) v xs.length (xs.map (Value.int .i64)) hs hT.1 ⟨B, 0, none⟩ 1 1 [.int .i64 y] hx rfl
    (World.news_of_block (cs := #[.int .i64 y]) (t := 3) (fr := (0, 0)) hnew) (by simp [Value.oneCell']) (by omega) (by unfold maxLen; omega) (by omega) hbase W.heap.size rfl ?_
  intro g gc w1 hown1 hgrow hw _
  have k := hT.grow hbase hown1 hgrow hw
  exact h g gc w1 k.1 k.2
theorem app2_step {ops : Array Oper} {o : Oper} {a : Act} {K : Act → World → Prop} {Q : Exit → Act → World → Prop} {E : Prop} (d : Nat) (hd : o.dst = some d) (hgd : o.guard = none) (s x : Operand)
    (ho : o.op = .call { callee := .builtin .append, args := #[s, x], argTypes := #[22, 22] }) (W : World)
    (base B : Nat) (v : Value) (xs : List Int) (v' : Value) (ys : List Int) (y : Int) (m : Nat) (hm : xs.length = m) (hs : a.eval s = v) (hx : a.eval x = .slice (some ⟨B, 0, none⟩) 1 1) (hT : Two2 W base v xs v' ys)
    (hnew : W.heap[B]? = some (.cells #[.int .i64 y] 3 (0, 0))) (hlen : m ≤ 1000000) (hbase : base ≤ W.heap.size)
    (h : ∀ g gc w1, Two2 w1 base (.slice (some ⟨g, 0, none⟩) (m + 1) gc) (xs ++ [y]) v' ys → Below base W w1 → K (a.put (some d) (.slice (some ⟨g, 0, none⟩) (m + 1) gc)) w1) :
    if Region.wanted o (yielded ops a.tmps) = true then Oper.wp Tryd.prog o a W K Q else E := by
  subst hm
  obtain ⟨i0, hi, hz0, hz1, hz2⟩ := info_parts Tryd.infoInt
  refine step_append_lies W hgd s x 22 ho base 3 i0 (.int .i64 0) 1 8 Tryd.underlying22 hi hz0 hz1 hz2 rfl (by decide) v xs.length (xs.map (Value.int .i64)) hs hT.1 ⟨B, 0, none⟩ 1 1 [.int .i64 y] hx rfl
    (World.news_of_block (cs := #[.int .i64 y]) (t := 3) (fr := (0, 0)) hnew) (by simp [Value.oneCell']) (by omega) (by unfold maxLen; omega) (by omega) hbase W.heap.size rfl ?_
  intro g gc w1 hown1 hgrow hw _
  rw [hd]
  have k := hT.grow hbase hown1 hgrow hw
  exact h g gc w1 k.1 k.2
theorem Two2.out {W : World} {base : Nat} {v v' : Value} {xs ys : List Int} (h : Two2 W base v xs v' ys) {m : Nat} (hx : xs.length = m) (hy : ys.length = m) :
    ∃ g gc f fc, v = .slice g m gc ∧ v' = .slice f m fc ∧ NewInts base W g xs ∧ NewInts base W f ys := by
  obtain ⟨g, gc, h1, h2⟩ := owns_new h.1
  obtain ⟨f, fc, h3, h4⟩ := owns_new h.2.1
  exact ⟨g, gc, f, fc, by rw [h1, hx], by rw [h3, hy], h2, h4⟩
end Go.Proofs.YtldjgacnjogbnaaDoor
