/-
  A list put behind a list of the call's own: what append(s, x...) does.
-/
import Derived.Laws.AppendOwn
import Derived.Test.YtgaelbgeoobgiaaApps
import Derived.Test.YtgaelbgeoobgiaaCutn
namespace Go.Proofs.Ytgaelbgeoobgiaa
open Go.RowKit
set_option linter.unusedVariables false

theorem run_none7 (W : World) (ty : TypeId) (g : Option Addr) (n cap c : Nat) (h : n ≤ cap) :
    (Builtin.append_ #[22, 22] ty #[.slice g n cap, .slice none 0 c]).run Try.prog W = .ok (.slice g n cap) W := by
  obtain ⟨i0, hi, hz0, hz1, hz2⟩ := info_parts Try.infoInt
  have ht : Try.prog.underlying 22 = some (.slice 3) := Try.underlying22
  cases g with
  | none => simp [Builtin.append_, run_underlying ht, sizeOf, typeInfo, hi, Builtin.lenOf, Builtin.firstCells, h]
  | some x => simp [Builtin.append_, run_underlying ht, sizeOf, typeInfo, hi, Builtin.lenOf, Builtin.firstCells, storeCells, h]
theorem app_wp {o : Oper} {a : Act} {K : Act → World → Prop} {Q : Exit → Act → World → Prop} (S T : Operand) (ho : o.op = .call { callee := .builtin .append, args := #[S, T], argTypes := #[22, 22] })
    (W : World) (base : Nat) (v : Value) (xs : List Int) (m : Nat) (hm : xs.length = m) (da : Option Addr) (dz : List Int) (n dc : Nat) (hn : dz.length = n)
    (hS : a.eval S = v) (hT : a.eval T = .slice da n dc) (hown : W.ownsRow base 3 1 v m (xs.map (Value.int .i64))) (hI : IsInts W.heap.size W da dz) (hlen : m + n ≤ 1000000) (hbase : base ≤ W.heap.size)
    (k : ∀ g gc w1, w1.ownsRow base 3 1 (.slice g (m + n) gc) (m + n) ((xs ++ dz).map (Value.int .i64)) → NewC base w1 g (xs ++ dz) gc → Below base W w1 → K (a.put o.dst (.slice g (m + n) gc)) w1) :
    Oper.wp Try.prog o a W K Q := by
  subst hn hm
  obtain ⟨i0, hi, hz0, hz1, hz2⟩ := info_parts Try.infoInt
  cases da with
  | none =>
    have hz : dz = [] := by
      rcases hI with h | ⟨_, _, h, _⟩
      · exact h
      · cases h
    subst hz
    obtain ⟨g, cap, hv, hN⟩ := own_cap hown
    unfold Oper.wp execOp
    simp only [ho, resolve, invoke, builtin, Sem.run_bind, Sem.run_pure, Result.andThen_ok, List.map_toArray, List.map_cons, List.map_nil, hS, hT]
    rw [hv, List.length_nil, run_none7 W _ g xs.length cap dc hN.2]
    refine k g cap W ?_ ?_ (Below.refl _ _)
    · rw [hv] at hown; simpa using hown
    · simpa using hN
  | some ad =>
    have hne : ∀ j u, (dz.map (Value.int .i64))[j]? = some u → W.cell? (ad.add j) = some u := by
      intro j u hj
      rw [List.getElem?_map] at hj
      by_cases hl : j < dz.length
      · obtain ⟨b, off, e, hb, hc⟩ := hI.at hl
        cases e
        rw [List.getElem?_eq_getElem hl] at hj
        simp only [Option.map_some] at hj
        obtain rfl := Option.some.inj hj
        rw [← nth_get dz j hl]
        have e : (⟨b, off, none⟩ : Addr).add j = ⟨b, off + j, none⟩ := by
          unfold Addr.add; split
          · rename_i h0; subst h0; rfl
          · rfl
        rw [e]; exact hc j hl
      · rw [List.getElem?_eq_none (by omega)] at hj; cases hj
    refine wp_append_own W S T 22 ho base 3 i0 (.int .i64 0) 1 8 Try.underlying22 hi hz0 hz1 hz2 rfl (by decide) v xs.length (xs.map (Value.int .i64)) hS hown ad dz.length dc (dz.map (Value.int .i64)) hT (by simp) hne (fun x hx => by obtain ⟨y, _, rfl⟩ := List.mem_map.1 hx; rfl) (by unfold maxLen; omega) (by omega) hbase ?_
    intro v' w1 hown1 hgrow _
    rw [← List.map_append] at hown1
    obtain ⟨g, gc, hv', hN⟩ := own_cap hown1
    rw [List.length_append] at hv'
    rw [hv'] at hown1 ⊢
    exact k g gc w1 hown1 hN (grown_below hown hgrow hbase)
theorem app_all {ops : Array Oper} {rest : List Oper} {o : Oper} {a : Act} {Q : Exit → Act → World → Prop} (hgd : o.guard = none) (S T : Operand) (ho : o.op = .call { callee := .builtin .append, args := #[S, T], argTypes := #[22, 22] })
    (W : World) (base : Nat) (v : Value) (xs : List Int) (m : Nat) (hm : xs.length = m) (da : Option Addr) (dz : List Int) (n dc : Nat) (hn : dz.length = n)
    (hS : a.eval S = v) (hT : a.eval T = .slice da n dc) (hown : W.ownsRow base 3 1 v m (xs.map (Value.int .i64))) (hI : IsInts W.heap.size W da dz) (hlen : m + n ≤ 1000000) (hbase : base ≤ W.heap.size)
    (k : ∀ g gc w1, w1.ownsRow base 3 1 (.slice g (m + n) gc) (m + n) ((xs ++ dz).map (Value.int .i64)) → NewC base w1 g (xs ++ dz) gc → Below base W w1 → wpList Try.prog ops Q rest (a.put o.dst (.slice g (m + n) gc)) w1) :
    wpList Try.prog ops Q (o :: rest) a W :=
  wpList_plain hgd fun _ hK => app_wp S T ho W base v xs m hm da dz n dc hn hS hT hown hI hlen hbase fun g gc w1 h1 h2 h3 => hK _ _ (k g gc w1 h1 h2 h3)
theorem app_all_step {ops : Array Oper} {o : Oper} {a : Act} {K : Act → World → Prop} {Q : Exit → Act → World → Prop} {E : Prop} (d : Nat) (hd : o.dst = some d) (hgd : o.guard = none) (S T : Operand) (ho : o.op = .call { callee := .builtin .append, args := #[S, T], argTypes := #[22, 22] })
    (W : World) (base : Nat) (v : Value) (xs : List Int) (m : Nat) (hm : xs.length = m) (da : Option Addr) (dz : List Int) (n dc : Nat) (hn : dz.length = n)
    (hS : a.eval S = v) (hT : a.eval T = .slice da n dc) (hown : W.ownsRow base 3 1 v m (xs.map (Value.int .i64))) (hI : IsInts W.heap.size W da dz) (hlen : m + n ≤ 1000000) (hbase : base ≤ W.heap.size)
    (k : ∀ g gc w1, w1.ownsRow base 3 1 (.slice g (m + n) gc) (m + n) ((xs ++ dz).map (Value.int .i64)) → NewC base w1 g (xs ++ dz) gc → Below base W w1 → K (a.put (some d) (.slice g (m + n) gc)) w1) :
    if Region.wanted o (yielded ops a.tmps) = true then Oper.wp Try.prog o a W K Q else E := by
  have hw : Region.wanted o (yielded ops a.tmps) = true := by simp [Region.wanted, hgd]
  rw [if_pos hw]
  refine app_wp S T ho W base v xs m hm da dz n dc hn hS hT hown hI hlen hbase ?_
  rw [hd]
  exact k
end Go.Proofs.Ytgaelbgeoobgiaa
