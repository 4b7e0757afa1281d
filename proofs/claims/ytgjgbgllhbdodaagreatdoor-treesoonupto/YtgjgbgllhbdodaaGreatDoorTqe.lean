/-
  What the reference says of a word alone; a slice of words put behind one of the call's own; errors that differ.
-/
import Derived.Test.YtgjgbgllhbdodaaGreatDoorErr
import Derived.Test.YtgjgbgllhbdodaaGreatDoorLyz
import Derived.Test.YtgjgbgllhbdodaaGreatDoorTqd
namespace Go.Proofs.YtgjgbgllhbdodaaGreatDoor
open Go.RowKit Go.Lib
set_option linter.unusedVariables false

set_option maxRecDepth 100000 in
set_option maxHeartbeats 4000000 in
theorem alone_any (t : Tk) (a : Int) (hr : InR t.num) (hf : InR t.fn) (hz : t.text.length ≤ 1048576) (w : World) :
    Calls Tryz.prog 19 #[.agg #[.int .i64 t.kind, .int .i64 t.fn, .int .i64 t.num, .string ⟨t.text.toArray⟩, .int .i64 a]] w fun e w' => e = .returned (.int .i64 (aloF t)) ∧ Below w.heap.size w w' := by
  have hc := fun W => rspelt_any t a hr hf hz W
  have HB : Hid (Below w.heap.size w (w.alloc (.cells #[.int .i64 t.kind, .int .i64 t.fn, .int .i64 t.num, .string ⟨t.text.toArray⟩, .int .i64 a] 30))) := (Below.refl _ w).alloc (Nat.le_refl _) _
  have HK : Hid (Tbx (w.alloc (.cells #[.int .i64 t.kind, .int .i64 t.fn, .int .i64 t.num, .string ⟨t.text.toArray⟩, .int .i64 a] 30)) w.heap.size (.int .i64 t.kind) (.int .i64 t.fn) (.int .i64 t.num) (.string ⟨t.text.toArray⟩) (.int .i64 a)) := Tbx.new w _ _ _ _ _
  simp only [tokI] at hc
  have HA : Hid (aloF t = (match spelS t with | .error e => e | .ok b => if 1000 < b.length then 7 else 0)) := rfl
  cases hS : spelS t with
  | error c =>
    have hc7 := spel_e hS
    rw [hS] at hc
    have HA' : Hid (aloF t = c) := by show _ = _; rw [HA.out, hS]
    have hc0 : (c == 0) = false := by simp; omega
    clear hS HA hc7
    go_enter Tryz.func19, Tryz.ntmps19
    go_wp2_with fail
    refine (hc _).mono ?_
    rintro e w1 ⟨hb, Y, rfl⟩
    have HB1 : Hid (Below w.heap.size w w1) := HB.out.trans (hb.mono HB.out.size)
    clear hb hc
    go_wp2_with fail
    go_ret
    exact ⟨ret_i18 HA'.out.symm, HB1.out⟩
  | ok b =>
    rw [hS] at hc
    have HA' : Hid (aloF t = if 1000 < b.length then 7 else 0) := by show _ = _; rw [HA.out, hS]
    have hbs : (⟨b.toArray⟩ : ByteArray).size = b.length := size_mk _
    clear hS HA
    by_cases hl : 1000 < b.length
    · have HA2 : Hid (aloF t = 7) := by show _ = _; rw [HA'.out, if_pos hl]
      have hl' : (1000 : Int) < (b.length : Int) := by omega
      clear HA' hl
      go_enter Tryz.func19, Tryz.ntmps19
      go_wp2_with fail
      refine (hc _).mono ?_
      rintro e w1 ⟨hb, rfl⟩
      have HB1 : Hid (Below w.heap.size w w1) := HB.out.trans (hb.mono HB.out.size)
      clear hb hc
      go_wp2_with fail
      go_ret
      exact ⟨ret_i18 HA2.out.symm, HB1.out⟩
    · have HA2 : Hid (aloF t = 0) := by show _ = _; rw [HA'.out, if_neg hl]
      have hl' : ¬ (1000 : Int) < (b.length : Int) := by omega
      clear HA' hl
      go_enter Tryz.func19, Tryz.ntmps19
      go_wp2_with fail
      refine (hc _).mono ?_
      rintro e w1 ⟨hb, rfl⟩
      have HB1 : Hid (Below w.heap.size w w1) := HB.out.trans (hb.mono HB.out.size)
      clear hb hc
      go_wp2_with fail
      go_ret
      exact ⟨ret_i18 HA2.out.symm, HB1.out⟩
theorem run_none_tok (W : World) (ty : TypeId) (g : Option Addr) (n cap c : Nat) (h : n ≤ cap) :
    (Builtin.append_ #[22, 22] ty #[.slice g n cap, .slice none 0 c]).run Tryz.prog W = .ok (.slice g n cap) W := by
  obtain ⟨i0, hi, hz0, hz1, hz2⟩ := info_parts Tryz.infoTok
  have ht : Tryz.prog.underlying 22 = some (.slice 30) := Tryz.underlying22
  cases g with
  | none => simp [Builtin.append_, run_underlying ht, sizeOf, typeInfo, hi, Builtin.lenOf, Builtin.firstCells, h]
  | some x => simp [Builtin.append_, run_underlying ht, sizeOf, typeInfo, hi, Builtin.lenOf, Builtin.firstCells, storeCells, h]
theorem own_cap5 {w : World} {base : Nat} {v : Value} {n : Nat} {xs : List Value} (h : w.ownsRow base 30 5 v n xs) : ∃ g cap, v = .slice g n cap ∧ n ≤ cap := by
  rcases h.2 with ⟨rfl, h0⟩ | ⟨g, cap, cur, rfl, h1, hg, h2, _⟩
  · exact ⟨none, 0, by rw [h0], by omega⟩
  · exact ⟨_, cap, rfl, h2⟩
/-- Words put behind words. -/
theorem app_tok {ops : Array Oper} {rest : List Oper} {o : Oper} {a : Act} {Q : Exit → Act → World → Prop} (hgd : o.guard = none) (S T : Operand) (ho : o.op = .call { callee := .builtin .append, args := #[S, T], argTypes := #[22, 22] })
    (W : World) (base : Nat) (v : Value) (m : Nat) (xs : List TkA) (da : Option Addr) (n dc : Nat) (dz : List TkA) (hn : dz.length = n) (hS : a.eval S = v) (hT : a.eval T = .slice da n dc)
    (hown : W.ownsRow base 30 5 v m (cl5 xs)) (n₀ : Nat) (hI : IsTk n₀ W da dz) (hlen : m + n ≤ 3000000) (hbase : base ≤ W.heap.size)
    (k : ∀ g gc w1, w1.ownsRow base 30 5 (.slice g (m + n) gc) (m + n) (cl5 (xs ++ dz)) → Below base W w1 → wpList Tryz.prog ops Q rest (a.put o.dst (.slice g (m + n) gc)) w1) :
    wpList Tryz.prog ops Q (o :: rest) a W := by
  obtain ⟨i0, hi, hz0, hz1, hz2⟩ := info_parts Tryz.infoTok
  by_cases h0 : n = 0
  · subst h0
    have : dz = [] := List.eq_nil_of_length_eq_zero hn
    subst this
    rw [List.append_nil] at k
    cases da with
    | none =>
      obtain ⟨g, cap, hv, hN⟩ := own_cap5 hown
      refine wpList_plain hgd fun K hK => ?_
      unfold Oper.wp execOp
      simp only [ho, resolve, invoke, builtin, Sem.run_bind, Sem.run_pure, Result.andThen_ok, List.map_toArray, List.map_cons, List.map_nil, hS, hT]
      rw [hv, run_none_tok W _ g m cap dc hN]
      rw [hv] at hown
      exact hK _ _ (k g cap W hown (Below.refl _ _))
    | some ad =>
      refine wpList_append_own W hgd S T 22 ho base 30 i0 _ 5 48 Tryz.underlying22 hi hz0 hz1 hz2 rfl (by decide) v m (cl5 xs) hS hown ad 0 dc [] hT rfl (fun j u h => by cases h) (fun u h => by cases h) (by unfold maxLen; omega) (by omega) hbase ?_
      intro v' w1 hO1 hg _
      obtain ⟨g, gc, hv', _⟩ := own_cap5 hO1
      rw [hv', List.append_nil] at hO1
      rw [hv']
      exact k g gc w1 hO1 ((Below.refl base W).grown hg hbase (fun k hk => (own_lo hown k hk).1))
  obtain ⟨g, off, rfl, hg, hc⟩ := hI.at (j := 0) (by omega)
  refine wpList_append_own W hgd S T 22 ho base 30 i0 _ 5 48 Tryz.underlying22 hi hz0 hz1 hz2 rfl (by decide) v m (cl5 xs) hS hown ⟨g, off, none⟩ n dc (cl5 dz) hT (by rw [cl5_length, hn]) (fun j u hj => ?_) (cl5_one18 dz) (by unfold maxLen; omega) (by omega) hbase ?_
  · have h := cl5_news dz off (fun q hq => hc q hq) j u hj
    rw [show (⟨g, off, none⟩ : Addr).add j = ⟨g, off + j, none⟩ by unfold Addr.add; split; rename_i h0; subst h0; rfl; rfl]
    exact h
  · intro v' w1 hO1 hg1 _
    obtain ⟨g', gc, hv', _⟩ := own_cap5 hO1
    rw [hv', ← cl5_app18] at hO1
    rw [hv']
    exact k g' gc w1 hO1 ((Below.refl base W).grown hg1 hbase (fun k hk => (own_lo hown k hk).1))
set_option maxHeartbeats 1000000 in
/-- An error that is another one. -/
theorem error_diff (n k : Int) (hnk : n ≠ k) (w : World) (hg : HasErr w) : Calls Tryz.prog 10 #[errV n, .int .i64 k] w fun e w' => e = .returned (.bool false) ∧ Below w.heap.size w w' := by
  have hnn : (n == k) = false := by simpa using hnk
  clear hnk
  go_enter Tryz.func10, Tryz.ntmps10
  go_wp2_with fail
  refine (told_any n w hg).mono ?_
  rintro e w1 ⟨rfl, hB⟩
  go_wp2_with fail
  go_ret
  exact ⟨rfl, hB⟩
end Go.Proofs.YtgjgbgllhbdodaaGreatDoor
