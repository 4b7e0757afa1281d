/-
  A part of a list put behind a list of the call's own: what append(s, x[i:j]...) does.
-/
import Derived.Test.YtmbgomljofngnacDoorTurnw
import Derived.Test.YtmbgomljofngnacDoorTurnq
namespace Go.Proofs.YtmbgomljofngnacDoor
open Go.RowKit
set_option linter.unusedVariables false

/-- The walk has come to an operation x[i:j]: it looks, and turns nothing. -/
theorem at_slice {ops : Array Oper} {rest : List Oper} {d : Option Tmp} {t : TypeId} {x : Operand} {l h m : Option Operand} {ty : TypeId} {pos : String} {af : Array Edge} {g : Option (Nat × Bool)} {a : Act} {Q : Exit → Act → World → Prop} {W : World} (k : wpList Tryd.prog ops Q (Oper.mk d (.slice t x l h m) ty pos af g :: rest) a W) :
    wpList Tryd.prog ops Q (Oper.mk d (.slice t x l h m) ty pos af g :: rest) a W := k
theorem run_cut (W : World) (da : Option Addr) (n dc P P2 : Nat) (h1 : P ≤ P2) (h2 : P2 ≤ dc) :
    (Instr.sliceAt 23 (.slice da n dc) (some (.int .i64 (P : Int))) (some (.int .i64 (P2 : Int))) none).run Tryd.prog W = .ok (sliced da P P2 dc 1) W := by
  obtain ⟨i0, hi, hz0, hz1, hz2⟩ := info_parts Tryd.infoInt
  have he : Tryd.prog.elem 23 = 3 := by kernel_rfl
  have hu : Tryd.prog.underlying 23 = some (.slice (Tryd.prog.elem 23)) := by rw [he]; exact Tryd.underlying23
  rw [run_sliceAt_slice (w := W) (h := hu), run_slice_lh (w := W) (ht := hu) (h0 := by omega) (h1 := by omega) (h2 := by omega), he]
  simp [sizeOf, typeInfo, hi, hz1, Result.andThen]
theorem run_app_none (W : World) (ty : TypeId) (g : Option Addr) (n cap c : Nat) (h : n ≤ cap) :
    (Builtin.append_ #[23, 23] ty #[.slice g n cap, .slice none 0 c]).run Tryd.prog W = .ok (.slice g n cap) W := by
  obtain ⟨i0, hi, hz0, hz1, hz2⟩ := info_parts Tryd.infoInt
  have ht : Tryd.prog.underlying 23 = some (.slice 3) := Tryd.underlying23
  cases g with
  | none => simp [Builtin.append_, run_underlying ht, sizeOf, typeInfo, hi, Builtin.lenOf, Builtin.firstCells, h]
  | some x => simp [Builtin.append_, run_underlying ht, sizeOf, typeInfo, hi, Builtin.lenOf, Builtin.firstCells, storeCells, h]
theorem app_cut {ops : Array Oper} {rest : List Oper} {o1 o2 : Oper} {a : Act} {Q : Exit → Act → World → Prop} (g1 : o1.guard = none) (d1 : Nat) (hd1 : o1.dst = some d1) (X L H : Operand) (ho1 : o1.op = .slice 23 X (some L) (some H) none)
    (g2 : o2.guard = none) (S T : Operand) (ho2 : o2.op = .call { callee := .builtin .append, args := #[S, T], argTypes := #[23, 23] })
    (W : World) (base : Nat) (v : Value) (xs : List Int) (m : Nat) (hm : xs.length = m) (da : Option Addr) (dz : List Int) (n dc P P2 : Nat) (l h : Int) (hl : l = (P : Int)) (hh : h = (P2 : Int)) (h1 : P ≤ P2) (h2 : P2 ≤ dz.length)
    (hX : a.eval X = .slice da n dc) (hL : a.eval L = .int .i64 l) (hH : a.eval H = .int .i64 h) (hS : ∀ u, (a.put (some d1) u).eval S = v) (hT : ∀ u, (a.put (some d1) u).eval T = u)
    (hown : W.ownsRow base 3 1 v m (xs.map (Value.int .i64))) (hI : IsC W.heap.size W da dz dc) (hlen : m + dz.length ≤ 1000000) (hbase : base ≤ W.heap.size)
    (k : ∀ u v' w1, w1.ownsRow base 3 1 v' (m + (P2 - P)) ((xs ++ (dz.drop P).take (P2 - P)).map (Value.int .i64)) → Below base W w1 → wpList Tryd.prog ops Q rest ((a.put (some d1) u).put o2.dst v') w1) :
    wpList Tryd.prog ops Q (o1 :: o2 :: rest) a W := by
  subst hl hh
  refine wpList_plain g1 fun K hK => ?_
  unfold Oper.wp execOp
  simp only [ho1, Option.map_some, hX, hL, hH, Option.map_none, Sem.run_bind, Sem.run_pure, Result.andThen_ok, run_cut W da n dc P P2 h1 (by have := hI.2; omega)]
  refine hK _ _ ?_
  rw [hd1]
  obtain ⟨i0, hi, hz0, hz1, hz2⟩ := info_parts Tryd.infoInt
  have hsl : sliced da P P2 dc 1 = .slice (if dc = P then da else da.map (·.add (P * 1))) (P2 - P) (dc - P) := rfl
  rw [hsl]
  cases da with
  | none =>
    have hz : dz = [] := by
      rcases hI.1 with h | ⟨_, _, h, _⟩
      · exact h
      · cases h
    subst hz
    simp only [List.length_nil, Nat.le_zero] at h2
    subst h2
    obtain rfl : P = 0 := by omega
    obtain ⟨g, cap, hv, hN⟩ := own_cap (by rw [← hm] at hown; exact hown)
    refine wpList_plain g2 fun K2 hK2 => ?_
    unfold Oper.wp execOp
    have e0 : (if dc = 0 then none else (none : Option Addr).map (·.add (0 * 1))) = none := by split <;> rfl
    simp only [ho2, resolve, invoke, builtin, Sem.run_bind, Sem.run_pure, Result.andThen_ok, List.map_toArray, List.map_cons, List.map_nil, hS, hT, e0, Nat.sub_self, Nat.sub_zero]
    rw [hv, run_app_none W _ g xs.length cap dc hN.2]
    refine hK2 _ _ ?_
    refine k _ _ W ?_ (Below.refl _ _)
    rw [← hv]
    simpa using hown
  | some ad =>
    have hne : ∀ j u, (((dz.drop P).take (P2 - P)).map (Value.int .i64))[j]? = some u → W.cell? ((if dc = P then ad else ad.add (P * 1)).add j) = some u := by
      intro j u hj
      rw [List.getElem?_map] at hj
      by_cases hlj : j < P2 - P
      · have hPd : P + j < dz.length := by omega
        obtain ⟨b, off, e, hb, hc⟩ := hI.1.at hPd
        cases e
        rw [if_neg (by have := hI.2; omega), List.getElem?_take, if_pos hlj, List.getElem?_drop, List.getElem?_eq_getElem hPd] at *
        simp only [Option.map_some] at hj
        obtain rfl := Option.some.inj hj
        rw [← nth_get dz (P + j) hPd, ← hc (P + j) hPd]
        have e : ((⟨b, off, none⟩ : Addr).add (P * 1)).add j = ⟨b, off + (P + j), none⟩ := by
          unfold Addr.add
          rw [Nat.mul_one, ← Nat.add_assoc]
          by_cases e1 : P = 0 <;> by_cases e2 : j = 0 <;> simp [e1, e2]
        rw [e]
      · rw [List.getElem?_take, if_neg hlj] at hj; cases hj
    have ev : (if dc = P then some ad else (some ad).map (·.add (P * 1))) = some (if dc = P then ad else ad.add (P * 1)) := by split <;> rfl
    rw [ev]
    refine wpList_append_own _ g2 S T 23 ho2 base 3 i0 (.int .i64 0) 1 8 Tryd.underlying23 hi hz0 hz1 hz2 rfl (by decide) v m (xs.map (Value.int .i64)) (hS _) hown _ (P2 - P) (dc - P) (((dz.drop P).take (P2 - P)).map (Value.int .i64)) (hT _) ?_ hne (fun x hx => by obtain ⟨y, _, rfl⟩ := List.mem_map.1 hx; rfl) (by unfold maxLen; omega) (by omega) hbase ?_
    · simp only [List.length_map, List.length_take, List.length_drop, Nat.mul_one]; omega
    · intro v' w1 hown1 hgrow _
      refine k _ v' w1 ?_ (grown_below hown hgrow hbase)
      rw [List.map_append]
      exact hown1
end Go.Proofs.YtmbgomljofngnacDoor
