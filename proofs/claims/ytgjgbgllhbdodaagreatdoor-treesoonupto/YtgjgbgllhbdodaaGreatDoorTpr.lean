/-
  slices.Concat of slices of parts (and slices.Grow of nothing).
-/
import Derived.Lib.SliceRun
import Derived.Lib.AppendZerosOnto
import Derived.Test.YtgjgbgllhbdodaaGreatDoorTpq
namespace Go.Proofs.YtgjgbgllhbdodaaGreatDoor
open Go.RowKit Go.Lib
set_option linter.unusedVariables false

set_option maxRecDepth 100000 in
set_option maxHeartbeats 2000000 in
theorem grow_any18 (n : Nat) (hn : n ≤ 100000) (w : World) :
    Calls Tryz.prog 215 #[.slice none 0 0, .int .i64 (n : Nat)] w fun e w' => ∃ g gc, e = .returned (.slice g 0 gc) ∧ w'.ownsRow w.heap.size 58 1 (.slice g 0 gc) 0 [] ∧ Below w.heap.size w w' := by
  have h1 : ¬ ((n : Int) < 0) := by omega
  by_cases h0 : n = 0
  · subst h0
    go_enter Tryz.func215, Tryz.ntmps215
    go_wp2_with fail
    go_ret
    exact ⟨none, 0, rfl, World.ownsRow_nil _ _ _ _, Below.refl _ _⟩
  · have h2 : (n : Int) > 0 := by omega
    obtain ⟨i0, hi, hz0, hz1, hz2⟩ := info_parts Tryz.infoPart
    have hold : (Builtin.firstCells i0.size 0 (.slice none 0 0)).run Tryz.prog w.drew = .ok ([] : List Value).toArray w.drew := run_firstCells_none w.drew i0.size 0 0 0
    have hrz : ∀ ty, (Builtin.append_ #[117, 3] ty #[.slice none 0 0, .int .i64 (n : Nat)]).run Tryz.prog w =
        .ok (.slice (some ⟨w.heap.size, 0, none⟩) (0 + n) (grownCap w (0 + n) 0 58)) (w.drew.alloc (.cells (([] : List Value).toArray ++ Builtin.zeroCells Value.nilIface.cells n ++ Builtin.zeroCells Value.nilIface.cells (grownCap w (0 + n) 0 58 - (0 + n))) 58)) := fun ty =>
      Lib.run_append_grow_zeros w 117 3 ty 58 i0 .nilIface .i64 .i64 Tryz.underlying117 Tryz.underlying3 hi hz0 none 0 0 [] hold n (by omega) (by omega) (by omega) (by omega) (by rw [hz2]; omega) (by rw [hz2]; exact growslice_fits (by omega) (by omega))
    have hG := grownCap_ge w (0 + n) 0 58
    have hG2 := grownCap_le_maxLen w (0 + n) 0 58 (by unfold maxLen; omega)
    obtain ⟨G, hGe⟩ : ∃ G, G = grownCap w (0 + n) 0 58 := ⟨_, rfl⟩
    rw [← hGe] at hrz hG hG2
    obtain ⟨cs, hcs⟩ : ∃ cs, cs = ([] : List Value).toArray ++ Builtin.zeroCells Value.nilIface.cells n ++ Builtin.zeroCells Value.nilIface.cells (G - (0 + n)) := ⟨_, rfl⟩
    rw [← hcs] at hrz
    have hsz : cs.size = G * 1 := by
      rw [hcs]
      simp [Builtin.zeroCells, Value.cells]
      omega
    have HB : Hid (Below w.heap.size w (w.drew.alloc (.cells cs 58))) := (Below.refl _ w).drew.alloc (Nat.le_refl _) _
    have HO : Hid ((w.drew.alloc (.cells cs 58)).ownsRow w.heap.size 58 1 (.slice (some ⟨w.heap.size, 0, none⟩) 0 G) 0 []) :=
      ⟨rfl, .inr ⟨w.heap.size, G, cs, rfl, Nat.le_refl _, World.alloc_heap_new w.drew _, Nat.zero_le _, hG2, hsz, rfl⟩⟩
    have hG63 : G ≤ 9223372036854775807 := by unfold maxLen at hG2; omega
    rw [Nat.zero_add] at hrz hG
    clear hold hcs hsz hG2 hGe h0
    go_enter Tryz.func215, Tryz.ntmps215
    go_wp2_with (at_builtin; refine Lib.wpList_append_run _ rfl _ _ _ _ rfl _ _ rfl rfl _ _ (hrz _) ?_)
    go_ret
    exact ⟨some ⟨w.heap.size, 0, none⟩, G, rfl, HO.out, HB.out⟩
/-! A slice of parts put behind one of the call's own. -/
theorem run_none18 (W : World) (ty : TypeId) (g : Option Addr) (n cap c : Nat) (h : n ≤ cap) :
    (Builtin.append_ #[117, 117] ty #[.slice g n cap, .slice none 0 c]).run Tryz.prog W = .ok (.slice g n cap) W := by
  obtain ⟨i0, hi, hz0, hz1, hz2⟩ := info_parts Tryz.infoPart
  have ht : Tryz.prog.underlying 117 = some (.slice 58) := Tryz.underlying117
  cases g with
  | none => simp [Builtin.append_, run_underlying ht, sizeOf, typeInfo, hi, Builtin.lenOf, Builtin.firstCells, h]
  | some x => simp [Builtin.append_, run_underlying ht, sizeOf, typeInfo, hi, Builtin.lenOf, Builtin.firstCells, storeCells, h]
/-- A row of parts of the call's own, one value after the other. -/
def PrR (P : Value → List Nod → Prop) (lo : Nat) (w : World) (v : Value) (n : Nat) (nss : List (List Nod)) : Prop :=
  ∃ vs : List Value, nss.length = n ∧ w.ownsRow lo 58 1 v n vs ∧ vs.length = n ∧ ∀ j, j < n → P (vs.getD j .nilIface) (nss.getD j [])
theorem PrR.row {P : Value → List Nod → Prop} {lo : Nat} {w : World} {sa : Option Addr} {n c : Nat} {nss : List (List Nod)} (h : PrR P lo w (.slice sa n c) n nss) : RowX P (fun k => lo ≤ k) w sa nss := by
  obtain ⟨vs, e2, hO, e1, hP⟩ := h
  rcases hO.2 with ⟨e, h0⟩ | ⟨g, cap, cur, e, h1, hg, h2, _, h3, h4⟩
  · injection e with _ e3 _
    exact .inl (List.eq_nil_of_length_eq_zero (by omega))
  · injection e with e3 _ e4
    subst e3
    refine .inr ⟨g, 0, rfl, (Array.getElem?_eq_some_iff.1 hg).1, h1, fun j hj => ⟨vs.getD j .nilIface, ?_, hP j (by omega)⟩⟩
    rw [List.getD_eq_getElem?_getD, ← h4, List.getElem?_take, if_pos (by omega)]
    simp only [World.cell?, hg]
    have : j < cur.size := by omega
    simp [this]
theorem own_cap18 {w : World} {base : Nat} {e : TypeId} {v : Value} {n : Nat} {xs : List Value} (h : w.ownsRow base e 1 v n xs) : ∃ g cap, v = .slice g n cap ∧ n ≤ cap := by
  rcases h.2 with ⟨rfl, h0⟩ | ⟨g, cap, cur, rfl, h1, hg, h2, _⟩
  · exact ⟨none, 0, by rw [h0], by omega⟩
  · exact ⟨_, cap, rfl, h2⟩
theorem app18 {ops : Array Oper} {rest : List Oper} {o : Oper} {a : Act} {Q : Exit → Act → World → Prop} (hgd : o.guard = none) (S T : Operand) (ho : o.op = .call { callee := .builtin .append, args := #[S, T], argTypes := #[117, 117] })
    (P : Value → List Nod → Prop) (hP1 : ∀ v ns, P v ns → v.oneCell' = true) (W : World) (base : Nat) (v : Value) (m : Nat) (xs : List (List Nod)) (B : Nat → Prop) (da : Option Addr) (n dc : Nat) (dz : List (List Nod)) (hn : dz.length = n)
    (hS : a.eval S = v) (hT : a.eval T = .slice da n dc) (hown : PrR P base W v m xs) (hI : RowX P B W da dz) (hlen : m + n ≤ 1000000) (hbase : base ≤ W.heap.size)
    (k : ∀ g gc w1, PrR P base w1 (.slice g (m + n) gc) (m + n) (xs ++ dz) → Below base W w1 → wpList Tryz.prog ops Q rest (a.put o.dst (.slice g (m + n) gc)) w1) :
    wpList Tryz.prog ops Q (o :: rest) a W := by
  obtain ⟨i0, hi, hz0, hz1, hz2⟩ := info_parts Tryz.infoPart
  obtain ⟨vs, e2, hO, e1, hP⟩ := hown
  by_cases h0 : n = 0
  · subst h0
    have : dz = [] := List.eq_nil_of_length_eq_zero hn
    subst this
    cases da with
    | none =>
      obtain ⟨g, cap, hv, hN⟩ := own_cap18 hO
      refine wpList_plain hgd fun K hK => ?_
      unfold Oper.wp execOp
      simp only [ho, resolve, invoke, builtin, Sem.run_bind, Sem.run_pure, Result.andThen_ok, List.map_toArray, List.map_cons, List.map_nil, hS, hT]
      rw [hv, run_none18 W _ g m cap dc hN]
      refine hK _ _ (k g cap W ?_ (Below.refl _ _))
      rw [hv] at hO
      exact ⟨vs, by simpa using e2, hO, e1, by simpa using hP⟩
    | some ad =>
      refine wpList_append_own W hgd S T 117 ho base 58 i0 .nilIface 1 16 Tryz.underlying117 hi hz0 hz1 hz2 rfl (by decide) v m vs hS hO ad 0 dc [] hT rfl (fun j u h => by cases h) (fun u h => by cases h) (by unfold maxLen; omega) (by omega) hbase ?_
      intro v' w1 hO1 hg _
      obtain ⟨g, gc, hv', _⟩ := own_cap18 hO1
      rw [hv'] at hO1 ⊢
      refine k g gc w1 ⟨vs, by simpa using e2, by simpa using hO1, e1, by simpa using hP⟩ ((Below.refl base W).grown hg hbase (fun k hk => (own_lo hO k hk).1))
  obtain ⟨g, off, rfl, hg, _, hc⟩ := hI.at (j := 0) (by omega)
  have hall : ∀ q, q ≤ n → ∃ us : List Value, us.length = q ∧ ∀ j, j < q → W.cell? ⟨g, off + j, none⟩ = us[j]? ∧ P (us.getD j .nilIface) (dz.getD j []) := by
    intro q
    induction q with
    | zero => exact fun _ => ⟨[], rfl, fun j hj => by omega⟩
    | succ q ih =>
      intro hq
      obtain ⟨us, h1, h2⟩ := ih (by omega)
      obtain ⟨u, hu, hPu⟩ := hc q (by omega)
      refine ⟨us ++ [u], by simp [h1], fun j hj => ?_⟩
      by_cases e : j = q
      · subst e
        rw [List.getD_eq_getElem?_getD, List.getElem?_append_right (by omega), h1]
        simp only [Nat.sub_self, List.getElem?_cons_zero, Option.getD_some]
        exact ⟨hu, hPu⟩
      · rw [List.getD_eq_getElem?_getD, List.getElem?_append_left (by omega), ← List.getD_eq_getElem?_getD]
        exact h2 j (by omega)
  obtain ⟨us, h1, h2⟩ := hall n (Nat.le_refl _)
  have hadd : ∀ j, (⟨g, off, none⟩ : Addr).add j = ⟨g, off + j, none⟩ := by
    intro j; unfold Addr.add; split
    · rename_i h0; subst h0; rfl
    · rfl
  refine wpList_append_own W hgd S T 117 ho base 58 i0 .nilIface 1 16 Tryz.underlying117 hi hz0 hz1 hz2 rfl (by decide) v m vs hS hO ⟨g, off, none⟩ n dc us hT (by omega) (fun j u hj => ?_) (fun u hu => ?_) (by unfold maxLen; omega) (by omega) hbase ?_
  · rw [hadd]
    have hlt : j < us.length := (List.getElem?_eq_some_iff.1 hj).1
    rw [(h2 j (by omega)).1]; exact hj
  · obtain ⟨j, hj, rfl⟩ := List.mem_iff_getElem.1 hu
    have := (h2 j (by omega)).2
    rw [List.getD_eq_getElem?_getD, List.getElem?_eq_getElem hj] at this
    exact hP1 _ _ this
  · intro v' w1 hO1 hg1 _
    obtain ⟨g', gc, hv', _⟩ := own_cap18 hO1
    rw [hv'] at hO1 ⊢
    refine k g' gc w1 ⟨vs ++ us, by simp [e2, hn], hO1, by simp [e1, h1], fun j hj => ?_⟩ ((Below.refl base W).grown hg1 hbase (fun k hk => (own_lo hO k hk).1))
    by_cases e : j < m
    · rw [List.getD_eq_getElem?_getD, List.getD_eq_getElem?_getD, List.getElem?_append_left (by omega), List.getElem?_append_left (by omega), ← List.getD_eq_getElem?_getD, ← List.getD_eq_getElem?_getD]
      exact hP j e
    · rw [List.getD_eq_getElem?_getD, List.getD_eq_getElem?_getD, List.getElem?_append_right (by omega), List.getElem?_append_right (by omega), e1, e2, ← List.getD_eq_getElem?_getD, ← List.getD_eq_getElem?_getD]
      exact (h2 (j - m) (by omega)).2
/-- The first of some lists, one behind the other. -/
def catN (L : Nat → List (List Nod)) : Nat → List (List Nod)
  | 0 => []
  | k + 1 => catN L k ++ L k
theorem catN_le (L : Nat → List (List Nod)) {j k : Nat} (h : j ≤ k) : (catN L j).length ≤ (catN L k).length := by
  induction h with
  | refl => exact Nat.le_refl _
  | step _ ih => simp only [catN, List.length_append]; omega
def CatP (P : Value → List Nod → Prop) (S : List (List Nod)) (w : World) (e : Ending) (w' : World) : Prop := ∃ g gc, e = .returned (.slice g S.length gc) ∧ PrR P w.heap.size w' (.slice g S.length gc) S.length S ∧ Below w.heap.size w w'
set_option maxRecDepth 100000 in
set_option maxHeartbeats 4000000 in
theorem concat_any18 (P : Value → List Nod → Prop) (hP1 : ∀ v ns, P v ns → v.oneCell' = true) (k : Nat) (hk : k ≤ 10) (L : Nat → List (List Nod)) (hL : (catN L k).length ≤ 1000) (A : Nat → Prop) (sa : Nat → Option Addr) (sc : Nat → Nat) (B cc : Nat) (w : World) (hB : B < w.heap.size)
    (h0 : ∀ j, j < k → w.cell? ⟨B, j, none⟩ = some (.slice (sa j) (L j).length (sc j)) ∧ RowX P A w (sa j) (L j)) :
    Calls Tryz.prog 214 #[.slice (some ⟨B, 0, none⟩) k cc] w (CatP P (catN L k) w) := by
  have HX : Hid (∀ j, j < k → w.cell? ⟨B, j, none⟩ = some (.slice (sa j) (L j).length (sc j)) ∧ RowX P A w (sa j) (L j)) := h0
  have HL : Hid ((catN L k).length ≤ 1000) := hL
  clear h0
  have n2 : ¬ (((catN L k).length : Int) < 0) := by omega
  go_enter Tryz.func214, Tryz.ntmps214
  go_wp2_with fail
  go_loop [3, 11] (fun s i => ∃ j : Nat, j ≤ k ∧ i = .int .i64 (j : Nat) ∧ s = .int .i64 ((catN L j).length : Nat)) (fun _ i => k - (RowKit.intOf i).toNat)
  case atStart => exact ⟨0, Nat.zero_le _, rfl, rfl⟩
  case round =>
    obtain ⟨j, hj, rfl, rfl⟩ := hrel
    by_cases hlt : j < k
    · have hc := (HX.out j hlt).1
      have hs : Hid ((catN L (j + 1)).length = (catN L j).length + (L j).length ∧ (catN L (j + 1)).length ≤ (catN L k).length) := ⟨by simp [catN], catN_le L hlt⟩
      have hb1 : (catN L j).length + (L j).length ≤ 1000 := by have := hs.out; omega
      have hneg : ¬ (((catN L j).length : Int) + ((L j).length : Int) < 0) := by omega
      go_wp2_with fail
      exact ⟨⟨j + 1, hlt, by go_num, by rw [hs.out.1]; go_num⟩, by simp [RowKit.intOf]; omega⟩
    · obtain rfl : j = k := by omega
      go_wp2_with fail
      refine (grow_any18 (catN L j).length (by omega) w).mono ?_
      rintro e v1 ⟨g, gc, rfl, hO, hb⟩
      have HO : Hid (v1.ownsRow w.heap.size 58 1 (.slice g 0 gc) 0 [] ∧ Below w.heap.size w v1) := ⟨hO, hb⟩
      clear hO hb
      go_wp2_with fail
      go_loopw [6, 27] (fun v i wr => ∃ (q : Nat) (g : Option Addr) (m gc : Nat), q ≤ j ∧ i = .int .i64 (q : Nat) ∧ v = .slice g m gc ∧ Hid (m = (catN L q).length ∧ PrR P w.heap.size wr (.slice g m gc) m (catN L q) ∧ Below w.heap.size w wr)) (fun _ i _ => j - (RowKit.intOf i).toNat)
      case atStart => exact ⟨0, g, 0, gc, Nat.zero_le _, rfl, rfl, rfl, ⟨[], rfl, HO.out.1, rfl, fun j hj => by omega⟩, HO.out.2⟩
      case round =>
        clear HO
        obtain ⟨q, g, m, gc, hq, rfl, rfl, HI⟩ := hrel
        by_cases hlt : q < j
        · have hc := (HI.out.2.2.cell (p := ⟨B, q, none⟩) hB).trans (HX.out q hlt).1
          have HR : Hid (RowX P A wr (sa q) (L q)) := (HX.out q hlt).2.go HI.out.2.2.size (fun k hk _ => HI.out.2.2.block k hk)
          have hm : m + (L q).length ≤ 1000000 := by
            have h1 := HI.out.1
            have h2 := catN_le L (show q + 1 ≤ j from hlt)
            simp only [catN, List.length_append] at h2
            omega
          have hbs : w.heap.size ≤ wr.heap.size := HI.out.2.2.size
          have HPR : Hid (PrR P w.heap.size wr (.slice g m gc) m (catN L q)) := HI.out.2.1
          go_wp2_with (at_builtin; refine app18 rfl _ _ rfl P hP1 wr w.heap.size (.slice g m gc) m (catN L q) A (sa q) (L q).length (sc q) (L q) rfl rfl rfl HPR.out HR.out hm hbs ?_; intro g2 gc2 w2 hP2 hb2)
          exact ⟨⟨q + 1, g2, m + (L q).length, gc2, hlt, by go_num, rfl, by simp only [catN, List.length_append, HI.out.1], hP2, HI.out.2.2.trans hb2⟩, by simp [RowKit.intOf]; omega⟩
        · obtain rfl : q = j := by omega
          have HF : Hid (m = (catN L q).length ∧ PrR P w.heap.size wr (.slice g m gc) m (catN L q) ∧ Below w.heap.size w wr) := HI
          go_wp2_with fail
          go_ret
          refine ⟨g, gc, ret_slice18 HF.out.1, ?_, HF.out.2.2⟩
          have := HF.out.2.1
          rw [← HF.out.1]; exact this
end Go.Proofs.YtgjgbgllhbdodaaGreatDoor
