/-
  Arrb Sarr Apps Vec Turnw, together.
-/
import Derived.Test.YtmbgomljofngnacDoorBase
import Derived.Deep.AppendLies
import Derived.Laws.Rows
import Derived.BigRegion
import Derived.Test.YtmbgomljofngnacDoorTurnq
/-! Arrb: Plain words on two arrays: are they the same, which fault comes first. -/
namespace Go.Proofs.YtmbgomljofngnacDoor
open Go.RowKit
set_option linter.unusedVariables false

def flawsE (c : Bool) (sz dz : List Int) (c' : Bool) (sz' dz' : List Int) : Int := if flawE c sz dz = 0 then flawE c' sz' dz' else flawE c sz dz
def arrB (c : Bool) (sz dz : List Int) (c' : Bool) (sz' dz' : List Int) : Bool := (c == c') && (eqB sz sz' && eqB dz dz')
/-- What Match tells. -/
def mtB (c : Bool) (sz dz : List Int) (c' : Bool) (sz' dz' : List Int) : Bool := decide (flawsE c sz dz c' sz' dz' = 0) && arrB c sz dz c' sz' dz'
theorem flawsE_zero {c c' : Bool} {sz dz sz' dz' : List Int} : flawsE c sz dz c' sz' dz' = 0 ↔ flawE c sz dz = 0 ∧ flawE c' sz' dz' = 0 := by
  unfold flawsE
  split
  · rename_i h; exact ⟨fun h' => ⟨h, h'⟩, fun h' => h'.2⟩
  · rename_i h; exact ⟨fun h' => absurd h' h, fun h' => absurd h'.1 h⟩
theorem mtB_ok {c c' : Bool} {sz dz sz' dz' : List Int} (h : flawE c sz dz = 0) (h' : flawE c' sz' dz' = 0) : mtB c sz dz c' sz' dz' = arrB c sz dz c' sz' dz' := by
  unfold mtB; rw [flawsE_zero.2 ⟨h, h'⟩]; rfl
theorem arrB_iff {c c' : Bool} {sz dz sz' dz' : List Int} : arrB c sz dz c' sz' dz' = true ↔ c = c' ∧ sz = sz' ∧ dz = dz' := by
  unfold arrB eqB
  simp
theorem arrB_self (c : Bool) (sz dz : List Int) : arrB c sz dz c sz dz = true := arrB_iff.2 ⟨rfl, rfl, rfl⟩
end Go.Proofs.YtmbgomljofngnacDoor
/-! Sarr: Are two arrays the same? What the comparison of two arrays tells. -/
namespace Go.Proofs.YtmbgomljofngnacDoor
open Go.RowKit
set_option linter.unusedVariables false

/-- An array's value. -/
def arrV (c : Bool) (sa : Option Addr) (sn sc : Nat) (da : Option Addr) (dn dc : Nat) : Value := .agg #[.bool c, .slice sa sn sc, .slice da dn dc]
set_option maxRecDepth 100000 in
set_option maxHeartbeats 1000000 in
theorem sarr_tt (sa : Option Addr) (sc : Nat) (sz : List Int) (da : Option Addr) (dc : Nat) (dz : List Int) (sa' : Option Addr) (sc' : Nat) (sz' : List Int) (da' : Option Addr) (dc' : Nat) (dz' : List Int)
    (h1 : sz.length ≤ 9223372036854775807) (h2 : dz.length ≤ 9223372036854775807) (w : World) (hs : IsInts w.heap.size w sa sz) (hd : IsInts w.heap.size w da dz) (hs' : IsInts w.heap.size w sa' sz') (hd' : IsInts w.heap.size w da' dz') :
    Calls Tryd.prog 35 #[.agg #[.bool true, .slice sa sz.length sc, .slice da dz.length dc], .agg #[.bool true, .slice sa' sz'.length sc', .slice da' dz'.length dc']] w fun e w' => e = .returned (.bool (eqB sz sz' && eqB dz dz')) ∧ Below w.heap.size w w' := by
  have hB0 : Below w.heap.size w ((w.alloc (.cells #[.bool true, .slice sa sz.length sc, .slice da dz.length dc] 25)).alloc (.cells #[.bool true, .slice sa' sz'.length sc', .slice da' dz'.length dc'] 25)) := ((Below.refl _ w).alloc (Nat.le_refl _) _).alloc (by simp) _
  have HB0 : Hid (Below w.heap.size w ((w.alloc (.cells #[.bool true, .slice sa sz.length sc, .slice da dz.length dc] 25)).alloc (.cells #[.bool true, .slice sa' sz'.length sc', .slice da' dz'.length dc'] 25))) := hB0
  have HI : Hid (IsInts w.heap.size w sa sz ∧ IsInts w.heap.size w da dz ∧ IsInts w.heap.size w sa' sz' ∧ IsInts w.heap.size w da' dz') := ⟨hs, hd, hs', hd'⟩
  clear hB0 hs hd hs' hd'
  go_enter Tryd.func35, Tryd.ntmps35
  go_wp2_with fail
  refine (ints_any sa sc sz sa' sc' sz' h1 w.heap.size _ (HI.out.1.below HB0.out) (HI.out.2.2.1.below HB0.out)).mono ?_
  rintro e w1 ⟨rfl, hC1⟩
  have hB1 : Below w.heap.size w w1 := HB0.out.trans (hC1.mono HB0.out.size)
  have c0 : w1.cell? ⟨w.heap.size, 2, none⟩ = some (.slice da dz.length dc) := (hC1.cell (p := ⟨w.heap.size, 2, none⟩) (by simp; omega)).trans (by simp)
  have c1 : w1.cell? ⟨w.heap.size + 1, 2, none⟩ = some (.slice da' dz'.length dc') := (hC1.cell (p := ⟨w.heap.size + 1, 2, none⟩) (by simp)).trans (by simp)
  have HB1 : Hid (Below w.heap.size w w1) := hB1
  clear hB1 hC1
  go_wp2_with fail
  refine (ints_any da dc dz da' dc' dz' h2 w.heap.size w1 (HI.out.2.1.below HB1.out) (HI.out.2.2.2.below HB1.out)).mono ?_
  rintro e w2 ⟨rfl, hC2⟩
  have hB2 : Below w.heap.size w w2 := HB1.out.trans (hC2.mono HB1.out.size)
  by_cases h : eqB sz sz' = true
  · rw [h]
    go_wp2_with fail
    go_ret
    exact ⟨by simp [h], hB2⟩
  · have h' : eqB sz sz' = false := by simpa using h
    rw [h']
    go_wp2_with fail
    go_ret
    exact ⟨by simp [h'], hB2⟩
set_option maxRecDepth 100000 in
set_option maxHeartbeats 1000000 in
theorem sarr_tf (sa : Option Addr) (sc : Nat) (sz : List Int) (da : Option Addr) (dc : Nat) (dz : List Int) (sa' : Option Addr) (sc' : Nat) (sz' : List Int) (da' : Option Addr) (dc' : Nat) (dz' : List Int)
    (h1 : sz.length ≤ 9223372036854775807) (h2 : dz.length ≤ 9223372036854775807) (w : World) (hs : IsInts w.heap.size w sa sz) (hd : IsInts w.heap.size w da dz) (hs' : IsInts w.heap.size w sa' sz') (hd' : IsInts w.heap.size w da' dz') :
    Calls Tryd.prog 35 #[.agg #[.bool true, .slice sa sz.length sc, .slice da dz.length dc], .agg #[.bool false, .slice sa' sz'.length sc', .slice da' dz'.length dc']] w fun e w' => e = .returned (.bool (false)) ∧ Below w.heap.size w w' := by
  have hB0 : Below w.heap.size w ((w.alloc (.cells #[.bool true, .slice sa sz.length sc, .slice da dz.length dc] 25)).alloc (.cells #[.bool false, .slice sa' sz'.length sc', .slice da' dz'.length dc'] 25)) := ((Below.refl _ w).alloc (Nat.le_refl _) _).alloc (by simp) _
  go_enter Tryd.func35, Tryd.ntmps35
  go_wp2_with fail
  go_ret
  exact ⟨rfl, hB0⟩
set_option maxRecDepth 100000 in
set_option maxHeartbeats 1000000 in
theorem sarr_ft (sa : Option Addr) (sc : Nat) (sz : List Int) (da : Option Addr) (dc : Nat) (dz : List Int) (sa' : Option Addr) (sc' : Nat) (sz' : List Int) (da' : Option Addr) (dc' : Nat) (dz' : List Int)
    (h1 : sz.length ≤ 9223372036854775807) (h2 : dz.length ≤ 9223372036854775807) (w : World) (hs : IsInts w.heap.size w sa sz) (hd : IsInts w.heap.size w da dz) (hs' : IsInts w.heap.size w sa' sz') (hd' : IsInts w.heap.size w da' dz') :
    Calls Tryd.prog 35 #[.agg #[.bool false, .slice sa sz.length sc, .slice da dz.length dc], .agg #[.bool true, .slice sa' sz'.length sc', .slice da' dz'.length dc']] w fun e w' => e = .returned (.bool (false)) ∧ Below w.heap.size w w' := by
  have hB0 : Below w.heap.size w ((w.alloc (.cells #[.bool false, .slice sa sz.length sc, .slice da dz.length dc] 25)).alloc (.cells #[.bool true, .slice sa' sz'.length sc', .slice da' dz'.length dc'] 25)) := ((Below.refl _ w).alloc (Nat.le_refl _) _).alloc (by simp) _
  go_enter Tryd.func35, Tryd.ntmps35
  go_wp2_with fail
  go_ret
  exact ⟨rfl, hB0⟩
set_option maxRecDepth 100000 in
set_option maxHeartbeats 1000000 in
theorem sarr_ff (sa : Option Addr) (sc : Nat) (sz : List Int) (da : Option Addr) (dc : Nat) (dz : List Int) (sa' : Option Addr) (sc' : Nat) (sz' : List Int) (da' : Option Addr) (dc' : Nat) (dz' : List Int)
    (h1 : sz.length ≤ 9223372036854775807) (h2 : dz.length ≤ 9223372036854775807) (w : World) (hs : IsInts w.heap.size w sa sz) (hd : IsInts w.heap.size w da dz) (hs' : IsInts w.heap.size w sa' sz') (hd' : IsInts w.heap.size w da' dz') :
    Calls Tryd.prog 35 #[.agg #[.bool false, .slice sa sz.length sc, .slice da dz.length dc], .agg #[.bool false, .slice sa' sz'.length sc', .slice da' dz'.length dc']] w fun e w' => e = .returned (.bool (eqB sz sz' && eqB dz dz')) ∧ Below w.heap.size w w' := by
  have hB0 : Below w.heap.size w ((w.alloc (.cells #[.bool false, .slice sa sz.length sc, .slice da dz.length dc] 25)).alloc (.cells #[.bool false, .slice sa' sz'.length sc', .slice da' dz'.length dc'] 25)) := ((Below.refl _ w).alloc (Nat.le_refl _) _).alloc (by simp) _
  have HB0 : Hid (Below w.heap.size w ((w.alloc (.cells #[.bool false, .slice sa sz.length sc, .slice da dz.length dc] 25)).alloc (.cells #[.bool false, .slice sa' sz'.length sc', .slice da' dz'.length dc'] 25))) := hB0
  have HI : Hid (IsInts w.heap.size w sa sz ∧ IsInts w.heap.size w da dz ∧ IsInts w.heap.size w sa' sz' ∧ IsInts w.heap.size w da' dz') := ⟨hs, hd, hs', hd'⟩
  clear hB0 hs hd hs' hd'
  go_enter Tryd.func35, Tryd.ntmps35
  go_wp2_with fail
  refine (ints_any sa sc sz sa' sc' sz' h1 w.heap.size _ (HI.out.1.below HB0.out) (HI.out.2.2.1.below HB0.out)).mono ?_
  rintro e w1 ⟨rfl, hC1⟩
  have hB1 : Below w.heap.size w w1 := HB0.out.trans (hC1.mono HB0.out.size)
  have c0 : w1.cell? ⟨w.heap.size, 2, none⟩ = some (.slice da dz.length dc) := (hC1.cell (p := ⟨w.heap.size, 2, none⟩) (by simp; omega)).trans (by simp)
  have c1 : w1.cell? ⟨w.heap.size + 1, 2, none⟩ = some (.slice da' dz'.length dc') := (hC1.cell (p := ⟨w.heap.size + 1, 2, none⟩) (by simp)).trans (by simp)
  have HB1 : Hid (Below w.heap.size w w1) := hB1
  clear hB1 hC1
  go_wp2_with fail
  refine (ints_any da dc dz da' dc' dz' h2 w.heap.size w1 (HI.out.2.1.below HB1.out) (HI.out.2.2.2.below HB1.out)).mono ?_
  rintro e w2 ⟨rfl, hC2⟩
  have hB2 : Below w.heap.size w w2 := HB1.out.trans (hC2.mono HB1.out.size)
  by_cases h : eqB sz sz' = true
  · rw [h]
    go_wp2_with fail
    go_ret
    exact ⟨by simp [h], hB2⟩
  · have h' : eqB sz sz' = false := by simpa using h
    rw [h']
    go_wp2_with fail
    go_ret
    exact ⟨by simp [h'], hB2⟩
theorem sarr_any (c c' : Bool) (sa : Option Addr) (sc : Nat) (sz : List Int) (da : Option Addr) (dc : Nat) (dz : List Int) (sa' : Option Addr) (sc' : Nat) (sz' : List Int) (da' : Option Addr) (dc' : Nat) (dz' : List Int)
    (h1 : sz.length ≤ 9223372036854775807) (h2 : dz.length ≤ 9223372036854775807) (w : World) (hs : IsInts w.heap.size w sa sz) (hd : IsInts w.heap.size w da dz) (hs' : IsInts w.heap.size w sa' sz') (hd' : IsInts w.heap.size w da' dz') :
    Calls Tryd.prog 35 #[.agg #[.bool c, .slice sa sz.length sc, .slice da dz.length dc], .agg #[.bool c', .slice sa' sz'.length sc', .slice da' dz'.length dc']] w fun e w' => e = .returned (.bool (arrB c sz dz c' sz' dz')) ∧ Below w.heap.size w w' := by
  cases c <;> cases c'
  · exact sarr_ff sa sc sz da dc dz sa' sc' sz' da' dc' dz' h1 h2 w hs hd hs' hd'
  · exact sarr_ft sa sc sz da dc dz sa' sc' sz' da' dc' dz' h1 h2 w hs hd hs' hd'
  · exact sarr_tf sa sc sz da dc dz sa' sc' sz' da' dc' dz' h1 h2 w hs hd hs' hd'
  · exact sarr_tt sa sc sz da dc dz sa' sc' sz' da' dc' dz' h1 h2 w hs hd hs' hd'
end Go.Proofs.YtmbgomljofngnacDoor
/-! Apps: One number put behind a list of the call's own, at a step of a region that draws its order. -/
namespace Go.Proofs.YtmbgomljofngnacDoor
open Go.RowKit
set_option linter.unusedVariables false

theorem grown_below {w w1 : World} {base : Nat} {e : TypeId} {v : Value} {n : Nat} {xs : List Value} (hown : w.ownsRow base e 1 v n xs) (hg : w.grownBy w1 v.ownBlock) (hb : base ≤ w.heap.size) : Below base w w1 :=
  (Below.refl base w).grown hg hb (own_ge hown)
theorem cell_new1 (w : World) (o : Obj) (t : TypeId) (x : Value) : ((w.alloc o).alloc (.cells #[x] t)).cell? ⟨w.heap.size + 1, 0, none⟩ = some x := by
  have hb : ((w.alloc o).alloc (.cells #[x] t)).heap[(w.alloc o).heap.size]? = some (.cells #[x] t (0, 0)) := World.alloc_heap_new _ _
  rw [World.size_alloc] at hb
  simp only [World.cell?, hb]; rfl
theorem app_step {ops : Array Oper} {o : Oper} {a : Act} {K : Act → World → Prop} {Q : Exit → Act → World → Prop} {E : Prop} (d : Nat) (hd : o.dst = some d) (hgd : o.guard = none) (s x : Operand)
    (ho : o.op = .call { callee := .builtin .append, args := #[s, x], argTypes := #[23, 23] }) (W : World)
    (base B : Nat) (v : Value) (zs : List Int) (y : Int) (hs : a.eval s = v) (hx : a.eval x = .slice (some ⟨B, 0, none⟩) 1 1) (hown : W.ownsRow base 3 1 v zs.length (zs.map (Value.int .i64)))
    (hnew : W.heap[B]? = some (.cells #[.int .i64 y] 3 (0, 0))) (hlen : zs.length ≤ 1000000) (hbase : base ≤ W.heap.size)
    (h : ∀ g gc w1, w1.ownsRow base 3 1 (.slice (some ⟨g, 0, none⟩) (zs.length + 1) gc) (zs.length + 1) ((zs ++ [y]).map (Value.int .i64)) → Below base W w1 → K (a.put (some d) (.slice (some ⟨g, 0, none⟩) (zs.length + 1) gc)) w1) :
    if Region.wanted o (yielded ops a.tmps) = true then Oper.wp Tryd.prog o a W K Q else E := by
  obtain ⟨i0, hi, hz0, hz1, hz2⟩ := info_parts Tryd.infoInt
  refine step_append_lies W hgd s x 23 ho base 3 i0 (.int .i64 0) 1 8 Tryd.underlying23 hi hz0 hz1 hz2 rfl (by decide) v zs.length (zs.map (Value.int .i64)) hs hown ⟨B, 0, none⟩ 1 1 [.int .i64 y] hx rfl
    (World.news_of_block (cs := #[.int .i64 y]) (t := 3) (fr := (0, 0)) hnew) (by simp [Value.oneCell']) (by omega) (by unfold maxLen; omega) (by omega) hbase W.heap.size rfl ?_
  intro g gc w1 hown1 hgrow _ _
  rw [hd]
  refine h g gc w1 ?_ (grown_below hown hgrow hbase)
  rw [List.map_append]
  exact hown1
theorem app_list {ops : Array Oper} {rest : List Oper} {o : Oper} {a : Act} {Q : Exit → Act → World → Prop} (hgd : o.guard = none) (s x : Operand)
    (ho : o.op = .call { callee := .builtin .append, args := #[s, x], argTypes := #[23, 23] }) (W : World)
    (base B : Nat) (v : Value) (zs : List Int) (y : Int) (hs : a.eval s = v) (hx : a.eval x = .slice (some ⟨B, 0, none⟩) 1 1) (hown : W.ownsRow base 3 1 v zs.length (zs.map (Value.int .i64)))
    (hnew : W.heap[B]? = some (.cells #[.int .i64 y] 3 (0, 0))) (hlen : zs.length ≤ 1000000) (hbase : base ≤ W.heap.size)
    (h : ∀ g gc w1, w1.ownsRow base 3 1 (.slice (some ⟨g, 0, none⟩) (zs.length + 1) gc) (zs.length + 1) ((zs ++ [y]).map (Value.int .i64)) → Below base W w1 → wpList Tryd.prog ops Q rest (a.put o.dst (.slice (some ⟨g, 0, none⟩) (zs.length + 1) gc)) w1) :
    wpList Tryd.prog ops Q (o :: rest) a W := by
  obtain ⟨i0, hi, hz0, hz1, hz2⟩ := info_parts Tryd.infoInt
  refine wpList_append_lies W hgd s x 23 ho base 3 i0 (.int .i64 0) 1 8 Tryd.underlying23 hi hz0 hz1 hz2 rfl (by decide) v zs.length (zs.map (Value.int .i64)) hs hown ⟨B, 0, none⟩ 1 1 [.int .i64 y] hx rfl
    (World.news_of_block (cs := #[.int .i64 y]) (t := 3) (fr := (0, 0)) hnew) (by simp [Value.oneCell']) (by omega) (by unfold maxLen; omega) (by omega) hbase W.heap.size rfl ?_
  intro g gc w1 hown1 hgrow _ _
  refine h g gc w1 ?_ (grown_below hown hgrow hbase)
  rw [List.map_append]
  exact hown1
end Go.Proofs.YtmbgomljofngnacDoor
/-! Vec: What the reference makes of a list: an array of one axis. -/
namespace Go.Proofs.YtmbgomljofngnacDoor
open Go.RowKit
set_option linter.unusedVariables false

theorem take_len (zs : List Int) {k : Nat} (h : k ≤ zs.length) : (zs.take k).length = k := by simp; omega
theorem owns_room {w : World} {base : Nat} {e : TypeId} {g : Option Addr} {n cap : Nat} {xs : List Int} (h : w.ownsRow base e 1 (.slice g n cap) n (xs.map (Value.int .i64))) : n ≤ cap := by
  rcases h.2 with ⟨e1, _⟩ | ⟨g', cap', cur, e1, _, _, h1, _⟩
  · simp only [Value.slice.injEq] at e1; have := h.1; omega
  · simp only [Value.slice.injEq] at e1; have := h.1; omega
set_option maxRecDepth 100000 in
set_option maxHeartbeats 4000000 in
theorem vector_cap (c : Bool) (a : Option Addr) (cap : Nat) (zs : List Int) (h1 : zs.length ≤ 100000) (w : World) (hI : IsInts w.heap.size w a zs) :
    Calls Tryd.prog 22 #[.bool c, .slice a zs.length cap] w fun e w' => ∃ sa sc g gc, e = .returned (.agg #[.bool c, .slice sa 1 sc, .slice g zs.length gc]) ∧ NewInts w.heap.size w' sa [(zs.length : Int)] ∧ NewInts w.heap.size w' g zs ∧ Below w.heap.size w w' ∧ 1 ≤ sc ∧ zs.length ≤ gc := by
  go_enter Tryd.func22, Tryd.ntmps22
  go_wp2_with fail
  go_loopw [6] (fun i wr => ∃ (k : Nat) (v : Value), k ≤ zs.length ∧ i = .int .i64 k ∧ Abx wr w.heap.size (.bool false) (.slice none 0 0) (.slice none 0 0) ∧ Abx wr (w.heap.size + 1 + 1) (.bool c) (.slice (some ⟨w.heap.size + 1, 0, none⟩) 1 1) v ∧ MidInts (w.heap.size + 1) (w.heap.size + 1 + 1) wr (some ⟨w.heap.size + 1, 0, none⟩) [(zs.length : Int)]
      ∧ wr.ownsRow (w.heap.size + 1 + 1 + 1) 3 1 v (zs.take k).length ((zs.take k).map (Value.int .i64)) ∧ w.heap.size + 1 + 1 + 1 ≤ wr.heap.size ∧ Below w.heap.size w wr) (fun i _ => zs.length - (intOf i).toNat)
  case atStart =>
    refine ⟨0, .slice none 0 0, Nat.zero_le _, rfl, ((Abx.new w _ _ _).al _).al _, ?_, ?_, World.ownsRow_nil _ _ _ _, by simp, (((Below.refl _ w).alloc (Nat.le_refl _) _).alloc (by simp) _).alloc (by simp; omega) _⟩
    case refine_2 =>
      have := (new_lit (w.alloc (.cells #[.bool false, .slice none 0 0, .slice none 0 0] 25)) 3 [(zs.length : Int)]).mid
      simp only [World.size_alloc] at this
      exact this.al (by simp) _
    have := Abx.new1 (w.alloc (.cells #[.bool false, .slice none 0 0, .slice none 0 0] 25)) (.cells #[.int .i64 (zs.length : Int)] 3) (.bool c) (.slice (some ⟨w.heap.size + 1, 0, none⟩) 1 1) (.slice none 0 0)
    rwa [World.size_alloc] at this
  case round =>
    obtain ⟨k, v, hk, rfl, hR, hO, hl, hown, hsz, hB⟩ := hrel
    by_cases hlt : k < zs.length
    · obtain ⟨b, off, rfl, hb, hcell⟩ := (hI.below hB).at hlt
      have hc := hcell k hlt
      clear hcell
      have o2 := hO.c2
      have hbw : b < wr.heap.size := by have := hB.size; omega
      have HR : Hid (Abx wr w.heap.size (.bool false) (.slice none 0 0) (.slice none 0 0) ∧ Abx wr (w.heap.size + 1 + 1) (.bool c) (.slice (some ⟨w.heap.size + 1, 0, none⟩) 1 1) v ∧ MidInts (w.heap.size + 1) (w.heap.size + 1 + 1) wr (some ⟨w.heap.size + 1, 0, none⟩) [(zs.length : Int)]) := ⟨hR, hO, hl⟩
      clear hR hO hl
      go_wp2_with fail
      refine anyT_begin 8 (fun w' => w'.cell? ⟨w.heap.size + 1 + 1, 2, none⟩ = some v ∧ w'.cell? ⟨b, off + k, none⟩ = some (.int .i64 (nth zs k))) 10 #[false, false, false, false, false, false, false, false, false, false] (by kernel_rfl) rfl rfl ?_
      refine anyT_put 0 18 ?rv0 #[true, false, false, false, false, false, false, false, false, false] rfl rfl rfl (by kernel_rfl) (by kernel_rfl) (by kernel_rfl) (fun _ _ _ h => h) (by decide) ?ry0 (fun _ => ⟨o2, hc⟩) ?rm0
      case ry0 => first | exact Or.inl ⟨by rfl, by intro w'; go_simp; first | done | rfl⟩
      case rm0 =>
      simp only [Act.put, List.setIfInBounds_toArray, List.set_cons_zero, List.set_cons_succ]
      refine anyT_take 1 19 ?rv1 #[true, true, false, false, false, false, false, false, false, false] rfl rfl rfl (by kernel_rfl) (by kernel_rfl) (by kernel_rfl) (fun _ _ _ h => h) (by kernel_rfl) (by decide) (by kernel_rfl) ?ry1 (⟨o2, hc⟩) ?rm1
      case ry1 => first | exact Or.inl ⟨by rfl, by intro w' hw'; (try dsimp only at hw'); go_simp; first | done | rfl⟩
      case rm1 =>
      simp only [Act.put, List.setIfInBounds_toArray, List.set_cons_zero, List.set_cons_succ]
      refine anyT_put 2 20 ?rv2 #[true, true, true, false, false, false, false, false, false, false] rfl rfl rfl (by kernel_rfl) (by kernel_rfl) (by kernel_rfl) (fun _ _ _ h => h) (by decide) ?ry2 (fun _ => ⟨o2, hc⟩) ?rm2
      case ry2 => first | exact Or.inl ⟨by rfl, by intro w'; go_simp; first | done | rfl⟩
      case rm2 =>
      simp only [Act.put, List.setIfInBounds_toArray, List.set_cons_zero, List.set_cons_succ]
      refine anyT_put 3 21 ?rv3 #[true, true, true, true, false, false, false, false, false, false] rfl rfl rfl (by kernel_rfl) (by kernel_rfl) (by kernel_rfl) (fun _ _ _ h => h) (by decide) ?ry3 (fun _ => ⟨o2, hc⟩) ?rm3
      case ry3 => first | exact Or.inl ⟨by rfl, by intro w'; go_simp; first | done | rfl⟩
      case rm3 =>
      simp only [Act.put, List.setIfInBounds_toArray, List.set_cons_zero, List.set_cons_succ]
      refine anyT_put 4 22 ?rv4 #[true, true, true, true, true, false, false, false, false, false] rfl rfl rfl (by kernel_rfl) (by kernel_rfl) (by kernel_rfl) (fun _ _ _ h => h) (by decide) ?ry4 (fun _ => ⟨o2, hc⟩) ?rm4
      case ry4 => first | exact Or.inl ⟨by rfl, by intro w'; go_simp; first | done | rfl⟩
      case rm4 =>
      simp only [Act.put, List.setIfInBounds_toArray, List.set_cons_zero, List.set_cons_succ]
      refine anyT_take 5 23 ?rv5 #[true, true, true, true, true, true, false, false, false, false] rfl rfl rfl (by kernel_rfl) (by kernel_rfl) (by kernel_rfl) (fun _ _ _ h => h) (by kernel_rfl) (by decide) (by kernel_rfl) ?ry5 (⟨o2, hc⟩) ?rm5
      case ry5 => first | exact Or.inl ⟨by rfl, by intro w' hw'; (try dsimp only at hw'); go_simp; first | done | rfl⟩
      case rm5 =>
      simp only [Act.put, List.setIfInBounds_toArray, List.set_cons_zero, List.set_cons_succ]
      refine anyT_one 6 #[true, true, true, true, true, true, true, false, false, false] (by kernel_rfl) rfl rfl (fun K hK => ?_)
      go_simp
      have k1 : (wr.alloc (.cells #[.int .i64 (nth zs k)] 3)).cell? ⟨w.heap.size + 1 + 1, 2, none⟩ = some v := (World.cell?_alloc_lt wr _ ⟨w.heap.size + 1 + 1, 2, none⟩ (by show w.heap.size + 1 + 1 < wr.heap.size; omega)).trans o2
      have k2 : (wr.alloc (.cells #[.int .i64 (nth zs k)] 3)).cell? ⟨b, off + k, none⟩ = some (.int .i64 (nth zs k)) := (World.cell?_alloc_lt wr _ ⟨b, off + k, none⟩ hbw).trans hc
      refine hK.out _ _ (fun _ => ⟨k1, k2⟩) ?_
      clear hK K
      refine anyT_one 7 #[true, true, true, true, true, true, true, true, false, false] (by kernel_rfl) rfl rfl (fun K hK => ?_)
      refine app_step 25 rfl rfl _ _ rfl _ (w.heap.size + 1 + 1 + 1) wr.heap.size v (zs.take k) (nth zs k) rfl rfl ((hown.alloc _).drew) (heap_alloc_new wr _) (by rw [take_len _ hk]; omega) (by simp; omega) ?_
      intro g gc w1 hown1 hB1
      have HO1 : Hid (Abx w1 (w.heap.size + 1 + 1) (.bool c) (.slice (some ⟨w.heap.size + 1, 0, none⟩) 1 1) v) := (HR.out.2.1.al _).dr.bel hB1 (by omega)
      have q2 := HO1.out.c2
      have qf := HO1.out.fr 2
      have qc : w1.cell? ⟨b, off + k, none⟩ = some (.int .i64 (nth zs k)) := (hB1.cell (p := ⟨b, off + k, none⟩) (by show b < _; omega)).trans k2
      refine hK.out _ _ (fun _ => ⟨q2, qc⟩) ?_
      clear hK K
      simp only [Act.put, List.setIfInBounds_toArray, List.set_cons_zero, List.set_cons_succ]
      refine anyT_one 8 #[true, true, true, true, true, true, true, true, true, false] (by kernel_rfl) rfl rfl (fun K hK => ?_)
      go_simp
      refine hK.out _ _ (fun h => absurd h (by decide)) ?_
      clear hK K
      refine anyT_one 9 #[true, true, true, true, true, true, true, true, true, true] (by kernel_rfl) rfl rfl (fun K hK => ?_)
      go_simp
      refine hK.out _ _ (fun h => absurd h (by decide)) ?_
      clear hK K
      refine anyT_done (by kernel_rfl) ?_
      go_wp2_with fail
      rw [← take_snoc zs k hlt, take_len _ hk] at hown1
      have hz1 : w.heap.size + 1 + 1 + 1 ≤ w1.heap.size := by have := hB1.size; simp at this; omega
      have hl1 := ((HR.out.2.2.al (by omega) (.cells #[.int .i64 (nth zs k)] 3)).dr).bel (hB1.mono (by omega))
      refine ⟨⟨k + 1, .slice (some ⟨g, 0, none⟩) (k + 1) gc, by omega, by go_num, ?_, HO1.out.s2 _, ?_, ?_, by simpa [World.setCell] using hz1, ?_⟩, by simp [intOf]; omega⟩
      · exact (((HR.out.1.al _).dr.bel hB1 (by omega))).ot (by show w.heap.size ≠ w.heap.size + 1 + 1; omega) _
      · exact hl1.off (by show w.heap.size + 1 + 1 ≤ w.heap.size + 1 + 1; omega) _
      · rw [take_len _ (show k + 1 ≤ zs.length by omega)]
        exact ownsRow_setCell_below hown1 (by show w.heap.size + 1 + 1 < w.heap.size + 1 + 1 + 1; omega) _
      · exact (((hB.alloc (by omega) _).drew.trans (hB1.mono (by omega)))).setCell (p := ⟨w.heap.size + 1 + 1, 2, none⟩) (by show w.heap.size ≤ w.heap.size + 1 + 1; omega) _
    · obtain rfl : k = zs.length := by omega
      rw [List.take_length] at hown
      obtain ⟨g, gc, rfl, hN⟩ := owns_new hown
      have HCp : Hid (zs.length ≤ gc) := owns_room hown
      have o0 := hO.c0
      have o1 := hO.c1
      have o2 := hO.c2
      have r0 := hR.c0
      have r1 := hR.c1
      have r2 := hR.c2
      have f0 := hR.fr 0
      have f1 := hR.fr 1
      have f2 := hR.fr 2
      have HR := hR
      clear hR hown
      go_wp2_with fail
      have F := HR.set3 (.bool c) (.slice (some ⟨w.heap.size + 1, 0, none⟩) 1 1) (.slice g zs.length gc)
      refine bodyPost_ret (v := .agg #[.bool c, .slice (some ⟨w.heap.size + 1, 0, none⟩) 1 1, .slice g zs.length gc]) ?_ rfl ⟨some ⟨w.heap.size + 1, 0, none⟩, 1, g, gc, rfl, ?_, ?_, bel_set3 hB (Nat.le_refl _) _ _ _, Nat.le_refl _, HCp.out⟩
      · exact results_cell_row rfl _ _ w.heap.size 25 _ (0, 0) _ rfl F Tryd.underlying25 rfl (by kernel_rfl)
      · exact ((hl.new (by omega)).set3 (by omega) _ _ _).low (by omega)
      · exact (hN.set3 (by omega) _ _ _).low (by omega)
theorem vector_any (c : Bool) (a : Option Addr) (cap : Nat) (zs : List Int) (h1 : zs.length ≤ 100000) (w : World) (hI : IsInts w.heap.size w a zs) :
    Calls Tryd.prog 22 #[.bool c, .slice a zs.length cap] w fun e w' => ∃ sa sc g gc, e = .returned (.agg #[.bool c, .slice sa 1 sc, .slice g zs.length gc]) ∧ NewInts w.heap.size w' sa [(zs.length : Int)] ∧ NewInts w.heap.size w' g zs ∧ Below w.heap.size w w' :=
  (vector_cap c a cap zs h1 w hI).mono fun e w' ⟨sa, sc, g, gc, h, h2, h3, h4, _⟩ => ⟨sa, sc, g, gc, h, h2, h3, h4⟩
end Go.Proofs.YtmbgomljofngnacDoor
/-! Turnw: What the turns tell, where nothing is wrong and where something is; the statements' own helpers. -/
namespace Go.Proofs.YtmbgomljofngnacDoor
open Go.RowKit
set_option linter.unusedVariables false

def rvG (x : Int) (sz dz : List Int) : List Int := GA sz dz sz (revT sz x.toNat)
def rtG (n x : Int) (sz dz : List Int) : List Int := GA sz dz sz (rotT sz n x.toNat)
def flG (p sz dz : List Int) : List Int := GA sz dz (axVal sz p) (flpT p)
section
variable {x y n m : Int} {c : Bool} {sz dz : List Int}
theorem axE_err (h : axE x c sz dz = 0) : errOf sz = 0 ∧ (dz.length : Int) = prod sz ∧ x.toNat < sz.length := ⟨(flawE_zero (axE_zero.1 h).1).1, (flawE_zero (axE_zero.1 h).1).2.1, (axE_zero.1 h).2.2⟩
theorem rv_flaw (h : axE x c sz dz = 0) : flawE c sz (rvG x sz dz) = 0 := GA_flaw (axE_zero.1 h).1 (axE_err h).1 fun t ht => revT_in ht (axE_err h).2.2
theorem rt_flaw (h : axE x c sz dz = 0) : flawE c sz (rtG n x sz dz) = 0 := GA_flaw (axE_zero.1 h).1 (axE_err h).1 fun t ht => rotT_in ht (axE_err h).2.2
theorem axE_of (h : axE y c sz dz = 0) {xs : List Int} (hf : flawE c sz xs = 0) : axE y c sz xs = 0 := axE_zero.2 ⟨hf, (axE_zero.1 h).2⟩
theorem rv_rv (h : axE x c sz dz = 0) : rvG x sz (rvG x sz dz) = dz := by
  obtain ⟨h1, h2, h3⟩ := axE_err h
  unfold rvG
  rw [GA_comp h1 h1 fun t ht => revT_in ht h3]
  exact GA_id h1 h2 fun t ht => revT_twice ht h3
theorem rv_swap (h : axE x c sz dz = 0) (h' : axE y c sz dz = 0) : rvG y sz (rvG x sz dz) = rvG x sz (rvG y sz dz) := by
  obtain ⟨h1, h2, h3⟩ := axE_err h
  have h4 := (axE_err h').2.2
  unfold rvG
  rw [GA_comp h1 h1 fun t ht => revT_in ht h4, GA_comp h1 h1 fun t ht => revT_in ht h3]
  exact GA_congr h1 fun t ht => revT_swap ht h3 h4
theorem rt_rt (h : axE x c sz dz = 0) : rtG n x sz (rtG m x sz dz) = rtG (m + n) x sz dz := by
  obtain ⟨h1, h2, h3⟩ := axE_err h
  unfold rtG
  rw [GA_comp h1 h1 fun t ht => rotT_in ht h3]
  exact GA_congr h1 fun t ht => rotT_add ht h3
theorem rt_len (h : axE x c sz dz = 0) : rtG (nth sz x.toNat) x sz dz = dz := by
  obtain ⟨h1, h2, h3⟩ := axE_err h
  exact GA_id h1 h2 fun t ht => rotT_len ht h3
theorem rt_mirror (h : axE x c sz dz = 0) : rvG x sz (rtG n x sz (rvG x sz dz)) = rtG (-n) x sz dz := by
  obtain ⟨h1, h2, h3⟩ := axE_err h
  unfold rvG rtG
  rw [GA_comp h1 h1 fun t ht => rotT_in ht h3, GA_comp h1 h1 fun t ht => revT_in ht h3]
  exact GA_congr h1 fun t ht => rotT_mirror ht h3
theorem tu_len (h : flawE c sz dz = 0) : sz.length ≤ 9223372036854775807 ∧ dz.length ≤ 9223372036854775807 := by have := flawE_short h; omega
end
/-- An array, where nothing is wrong. -/
def OkA (c : Bool) (S D : List Int) (w : World) (r : Ending) (w' : World) : Prop :=
  ∃ xa xc ya yc, r = .returned (.tuple #[.agg #[.bool c, .slice xa S.length xc, .slice ya D.length yc], .nilIface]) ∧ NewC w.heap.size w' xa S xc ∧ NewInts w.heap.size w' ya D ∧ Below w.heap.size w w'
/-- An error, and an array of which all is empty. -/
def NoA (e : Int) (w : World) (r : Ending) (w' : World) : Prop :=
  ∃ xa xc ya yc, r = .returned (.tuple #[.agg #[.bool false, .slice xa 0 xc, .slice ya 0 yc], .iface 34 (.int .i64 e)]) ∧ Below w.heap.size w w'
theorem UA.ok {e : Int} {c : Bool} {S D : List Int} {w w' : World} {r : Ending} (h0 : e = 0) (h : UA e (onc e c) (onl e S) (onl e D) w r w') : OkA c S D w r w' := by
  subst h0
  exact h
theorem UA.no {e : Int} {c : Bool} {S D : List Int} {w w' : World} {r : Ending} (h0 : e ≠ 0) (h : UA e (onc e c) (onl e S) (onl e D) w r w') : NoA e w r w' := by
  obtain ⟨xa, xc, ya, yc, hr, hX, hY, hB⟩ := h
  rw [onl_no h0, onl_no h0, onc_no h0, errV_pos h0] at hr
  exact ⟨xa, xc, ya, yc, hr, hB⟩
set_option maxRecDepth 100000 in
set_option maxHeartbeats 2000000 in
theorem vec_c (a : Option Addr) (cap : Nat) (zs : List Int) (h1 : zs.length ≤ 100000) (w : World) (hI : IsInts w.heap.size w a zs) :
    Calls Tryd.prog 7 #[.slice a zs.length cap] w fun e w' => ∃ sa sc g gc, e = .returned (.agg #[.bool false, .slice sa 1 sc, .slice g zs.length gc]) ∧ NewC w.heap.size w' sa [(zs.length : Int)] sc ∧ NewC w.heap.size w' g zs gc ∧ Below w.heap.size w w' := by
  have hb : Hid (Below w.heap.size w (w.alloc (.cells #[.bool false, .slice none 0 0, .slice none 0 0] 25))) := (Below.refl _ w).alloc (Nat.le_refl _) _
  have HR0 : Hid (Abx (w.alloc (.cells #[.bool false, .slice none 0 0, .slice none 0 0] 25)) w.heap.size (.bool false) (.slice none 0 0) (.slice none 0 0)) := Abx.new w _ _ _
  have HI : Hid (IsInts w.heap.size w a zs) := hI
  clear hI
  go_enter Tryd.func7, Tryd.ntmps7
  go_wp2_with fail
  refine (vector_cap false a cap zs h1 _ ((HI.out.below hb.out).mono hb.out.size)).mono ?_
  rintro e v1 ⟨sa, sc, g, gc, rfl, hS, hG, hB, hsc, hgc⟩
  have HR := HR0.out.go hB
  have r_0 := HR.c0
  have r_1 := HR.c1
  have r_2 := HR.c2
  have f_0 := HR.fr 0
  have f_1 := HR.fr 1
  have f_2 := HR.fr 2
  have hb1 : Hid (Below w.heap.size w v1) := hb.out.trans (hB.mono hb.out.size)
  have HH : Hid (NewInts (w.heap.size + 1) v1 sa [(zs.length : Int)] ∧ NewInts (w.heap.size + 1) v1 g zs) := by rw [World.size_alloc] at hS hG; exact ⟨hS, hG⟩
  clear hB hS hG
  go_wp2_with fail
  have FF := HR.set3 (.bool false) (.slice sa 1 sc) (.slice g zs.length gc)
  have q0 := FF.c0
  have q1 := FF.c1
  have q2 := FF.c2
  exact bodyPost_ret (v := .agg #[.bool false, .slice sa 1 sc, .slice g zs.length gc]) (by simp [results, Tryd.results7, go_sem, q0, q1, q2]) rfl ⟨sa, sc, g, gc, rfl, ⟨(HH.out.1.set3 (by omega) _ _ _).low (by omega), hsc⟩, ⟨(HH.out.2.set3 (by omega) _ _ _).low (by omega), hgc⟩, bel_set3 hb1.out (Nat.le_refl _) _ _ _⟩
theorem vec_any (a : Option Addr) (cap : Nat) (zs : List Int) (h1 : zs.length ≤ 100000) (w : World) (hI : IsInts w.heap.size w a zs) :
    Calls Tryd.prog 7 #[.slice a zs.length cap] w fun e w' => ∃ sa sc g gc, e = .returned (.agg #[.bool false, .slice sa 1 sc, .slice g zs.length gc]) ∧ NewC w.heap.size w' sa [(zs.length : Int)] sc ∧ NewInts w.heap.size w' g zs ∧ Below w.heap.size w w' :=
  (vec_c a cap zs h1 w hI).mono fun e w' ⟨sa, sc, g, gc, h, h2, h3, h4⟩ => ⟨sa, sc, g, gc, h, h2, h3.1, h4⟩
set_option maxRecDepth 100000 in
set_option maxHeartbeats 2000000 in
theorem alike_eq (c : Bool) (sa : Option Addr) (sc : Nat) (sz : List Int) (da : Option Addr) (dc : Nat) (dz : List Int) (sa' : Option Addr) (sc' : Nat) (sz' : List Int) (da' : Option Addr) (dc' : Nat) (dz' : List Int) (es : sz' = sz) (ed : dz' = dz)
    (h1 : sz.length ≤ 9223372036854775807) (h2 : dz.length ≤ 9223372036854775807) (w : World) (hs : IsC w.heap.size w sa sz sc) (hd : IsInts w.heap.size w da dz) (hs' : IsC w.heap.size w sa' sz' sc') (hd' : IsInts w.heap.size w da' dz') :
    Calls Tryd.prog 12 #[.agg #[.bool c, .slice sa sz.length sc, .slice da dz.length dc], .nilIface, .agg #[.bool c, .slice sa' sz'.length sc', .slice da' dz'.length dc'], .nilIface] w fun r w' => r = .returned (.bool true) ∧ Below w.heap.size w w' := by
  subst es ed
  have HI : Hid ((IsInts w.heap.size w sa sz' ∧ IsInts w.heap.size w da dz') ∧ (IsInts w.heap.size w sa' sz' ∧ IsInts w.heap.size w da' dz')) := ⟨⟨hs.1, hd⟩, hs'.1, hd'⟩
  clear hs hd hs' hd'
  have hb : Hid (Below w.heap.size w ((w.alloc (.cells #[.bool c, .slice sa sz'.length sc, .slice da dz'.length dc] 25)).alloc (.cells #[.bool c, .slice sa' sz'.length sc', .slice da' dz'.length dc'] 25))) := ((Below.refl _ w).alloc (Nat.le_refl _) _).alloc (by simp) _
  go_enter Tryd.func12, Tryd.ntmps12
  go_wp2_with fail
  refine (sarr_any c c sa sc sz' da dc dz' sa' sc' sz' da' dc' dz' h1 h2 _ ((HI.out.1.1.below hb.out).mono hb.out.size) ((HI.out.1.2.below hb.out).mono hb.out.size) ((HI.out.2.1.below hb.out).mono hb.out.size) ((HI.out.2.2.below hb.out).mono hb.out.size)).mono ?_
  rintro r v1 ⟨rfl, hB⟩
  rw [arrB_self]
  have hb1 : Hid (Below w.heap.size w v1) := hb.out.trans (hB.mono hb.out.size)
  clear hB
  go_wp2_with fail
  go_ret
  exact ⟨rfl, hb1.out⟩
end Go.Proofs.YtmbgomljofngnacDoor
