/-
  Relations of 24 things as values: in a block, read and stored whole, and row by row.
-/
import Derived.Deep.WholeRow
import Derived.Deep.MidRow
import Derived.Laws.Rows
import Derived.OrdersHeld
import Derived.Test.YtgaelbgeoobgiabRcm
import Derived.Test.YtgaelbgeoobgiabBase
namespace Go.Proofs.Ytgaelbgeoobgiab
open Go.RowKit
set_option linter.unusedVariables false

/-- The cells of a relation, row by row. -/
def ofr (A : Rl) : Array Value := ((List.range 576).map fun p => Value.bool (A (p / 24) (p % 24))).toArray
theorem ofr_size (A : Rl) : (ofr A).size = 576 := by simp [ofr]
theorem ofr_at (A : Rl) {p : Nat} (h : p < 576) : (ofr A)[p]? = some (.bool (A (p / 24) (p % 24))) := by
  unfold ofr
  rw [List.getElem?_toArray, List.getElem?_map, List.getElem?_range h]
  rfl
theorem ofr_out (A : Rl) {p : Nat} (h : ¬ p < 576) : (ofr A)[p]? = none := Array.getElem?_eq_none (by rw [ofr_size]; omega)
theorem ofr_congr {A B : Rl} (h : ∀ i, i < 24 → ∀ j, j < 24 → A i j = B i j) : ofr A = ofr B := by
  refine Array.ext_getElem? fun p => ?_
  by_cases hp : p < 576
  · rw [ofr_at A hp, ofr_at B hp, h _ (by omega) _ (by omega)]
  · rw [ofr_out A hp, ofr_out B hp]
theorem ofr_one (A : Rl) : (ofr A).all (·.oneCell') = true := by
  refine Array.all_eq_true_iff_forall_mem.2 fun v hv => ?_
  unfold ofr at hv
  simp only [List.mem_toArray, List.mem_map] at hv
  obtain ⟨p, _, rfl⟩ := hv
  rfl
/-- One cell of it is another one. -/
def ptr (A : Rl) (i j : Nat) (x : Bool) : Rl := fun a b => if a = i ∧ b = j then x else A a b
theorem ptr_at (A : Rl) (i j : Nat) (x : Bool) : ptr A i j x i j = x := if_pos ⟨rfl, rfl⟩
theorem ptr_ne (A : Rl) {i j a b : Nat} (x : Bool) (h : ¬ (a = i ∧ b = j)) : ptr A i j x a b = A a b := if_neg h
theorem ofr_put (A : Rl) {i j : Nat} (hi : i < 24) (hj : j < 24) (x : Bool) : (ofr A).setIfInBounds (i * 24 + j) (.bool x) = ofr (ptr A i j x) := by
  refine Array.ext_getElem? fun p => ?_
  rw [Array.getElem?_setIfInBounds]
  by_cases hp : p < 576
  · rw [ofr_at A hp, ofr_at (ptr A i j x) hp]
    by_cases he : i * 24 + j = p
    · rw [if_pos he, if_pos (by rw [ofr_size]; omega)]
      subst he
      rw [show (i * 24 + j) / 24 = i by omega, show (i * 24 + j) % 24 = j by omega, ptr_at]
    · rw [if_neg he, ptr_ne]
      omega
  · rw [if_neg (by omega), ofr_out A hp, ofr_out _ hp]
/-- Some things. -/
def oft (T : Nat → Bool) : Array Value := ((List.range 24).map fun p => Value.bool (T p)).toArray
theorem oft_size (T : Nat → Bool) : (oft T).size = 24 := by simp [oft]
theorem oft_at (T : Nat → Bool) {p : Nat} (h : p < 24) : (oft T)[p]? = some (.bool (T p)) := by
  unfold oft
  rw [List.getElem?_toArray, List.getElem?_map, List.getElem?_range h]
  rfl
theorem oft_out (T : Nat → Bool) {p : Nat} (h : ¬ p < 24) : (oft T)[p]? = none := Array.getElem?_eq_none (by rw [oft_size]; omega)
theorem oft_congr {T U : Nat → Bool} (h : ∀ j, j < 24 → T j = U j) : oft T = oft U := by
  refine Array.ext_getElem? fun p => ?_
  by_cases hp : p < 24
  · rw [oft_at T hp, oft_at U hp, h _ hp]
  · rw [oft_out T hp, oft_out U hp]
theorem oft_one (T : Nat → Bool) : (oft T).all (·.oneCell') = true := by
  refine Array.all_eq_true_iff_forall_mem.2 fun v hv => ?_
  unfold oft at hv
  simp only [List.mem_toArray, List.mem_map] at hv
  obtain ⟨p, _, rfl⟩ := hv
  rfl
def ptt (T : Nat → Bool) (i : Nat) (x : Bool) : Nat → Bool := fun a => if a = i then x else T a
theorem oft_put (T : Nat → Bool) {i : Nat} (hi : i < 24) (x : Bool) : (oft T).setIfInBounds i (.bool x) = oft (ptt T i x) := by
  refine Array.ext_getElem? fun p => ?_
  rw [Array.getElem?_setIfInBounds]
  unfold ptt
  by_cases hp : p < 24
  · rw [oft_at T hp, oft_at _ hp]
    by_cases he : i = p
    · rw [if_pos he, if_pos (by rw [oft_size]; omega), if_pos he.symm]
    · rw [if_neg he, if_neg (Ne.symm he)]
  · rw [if_neg (by omega), oft_out T hp, oft_out _ hp]
theorem oft_zero : (#[.bool false, .bool false, .bool false, .bool false, .bool false, .bool false, .bool false, .bool false, .bool false, .bool false, .bool false, .bool false, .bool false, .bool false, .bool false, .bool false, .bool false, .bool false, .bool false, .bool false, .bool false, .bool false, .bool false, .bool false] : Array Value) = oft fun _ => false := rfl
/-- A block that holds a relation. -/
def Rb (W : World) (b : Nat) (A : Rl) : Prop := W.heap[b]? = some (.cells (ofr A) 38 (0, 0))
/-- A block that holds some things. -/
def Tb (W : World) (b : Nat) (T : Nat → Bool) : Prop := W.heap[b]? = some (.cells (oft T) 36 (0, 0))
section
variable {W : World} {b : Nat} {A : Rl}
theorem Rb.cell (h : Rb W b A) {i j : Nat} (hi : i < 24) (hj : j < 24) : W.cell? ⟨b, i * 24 + j, none⟩ = some (.bool (A i j)) := by
  unfold Rb at h
  simp [World.cell?, h]
  rw [ofr_at A (by omega), show (i * 24 + j) / 24 = i by omega, show (i * 24 + j) % 24 = j by omega]
theorem Rb.fr (h : Rb W b A) (p : Nat) : W.frozen? ⟨b, p, none⟩ = false := by unfold Rb at h; simp [World.frozen?, h]
theorem Rb.lt (h : Rb W b A) : b < W.heap.size := (Array.getElem?_eq_some_iff.1 h).1
theorem Rb.of {W' : World} (h : Rb W b A) (e : W'.heap[b]? = W.heap[b]?) : Rb W' b A := e.trans h
theorem Rb.bel {W' : World} {n : Nat} (h : Rb W b A) (hB : Below n W W') (hb : b < n) : Rb W' b A := h.of (hB.block b hb)
theorem Rb.go {W' : World} (h : Rb W b A) (hB : Below W.heap.size W W') : Rb W' b A := h.bel hB h.lt
theorem Rb.al (h : Rb W b A) (o : Obj) : Rb (W.alloc o) b A := h.of (Below.heap_alloc W o b h.lt)
theorem Rb.new (W : World) (A : Rl) : Rb (W.alloc (.cells (ofr A) 38)) W.heap.size A := (MapKept.heap_alloc W _).1
theorem Rb.dr (h : Rb W b A) : Rb W.drew b A := h
theorem Rb.ot (h : Rb W b A) {a : Addr} (ha : b ≠ a.block) (v : Value) : Rb (W.setCell a v) b A := h.of (Below.heap_setCell W a v b ha)
theorem Rb.congr {B : Rl} (h : Rb W b A) (e : ∀ i, i < 24 → ∀ j, j < 24 → A i j = B i j) : Rb W b B := by unfold Rb at *; rw [h, ofr_congr e]
theorem Rb.put (h : Rb W b A) {i j : Nat} (hi : i < 24) (hj : j < 24) (x : Bool) : Rb (W.setCell ⟨b, i * 24 + j, none⟩ (.bool x)) b (ptr A i j x) := by
  unfold Rb at *
  rw [← ofr_put A hi hj x]
  simp [World.setCell, Array.getElem?_modify, h]
theorem Rb.row {B : Rl} (h : Rb W b A) : Rb (W.setRow b (ofr B)) b B := setRow_heap W b _ _ _ _ h
theorem Rb.oth {b' : Nat} {c : Array Value} (h : Rb W b A) (hb : b ≠ b') : Rb (W.setRow b' c) b A := by
  unfold Rb at *
  rw [← h]
  simp [World.setRow, Array.getElem?_modify, Ne.symm hb]
variable {T : Nat → Bool}
theorem Tb.cell (h : Tb W b T) {i : Nat} (hi : i < 24) : W.cell? ⟨b, i, none⟩ = some (.bool (T i)) := by
  unfold Tb at h
  simp [World.cell?, h]
  rw [oft_at T hi]
theorem Tb.fr (h : Tb W b T) (p : Nat) : W.frozen? ⟨b, p, none⟩ = false := by unfold Tb at h; simp [World.frozen?, h]
theorem Tb.lt (h : Tb W b T) : b < W.heap.size := (Array.getElem?_eq_some_iff.1 h).1
theorem Tb.of {W' : World} (h : Tb W b T) (e : W'.heap[b]? = W.heap[b]?) : Tb W' b T := e.trans h
theorem Tb.bel {W' : World} {n : Nat} (h : Tb W b T) (hB : Below n W W') (hb : b < n) : Tb W' b T := h.of (hB.block b hb)
theorem Tb.go {W' : World} (h : Tb W b T) (hB : Below W.heap.size W W') : Tb W' b T := h.bel hB h.lt
theorem Tb.al (h : Tb W b T) (o : Obj) : Tb (W.alloc o) b T := h.of (Below.heap_alloc W o b h.lt)
theorem Tb.new (W : World) (T : Nat → Bool) : Tb (W.alloc (.cells (oft T) 36)) W.heap.size T := (MapKept.heap_alloc W _).1
theorem Tb.dr (h : Tb W b T) : Tb W.drew b T := h
theorem Tb.ot (h : Tb W b T) {a : Addr} (ha : b ≠ a.block) (v : Value) : Tb (W.setCell a v) b T := h.of (Below.heap_setCell W a v b ha)
theorem Tb.put (h : Tb W b T) {i : Nat} (hi : i < 24) (x : Bool) : Tb (W.setCell ⟨b, i, none⟩ (.bool x)) b (ptt T i x) := by
  unfold Tb at *
  rw [← oft_put T hi x]
  simp [World.setCell, Array.getElem?_modify, h]
theorem Tb.row {U : Nat → Bool} (h : Tb W b T) : Tb (W.setRow b (oft U)) b U := setRow_heap W b _ _ _ _ h
theorem Tb.oth {b' : Nat} {c : Array Value} (h : Tb W b T) (hb : b ≠ b') : Tb (W.setRow b' c) b T := by
  unfold Tb at *
  rw [← h]
  simp [World.setRow, Array.getElem?_modify, Ne.symm hb]
end
/-! ### Whole relations, read and stored -/
theorem bel_rw {n b : Nat} {w W : World} {c : Array Value} (h : Below n w W) (hb : n ≤ b) : Below n w (W.setRow b c) :=
  ⟨h.os, h.tape, h.output, by simp [World.setRow]; exact h.size, fun k hk => by rw [← h.block k hk]; simp [World.setRow, Array.getElem?_modify]; intro e; omega⟩
set_option maxRecDepth 100000 in
theorem Try.zinfR : (Try.prog.info? 38).map (fun i => (i.zero, i.size)) = some (some (.agg (ofr fun _ _ => false)), 576) := by kernel_rfl
theorem Try.infoR : (Try.prog.info? 38).map (·.size) = some 576 := by kernel_rfl
theorem Try.infoT : (Try.prog.info? 36).map (·.size) = some 24 := by kernel_rfl
theorem zeroR (w : World) : (zeroValue 38).run Try.prog w = .ok (.agg (ofr fun _ _ => false)) w := (zero_of_info Try.zinfR).1 w
theorem ldr {W : World} {b : Nat} {A : Rl} (h : Rb W b A) : (loadVar 38 ⟨b, 0, none⟩).run Try.prog W = .ok (.agg (ofr A)) W :=
  run_loadVar_row _ _ _ _ _ _ _ h Try.underlying38 rfl (by rw [ofr_size]; exact Try.infoR)
theorem str {W : World} {b : Nat} {A B : Rl} (h : Rb W b A) : (storeVar 38 ⟨b, 0, none⟩ (.agg (ofr B))).run Try.prog W = .ok () (W.setRow b (ofr B)) :=
  run_storeVar_row _ _ _ _ _ _ h (by rw [ofr_size]; exact Try.infoR) (by rw [ofr_size, ofr_size]) (ofr_one B)
theorem ldt {W : World} {b : Nat} {T : Nat → Bool} (h : Tb W b T) : (loadVar 36 ⟨b, 0, none⟩).run Try.prog W = .ok (.agg (oft T)) W :=
  run_loadVar_row _ _ _ _ _ _ _ h Try.underlying36 rfl (by rw [oft_size]; exact Try.infoT)
theorem stt {W : World} {b : Nat} {T U : Nat → Bool} (h : Tb W b T) : (storeVar 36 ⟨b, 0, none⟩ (.agg (oft U))).run Try.prog W = .ok () (W.setRow b (oft U)) :=
  run_storeVar_row _ _ _ _ _ _ h (by rw [oft_size]; exact Try.infoT) (by rw [oft_size, oft_size]) (oft_one U)
section
variable {ops : Array Oper} {rest : List Oper} {op : Oper} {a : Act} {w : World} {Q : Exit → Act → World → Prop}
theorem wpl_ldr (b : Nat) (A : Rl) (x : Operand) (h : Rb w b A) (hgd : op.guard = none) (ho : op.op = .load 38 x) (hx : a.eval x = .pointer (some ⟨b, 0, none⟩))
    (hk : wpList Try.prog ops Q rest (a.put op.dst (.agg (ofr A))) w) : wpList Try.prog ops Q (op :: rest) a w :=
  wpList_plain hgd fun _ hK => by
    unfold Oper.wp execOp
    simp only [ho, hx, Instr.loadAt, Instr.sureAddr, Sem.run_bind, Sem.run_pure, Result.andThen_ok, ldr h]
    exact hK _ _ hk
theorem wpl_str (b : Nat) (A B : Rl) (x y : Operand) (h : Rb w b A) (hgd : op.guard = none) (ho : op.op = .store 38 x y) (hx : a.eval x = .pointer (some ⟨b, 0, none⟩)) (hy : a.eval y = .agg (ofr B)) (hd : a.put op.dst undef = a)
    (hk : wpList Try.prog ops Q rest a (w.setRow b (ofr B))) : wpList Try.prog ops Q (op :: rest) a w :=
  wpList_plain hgd fun _ hK => by
    unfold Oper.wp execOp
    simp only [ho, hx, hy, Instr.storeAt, Instr.sureAddr, Sem.run_bind, Sem.run_pure, Result.andThen_ok, str h]
    refine hK _ _ ?_
    rw [hd]
    exact hk
theorem wpl_ldt (b : Nat) (T : Nat → Bool) (x : Operand) (h : Tb w b T) (hgd : op.guard = none) (ho : op.op = .load 36 x) (hx : a.eval x = .pointer (some ⟨b, 0, none⟩))
    (hk : wpList Try.prog ops Q rest (a.put op.dst (.agg (oft T))) w) : wpList Try.prog ops Q (op :: rest) a w :=
  wpList_plain hgd fun _ hK => by
    unfold Oper.wp execOp
    simp only [ho, hx, Instr.loadAt, Instr.sureAddr, Sem.run_bind, Sem.run_pure, Result.andThen_ok, ldt h]
    exact hK _ _ hk
theorem wpl_stt (b : Nat) (T U : Nat → Bool) (x y : Operand) (h : Tb w b T) (hgd : op.guard = none) (ho : op.op = .store 36 x y) (hx : a.eval x = .pointer (some ⟨b, 0, none⟩)) (hy : a.eval y = .agg (oft U)) (hd : a.put op.dst undef = a)
    (hk : wpList Try.prog ops Q rest a (w.setRow b (oft U))) : wpList Try.prog ops Q (op :: rest) a w :=
  wpList_plain hgd fun _ hK => by
    unfold Oper.wp execOp
    simp only [ho, hx, hy, Instr.storeAt, Instr.sureAddr, Sem.run_bind, Sem.run_pure, Result.andThen_ok, stt h]
    refine hK _ _ ?_
    rw [hd]
    exact hk
end
/-! ### Rows of a relation -/
def ptw (A : Rl) (i : Nat) (T : Nat → Bool) : Rl := fun a c => if a = i then T c else A a c
theorem Rb.range {W : World} {b : Nat} {A : Rl} (h : Rb W b A) {i : Nat} (hi : i < 24) : W.rangeAt b (i * 24) (oft (A i)).toList := fun j v hv => by
  have hj : j < 24 := by
    have := (List.getElem?_eq_some_iff.1 hv).1
    simpa [oft_size] using this
  rw [h.cell hi hj]
  rw [Array.getElem?_toList, oft_at _ hj] at hv
  exact hv
theorem setCells_heap (b : Nat) {t : TypeId} {fr : Nat × Nat} : ∀ (vs : List Value) (o : Nat) (w : World) (c : Array Value), w.heap[b]? = some (.cells c t fr) → ∃ c', (w.setCells b o vs).heap[b]? = some (.cells c' t fr) ∧ c'.size = c.size ∧ ∀ p, p < c.size → c'[p]? = if o ≤ p ∧ p < o + vs.length then vs[p - o]? else c[p]?
  | [], o, w, c, h => ⟨c, h, rfl, fun p hp => by rw [if_neg (by simp only [List.length_nil]; omega)]⟩
  | v :: r, o, w, c, h => by
    have h1 : (w.setCell ⟨b, o, none⟩ v).heap[b]? = some (.cells (c.setIfInBounds o v) t fr) := by simp [World.setCell, Array.getElem?_modify, h]
    obtain ⟨c', e1, e2, e3⟩ := setCells_heap b r (o + 1) _ _ h1
    refine ⟨c', e1, by rw [e2]; simp, fun p hp => ?_⟩
    rw [e3 p (by simpa using hp)]
    simp only [List.length_cons]
    by_cases hc : o + 1 ≤ p ∧ p < o + 1 + r.length
    · rw [if_pos hc, if_pos ⟨by omega, by omega⟩, show p - o = (p - (o + 1)) + 1 by omega, List.getElem?_cons_succ]
    · rw [if_neg hc, Array.getElem?_setIfInBounds]
      by_cases he : o = p
      · subst he
        rw [if_pos rfl, if_pos hp, if_pos ⟨by omega, by omega⟩, Nat.sub_self]; rfl
      · rw [if_neg he, if_neg (by omega)]
theorem Rb.putw {W : World} {b : Nat} {A : Rl} (h : Rb W b A) {i : Nat} (hi : i < 24) (T : Nat → Bool) : Rb (W.setCells b (i * 24) (oft T).toList) b (ptw A i T) := by
  obtain ⟨c', e1, e2, e3⟩ := setCells_heap b (oft T).toList (i * 24) W _ h
  rw [ofr_size] at e2 e3
  have key : ∀ B : Rl, c' = ofr B → Rb (W.setCells b (i * 24) (oft T).toList) b B := fun B e => by unfold Rb; rw [← e]; exact e1
  refine key _ ?_
  refine Array.ext_getElem? fun p => ?_
  by_cases hp : p < 576
  · rw [e3 p hp, ofr_at (ptw A i T) hp, Array.length_toList, oft_size]
    unfold ptw
    by_cases hc : i * 24 ≤ p ∧ p < i * 24 + 24
    · rw [if_pos hc, if_pos (by omega), Array.getElem?_toList, oft_at _ (by omega), show p - i * 24 = p % 24 by omega]
    · rw [if_neg hc, if_neg (by omega), ofr_at _ hp]
  · rw [ofr_out _ hp]; exact Array.getElem?_eq_none (by omega)
theorem setCells_os (b : Nat) : ∀ (vs : List Value) (o : Nat) (w : World), (w.setCells b o vs).heap.size = w.heap.size
  | [], _, _ => rfl
  | v :: r, o, w => by rw [World.setCells, setCells_os b r]; simp [World.setCell]
theorem bel_cells {n b : Nat} {w : World} (hb : n ≤ b) : ∀ (vs : List Value) (o : Nat) (W : World), Below n w W → Below n w (W.setCells b o vs)
  | [], _, _, h => h
  | v :: r, o, W, h => bel_cells hb r (o + 1) _ (h.setCell (p := ⟨b, o, none⟩) hb v)
theorem heap_cells (b : Nat) {k : Nat} (hk : k ≠ b) : ∀ (vs : List Value) (o : Nat) (W : World), (W.setCells b o vs).heap[k]? = W.heap[k]?
  | [], _, _ => rfl
  | v :: r, o, W => by rw [World.setCells, heap_cells b hk r]; exact Below.heap_setCell W ⟨b, o, none⟩ v k hk
theorem Rb.thr {W : World} {b : Nat} {A : Rl} (h : Rb W b A) {i : Nat} (hi : i < 24) : W.there b (i * 24) 24 := fun j hj => ⟨by rw [h.cell hi hj]; rfl, h.fr _⟩
/-- A row is read, in a region that draws its order. -/
theorem yrow {ops : Array Oper} {C : World → Prop} {op : Oper} {a : Act} (b : Nat) (A : Rl) (i : Nat) (hi : i < 24) (x : Operand) (hw : Region.wanted op (yielded ops a.tmps) = true) (ho : op.op = .load 36 x) (hx : a.eval x = .pointer (some ⟨b, i * 24, none⟩)) (hC : ∀ w, C w → Rb w b A) :
    YieldsIf Try.prog ops C op (.agg (oft (A i))) a := by
  have h := yieldsIf_load_mid (P := Try.prog) (S := C) hw 36 x ho b (i * 24) hx (oft (A i)).toList _ (fun w h => (hC w h).range hi) Try.underlying36 rfl (by rw [Array.length_toList, oft_size]; exact Try.infoT)
  simpa using h
/-- A row is stored. -/
theorem wp_strow {op : Oper} {a : Act} {w : World} {K : Act → World → Prop} {Q : Exit → Act → World → Prop} (b : Nat) (A : Rl) (i : Nat) (hi : i < 24) (T : Nat → Bool) (x y : Operand) (h : Rb w b A) (ho : op.op = .store 36 x y) (hx : a.eval x = .pointer (some ⟨b, i * 24, none⟩)) (hy : a.eval y = .agg (oft T))
    (hk : K (a.put op.dst undef) (w.setCells b (i * 24) (oft T).toList)) : op.wp Try.prog a w K Q :=
  wp_store_mid 36 x y ho b (i * 24) (oft T) hx hy (by rw [oft_size]; exact h.thr hi) (by rw [oft_size]; exact Try.infoT) (oft_one T) hk
/-- A relation is read, in a region that draws its order. -/
theorem yrel {ops : Array Oper} {C : World → Prop} {op : Oper} {a : Act} (b : Nat) (A : Rl) (x : Operand) (hw : Region.wanted op (yielded ops a.tmps) = true) (ho : op.op = .load 38 x) (hx : a.eval x = .pointer (some ⟨b, 0, none⟩)) (hC : ∀ w, C w → Rb w b A) :
    YieldsIf Try.prog ops C op (.agg (ofr A)) a :=
  .inl ⟨hw, fun w hw' => by
    unfold execOp
    simp only [ho, hx, Instr.loadAt, Instr.sureAddr, Sem.run_bind, Sem.run_pure, Result.andThen_ok, ldr (hC w hw')]⟩
/-- Some things are read, in a region that draws its order. -/
theorem ythg {ops : Array Oper} {C : World → Prop} {op : Oper} {a : Act} (b : Nat) (T : Nat → Bool) (x : Operand) (hw : Region.wanted op (yielded ops a.tmps) = true) (ho : op.op = .load 36 x) (hx : a.eval x = .pointer (some ⟨b, 0, none⟩)) (hC : ∀ w, C w → Tb w b T) :
    YieldsIf Try.prog ops C op (.agg (oft T)) a :=
  .inl ⟨hw, fun w hw' => by
    unfold execOp
    simp only [ho, hx, Instr.loadAt, Instr.sureAddr, Sem.run_bind, Sem.run_pure, Result.andThen_ok, ldt (hC w hw')]⟩
end Go.Proofs.Ytgaelbgeoobgiab
