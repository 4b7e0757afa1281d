/-
  Matrices of six rows of six numbers: as a value, in a block, read and stored whole.
-/
import Derived.Deep.WholeRow
import Derived.Laws.Rows
import Derived.OrdersHeld
import Derived.Test.YtjaabemlpiafaabMtw
import Derived.Test.YtjaabemlpiafaabBase
namespace Go.Proofs.Ytjaabemlpiafaab
open Go.RowKit
set_option linter.unusedVariables false

/-- The cells of such a matrix, row by row. -/
def ofg (A : Mx) : Array Value := ((List.range 36).map fun p => Value.int .i64 (A (p / 6) (p % 6))).toArray
theorem ofg_size (A : Mx) : (ofg A).size = 36 := by simp [ofg]
theorem ofg_at (A : Mx) {p : Nat} (h : p < 36) : (ofg A)[p]? = some (.int .i64 (A (p / 6) (p % 6))) := by
  unfold ofg
  rw [List.getElem?_toArray, List.getElem?_map, List.getElem?_range h]
  rfl
theorem ofg_out (A : Mx) {p : Nat} (h : ¬ p < 36) : (ofg A)[p]? = none := Array.getElem?_eq_none (by rw [ofg_size]; omega)
theorem ofg_congr {A B : Mx} (h : ∀ i, i < 6 → ∀ j, j < 6 → A i j = B i j) : ofg A = ofg B := by
  refine Array.ext_getElem? fun p => ?_
  by_cases hp : p < 36
  · rw [ofg_at A hp, ofg_at B hp, h _ (by omega) _ (by omega)]
  · rw [ofg_out A hp, ofg_out B hp]
theorem ofg_one (A : Mx) : (ofg A).all (·.oneCell') = true := by
  refine Array.all_eq_true_iff_forall_mem.2 fun v hv => ?_
  unfold ofg at hv
  simp only [List.mem_toArray, List.mem_map] at hv
  obtain ⟨p, _, rfl⟩ := hv
  rfl
/-- One number of it is another one. -/
def ptg (A : Mx) (i j : Nat) (x : Int) : Mx := fun a b => if a = i ∧ b = j then x else A a b
theorem ptg_at (A : Mx) (i j : Nat) (x : Int) : ptg A i j x i j = x := if_pos ⟨rfl, rfl⟩
theorem ptg_ne (A : Mx) {i j a b : Nat} (x : Int) (h : ¬ (a = i ∧ b = j)) : ptg A i j x a b = A a b := if_neg h
theorem ofg_put (A : Mx) {i j : Nat} (hi : i < 6) (hj : j < 6) (x : Int) : (ofg A).setIfInBounds (i * 6 + j) (.int .i64 x) = ofg (ptg A i j x) := by
  refine Array.ext_getElem? fun p => ?_
  rw [Array.getElem?_setIfInBounds]
  by_cases hp : p < 36
  · rw [ofg_at A hp, ofg_at (ptg A i j x) hp]
    by_cases he : i * 6 + j = p
    · rw [if_pos he, if_pos (by rw [ofg_size]; omega)]
      subst he
      rw [show (i * 6 + j) / 6 = i by omega, show (i * 6 + j) % 6 = j by omega, ptg_at]
    · rw [if_neg he, ptg_ne]
      omega
  · rw [if_neg (by omega), ofg_out A hp, ofg_out _ hp]
theorem ofg_zero : (#[.int .i64 0, .int .i64 0, .int .i64 0, .int .i64 0, .int .i64 0, .int .i64 0, .int .i64 0, .int .i64 0, .int .i64 0, .int .i64 0, .int .i64 0, .int .i64 0, .int .i64 0, .int .i64 0, .int .i64 0, .int .i64 0, .int .i64 0, .int .i64 0, .int .i64 0, .int .i64 0, .int .i64 0, .int .i64 0, .int .i64 0, .int .i64 0, .int .i64 0, .int .i64 0, .int .i64 0, .int .i64 0, .int .i64 0, .int .i64 0, .int .i64 0, .int .i64 0, .int .i64 0, .int .i64 0, .int .i64 0, .int .i64 0] : Array Value) = ofg fun _ _ => 0 := rfl
/-- A block that holds such a matrix. -/
def Gb (W : World) (b : Nat) (A : Mx) : Prop := W.heap[b]? = some (.cells (ofg A) 50 (0, 0))
section
variable {W : World} {b : Nat} {A : Mx}
theorem Gb.cell (h : Gb W b A) {i j : Nat} (hi : i < 6) (hj : j < 6) : W.cell? ⟨b, i * 6 + j, none⟩ = some (.int .i64 (A i j)) := by
  unfold Gb at h
  simp [World.cell?, h]
  rw [ofg_at A (by omega), show (i * 6 + j) / 6 = i by omega, show (i * 6 + j) % 6 = j by omega]
theorem Gb.fr (h : Gb W b A) (p : Nat) : W.frozen? ⟨b, p, none⟩ = false := by unfold Gb at h; simp [World.frozen?, h]
theorem Gb.lt (h : Gb W b A) : b < W.heap.size := (Array.getElem?_eq_some_iff.1 h).1
theorem Gb.of {W' : World} (h : Gb W b A) (e : W'.heap[b]? = W.heap[b]?) : Gb W' b A := e.trans h
theorem Gb.bel {W' : World} {n : Nat} (h : Gb W b A) (hB : Below n W W') (hb : b < n) : Gb W' b A := h.of (hB.block b hb)
theorem Gb.go {W' : World} (h : Gb W b A) (hB : Below W.heap.size W W') : Gb W' b A := h.bel hB h.lt
theorem Gb.al (h : Gb W b A) (o : Obj) : Gb (W.alloc o) b A := h.of (Below.heap_alloc W o b h.lt)
theorem Gb.new (W : World) (A : Mx) : Gb (W.alloc (.cells (ofg A) 50)) W.heap.size A := (MapKept.heap_alloc W _).1
theorem Gb.new0 (W : World) : Gb (W.alloc (.cells #[.int .i64 0, .int .i64 0, .int .i64 0, .int .i64 0, .int .i64 0, .int .i64 0, .int .i64 0, .int .i64 0, .int .i64 0, .int .i64 0, .int .i64 0, .int .i64 0, .int .i64 0, .int .i64 0, .int .i64 0, .int .i64 0, .int .i64 0, .int .i64 0, .int .i64 0, .int .i64 0, .int .i64 0, .int .i64 0, .int .i64 0, .int .i64 0, .int .i64 0, .int .i64 0, .int .i64 0, .int .i64 0, .int .i64 0, .int .i64 0, .int .i64 0, .int .i64 0, .int .i64 0, .int .i64 0, .int .i64 0, .int .i64 0] 50)) W.heap.size fun _ _ => 0 := by rw [ofg_zero]; exact Gb.new W _
theorem Gb.dr (h : Gb W b A) : Gb W.drew b A := h
theorem Gb.ot (h : Gb W b A) {a : Addr} (ha : b ≠ a.block) (v : Value) : Gb (W.setCell a v) b A := h.of (Below.heap_setCell W a v b ha)
theorem Gb.congr {B : Mx} (h : Gb W b A) (e : ∀ i, i < 6 → ∀ j, j < 6 → A i j = B i j) : Gb W b B := by unfold Gb at *; rw [h, ofg_congr e]
theorem Gb.put (h : Gb W b A) {i j : Nat} (hi : i < 6) (hj : j < 6) (x : Int) : Gb (W.setCell ⟨b, i * 6 + j, none⟩ (.int .i64 x)) b (ptg A i j x) := by
  unfold Gb at *
  rw [← ofg_put A hi hj x]
  simp [World.setCell, Array.getElem?_modify, h]
theorem Gb.row {B : Mx} (h : Gb W b A) : Gb (W.setRow b (ofg B)) b B := setRow_heap W b _ _ _ _ h
theorem Gb.oth {b' : Nat} {c : Array Value} (h : Gb W b A) (hb : b ≠ b') : Gb (W.setRow b' c) b A := by
  unfold Gb at *
  rw [← h]
  simp [World.setRow, Array.getElem?_modify, Ne.symm hb]
end
theorem bel_row {n b : Nat} {w W : World} {c : Array Value} (h : Below n w W) (hb : n ≤ b) : Below n w (W.setRow b c) :=
  ⟨h.os, h.tape, h.output, by simp [World.setRow]; exact h.size, fun k hk => by rw [← h.block k hk]; simp [World.setRow, Array.getElem?_modify]; intro e; omega⟩
theorem Try.infoG : (Try.prog.info? 50).map (·.size) = some 36 := by kernel_rfl
theorem ldg {W : World} {b : Nat} {A : Mx} (h : Gb W b A) : (loadVar 50 ⟨b, 0, none⟩).run Try.prog W = .ok (.agg (ofg A)) W :=
  run_loadVar_row _ _ _ _ _ _ _ h Try.underlying50 rfl (by rw [ofg_size]; exact Try.infoG)
theorem stg {W : World} {b : Nat} {A B : Mx} (h : Gb W b A) : (storeVar 50 ⟨b, 0, none⟩ (.agg (ofg B))).run Try.prog W = .ok () (W.setRow b (ofg B)) :=
  run_storeVar_row _ _ _ _ _ _ h (by rw [ofg_size]; exact Try.infoG) (by rw [ofg_size, ofg_size]) (ofg_one B)
/-- A whole matrix is read, in a plain region. -/
theorem wpl_ldg {ops : Array Oper} {rest : List Oper} {op : Oper} {a : Act} {w : World} {Q : Exit → Act → World → Prop} (b : Nat) (A : Mx) (x : Operand) (h : Gb w b A) (hgd : op.guard = none) (ho : op.op = .load 50 x) (hx : a.eval x = .pointer (some ⟨b, 0, none⟩))
    (hk : wpList Try.prog ops Q rest (a.put op.dst (.agg (ofg A))) w) : wpList Try.prog ops Q (op :: rest) a w :=
  wpList_plain hgd fun _ hK => by
    unfold Oper.wp execOp
    simp only [ho, hx, Instr.loadAt, Instr.sureAddr, Sem.run_bind, Sem.run_pure, Result.andThen_ok, ldg h]
    exact hK _ _ hk
/-- A whole matrix is stored, in a plain region. -/
theorem wpl_stg {ops : Array Oper} {rest : List Oper} {op : Oper} {a : Act} {w : World} {Q : Exit → Act → World → Prop} (b : Nat) (A B : Mx) (x y : Operand) (h : Gb w b A) (hgd : op.guard = none) (ho : op.op = .store 50 x y) (hx : a.eval x = .pointer (some ⟨b, 0, none⟩)) (hy : a.eval y = .agg (ofg B)) (hd : a.put op.dst undef = a)
    (hk : wpList Try.prog ops Q rest a (w.setRow b (ofg B))) : wpList Try.prog ops Q (op :: rest) a w :=
  wpList_plain hgd fun _ hK => by
    unfold Oper.wp execOp
    simp only [ho, hx, hy, Instr.storeAt, Instr.sureAddr, Sem.run_bind, Sem.run_pure, Result.andThen_ok, stg h]
    refine hK _ _ ?_
    rw [hd]
    exact hk
/-- A whole matrix is read, in a region that draws its order. -/
theorem yld {ops : Array Oper} {C : World → Prop} {op : Oper} {a : Act} (b : Nat) (A : Mx) (x : Operand) (hw : Region.wanted op (yielded ops a.tmps) = true) (ho : op.op = .load 50 x) (hx : a.eval x = .pointer (some ⟨b, 0, none⟩)) (hC : ∀ w, C w → Gb w b A) :
    YieldsIf Try.prog ops C op (.agg (ofg A)) a :=
  .inl ⟨hw, fun w hw' => by
    unfold execOp
    simp only [ho, hx, Instr.loadAt, Instr.sureAddr, Sem.run_bind, Sem.run_pure, Result.andThen_ok, ldg (hC w hw')]⟩
end Go.Proofs.Ytjaabemlpiafaab
