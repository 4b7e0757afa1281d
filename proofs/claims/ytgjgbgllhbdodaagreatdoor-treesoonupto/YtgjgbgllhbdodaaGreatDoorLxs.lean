/-
  Lxj Lxk Lxr Lxs, together.
-/
import Derived.Deep.AppendLies
import Derived.Test.YtgjgbgllhbdodaaGreatDoorBas9
import Derived.Test.YtgjgbgllhbdodaaGreatDoorLxm
import Derived.Test.YtgjgbgllhbdodaaGreatDoorLxi
import Derived.Laws.Strings
import Derived.Laws.StructEq
/-! Lxj: Slices of words. -/
namespace Go.Proofs.YtgjgbgllhbdodaaGreatDoor
open Go.RowKit Go.Lib
set_option linter.unusedVariables false

theorem Tryz.infoTok : (Tryz.prog.info? 30).map (fun i => (i.zero, i.size, i.bytes)) = some (some (.agg #[.int .i64 0, .int .i64 0, .int .i64 0, .string ⟨#[]⟩, .int .i64 0]), 5, 48) := by kernel_rfl
abbrev TkA := Tk × Int
def TkA.s (b : TkA) : Value := .string ⟨b.1.text.toArray⟩
def tkz (bs : List TkA) (j : Nat) : TkA := bs.getD j (⟨0, 0, 0, []⟩, 0)
/-- The cells of words, one behind the other. -/
def cl5 : List TkA → List Value
  | [] => []
  | b :: r => .int .i64 b.1.kind :: .int .i64 b.1.fn :: .int .i64 b.1.num :: b.s :: .int .i64 b.2 :: cl5 r
theorem cl5_length : ∀ bs : List TkA, (cl5 bs).length = bs.length * 5
  | [] => rfl
  | b :: r => by simp only [cl5, List.length_cons, cl5_length r]; omega
theorem cl5_snoc : ∀ (bs : List TkA) (b : TkA), cl5 (bs ++ [b]) = cl5 bs ++ [.int .i64 b.1.kind, .int .i64 b.1.fn, .int .i64 b.1.num, b.s, .int .i64 b.2]
  | [], b => rfl
  | x :: r, b => by simp only [List.cons_append, cl5, cl5_snoc r b]
theorem cl5_at : ∀ (bs : List TkA) (j : Nat), j < bs.length → (cl5 bs)[j * 5]? = some (.int .i64 (tkz bs j).1.kind) ∧ (cl5 bs)[j * 5 + 1]? = some (.int .i64 (tkz bs j).1.fn) ∧ (cl5 bs)[j * 5 + 2]? = some (.int .i64 (tkz bs j).1.num) ∧ (cl5 bs)[j * 5 + 3]? = some (tkz bs j).s ∧ (cl5 bs)[j * 5 + 4]? = some (.int .i64 (tkz bs j).2)
  | [], j, h => by simp at h
  | b :: r, 0, _ => ⟨rfl, rfl, rfl, rfl, rfl⟩
  | b :: r, j + 1, h => by
    have ih := cl5_at r j (by simpa using h)
    have e : tkz (b :: r) (j + 1) = tkz r j := by simp [tkz]
    rw [e, show (j + 1) * 5 = j * 5 + 5 by omega]
    simpa [cl5] using ih
theorem tkz_snoc (bs : List TkA) (b : TkA) : tkz (bs ++ [b]) bs.length = b := by unfold tkz; simp
/-- Five cells of a word that lies among others. -/
def TkC (w : World) (g off : Nat) (b : TkA) : Prop :=
  w.cell? ⟨g, off, none⟩ = some (.int .i64 b.1.kind) ∧ w.cell? ⟨g, off + 1, none⟩ = some (.int .i64 b.1.fn) ∧ w.cell? ⟨g, off + 2, none⟩ = some (.int .i64 b.1.num) ∧ w.cell? ⟨g, off + 3, none⟩ = some b.s ∧ w.cell? ⟨g, off + 4, none⟩ = some (.int .i64 b.2)
/-- A slice leads to these words, below block n₀. -/
def IsTk (n₀ : Nat) (w : World) (a : Option Addr) (bs : List TkA) : Prop :=
  bs = [] ∨ ∃ g off, a = some ⟨g, off, none⟩ ∧ g < n₀ ∧ ∀ j, j < bs.length → TkC w g (off + j * 5) (tkz bs j)
theorem IsTk.go {n₀ : Nat} {w w' : World} {a : Option Addr} {bs : List TkA} (h : IsTk n₀ w a bs) (hB : Below n₀ w w') : IsTk n₀ w' a bs := by
  rcases h with h | ⟨g, off, rfl, hg, hc⟩
  · exact .inl h
  · refine .inr ⟨g, off, rfl, hg, fun j hj => ?_⟩
    obtain ⟨h0, h1, h2, h3, h4⟩ := hc j hj
    exact ⟨(hB.cell (p := ⟨g, _, none⟩) hg).trans h0, (hB.cell (p := ⟨g, _, none⟩) hg).trans h1, (hB.cell (p := ⟨g, _, none⟩) hg).trans h2, (hB.cell (p := ⟨g, _, none⟩) hg).trans h3, (hB.cell (p := ⟨g, _, none⟩) hg).trans h4⟩
theorem IsTk.mono {n m : Nat} {w : World} {a : Option Addr} {bs : List TkA} (h : IsTk n w a bs) (hm : n ≤ m) : IsTk m w a bs := by
  rcases h with h | ⟨g, off, e, hg, hc⟩
  · exact .inl h
  · exact .inr ⟨g, off, e, by omega, hc⟩
/-- A row of words in a block of its own, read. -/
theorem own5_is {w : World} {base : Nat} {v : Value} {n : Nat} {bs : List TkA} (hn : bs.length = n) (h : w.ownsRow base 30 5 v n (cl5 bs)) :
    ∃ a cap, v = .slice a n cap ∧ IsTk w.heap.size w a bs := by
  subst hn
  rcases h.2 with ⟨rfl, h0⟩ | ⟨g, cap, cur, rfl, h1, hg, h2, _, h3, h4⟩
  · rw [h0]; exact ⟨none, 0, rfl, .inl (List.eq_nil_of_length_eq_zero h0)⟩
  · refine ⟨some ⟨g, 0, none⟩, cap, rfl, .inr ⟨g, 0, rfl, (Array.getElem?_eq_some_iff.1 hg).1, fun j hj => ?_⟩⟩
    have rd : ∀ i, i < bs.length * 5 → w.cell? ⟨g, i, none⟩ = (cl5 bs)[i]? := fun i hi => by
      rw [← h4, List.getElem?_take, if_pos hi]
      simp [World.cell?, hg]
    obtain ⟨c0, c1, c2, c3, c4⟩ := cl5_at bs j hj
    unfold TkC
    rw [Nat.zero_add, rd _ (by omega), rd _ (by omega), rd _ (by omega), rd _ (by omega), rd _ (by omega)]
    exact ⟨c0, c1, c2, c3, c4⟩
theorem own5_go {w w' : World} {base : Nat} {v : Value} {n : Nat} {xs : List Value} (h : w.ownsRow base 30 5 v n xs) (hB : Below w.heap.size w w') : w'.ownsRow base 30 5 v n xs := by
  obtain ⟨h0, h⟩ := h
  refine ⟨h0, ?_⟩
  rcases h with h | ⟨g, cap, cur, e, h1, hg, h2⟩
  · exact .inl h
  · exact .inr ⟨g, cap, cur, e, h1, (hB.block g (Array.getElem?_eq_some_iff.1 hg).1).trans hg, h2⟩
/-- What was read, with where it begins as a number. -/
def rdA (ws : List (Tk × Nat)) : List TkA := ws.map (fun x => (x.1, (x.2 : Int)))
theorem rdA_snoc (ws : List (Tk × Nat)) (t : Tk) (i : Nat) : rdA (ws ++ [(t, i)]) = rdA ws ++ [(t, (i : Int))] := by unfold rdA; simp
theorem rdA_length (ws : List (Tk × Nat)) : (rdA ws).length = ws.length := by unfold rdA; simp
end Go.Proofs.YtgjgbgllhbdodaaGreatDoor
/-! Lxk: The program reads a line. -/
namespace Go.Proofs.YtgjgbgllhbdodaaGreatDoor
open Go.RowKit Go.Lib
set_option linter.unusedVariables false

/-- What reading a line ends with. -/
def LnP (L : Ln) (w : World) (e : Ending) (w' : World) : Prop :=
  Below w.heap.size w w' ∧ match L with
    | Except.ok ws => ∃ a cap, e = .returned (.tuple #[.slice a ws.length cap, .int .i64 0, .nilIface]) ∧ IsTk w'.heap.size w' a (rdA ws)
    | Except.error (i, c) => e = .returned (.tuple #[.slice none 0 0, .int .i64 (i : Int), errV c])
/-- The three named results of Read, in their blocks. -/
def Res3 (w : World) (k : Nat) (v : Value) : Prop :=
  w.heap[k]? = some (.cells #[v] 22 (0, 0)) ∧ w.heap[k + 1]? = some (.cells #[.int .i64 0] 3 (0, 0)) ∧ w.heap[k + 2]? = some (.cells #[.nilIface] 25 (0, 0)) ∧ k + 3 ≤ w.heap.size
theorem Res3.go {w w' : World} {k : Nat} {v : Value} (h : Res3 w k v) (hB : Below w.heap.size w w') : Res3 w' k v := by
  obtain ⟨h0, h1, h2, h3⟩ := h
  exact ⟨(hB.block k (by omega)).trans h0, (hB.block (k + 1) (by omega)).trans h1, (hB.block (k + 2) (by omega)).trans h2, Nat.le_trans h3 hB.size⟩
theorem Res3.new (w : World) : Res3 (((w.alloc (.cells #[.slice none 0 0] 22)).alloc (.cells #[.int .i64 0] 3)).alloc (.cells #[.nilIface] 25)) w.heap.size (.slice none 0 0) := by
  refine ⟨?_, ?_, ?_, by simp⟩
  · have h := World.alloc_heap_new w (.cells #[.slice none 0 0] 22)
    exact (Below.heap_alloc _ _ _ (by simp; omega)).trans ((Below.heap_alloc _ _ _ (by simp)).trans h)
  · have h := World.alloc_heap_new (w.alloc (.cells #[.slice none 0 0] 22)) (.cells #[.int .i64 0] 3)
    rw [World.size_alloc] at h
    exact (Below.heap_alloc _ _ _ (by simp)).trans h
  · have h := World.alloc_heap_new ((w.alloc (.cells #[.slice none 0 0] 22)).alloc (.cells #[.int .i64 0] 3)) (.cells #[.nilIface] 25)
    rw [World.size_alloc, World.size_alloc] at h
    exact h
/-- The three named results written. -/
theorem res3_put {w : World} {k : Nat} {v : Value} (h : Res3 w k v) (x y z : Value) :
    (((w.setCell ⟨k, 0, none⟩ x).setCell ⟨k + 1, 0, none⟩ y).setCell ⟨k + 2, 0, none⟩ z).cell? ⟨k, 0, none⟩ = some x ∧
    (((w.setCell ⟨k, 0, none⟩ x).setCell ⟨k + 1, 0, none⟩ y).setCell ⟨k + 2, 0, none⟩ z).cell? ⟨k + 1, 0, none⟩ = some y ∧
    (((w.setCell ⟨k, 0, none⟩ x).setCell ⟨k + 1, 0, none⟩ y).setCell ⟨k + 2, 0, none⟩ z).cell? ⟨k + 2, 0, none⟩ = some z := by
  obtain ⟨h0, h1, h2, _⟩ := h
  have a0 : (w.setCell ⟨k, 0, none⟩ x).cell? ⟨k, 0, none⟩ = some x := by simp [World.cell?, World.setCell, Array.getElem?_modify, h0]
  have a1 : ((w.setCell ⟨k, 0, none⟩ x).setCell ⟨k + 1, 0, none⟩ y).cell? ⟨k + 1, 0, none⟩ = some y := by simp [World.cell?, World.setCell, Array.getElem?_modify, h1]
  have a2 : (((w.setCell ⟨k, 0, none⟩ x).setCell ⟨k + 1, 0, none⟩ y).setCell ⟨k + 2, 0, none⟩ z).cell? ⟨k + 2, 0, none⟩ = some z := by simp [World.cell?, World.setCell, Array.getElem?_modify, h2]
  have n : ∀ (W : World) (b b' : Nat) (q : Value), b ≠ b' → (W.setCell ⟨b', 0, none⟩ q).cell? ⟨b, 0, none⟩ = W.cell? ⟨b, 0, none⟩ := fun W b b' q hb => World.cell?_of_block (Below.heap_setCell W ⟨b', 0, none⟩ q b hb)
  refine ⟨?_, ?_, a2⟩
  · exact (n _ k (k + 2) _ (by omega)).trans ((n _ k (k + 1) _ (by omega)).trans a0)
  · exact (n _ (k + 1) (k + 2) _ (by omega)).trans a1
theorem res3_bel {v w : World} {k : Nat} (h : Below k v w) (x y z : Value) : Below k v (((w.setCell ⟨k, 0, none⟩ x).setCell ⟨k + 1, 0, none⟩ y).setCell ⟨k + 2, 0, none⟩ z) :=
  ((h.setCell (p := ⟨k, 0, none⟩) (Nat.le_refl _) _).setCell (p := ⟨k + 1, 0, none⟩) (Nat.le_succ _) _).setCell (p := ⟨k + 2, 0, none⟩) (by show k ≤ k + 2; omega) _
theorem own5_set {w : World} {base : Nat} {v : Value} {n : Nat} {xs : List Value} (h : w.ownsRow base 30 5 v n xs) {b : Nat} (hb : b < base) (x : Value) : (w.setCell ⟨b, 0, none⟩ x).ownsRow base 30 5 v n xs := by
  obtain ⟨h0, h⟩ := h
  refine ⟨h0, ?_⟩
  rcases h with h | ⟨g, cap, cur, e, h1, hg, h2⟩
  · exact .inl h
  · exact .inr ⟨g, cap, cur, e, h1, (Below.heap_setCell w ⟨b, 0, none⟩ x g (by show g ≠ b; omega)).trans hg, h2⟩
theorem Res3.grow {w w' : World} {k : Nat} {v : Value} {row : Option Nat} (h : Res3 w k v) (hg : w.grownBy w' row) (ho : ∀ j, row = some j → k + 3 ≤ j) : Res3 w' k v := by
  obtain ⟨h0, h1, h2, h3⟩ := h
  have ne : ∀ j, j < k + 3 → some j ≠ row := fun j hj e => by have := ho j e.symm; omega
  exact ⟨(hg.block k (by omega) (ne k (by omega))).trans h0, (hg.block (k + 1) (by omega) (ne _ (by omega))).trans h1, (hg.block (k + 2) (by omega) (ne _ (by omega))).trans h2, Nat.le_trans h3 hg.size⟩
/-- The words' own result written. -/
theorem Res3.put0 {w : World} {k : Nat} {v : Value} (h : Res3 w k v) (x : Value) : Res3 (w.setCell ⟨k, 0, none⟩ x) k x := by
  obtain ⟨h0, h1, h2, h3⟩ := h
  refine ⟨by simp [World.setCell, Array.getElem?_modify, h0], (Below.heap_setCell w ⟨k, 0, none⟩ x (k + 1) (by show k + 1 ≠ k; omega)).trans h1, (Below.heap_setCell w ⟨k, 0, none⟩ x (k + 2) (by show k + 2 ≠ k; omega)).trans h2, by simpa [World.setCell] using h3⟩
set_option maxRecDepth 100000 in
set_option maxHeartbeats 8000000 in
theorem line_any17 (s : ByteArray) (hs : s.size ≤ 9223372036854775807) (w : World) (hT : Lib.Utf8Tabs (Tryz.laysValid_ren.g 3) (Tryz.laysValid_ren.g 4) w) (hr : HasRng w) :
    Calls Tryz.prog 18 #[.string s] w (LnP (lineS (tl s 0)) w) := by
  obtain ⟨i0, hi, hz0, hz1, hz2⟩ := info_parts Tryz.infoTok
  have hmf : ∀ (fn : Fn) (first cap : Array Value) (w : World), (Instr.makeFunc fn first cap).run Tryz.prog w = .ok (.func fn first cap) w := fun _ _ _ _ => rfl
  have HT : Hid (Lib.Utf8Tabs (Tryz.laysValid_ren.g 3) (Tryz.laysValid_ren.g 4) w) := hT
  have HR : Hid (HasRng w) := hr
  clear hT hr
  have K0 : Hid (Res3 (((w.alloc (.cells #[.slice none 0 0] 22)).alloc (.cells #[.int .i64 0] 3)).alloc (.cells #[.nilIface] 25)) w.heap.size (.slice none 0 0)) := Res3.new w
  have HB : Hid (Below w.heap.size w (((w.alloc (.cells #[.slice none 0 0] 22)).alloc (.cells #[.int .i64 0] 3)).alloc (.cells #[.nilIface] 25))) := (((Below.refl _ w).alloc (Nat.le_refl _) _).alloc (by simp) _).alloc (by simp; omega) _
  by_cases hlong : 1000 < s.size
  · have HL : Hid (lineS (tl s 0) = .bad 0 7) := by show _ = _; unfold lineS; rw [tl_len, if_pos (by omega)]
    have hlong' : (1000 : Int) < (s.size : Int) := by omega
    go_enter_defers Tryz.func18, Tryz.ntmps18
    go_wp2_with fail
    refine leaves_cons (f := 36) (args := #[.pointer (some ⟨w.heap.size, 0, none⟩), .pointer (some ⟨w.heap.size + 1, 0, none⟩), .pointer (some ⟨w.heap.size + 2, 0, none⟩)]) (by simp) (by simp [go_sem]) ?_
    refine (catch17 7 (by omega) 0 w.heap.size _ _ _ _ K0.out.1 K0.out.2.1 K0.out.2.2.1).mono ?_
    rintro e u' w'' ⟨rfl, rfl, rfl⟩
    obtain ⟨q0, q1, q2⟩ := res3_put K0.out (.slice none 0 0) (.int .i64 0) (errV 7)
    have HBW : Hid (Below w.heap.size w ((((((w.alloc (.cells #[.slice none 0 0] 22)).alloc (.cells #[.int .i64 0] 3)).alloc (.cells #[.nilIface] 25)).setCell ⟨w.heap.size, 0, none⟩ (.slice none 0 0)).setCell ⟨w.heap.size + 1, 0, none⟩ (.int .i64 0)).setCell ⟨w.heap.size + 2, 0, none⟩ (errV 7))) := res3_bel HB.out _ _ _
    generalize ((((((w.alloc (.cells #[.slice none 0 0] 22)).alloc (.cells #[.int .i64 0] 3)).alloc (.cells #[.nilIface] 25)).setCell ⟨w.heap.size, 0, none⟩ (.slice none 0 0)).setCell ⟨w.heap.size + 1, 0, none⟩ (.int .i64 0)).setCell ⟨w.heap.size + 2, 0, none⟩ (errV 7)) = W at *
    simp [Leaves, settle, results, Tryz.results18, go_sem, q0, q1, q2]
    rw [HL.out]
    exact ⟨HBW.out, rfl⟩
  · have hs1 : s.size ≤ 1000 := by omega
    have hlong' : ¬ (1000 : Int) < (s.size : Int) := by omega
    have HF : Hid (lineS (tl s 0) = lineF (tl s 0) 0 []) := by show _ = _; unfold lineS; rw [tl_len, if_neg (by omega)]; rfl
    have hab : ∀ i, i ≤ s.size → i ≤ abk s.data.toList i ∧ abk s.data.toList i ≤ s.size ∧ (∀ ws, lineF (tl s i) i ws = lineF (tl s (abk s.data.toList i)) (abk s.data.toList i) ws) ∧ (tl s (abk s.data.toList i) = [] ∨ ∃ b r, tl s (abk s.data.toList i) = b :: r ∧ ¬ b.toNat = 32) := fun i hi => by
      obtain ⟨h1, h2, h3, h4, h5⟩ := abk_is (l := s.data.toList) (i := i) (by rw [← size_eq]; exact hi)
      rw [← size_eq] at h2
      exact ⟨h1, h2, h4, h5⟩
    have HA : Hid (∀ i, i ≤ s.size → i ≤ abk s.data.toList i ∧ abk s.data.toList i ≤ s.size ∧ (∀ ws, lineF (tl s i) i ws = lineF (tl s (abk s.data.toList i)) (abk s.data.toList i) ws) ∧ (tl s (abk s.data.toList i) = [] ∨ ∃ b r, tl s (abk s.data.toList i) = b :: r ∧ ¬ b.toNat = 32)) := hab
    clear hab hlong
    go_enter_defers Tryz.func18, Tryz.ntmps18
    go_wp2_with fail
    refine (blanks_any s 0 (Nat.zero_le _) (by omega) _).mono ?_
    rintro e w' ⟨rfl, rfl⟩
    go_wp2_with fail
    go_loopw [5] (fun v wr => ∃ (p : Nat) (ws : List (Tk × Nat)) (u : Value), v = .int .i64 p ∧ Hid (p ≤ s.size ∧ lineS (tl s 0) = lineF (tl s p) p ws ∧ (tl s p = [] ∨ ∃ b r, tl s p = b :: r ∧ ¬ b.toNat = 32) ∧ ws.length ≤ 200) ∧ Hid (Res3 wr w.heap.size u) ∧ Hid (wr.ownsRow (w.heap.size + 3) 30 5 u ws.length (cl5 (rdA ws))) ∧ Hid (Below w.heap.size w wr)) (fun v _ => s.size - (RowKit.intOf v).toNat)
    case atStart =>
      obtain ⟨h1, h2, h3, h4⟩ := HA.out 0 (Nat.zero_le _)
      exact ⟨abk s.data.toList 0, [], _, rfl, ⟨h2, by rw [HF.out, h3], h4, Nat.zero_le _⟩, K0, World.ownsRow_nil _ _ _ _, HB⟩
    case round =>
      obtain ⟨p, ws, u, rfl, HI, HK, HO, HBr⟩ := hrel
      have hp := HI.out.1
      have hov := over_any (s.extract p s.size)
      rw [sx_list] at hov
      by_cases hend : (decide (tl s p = []) || remB.isPrefixOf (tl s p)) = true
      · rw [hend] at hov
        have HE : Hid (lineS (tl s 0) = .ok ws) := by
          show _ = _
          rw [HI.out.2.1]
          rw [Bool.or_eq_true, decide_eq_true_iff] at hend
          rcases hend with h | h
          · rw [h]; rfl
          · exact lineF_rem h _ _
        clear hend
        obtain ⟨a, cap, hu, hI⟩ := own5_is (rdA_length ws) HO.out
        have HIs : Hid (IsTk wr.heap.size wr a (rdA ws)) := hI
        subst hu
        clear hI
        have k0 := HK.out.1
        have k1 := HK.out.2.1
        have k2 := HK.out.2.2.1
        have c0 : wr.cell? ⟨w.heap.size, 0, none⟩ = some (.slice a ws.length cap) := by simp [World.cell?, k0]
        have z0 : wr.frozen? ⟨w.heap.size, 0, none⟩ = false := by simp [World.frozen?, k0]
        have c1 : wr.cell? ⟨w.heap.size + 1, 0, none⟩ = some (.int .i64 0) := by simp [World.cell?, k1]
        have z1 : wr.frozen? ⟨w.heap.size + 1, 0, none⟩ = false := by simp [World.frozen?, k1]
        have c2 : wr.cell? ⟨w.heap.size + 2, 0, none⟩ = some .nilIface := by simp [World.cell?, k2]
        have z2 : wr.frozen? ⟨w.heap.size + 2, 0, none⟩ = false := by simp [World.frozen?, k2]
        clear k0 k1 k2
        go_wp2_with fail
        refine (hov _).mono ?_
        rintro e w' ⟨rfl, rfl⟩
        go_wp2_with fail
        refine leaves_cons (f := 36) (args := #[.pointer (some ⟨w.heap.size, 0, none⟩), .pointer (some ⟨w.heap.size + 1, 0, none⟩), .pointer (some ⟨w.heap.size + 2, 0, none⟩)]) (by simp) (by simp [go_sem]) ?_
        refine (idle17 w.heap.size _).mono ?_
        rintro e u' w'' ⟨rfl, rfl, rfl⟩
        obtain ⟨q0, q1, q2⟩ := res3_put HK.out (.slice a ws.length cap) (.int .i64 0) .nilIface
        have HBW := res3_bel HBr.out (.slice a ws.length cap) (.int .i64 0) .nilIface
        have HOW := own5_set (own5_set (own5_set HO.out (b := w.heap.size) (by omega) (.slice a ws.length cap)) (b := w.heap.size + 1) (by omega) (.int .i64 0)) (b := w.heap.size + 2) (by omega) .nilIface
        simp only [Nat.add_assoc, Nat.reduceAdd]
        generalize (((w'.setCell ⟨w.heap.size, 0, none⟩ (.slice a ws.length cap)).setCell ⟨w.heap.size + 1, 0, none⟩ (.int .i64 0)).setCell ⟨w.heap.size + 2, 0, none⟩ .nilIface) = W at *
        have HX : Hid (Below w.heap.size w W ∧ IsTk W.heap.size W a (rdA ws)) := by
          refine ⟨HBW, ?_⟩
          obtain ⟨a', cap', e, h⟩ := own5_is (rdA_length ws) HOW
          cases e; exact h
        clear HBW HOW
        simp [Leaves, settle, results, Tryz.results18, go_sem, q0, q1, q2]
        rw [HE.out]
        exact ⟨HX.out.1, a, cap, rfl, HX.out.2⟩
      · have hov2 : (decide (tl s p = []) || remB.isPrefixOf (tl s p)) = false := Bool.eq_false_iff.2 hend
        rw [hov2] at hov
        rw [Bool.or_eq_false_iff, decide_eq_false_iff_not] at hov2
        have hps : p < s.size := by
          rcases Nat.lt_or_ge p s.size with h | h
          · exact h
          · exact absurd (tl_end (by omega)) hov2.1
        obtain ⟨b, r, hbr, hb32⟩ := HI.out.2.2.1.resolve_left hov2.1
        have hnr : ¬ remB.isPrefixOf (b :: r) = true := by rw [← hbr, hov2.2]; exact Bool.false_ne_true
        have HC := read_any17 s p hps (by omega) wr (tabs_go HT.out HBr.out) (HR.out.go HBr.out)
        obtain ⟨W, hW⟩ : ∃ W, W = wordS (tl s p) := ⟨_, rfl⟩
        rw [← hW] at HC
        cases W with
        | error c =>
          have HE : Hid (lineS (tl s 0) = .bad p c) := by
            show _ = _
            rw [HI.out.2.1, hbr]; rw [hbr] at hW
            exact lineF_bad hnr hb32 hW.symm _ _
          have hc : c = 1 ∨ c = 6 ∨ c = 7 := word_err hW.symm
          clear hW hend hov2 hbr hnr hb32
          go_wp2_with fail
          refine (hov _).mono ?_
          rintro e w' ⟨rfl, rfl⟩
          go_wp2_with fail
          refine HC.mono ?_
          rintro e w1 ⟨hB1, rfl⟩
          have HB1 : Hid (Below w.heap.size w w1) := HBr.out.trans (hB1.mono HBr.out.size)
          have HK1 : Hid (Res3 w1 w.heap.size u) := HK.out.go hB1
          clear hB1
          simp only [panV]
          go_wp2_with fail
          refine leaves_cons (f := 36) (args := #[.pointer (some ⟨w.heap.size, 0, none⟩), .pointer (some ⟨w.heap.size + 1, 0, none⟩), .pointer (some ⟨w.heap.size + 2, 0, none⟩)]) (by simp) (by simp [go_sem]) ?_
          refine (catch17 c hc (p : Int) w.heap.size _ _ _ _ HK1.out.1 HK1.out.2.1 HK1.out.2.2.1).mono ?_
          rintro e u' w'' ⟨rfl, rfl, rfl⟩
          obtain ⟨q0, q1, q2⟩ := res3_put HK1.out (.slice none 0 0) (.int .i64 (p : Int)) (errV c)
          have HBW : Hid (Below w.heap.size w ((((w1).setCell ⟨w.heap.size, 0, none⟩ (.slice none 0 0)).setCell ⟨w.heap.size + 1, 0, none⟩ (.int .i64 (p : Int))).setCell ⟨w.heap.size + 2, 0, none⟩ (errV c))) := res3_bel HB1.out _ _ _
          generalize ((((w1).setCell ⟨w.heap.size, 0, none⟩ (.slice none 0 0)).setCell ⟨w.heap.size + 1, 0, none⟩ (.int .i64 (p : Int))).setCell ⟨w.heap.size + 2, 0, none⟩ (errV c)) = W at *
          simp [Leaves, settle, results, Tryz.results18, go_sem, q0, q1, q2]
          rw [HE.out]
          exact ⟨HBW.out, rfl⟩
        | ok tn =>
          obtain ⟨t, n⟩ := tn
          have hwl := word_len hW.symm
          rw [tl_len] at hwl
          by_cases hfull : ws.length = 200
          · have HE : Hid (lineS (tl s 0) = .bad p 7) := by
              show _ = _
              rw [HI.out.2.1, hbr]; rw [hbr] at hW
              exact lineF_full hnr hb32 hW.symm _ _ (by omega)
            have tf : ((ws.length : Int) == 200) = true := by rw [beq_iff_eq]; omega
            clear hW hend hov2 hbr hnr hb32
            go_wp2_with fail
            refine (hov _).mono ?_
            rintro e w' ⟨rfl, rfl⟩
            go_wp2_with fail
            refine HC.mono ?_
            rintro e w1 ⟨hB1, rfl⟩
            have HB1 : Hid (Below w.heap.size w w1) := HBr.out.trans (hB1.mono HBr.out.size)
            have HK1 : Hid (Res3 w1 w.heap.size u) := HK.out.go hB1
            obtain ⟨a, cap, rfl, _⟩ := own5_is (rdA_length ws) HO.out
            obtain ⟨tk, tg, tn, tt⟩ := t
            have HK2 : Hid (Res3 (w1.alloc (.cells #[.int .i64 tk, .int .i64 tg, .int .i64 tn, .string ⟨tt.toArray⟩, .int .i64 (p : Int)] 30)) w.heap.size (.slice a ws.length cap)) := HK1.out.go ((Below.refl _ w1).alloc (Nat.le_refl _) _)
            have HB2 : Hid (Below w.heap.size w (w1.alloc (.cells #[.int .i64 tk, .int .i64 tg, .int .i64 tn, .string ⟨tt.toArray⟩, .int .i64 (p : Int)] 30))) := HB1.out.alloc HB1.out.size _
            have c0 : (w1.alloc (.cells #[.int .i64 tk, .int .i64 tg, .int .i64 tn, .string ⟨tt.toArray⟩, .int .i64 (p : Int)] 30)).cell? ⟨w.heap.size, 0, none⟩ = some (.slice a ws.length cap) := by simp [World.cell?, HK2.out.1]
            clear hB1
            simp only [tokV]
            go_wp2_with fail
            refine leaves_cons (f := 36) (args := #[.pointer (some ⟨w.heap.size, 0, none⟩), .pointer (some ⟨w.heap.size + 1, 0, none⟩), .pointer (some ⟨w.heap.size + 2, 0, none⟩)]) (by simp) (by simp [go_sem]) ?_
            refine (catch17 7 (by omega) (p : Int) w.heap.size _ _ _ _ HK2.out.1 HK2.out.2.1 HK2.out.2.2.1).mono ?_
            rintro e u' w'' ⟨rfl, rfl, rfl⟩
            obtain ⟨q0, q1, q2⟩ := res3_put HK2.out (.slice none 0 0) (.int .i64 (p : Int)) (errV 7)
            have HBW : Hid (Below w.heap.size w ((((w1.alloc (.cells #[.int .i64 tk, .int .i64 tg, .int .i64 tn, .string ⟨tt.toArray⟩, .int .i64 (p : Int)] 30)).setCell ⟨w.heap.size, 0, none⟩ (.slice none 0 0)).setCell ⟨w.heap.size + 1, 0, none⟩ (.int .i64 (p : Int))).setCell ⟨w.heap.size + 2, 0, none⟩ (errV 7))) := res3_bel HB2.out _ _ _
            generalize ((((w1.alloc (.cells #[.int .i64 tk, .int .i64 tg, .int .i64 tn, .string ⟨tt.toArray⟩, .int .i64 (p : Int)] 30)).setCell ⟨w.heap.size, 0, none⟩ (.slice none 0 0)).setCell ⟨w.heap.size + 1, 0, none⟩ (.int .i64 (p : Int))).setCell ⟨w.heap.size + 2, 0, none⟩ (errV 7)) = W at *
            simp [Leaves, settle, results, Tryz.results18, go_sem, q0, q1, q2]
            rw [HE.out]
            exact ⟨HBW.out, rfl⟩
          · have tf : ((ws.length : Int) == 200) = false := by rw [beq_eq_false_iff_ne]; omega
            have hl2 := HI.out.2.2.2
            have HE : Hid (lineS (tl s 0) = lineF (tl s (p + n)) (p + n) (ws ++ [(t, p)])) := by
              show _ = _
              rw [HI.out.2.1]
              have h := hbr
              rw [h] at hW
              rw [h, lineF_word hnr hb32 hW.symm _ _ (by omega), ← h, tl_drop]
            clear hW hend hov2 hbr hnr hb32
            obtain ⟨h1, h2, h3, h4⟩ := HA.out (p + n) (by omega)
            go_wp2_with fail
            refine (hov _).mono ?_
            rintro e w' ⟨rfl, rfl⟩
            go_wp2_with fail
            refine HC.mono ?_
            rintro e w1 ⟨hB1, rfl⟩
            have HB1 : Hid (Below w.heap.size w w1) := HBr.out.trans (hB1.mono HBr.out.size)
            have HK1 : Hid (Res3 w1 w.heap.size u) := HK.out.go hB1
            have HO1 : Hid (w1.ownsRow (w.heap.size + 3) 30 5 u ws.length (cl5 (rdA ws))) := own5_go HO.out hB1
            obtain ⟨a, cap, rfl, _⟩ := own5_is (rdA_length ws) HO.out
            obtain ⟨tk, tg, tn, tt⟩ := t
            have hz1' := HB1.out.size
            have hk3 := HK1.out.2.2.2
            have c0 : (w1.alloc (.cells #[.int .i64 tk, .int .i64 tg, .int .i64 tn, .string ⟨tt.toArray⟩, .int .i64 (p : Int)] 30)).cell? ⟨w.heap.size, 0, none⟩ = some (.slice a ws.length cap) := by
              have := HK1.out.go ((Below.refl _ w1).alloc (Nat.le_refl _) (.cells #[.int .i64 tk, .int .i64 tg, .int .i64 tn, .string ⟨tt.toArray⟩, .int .i64 (p : Int)] 30))
              simp [World.cell?, this.1]
            clear hB1
            obtain ⟨y3, hy3⟩ : ∃ y3, y3 = (w1.alloc (.cells #[.int .i64 tk, .int .i64 tg, .int .i64 tn, .string ⟨tt.toArray⟩, .int .i64 (p : Int)] 30)).alloc (.cells #[.int .i64 tk, .int .i64 tg, .int .i64 tn, .string ⟨tt.toArray⟩, .int .i64 (p : Int)] 30) := ⟨_, rfl⟩
            have HY3 : Hid (y3 = (w1.alloc (.cells #[.int .i64 tk, .int .i64 tg, .int .i64 tn, .string ⟨tt.toArray⟩, .int .i64 (p : Int)] 30)).alloc (.cells #[.int .i64 tk, .int .i64 tg, .int .i64 tn, .string ⟨tt.toArray⟩, .int .i64 (p : Int)] 30)) := hy3
            have hB3 : Below w1.heap.size w1 y3 := by rw [hy3]; exact ((Below.refl _ w1).alloc (Nat.le_refl _) _).alloc (by simp) _
            have HO3 : Hid (y3.ownsRow (w.heap.size + 3) 30 5 (.slice a ws.length cap) ws.length (cl5 (rdA ws))) := own5_go HO1.out hB3
            have HK3 : Hid (Res3 y3 w.heap.size (.slice a ws.length cap)) := HK1.out.go hB3
            have HB3 : Hid (Below w.heap.size w y3) := HB1.out.trans (hB3.mono hz1')
            have HH3 : Hid (y3.heap[w1.heap.size + 1]? = some (.cells #[.int .i64 tk, .int .i64 tg, .int .i64 tn, .string ⟨tt.toArray⟩, .int .i64 (p : Int)] 30 (0, 0))) := by rw [hy3]; have h := World.alloc_heap_new (w1.alloc (.cells #[.int .i64 tk, .int .i64 tg, .int .i64 tn, .string ⟨tt.toArray⟩, .int .i64 (p : Int)] 30)) (.cells #[.int .i64 tk, .int .i64 tg, .int .i64 tn, .string ⟨tt.toArray⟩, .int .i64 (p : Int)] 30); rw [World.size_alloc] at h; exact h
            have hsz3 : y3.heap.size = w1.heap.size + 1 + 1 := by rw [hy3]; simp
            clear hB3 hy3
            simp only [tokV]
            go_wp2_with (at_builtin; rw [← HY3.out]; refine wpList_append_lies y3 rfl _ _ 22 rfl (w.heap.size + 3) 30 i0 (.agg #[.int .i64 0, .int .i64 0, .int .i64 0, .string ⟨#[]⟩, .int .i64 0]) 5 48 Tryz.underlying22 hi hz0 hz1 hz2 rfl (by decide) (.slice a ws.length cap) ws.length (cl5 (rdA ws)) rfl HO3.out ⟨w1.heap.size + 1, 0, none⟩ 1 1 [.int .i64 tk, .int .i64 tg, .int .i64 tn, .string ⟨tt.toArray⟩, .int .i64 (p : Int)] rfl rfl (World.news_of_block (cs := #[.int .i64 tk, .int .i64 tg, .int .i64 tn, .string ⟨tt.toArray⟩, .int .i64 (p : Int)]) HH3.out) (by simp [Value.oneCell']) (by decide) (by unfold maxLen; omega) (by omega) (by omega) y3.heap.size rfl ?_; intro g gc y4 hown4 hg4 hw4 hl4; have HK4 : Hid (Res3 y4 w.heap.size (.slice a ws.length cap)) := HK3.out.grow hg4 (own_ge HO3.out); have HB4 : Hid (Below w.heap.size w y4) := HB3.out.grown hg4 (by omega) (fun j hj => by have := own_ge HO3.out j hj; omega); have d0 : y4.cell? ⟨w.heap.size, 0, none⟩ = some (.slice a ws.length cap) := (by simp [World.cell?, HK4.out.1]); have d1 : y4.frozen? ⟨w.heap.size, 0, none⟩ = false := (by simp [World.frozen?, HK4.out.1]))
            refine (blanks_any s (p + n) (by omega) (by omega) _).mono ?_
            rintro e w' ⟨rfl, rfl⟩
            go_wp2_with fail
            refine ⟨⟨abk s.data.toList (p + n), ws ++ [(⟨tk, tg, tn, tt⟩, p)], _, rfl, ⟨h2, by rw [HE.out, h3], h4, by rw [List.length_append, List.length_singleton]; omega⟩, HK4.out.put0 _, ?_, HB4.out.setCell (p := ⟨w.heap.size, 0, none⟩) (Nat.le_refl _) _⟩, ?_⟩
            · have := own5_set hown4 (b := w.heap.size) (by omega) (.slice (some ⟨g, 0, none⟩) (ws.length + 1) gc)
              rw [List.length_append, List.length_singleton, rdA_snoc, cl5_snoc]
              exact this
            · simp [RowKit.intOf]; omega
end Go.Proofs.YtgjgbgllhbdodaaGreatDoor
/-! Lxr: The reference's question whether a text begins so; the statements' question whether two lists of words are the same. -/
namespace Go.Proofs.YtgjgbgllhbdodaaGreatDoor
open Go.RowKit Go.Lib
set_option linter.unusedVariables false

theorem pre_at (p s : ByteArray) (i : Nat) (hl : p.size ≤ s.size - i) (k : Nat) (hk : k ≤ p.size) (h : ∀ j, j < k → bt s (i + j) = bt p j) : (tl p 0).take k <+: tl s i := by
  rw [List.prefix_iff_eq_take]
  have e : ((tl p 0).take k).length = k := by rw [List.length_take, tl_len]; omega
  rw [e]
  apply List.ext_getElem?
  intro j
  rw [List.getElem?_take, List.getElem?_take]
  by_cases hj : j < k
  · rw [if_pos hj, if_pos hj]
    have := h j hj
    unfold bt at this
    have h1 : j < p.data.toList.length := by rw [← size_eq]; omega
    have h2 : i + j < s.data.toList.length := by rw [← size_eq]; omega
    rw [List.getD_eq_getElem?_getD, List.getD_eq_getElem?_getD, List.getElem?_eq_getElem h1, List.getElem?_eq_getElem h2] at this
    unfold tl
    rw [List.drop_zero, List.getElem?_drop, List.getElem?_eq_getElem h1, List.getElem?_eq_getElem h2]
    exact congrArg some (UInt8.toNat_inj.1 this.symm)
  · rw [if_neg hj, if_neg hj]
theorem pre_no (p s : ByteArray) (i k : Nat) (hk : k < p.size) (hl : p.size ≤ s.size - i) (h : bt s (i + k) ≠ bt p k) : (tl p 0).isPrefixOf (tl s i) = false := by
  refine Bool.eq_false_iff.2 fun e => h ?_
  obtain ⟨r, hr⟩ := List.isPrefixOf_iff_prefix.1 e
  have h1 : k < p.data.toList.length := by rw [← size_eq]; omega
  have h2 : (tl p 0 ++ r)[k]? = (tl s i)[k]? := by rw [hr]
  rw [tl_zero, List.getElem?_append_left h1] at h2
  unfold tl at h2
  rw [List.getElem?_drop] at h2
  unfold bt
  rw [List.getD_eq_getElem?_getD, List.getD_eq_getElem?_getD, h2]
theorem pre_short (p s : ByteArray) (i : Nat) (hl : s.size - i < p.size) : (tl p 0).isPrefixOf (tl s i) = false := by
  refine Bool.eq_false_iff.2 fun e => ?_
  have := (List.isPrefixOf_iff_prefix.1 e).length_le
  rw [tl_len, tl_len] at this; omega
/-- A byte of a text, at a place that is told. -/
theorem index_at (s : ByteArray) (i : Nat) (x : Int) (hx : x = (i : Int)) (hi : i < s.size) (w : World) : (Instr.index 9 (.string s) (.int .i64 x)).run Tryz.prog w = .ok (.int .u8 (bt s i)) w := by
  subst hx
  have h := run_index_string (P := Tryz.prog) (w := w) 9 s .i64 (i : Int) Tryz.underlying9
  rw [dif_pos ⟨by omega, by omega⟩] at h
  rw [h]
  have := bt_get s i hi
  simp only [Int.toNat_natCast]
  rw [this]
end Go.Proofs.YtgjgbgllhbdodaaGreatDoor
/-! Lxs: The statements' question whether two lists of words are the same. -/
namespace Go.Proofs.YtgjgbgllhbdodaaGreatDoor
open Go.RowKit Go.Lib Classical
set_option linter.unusedVariables false

theorem IsTk.at {n₀ : Nat} {w : World} {a : Option Addr} {bs : List TkA} (h : IsTk n₀ w a bs) {j : Nat} (hj : j < bs.length) : ∃ g off, a = some ⟨g, off, none⟩ ∧ g < n₀ ∧ ∀ j, j < bs.length → TkC w g (off + j * 5) (tkz bs j) := by
  rcases h with h | h
  · rw [h] at hj; simp at hj
  · exact h
theorem tkz_ext {ts us : List TkA} (h : ts.length = us.length) (he : ∀ j, j < ts.length → tkz ts j = tkz us j) : ts = us := by
  apply List.ext_getElem h
  intro j h1 h2
  have := he j h1
  unfold tkz at this
  rw [List.getD_eq_getElem?_getD, List.getD_eq_getElem?_getD, List.getElem?_eq_getElem h1, List.getElem?_eq_getElem h2] at this
  exact this
theorem tok_neq (x y : TkA) (w : World) : (binOp .neq 30 (.agg #[.int .i64 x.1.kind, .int .i64 x.1.fn, .int .i64 x.1.num, x.s, .int .i64 x.2]) (.agg #[.int .i64 y.1.kind, .int .i64 y.1.fn, .int .i64 y.1.num, y.s, .int .i64 y.2])).run Tryz.prog w = .ok (.bool (decide (x ≠ y))) w := by
  unfold TkA.s
  obtain ⟨⟨k, f, n, t⟩, a⟩ := x
  obtain ⟨⟨k', f', n', t'⟩, a'⟩ := y
  simp [go_sem]
  by_cases h1 : k = k'
  · by_cases h2 : f = f'
    · by_cases h3 : n = n'
      · by_cases h4 : t = t'
        · by_cases h5 : a = a' <;> simp [h1, h2, h3, h4, h5]
        · simp [h1, h2, h3, h4]
      · simp [h1, h2, h3]
    · simp [h1, h2]
  · simp [h1]
theorem tok_same {x y : TkA} (h : x = y) (w : World) : (binOp .neq 30 (.agg #[.int .i64 x.1.kind, .int .i64 x.1.fn, .int .i64 x.1.num, x.s, .int .i64 x.2]) (.agg #[.int .i64 y.1.kind, .int .i64 y.1.fn, .int .i64 y.1.num, y.s, .int .i64 y.2])).run Tryz.prog w = .ok (.bool false) w := by
  rw [tok_neq, decide_eq_false (fun q => q h)]
theorem tok_diff {x y : TkA} (h : x ≠ y) (w : World) : (binOp .neq 30 (.agg #[.int .i64 x.1.kind, .int .i64 x.1.fn, .int .i64 x.1.num, x.s, .int .i64 x.2]) (.agg #[.int .i64 y.1.kind, .int .i64 y.1.fn, .int .i64 y.1.num, y.s, .int .i64 y.2])).run Tryz.prog w = .ok (.bool true) w := by
  rw [tok_neq, decide_eq_true h]
set_option maxRecDepth 100000 in
set_option maxHeartbeats 4000000 in
theorem tokens_any (a : Option Addr) (cap : Nat) (ts : List TkA) (a' : Option Addr) (cap' : Nat) (us : List TkA) (hreach : ts.length ≤ 1000000) (w : World) (hI : IsTk w.heap.size w a ts) (hI' : IsTk w.heap.size w a' us) :
    Calls Tryz.prog 16 #[.slice a ts.length cap, .slice a' us.length cap'] w fun e w' => e = .returned (.bool (decide (ts = us))) ∧ Below w.heap.size w w' := by
  by_cases hlen : ts.length = us.length
  · have hl : ((ts.length : Int) != (us.length : Int)) = false := by simp [hlen]
    have H : Hid (ts.length = us.length) := hlen
    clear hlen
    go_enter Tryz.func16, Tryz.ntmps16
    go_wp2_with fail
    go_loopw [5] (fun i wr => ∃ k : Nat, k ≤ ts.length ∧ i = .int .i64 k ∧ Hid (∀ j, j < k → tkz ts j = tkz us j) ∧ ∃ m, wr = w.drewN m) (fun i _ => ts.length - (RowKit.intOf i).toNat)
    case atStart => exact ⟨0, Nat.zero_le _, rfl, (fun j hj => by omega : ∀ j, j < 0 → tkz ts j = tkz us j), 0, rfl⟩
    case round =>
      obtain ⟨k, hk, rfl, HS, m, rfl⟩ := hrel
      by_cases hlt : k < ts.length
      · obtain ⟨b, off, rfl, hb, hcell⟩ := hI.at hlt
        obtain ⟨b', off', rfl, hb', hcell'⟩ := hI'.at (j := k) (by rw [← H.out]; exact hlt)
        have hlt' : k < us.length := by rw [← H.out]; exact hlt
        obtain ⟨c0, c1, c2, c3, c4⟩ := hcell k hlt
        obtain ⟨d0, d1, d2, d3, d4⟩ := hcell' k hlt'
        clear hcell hcell'
        by_cases he : tkz ts k = tkz us k
        · have hne := tok_same he
          have HE : Hid (∀ j, j < k + 1 → tkz ts j = tkz us j) := fun j hj => by
            rcases Nat.lt_succ_iff_lt_or_eq.1 hj with h | rfl
            · exact HS.out j h
            · exact he
          clear he
          go_wp2_with fail
          go_quiet (fail)
          go_wp2
          go_roundw
          case rel => exact ⟨k + 1, by omega, by go_num, HE, _, rfl⟩
          case measure => simp [RowKit.intOf]; omega
        · have hne := tok_diff he
          have HE : Hid (decide (ts = us) = false) := decide_eq_false (fun e => he (by rw [e]))
          clear he
          go_wp2_with fail
          go_quiet (fail)
          go_wp2
          go_ret
          exact ⟨ret_bool HE.out.symm, bel_drewN (bel_drewN (Below.refl _ _) _) _⟩
      · obtain rfl : k = ts.length := by omega
        have HE : Hid (decide (ts = us) = true) := decide_eq_true (tkz_ext H.out HS.out)
        go_wp2_with fail
        go_ret
        exact ⟨ret_bool HE.out.symm, bel_drewN (Below.refl _ _) _⟩
  · have hl : ((ts.length : Int) != (us.length : Int)) = true := by simp; omega
    have hfin : Hid (decide (ts = us) = false) := decide_eq_false (fun e => hlen (by rw [e]))
    go_enter Tryz.func16, Tryz.ntmps16
    go_wp2_with fail
    go_ret
    exact ⟨ret_bool hfin.out.symm, Below.refl _ _⟩
end Go.Proofs.YtgjgbgllhbdodaaGreatDoor
