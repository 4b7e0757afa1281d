/-
  Lxb Lxt Lxc Lxd Lxe Lxf Lxg Lxh Lxi, together.
-/
import Derived.WalkSmall
import Derived.Test.YtgjgbgllhbdodaaDoorLyp
import Derived.Test.YtgjgbgllhbdodaaDoorLxa
import Derived.Test.YtgjgbgllhbdodaaDoorShelf
import Derived.Laws.Rows
import Derived.Test.YtgjgbgllhbdodaaDoorBas9
import Derived.Lib.OthersKept
import Derived.Laws.RangeString
import Derived.Test.YtgjgbgllhbdodaaDoorLxq
import Derived.Lib.SpaceUEq
import Derived.Laws.DeepStrings4
import Derived.Stop.Asserts
import Derived.Defers
import Derived.Recover
/-! Lxb: The program's ways over blanks; a Name; a Number. -/
namespace Go.Proofs.YtgjgbgllhbdodaaDoor
open Go.RowKit Go.Lib
set_option linter.unusedVariables false

theorem sx_list (s : ByteArray) (i : Nat) : (s.extract i s.size).data.toList = tl s i := extract_to_end s i
theorem sx_size (s : ByteArray) (i : Nat) : (s.extract i s.size).size = s.size - i := by
  rw [size_eq, sx_list, tl, List.length_drop, ← size_eq]
theorem emp_no {t : ByteArray} (h : ¬ t.data.toList = []) : t.toList.isEmpty = false := by
  rw [toList_data]
  cases hx : t.data.toList with
  | nil => exact absurd hx h
  | cons b r => rfl
theorem mk_list (l : List UInt8) : (⟨l.toArray⟩ : ByteArray).data.toList = l := rfl
theorem enD : ∀ args w, (callFunc 49 args).run Tryd.prog w = .ok (.enter 49 args) w := enters_of Tryd.func49 (by kernel_rfl) rfl
theorem enP : ∀ args w, (callFunc 39 args).run Tryd.prog w = .ok (.enter 39 args) w := enters_of Tryd.func39 (by kernel_rfl) rfl
theorem tkw_D (l : List UInt8) : (l.takeWhile fun b => dgI (b.toNat : Int)) = l.takeWhile isDg := by
  congr 1; funext b; exact dgI_is b
theorem tkw_P (l : List UInt8) : (l.takeWhile fun b => ptI (b.toNat : Int)) = l.takeWhile isPt := by
  congr 1; funext b; exact ptI_is b
theorem leadD (t : ByteArray) (ht : t.size ≤ 9223372036854775807) (w : World) :
    Calls Tryd.prog 38 #[.string t, .func (.func 49) #[] #[]] w fun e w' => e = .returned (.string ⟨(t.data.toList.takeWhile isDg).toArray⟩) ∧ w' = w := by
  rw [← tkw_D]; exact lead_any dgI _ enD dig_any t ht w
theorem leadP (t : ByteArray) (ht : t.size ≤ 9223372036854775807) (w : World) :
    Calls Tryd.prog 38 #[.string t, .func (.func 39) #[] #[]] w fun e w' => e = .returned (.string ⟨(t.data.toList.takeWhile isPt).toArray⟩) ∧ w' = w := by
  rw [← tkw_P]; exact lead_any ptI _ enP part_any t ht w
/-- A word's value. -/
def tokV (t : Tk) (i : Nat) : Value := .agg #[.int .i64 t.kind, .int .i64 t.fn, .int .i64 t.num, .string ⟨t.text.toArray⟩, .int .i64 (i : Int)]
/-- The type that a wrong word panics with, by what is wrong. -/
def errT (e : Int) : Nat := if e = 1 then 57 else if e = 6 then 58 else 50
def panV (T : Nat) (i : Nat) : Ending := .panicked [{ v := .iface T (.int .i64 (i : Int)), recovered := false }]
/-- What reading a word ends with. -/
def WdP (W : Wd) (i : Nat) (w : World) (e : Ending) (w' : World) : Prop :=
  Below w.heap.size w w' ∧ match W with
    | Except.ok (t, n) => e = .returned (.tuple #[tokV t i, .int .i64 ((i + n : Nat) : Int)])
    | Except.error c => e = panV (errT c) i
end Go.Proofs.YtgjgbgllhbdodaaDoor
/-! Lxt: A block that holds a word: its five fields. -/
namespace Go.Proofs.YtgjgbgllhbdodaaDoor
open Go.RowKit
set_option linter.unusedVariables false

def cellsT (a b c d e : Value) : Array Value := #[a, b, c, d, e]
/-- A block holds these five values, a word's. -/
def Tbx (w : World) (n : Nat) (a b c d e : Value) : Prop := w.heap[n]? = some (.cells (cellsT a b c d e) 30 (0, 0))
section
variable {w : World} {n : Nat} {a b c d e : Value}
theorem Tbx.c0 (h : Tbx w n a b c d e) : w.cell? ⟨n, 0, none⟩ = some a := by unfold Tbx at h; simp [World.cell?, h, cellsT]
theorem Tbx.c1 (h : Tbx w n a b c d e) : w.cell? ⟨n, 1, none⟩ = some b := by unfold Tbx at h; simp [World.cell?, h, cellsT]
theorem Tbx.c2 (h : Tbx w n a b c d e) : w.cell? ⟨n, 2, none⟩ = some c := by unfold Tbx at h; simp [World.cell?, h, cellsT]
theorem Tbx.c3 (h : Tbx w n a b c d e) : w.cell? ⟨n, 3, none⟩ = some d := by unfold Tbx at h; simp [World.cell?, h, cellsT]
theorem Tbx.c4 (h : Tbx w n a b c d e) : w.cell? ⟨n, 4, none⟩ = some e := by unfold Tbx at h; simp [World.cell?, h, cellsT]
theorem Tbx.fr (h : Tbx w n a b c d e) (i : Nat) : w.frozen? ⟨n, i, none⟩ = false := by unfold Tbx at h; simp [World.frozen?, h]
theorem Tbx.lt (h : Tbx w n a b c d e) : n < w.heap.size := by
  obtain ⟨hlt, _⟩ := Array.getElem?_eq_some_iff.1 h
  exact hlt
theorem Tbx.of {w' : World} (h : Tbx w n a b c d e) (q : w'.heap[n]? = w.heap[n]?) : Tbx w' n a b c d e := q.trans h
theorem Tbx.bel {w' : World} {B : Nat} (h : Tbx w n a b c d e) (hB : Below B w w') (hb : n < B) : Tbx w' n a b c d e := h.of (hB.block n hb)
/-- What a call that makes memory alone leaves. -/
theorem Tbx.go {w' : World} (h : Tbx w n a b c d e) (hB : Below w.heap.size w w') : Tbx w' n a b c d e := h.bel hB h.lt
theorem Tbx.al (h : Tbx w n a b c d e) (o : Obj) : Tbx (w.alloc o) n a b c d e := h.of (Below.heap_alloc w o n h.lt)
theorem Tbx.new (w : World) (a b c d e : Value) : Tbx (w.alloc (.cells #[a, b, c, d, e] 30)) w.heap.size a b c d e := (MapKept.heap_alloc w _).1
theorem Tbx.ot (h : Tbx w n a b c d e) {p : Addr} (hp : n ≠ p.block) (v : Value) : Tbx (w.setCell p v) n a b c d e := h.of (Below.heap_setCell w p v n hp)
theorem Tbx.s0 (h : Tbx w n a b c d e) (v : Value) : Tbx (w.setCell ⟨n, 0, none⟩ v) n v b c d e := by unfold Tbx at *; simp [World.setCell, Array.getElem?_modify, h, cellsT]
theorem Tbx.s1 (h : Tbx w n a b c d e) (v : Value) : Tbx (w.setCell ⟨n, 1, none⟩ v) n a v c d e := by unfold Tbx at *; simp [World.setCell, Array.getElem?_modify, h, cellsT]
theorem Tbx.s2 (h : Tbx w n a b c d e) (v : Value) : Tbx (w.setCell ⟨n, 2, none⟩ v) n a b v d e := by unfold Tbx at *; simp [World.setCell, Array.getElem?_modify, h, cellsT]
theorem Tbx.s3 (h : Tbx w n a b c d e) (v : Value) : Tbx (w.setCell ⟨n, 3, none⟩ v) n a b c v e := by unfold Tbx at *; simp [World.setCell, Array.getElem?_modify, h, cellsT]
theorem Tbx.s4 (h : Tbx w n a b c d e) (v : Value) : Tbx (w.setCell ⟨n, 4, none⟩ v) n a b c d v := by unfold Tbx at *; simp [World.setCell, Array.getElem?_modify, h, cellsT]
/-- All five fields written, in their order. -/
theorem Tbx.set5 (h : Tbx w n a b c d e) (a' b' c' d' e' : Value) : Tbx (((((w.setCell ⟨n, 0, none⟩ a').setCell ⟨n, 1, none⟩ b').setCell ⟨n, 2, none⟩ c').setCell ⟨n, 3, none⟩ d').setCell ⟨n, 4, none⟩ e') n a' b' c' d' e' := ((((h.s0 a').s1 b').s2 c').s3 d').s4 e'
end
theorem bel_set5 {B b : Nat} {v w : World} (h : Below B v w) (hb : B ≤ b) (a' b' c' d' e' : Value) : Below B v (((((w.setCell ⟨b, 0, none⟩ a').setCell ⟨b, 1, none⟩ b').setCell ⟨b, 2, none⟩ c').setCell ⟨b, 3, none⟩ d').setCell ⟨b, 4, none⟩ e') :=
  ((((h.setCell (p := ⟨b, 0, none⟩) hb _).setCell (p := ⟨b, 1, none⟩) hb _).setCell (p := ⟨b, 2, none⟩) hb _).setCell (p := ⟨b, 3, none⟩) hb _).setCell (p := ⟨b, 4, none⟩) hb _
end Go.Proofs.YtgjgbgllhbdodaaDoor
/-! Lxc: The program reads a Number. -/
namespace Go.Proofs.YtgjgbgllhbdodaaDoor
open Go.RowKit Go.Lib
set_option linter.unusedVariables false

theorem neg_list (q : List UInt8) : ((⟨#[45]⟩ : ByteArray) ++ (⟨q.toArray⟩ : ByteArray)).data.toList = 45 :: q := by
  rw [ByteArray.data_append]; simp
theorem nil_list (t : ByteArray) : ((⟨#[]⟩ : ByteArray) ++ t).data.toList = t.data.toList := by
  rw [ByteArray.data_append]; simp
theorem neg_size (q : List UInt8) : ((⟨#[45]⟩ : ByteArray) ++ (⟨q.toArray⟩ : ByteArray)).size = q.length + 1 := by
  rw [size_eq, neg_list]; rfl
/-- What reading a Number tells, by its sign and its digits. -/
def numW (m : Bool) (q : List UInt8) : Wd := if q = [] then .bad 1 else numS m q ((if m = true then 2 else 0) + q.length)
end Go.Proofs.YtgjgbgllhbdodaaDoor
/-! Lxd: The program finds a sign among signs, and reads a word that is one. -/
namespace Go.Proofs.YtgjgbgllhbdodaaDoor
open Go.RowKit Go.Lib
set_option linter.unusedVariables false

theorem tabs_go {g a : Nat} {w w' : World} (h : Lib.Utf8Tabs g a w) (hB : Below w.heap.size w w') : Lib.Utf8Tabs g a w' := by
  have h1 := World.block_lt_of_cell? w _ (h.1 0 (by decide))
  have h2 := World.block_lt_of_cell? w _ (h.2 0 (by decide)).1
  exact ⟨fun c hc => (hB.cell (p := ⟨_, c, none⟩) h1).trans (h.1 c hc), fun i hi => ⟨(hB.cell (p := ⟨_, 2 * i, none⟩) h2).trans (h.2 i hi).1, (hB.cell (p := ⟨_, 2 * i + 1, none⟩) h2).trans (h.2 i hi).2⟩⟩
set_option maxRecDepth 100000 in
theorem gly_const : validD glyB.flatten = true ∧ runesL glyB.flatten = glyR := by decide +kernel
set_option maxRecDepth 100000 in
theorem sgn_const : validD sgnB.flatten = true ∧ runesL sgnB.flatten = sgnR := by decide +kernel
theorem dec_any (t : ByteArray) (ht : t.data.toList ≠ []) (w : World) (hT : Lib.Utf8Tabs (Tryd.laysValid_ren.g 3) (Tryd.laysValid_ren.g 4) w) :
    Calls Tryd.prog 44 #[.string t] w fun e w' => e = .returned (.tuple #[.int .i32 ((decodeL t.data.toList).1 : Int), .int .i64 ((decodeL t.data.toList).2 : Int)]) ∧ Below w.heap.size w w' := by
  have h := Tryd.utf8_DecodeRuneInString t w hT
  have e : decodeGo t = decodeL t.data.toList := by
    unfold decodeGo
    rw [if_neg (fun q => ht (List.length_eq_zero_iff.1 (by rw [← size_eq]; exact q)))]
    exact (decodeL_drop t 0).symm
  rw [e] at h
  exact h
end Go.Proofs.YtgjgbgllhbdodaaDoor
/-! Lxe: May a text stand between quotes? And the program reads Chars. -/
namespace Go.Proofs.YtgjgbgllhbdodaaDoor
open Go.RowKit Go.Lib
set_option linter.unusedVariables false

theorem dec_low (n b0 b1 b2 b3 : Nat) : ((decodeN n b0 b1 b2 b3).1 < 32 → b0 < 32) ∧ (¬ (decodeN n b0 b1 b2 b3).1 < 32 → 32 ≤ b0) := by
  unfold decodeN
  repeat' split
  all_goals (simp only; omega)
/-- Behind a character that is not below 32 no byte is. -/
theorem low_step {s : ByteArray} {i : Nat} (hi : i < s.size) :
    ((decodeL (tl s i)).1 < 32 → bt s i < 32) ∧ (¬ (decodeL (tl s i)).1 < 32 → ∀ q, q < (decodeL (tl s i)).2 → 32 ≤ bt s (i + q)) := by
  rw [tl_dec]
  have h1 := dec_low (s.size - i) (bt s i) (bt s (i + 1)) (bt s (i + 2)) (bt s (i + 3))
  have h2 := decodeN_conts (s.size - i) (bt s i) (bt s (i + 1)) (bt s (i + 2)) (bt s (i + 3))
  refine ⟨h1.1, fun h q hq => ?_⟩
  have h3 := h1.2 h
  generalize (decodeN (s.size - i) (bt s i) (bt s (i + 1)) (bt s (i + 2)) (bt s (i + 3))).2 = k at *
  rcases (by omega : q = 0 ∨ q = 1 ∨ q = 2 ∨ q = 3) with rfl | rfl | rfl | rfl
  · exact h3
  · have := (h2.1 (by omega)).1; omega
  · have := (h2.2.1 (by omega)).1; omega
  · have := (h2.2.2.1 (by omega)).1; omega
theorem qbl_no {s : ByteArray} {i : Nat} (hi : i < s.size) (h : bt s i < 32) : qbl (tl s 0) = false := by
  unfold qbl
  have hl : i < s.data.toList.length := by rw [← size_eq]; exact hi
  have : (tl s 0).all (fun b => decide (32 ≤ b.toNat)) = false := by
    rw [tl_zero, List.all_eq_false]
    refine ⟨s.data.toList[i], List.getElem_mem hl, ?_⟩
    have e : bt s i = (s.data.toList[i]).toNat := by unfold bt; rw [List.getD_eq_getElem?_getD, List.getElem?_eq_getElem hl]; rfl
    rw [e] at h
    rw [decide_eq_false (by omega)]; exact Bool.false_ne_true
  rw [this, Bool.and_false]
theorem qbl_yes {s : ByteArray} (h : ∀ j, j < s.size → 32 ≤ bt s j) : qbl (tl s 0) = validD (tl s 0) := by
  unfold qbl
  have : (tl s 0).all (fun b => decide (32 ≤ b.toNat)) = true := by
    rw [tl_zero, List.all_eq_true]
    intro b hb
    obtain ⟨j, hj, rfl⟩ := List.getElem_of_mem hb
    have := h j (by rw [size_eq]; exact hj)
    unfold bt at this
    rw [List.getD_eq_getElem?_getD, List.getElem?_eq_getElem hj] at this
    exact decide_eq_true this
  rw [this, Bool.and_true]
theorem valid17 (s : ByteArray) (w : World) (hs : s.size ≤ 9223372036854775807) (hT : Lib.Utf8Tabs (Tryd.laysValid_ren.g 3) (Tryd.laysValid_ren.g 4) w) :
    Calls Tryd.prog 36 #[.string s] w fun e w' => e = .returned (.bool (validD (tl s 0))) ∧ Below w.heap.size w w' :=
  Any.utf8_ValidString Tryd.laysValid s w hs hT
set_option maxRecDepth 100000 in
set_option maxHeartbeats 4000000 in
theorem arec_any (s : ByteArray) (hs : s.size ≤ 9223372036854775807) (w : World) (hT : Lib.Utf8Tabs (Tryd.laysValid_ren.g 3) (Tryd.laysValid_ren.g 4) w) :
    Calls Tryd.prog 24 #[.string s] w fun e w' => e = .returned (.bool (qbl (tl s 0))) ∧ Below w.heap.size w w' := by
  have HT : Hid (Lib.Utf8Tabs (Tryd.laysValid_ren.g 3) (Tryd.laysValid_ren.g 4) w) := hT
  clear hT
  go_enter Tryd.func24, Tryd.ntmps24
  go_wp2_with fail
  go_loopw [4] (fun _ wr => ∃ pos : Nat, pos ≤ s.size ∧ Hid (∀ j, j < pos → 32 ≤ bt s j) ∧ wr.heap[w.heap.size]? = some (.stringIter s pos) ∧ Below w.heap.size w wr) (fun _ wr => s.size - wr.iterPos w.heap.size)
  case atStart =>
    exact ⟨0, Nat.zero_le _, (fun j hj => by omega : ∀ j, j < 0 → 32 ≤ bt s j), World.iter_heap w s 0, (Below.refl _ w).alloc (Nat.le_refl _) _⟩
  case round =>
    obtain ⟨pos, hpl, HL, hit, hB⟩ := hrel
    have HB : Hid (Below w.heap.size w wr) := hB
    clear hB
    by_cases hp : pos < s.size
    · have hnx : ∀ ty, (Instr.next (.pointer (some ⟨w.heap.size, 0, none⟩)) true ty).run Tryd.prog wr = _ := fun ty => Lib.run_next_any_at wr w.heap.size s pos ty hit hp
      rw [← tl_utf] at hnx
      have hst := low_step (s := s) hp
      have hwd := decodeL_le (tl s pos) (tl_ne hp)
      have hw1 := decodeL_width (tl s pos)
      rw [show (tl s pos).length = s.size - pos by rw [tl, List.length_drop, ← size_eq]] at hwd
      generalize (decodeL (tl s pos)).1 = c at *
      generalize (decodeL (tl s pos)).2 = m at *
      have hit2 := Lib.iterAt_heap wr w.heap.size s pos (pos + m) hit
      have hB2 : Hid (Below w.heap.size w (wr.iterAt w.heap.size s (pos + m))) := Lib.below_iterAt HB.out (k := w.heap.size) (Nat.le_refl _) s (pos + m)
      have HI : Hid (wr.heap[w.heap.size]? = some (.stringIter s pos)) := hit
      clear hit
      obtain ⟨wi, hwi⟩ : ∃ wi, wi = wr.iterAt w.heap.size s (pos + m) := ⟨_, rfl⟩
      rw [← hwi] at hnx hit2 hB2
      clear hwi
      by_cases he : c < 32
      · have HE : Hid (qbl (tl s 0) = false) := qbl_no hp (hst.1 he)
        have te : (c : Int) < 32 := by omega
        clear hst
        go_wp2_with fail
        go_ret
        exact ⟨ret_bool HE.out.symm, hB2.out⟩
      · have HE : Hid (∀ j, j < pos + m → 32 ≤ bt s j) := fun j hj => by
          by_cases hjp : j < pos
          · exact HL.out j hjp
          · have := hst.2 he (j - pos) (by omega)
            rw [show pos + (j - pos) = j by omega] at this; exact this
        have te : ¬ (c : Int) < 32 := by omega
        clear hst
        go_wp2_with fail
        refine ⟨⟨pos + m, by omega, HE, hit2, hB2.out⟩, ?_⟩
        simp only [World.iterPos, hit2, HI.out]
        omega
    · have hnx : ∀ ty, (Instr.next (.pointer (some ⟨w.heap.size, 0, none⟩)) true ty).run Tryd.prog wr = _ := fun ty => Lib.run_next_end_at wr w.heap.size s pos ty hit hp
      have HE : Hid (qbl (tl s 0) = validD (tl s 0)) := qbl_yes (fun j hj => HL.out j (by omega))
      go_wp2_with fail
      refine (valid17 s _ hs (tabs_go HT.out HB.out)).mono ?_
      rintro e w2 ⟨rfl, hB2⟩
      go_wp2_with fail
      go_ret
      exact ⟨ret_bool HE.out.symm, HB.out.trans (hB2.mono HB.out.size)⟩
end Go.Proofs.YtgjgbgllhbdodaaDoor
/-! Lxf: A builder that holds bytes; and the program reads Chars. -/
namespace Go.Proofs.YtgjgbgllhbdodaaDoor
open Go.RowKit Go.Lib
set_option linter.unusedVariables false

/-- A builder of the call's own holds these bytes. -/
def Bld (w : World) (B b : Nat) (l : List UInt8) : Prop := IsBuilderF 63 5 B b (byteCells l) w
theorem Bld.new (w : World) : Bld (w.alloc (.cells #[.pointer none, .slice none 0 0] 63)) w.heap.size w.heap.size [] := IsBuilderF.of (fresh_isBuilder _ _ w)
theorem Bld.al {w : World} {B b : Nat} {l : List UInt8} (h : Bld w B b l) (o : Obj) : Bld (w.alloc o) B b l := IsBuilderF.alloc h o
theorem bld_write {w : World} {B b : Nat} {l : List UInt8} (h : Bld w B b l) (t : ByteArray) (hl : l.length ≤ 10000000) (ht : t.size ≤ 10000000) (hB : B ≤ w.heap.size) :
    Calls Tryd.prog 16 #[.pointer (some ⟨b, 0, none⟩), .string t] w fun e w' => e = .returned (.tuple #[.int .i64 t.size, .nilIface]) ∧ Bld w' B b (l ++ t.data.toList) ∧ Below B w w' := by
  refine (Any.Builder_WriteString_f { Tryd.lays154 with } Tryd.Builder_Extra_154 B b (byteCells l) t w h (by rw [byteCells_length]; omega) hB).mono ?_
  rintro e w' ⟨rfl, h1, h2⟩
  refine ⟨rfl, .inr ?_, h2⟩
  rw [byteCells_append, ← strCells_eq]; exact h1
theorem bld_str {w : World} {B b : Nat} {l : List UInt8} (h : Bld w B b l) (hB : B ≤ w.heap.size) :
    Calls Tryd.prog 19 #[.pointer (some ⟨b, 0, none⟩)] w fun e w' => e = .returned (.string ⟨l.toArray⟩) ∧ Bld w' B b l ∧ Below B w w' :=
  Tryd.Builder_String_any_f B b l w h hB
theorem chrS_none {l : List UInt8} (h : qt l = none) : chrS l = .bad 1 := by unfold chrS; rw [h]
theorem chrS_some {l t : List UInt8} {n : Nat} (h : qt l = some (t, n)) : chrS l = if qbl t = true then .ok ⟨2, 0, 0, t⟩ (n + 1) else .bad 1 := by unfold chrS; rw [h]
/-- What has been read of Chars up to a quote. -/
def Qd (s : ByteArray) (i p : Nat) (txt : List UInt8) : Prop :=
  i ≤ p ∧ p < s.size ∧ txt.length ≤ p ∧ qt (tl s (i + 1)) = (qt (tl s (p + 1))).map (fun x => (txt ++ x.1, p - i + x.2))
theorem Qd.zero {s : ByteArray} {i : Nat} (hi : i < s.size) : Qd s i i [] := by
  refine ⟨Nat.le_refl _, hi, by simp, ?_⟩
  rw [Nat.sub_self]
  cases qt (tl s (i + 1)) with
  | none => rfl
  | some x => rw [Option.map_some, List.nil_append, Nat.zero_add]
theorem tl_len (s : ByteArray) (i : Nat) : (tl s i).length = s.size - i := by rw [tl, List.length_drop, ← size_eq]
theorem Qd.no {s : ByteArray} {i p : Nat} {txt : List UInt8} (h : Qd s i p txt) (hi : indexByte (tl s (p + 1)) 39 = -1) : chrS (tl s (i + 1)) = .bad 1 := by
  refine chrS_none ?_
  rw [h.2.2.2, qt_none _ (idx_no _ hi)]; rfl
theorem tl_cons {s : ByteArray} {i : Nat} (h : i < s.size) : tl s i = (s.data.toList.getD i 0) :: tl s (i + 1) := by
  unfold tl
  have hl : i < s.data.toList.length := by rw [← size_eq]; exact h
  rw [List.drop_eq_getElem_cons hl, List.getD_eq_getElem?_getD, List.getElem?_eq_getElem hl]; rfl
/-- The next quote: it is the last one, or one of two. -/
theorem Qd.step {s : ByteArray} {i p : Nat} {txt : List UInt8} (h : Qd s i p txt) {k : Nat} (hk : indexByte (tl s (p + 1)) 39 = (k : Int)) :
    p + 1 + k < s.size ∧
    (hasPrefix (tl s (p + 1 + (k + 1))) [39] = true → Qd s i (p + 1 + (k + 1)) ((txt ++ (tl s (p + 1)).take k) ++ [39])) ∧
    (hasPrefix (tl s (p + 1 + (k + 1))) [39] = false → chrS (tl s (i + 1)) = if qbl (txt ++ (tl s (p + 1)).take k) = true then .ok ⟨2, 0, 0, txt ++ (tl s (p + 1)).take k⟩ (p + 1 + (k + 1) - i) else .bad 1) := by
  obtain ⟨h1, h2, h3, h4⟩ := h
  obtain ⟨y1, y2, y3⟩ := idx_yes _ k hk
  rw [tl_len] at y1
  have hs := qt_skip k (tl s (p + 1)) (by rw [tl_len]; omega) y2
  rw [tl_drop] at hs
  have hc := tl_cons (s := s) (i := p + 1 + k) (by omega)
  have hb : (s.data.toList.getD (p + 1 + k) 0).toNat = 39 := by
    unfold tl at y3
    rw [List.getD_eq_getElem?_getD, List.getElem?_drop] at y3
    rw [List.getD_eq_getElem?_getD]; exact y3
  rw [show p + 1 + k + 1 = p + 1 + (k + 1) by omega] at hc
  have hlt : ((tl s (p + 1)).take k).length = k := by rw [List.length_take, tl_len]; omega
  refine ⟨by omega, fun hp => ?_, fun hp => ?_⟩
  · cases hq : tl s (p + 1 + (k + 1)) with
    | nil => rw [hq] at hp; cases hp
    | cons c r =>
      rw [hq] at hp hc
      have hc39 : c = 39 := by
        have : ((39 : UInt8) == c && true) = true := by unfold hasPrefix at hp; simpa [List.isPrefixOf] using hp
        rw [Bool.and_true, beq_iff_eq] at this; exact this.symm
      have hlen : p + 1 + (k + 1) < s.size := by
        have := congrArg List.length hq
        rw [tl_len, List.length_cons] at this; omega
      have hr : r = tl s (p + 1 + (k + 1) + 1) := by
        have := tl_cons hlen
        rw [hq] at this
        exact (List.cons.inj this).2
      refine ⟨by omega, hlen, by rw [List.length_append, List.length_append, hlt, List.length_singleton]; omega, ?_⟩
      rw [h4, hs, hc, qt_two hb (by rw [hc39]; rfl), ← hr]
      cases qt r with
      | none => rfl
      | some x =>
        simp only [Option.map_some]
        rw [show p - i + (k + (x.2 + 2)) = p + 1 + (k + 1) - i + x.2 by omega]
        simp
  · have hend : qt (tl s (p + 1 + k)) = some ([], 1) := by
      rw [hc]
      cases hq : tl s (p + 1 + (k + 1)) with
      | nil => exact qt_one hb
      | cons c r =>
        rw [hq] at hp
        refine qt_end hb fun e => ?_
        have : c = 39 := u8_eq e
        subst this
        exact absurd hp (by unfold hasPrefix; simp [List.isPrefixOf])
    have he : qt (tl s (i + 1)) = some (txt ++ (tl s (p + 1)).take k, p - i + (k + 1)) := by
      rw [h4, hs, hend]
      simp only [Option.map_some, List.append_nil]
    rw [chrS_some he, show p - i + (k + 1) + 1 = p + 1 + (k + 1) - i by omega]
end Go.Proofs.YtgjgbgllhbdodaaDoor
/-! Lxg: The program reads Chars. -/
namespace Go.Proofs.YtgjgbgllhbdodaaDoor
open Go.RowKit Go.Lib
set_option linter.unusedVariables false

theorem Bld.go {w w' : World} {B b : Nat} {l : List UInt8} (h : Bld w B b l) (hB : Below w.heap.size w w') : Bld w' B b l := by
  have lt : ∀ {j : Nat} {o : Obj}, w.heap[j]? = some o → j < w.heap.size := fun h => by
    obtain ⟨hlt, _⟩ := Array.getElem?_eq_some_iff.1 h
    exact hlt
  have one : ∀ p : Value, BuilderAtF 63 5 B b p (byteCells l) w → BuilderAtF 63 5 B b p (byteCells l) w' := by
    rintro p ⟨h1, v, h2, ⟨h3, h4⟩, h5⟩
    refine ⟨h1, v, (hB.block b (lt h2)).trans h2, ⟨h3, ?_⟩, h5⟩
    rcases h4 with h4 | ⟨g, cap, cur, fz, e1, e2, e3, e4⟩
    · exact .inl h4
    · exact .inr ⟨g, cap, cur, fz, e1, e2, (hB.block g (lt e3)).trans e3, e4⟩
  rcases h with h | h
  · exact .inl (one _ h)
  · exact .inr (one _ h)
end Go.Proofs.YtgjgbgllhbdodaaDoor
/-! Lxh: The program reads a word. -/
namespace Go.Proofs.YtgjgbgllhbdodaaDoor
open Go.RowKit Go.Lib
set_option linter.unusedVariables false

theorem word_num {l : List UInt8} (h : minusB.isPrefixOf l = true) : wordS l = numW true ((l.drop 2).takeWhile isDg) := by
  obtain ⟨r, rfl⟩ := minus_split h
  exact wordS_minus r
theorem word_dig {b : UInt8} {r : List UInt8} (h : minusB.isPrefixOf (b :: r) = false) (hd : isDg b = true) : wordS (b :: r) = numW false ((b :: r).takeWhile isDg) := by
  rw [wordS_cons h, if_pos hd]
  unfold numW
  have := tk_pos (p := isDg) (r := r) hd
  rw [if_neg (fun e => by rw [e] at this; simp at this), if_neg Bool.false_ne_true, Nat.zero_add]
theorem word_err {l : List UInt8} {c : Int} (h : wordS l = .bad c) : c = 1 ∨ c = 6 ∨ c = 7 := by
  have num : ∀ {m : Bool} {ds : List UInt8} {k : Nat}, numS m ds k = .bad c → c = 1 ∨ c = 6 ∨ c = 7 := by
    intro m ds k h
    unfold numS at h
    by_cases hc : (if m = true then dgA 0 ds ≤ 9223372036854775808 else dgA 0 ds < 9223372036854775808)
    · rw [if_pos hc] at h; cases h
    · rw [if_neg hc] at h; cases h; omega
  have chr : ∀ {l : List UInt8}, chrS l = .bad c → c = 1 ∨ c = 6 ∨ c = 7 := by
    intro l h
    unfold chrS at h
    split at h
    · cases h; omega
    · split at h
      · cases h
      · cases h; omega
  have sig : ∀ {l : List UInt8}, sigS l = .bad c → c = 1 ∨ c = 6 ∨ c = 7 := by
    intro l h
    unfold sigS at h
    split at h
    · cases h
    · split at h
      · cases h
      · cases h; omega
  unfold wordS at h
  split at h
  · split at h
    · cases h; omega
    · exact num h
  · split at h
    · cases h; omega
    · split at h
      · exact num h
      · split at h
        · split at h
          · cases h; omega
          · cases h
        · split at h
          · exact chr h
          · exact sig h
end Go.Proofs.YtgjgbgllhbdodaaDoor
/-! Lxi: What a wrong word panicked with is told; the deferred call of Read. -/
namespace Go.Proofs.YtgjgbgllhbdodaaDoor
open Go.RowKit Go.Lib
set_option linter.unusedVariables false

theorem ta_hit {P : Program} {S x : TypeId} (v : Value) (w : World) (hu : P.underlying S = some (.int .i64)) :
    (Instr.typeAssert (.iface S v) x S true).run P w = .ok (.tuple #[v, .bool true]) w := by
  simp [Instr.typeAssert, run_underlying hu, Sem.run_bind, Result.andThen]
theorem ta_miss {P : Program} {S T x : TypeId} (v : Value) (w : World) (hu : P.underlying S = some (.int .i64)) (hz : (zeroValue S).run P w = .ok (.int .i64 0) w) (h : T ≠ S) :
    (Instr.typeAssert (.iface T v) x S true).run P w = .ok (.tuple #[.int .i64 0, .bool false]) w := by
  simp [Instr.typeAssert, run_underlying hu, hz, h, Sem.run_bind, Result.andThen]
set_option maxRecDepth 100000 in
set_option maxHeartbeats 2000000 in
theorem told_any17 (c : Int) (hc : c = 1 ∨ c = 6 ∨ c = 7) (n : Int) (w : World) :
    Calls Tryd.prog 10 #[.iface (errT c) (.int .i64 n)] w fun e w' => e = .returned (.tuple #[.int .i64 n, errV c]) ∧ w' = w := by
  rcases hc with rfl | rfl | rfl
  · have h1 := fun w => ta_hit (P := Tryd.prog) (S := 57) (x := 20) (.int .i64 n) w Tryd.underlying57
    simp only [errT]
    go_enter Tryd.func10, Tryd.ntmps10
    go_wp2_with fail
    exact bodyPost_ret (v := .tuple #[.int .i64 n, errV 1]) (by simp [results, Tryd.results10, go_sem, errV]) rfl ⟨rfl, rfl⟩
  · have h1 := fun w => ta_miss (P := Tryd.prog) (S := 57) (T := 58) (x := 20) (.int .i64 n) w Tryd.underlying57 (Tryd.zeroValue57 w) (by decide)
    have h2 := fun w => ta_hit (P := Tryd.prog) (S := 58) (x := 20) (.int .i64 n) w Tryd.underlying58
    simp only [errT]
    go_enter Tryd.func10, Tryd.ntmps10
    go_wp2_with fail
    exact bodyPost_ret (v := .tuple #[.int .i64 n, errV 6]) (by simp [results, Tryd.results10, go_sem, errV]) rfl ⟨rfl, rfl⟩
  · have h1 := fun w => ta_miss (P := Tryd.prog) (S := 57) (T := 50) (x := 20) (.int .i64 n) w Tryd.underlying57 (Tryd.zeroValue57 w) (by decide)
    have h2 := fun w => ta_miss (P := Tryd.prog) (S := 58) (T := 50) (x := 20) (.int .i64 n) w Tryd.underlying58 (Tryd.zeroValue58 w) (by decide)
    have h3 := fun w => ta_hit (P := Tryd.prog) (S := 50) (x := 20) (.int .i64 n) w Tryd.underlying50
    simp only [errT]
    go_enter Tryd.func10, Tryd.ntmps10
    go_wp2_with fail
    exact bodyPost_ret (v := .tuple #[.int .i64 n, errV 7]) (by simp [results, Tryd.results10, go_sem, errV]) rfl ⟨rfl, rfl⟩
end Go.Proofs.YtgjgbgllhbdodaaDoor
