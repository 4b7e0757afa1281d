/-
  Lxb Lxt Lxc Lxd Lxe Lxf Lxg Lxh Lxi, together.
-/
import Derived.WalkSmall
import Derived.Test.YtgjgbgllhbdodaaGreatDoorLyp
import Derived.Test.YtgjgbgllhbdodaaGreatDoorLxa
import Derived.Test.YtgjgbgllhbdodaaGreatDoorShelf
import Derived.Laws.Rows
import Derived.Test.YtgjgbgllhbdodaaGreatDoorBas9
import Derived.Lib.OthersKept
import Derived.Laws.RangeString
import Derived.Test.YtgjgbgllhbdodaaGreatDoorLxq
import Derived.Lib.SpaceUEq
import Derived.Laws.DeepStrings4
import Derived.Stop.Asserts
import Derived.Defers
import Derived.Recover
/-! Lxb: The program's ways over blanks; a Name; a Number. -/
namespace Go.Proofs.YtgjgbgllhbdodaaGreatDoor
open Go.RowKit Go.Lib
set_option linter.unusedVariables false

theorem sx_list (s : ByteArray) (i : Nat) : (s.extract i s.size).data.toList = tl s i := extract_to_end s i
theorem sx_size (s : ByteArray) (i : Nat) : (s.extract i s.size).size = s.size - i := by
  rw [size_eq, sx_list, tl, List.length_drop, ← size_eq]
theorem emp_no {t : ByteArray} (h : ¬ t.data.toList = []) : t.toList.isEmpty = false := by
  rw [toList_data]
  cases hx : t.data.toList with
  | nil => exact absurd hx h
  | cons b r => rfl
theorem mk_list (l : List UInt8) : (⟨l.toArray⟩ : ByteArray).data.toList = l := rfl
theorem enD : ∀ args w, (callFunc 73 args).run Tryz.prog w = .ok (.enter 73 args) w := enters_of Tryz.func73 (by kernel_rfl) rfl
theorem enP : ∀ args w, (callFunc 118 args).run Tryz.prog w = .ok (.enter 118 args) w := enters_of Tryz.func118 (by kernel_rfl) rfl
theorem tkw_D (l : List UInt8) : (l.takeWhile fun b => dgI (b.toNat : Int)) = l.takeWhile isDg := by
  congr 1; funext b; exact dgI_is b
theorem tkw_P (l : List UInt8) : (l.takeWhile fun b => ptI (b.toNat : Int)) = l.takeWhile isPt := by
  congr 1; funext b; exact ptI_is b
theorem leadD (t : ByteArray) (ht : t.size ≤ 9223372036854775807) (w : World) :
    Calls Tryz.prog 115 #[.string t, .func (.func 73) #[] #[]] w fun e w' => e = .returned (.string ⟨(t.data.toList.takeWhile isDg).toArray⟩) ∧ w' = w := by
  rw [← tkw_D]; exact lead_any dgI _ enD dig_any t ht w
theorem leadP (t : ByteArray) (ht : t.size ≤ 9223372036854775807) (w : World) :
    Calls Tryz.prog 115 #[.string t, .func (.func 118) #[] #[]] w fun e w' => e = .returned (.string ⟨(t.data.toList.takeWhile isPt).toArray⟩) ∧ w' = w := by
  rw [← tkw_P]; exact lead_any ptI _ enP part_any t ht w
theorem trim_any (s : ByteArray) (i : Nat) (hi : i ≤ s.size) (w : World) :
    Calls Tryz.prog 71 #[.string (s.extract i s.size), .string ⟨#[32]⟩] w fun e w' => ∃ t : ByteArray, e = .returned (.string t) ∧ t.size = s.size - abk s.data.toList i ∧ w' = w := by
  refine (Tryz.strings_TrimLeft_one (s.extract i s.size) 32 (by decide) w).mono ?_
  rintro e w' ⟨rfl, rfl⟩
  refine ⟨_, rfl, ?_, rfl⟩
  rw [sx_list]
  show ByteArray.size ⟨((s.data.toList.drop i).dropWhile (· == 32)).toArray⟩ = _
  rw [size_mk, (abk_is (l := s.data.toList) (i := i) (by rw [← size_eq]; exact hi)).2.2.1, List.length_drop, ← size_eq]
set_option maxHeartbeats 1000000 in
theorem blanks_any (s : ByteArray) (i : Nat) (hi : i ≤ s.size) (hs : s.size ≤ 1000000) (w : World) :
    Calls Tryz.prog 37 #[.string s, .int .i64 i] w fun e w' => e = .returned (.int .i64 (abk s.data.toList i)) ∧ w' = w := by
  have HA : Hid (abk s.data.toList i ≤ s.size) := by
    have := (abk_is (l := s.data.toList) (i := i) (by rw [← size_eq]; exact hi)).2.1
    rw [← size_eq] at this; exact this
  go_enter Tryz.func37, Tryz.ntmps37
  go_wp2_with (go_at_call 71; refine (trim_any s i hi _).mono ?_; rintro e w' ⟨t, rfl, ht, rfl⟩)
  go_ret
  refine ⟨ret1 ?_, rfl⟩
  have := HA.out
  omega
set_option maxHeartbeats 1000000 in
theorem over_any (t : ByteArray) (w : World) :
    Calls Tryz.prog 38 #[.string t] w fun e w' => e = .returned (.bool (decide (t.data.toList = []) || remB.isPrefixOf t.data.toList)) ∧ w' = w := by
  by_cases h : t.toList = []
  · have HL : Hid (t.data.toList = []) := by show _ = _; rw [← toList_data]; exact h
    go_enter Tryz.func38, Tryz.ntmps38
    go_wp2_with (go_at_call 72; refine (Tryz.strings_HasPrefix _ _ _).mono ?_; rintro e w' ⟨rfl, rfl⟩)
    go_ret
    refine ⟨?_, rfl⟩
    rw [HL.out]; rfl
  · have HL : Hid (decide (t.data.toList = []) = false) := by show _ = _; rw [← toList_data]; exact decide_eq_false h
    have HE : Hid (t.toList.isEmpty = false) := by
      show _ = _
      cases hx : t.toList with
      | nil => exact absurd hx h
      | cons b r => rfl
    go_enter Tryz.func38, Tryz.ntmps38
    go_wp2_with (go_at_call 72; refine (Tryz.strings_HasPrefix _ _ _).mono ?_; rintro e w' ⟨rfl, rfl⟩)
    go_ret
    refine ⟨?_, rfl⟩
    rw [HL.out, HE.out]; rfl
/-- A word's value. -/
def tokV (t : Tk) (i : Nat) : Value := .agg #[.int .i64 t.kind, .int .i64 t.fn, .int .i64 t.num, .string ⟨t.text.toArray⟩, .int .i64 (i : Int)]
/-- The type that a wrong word panics with, by what is wrong. -/
def errT (e : Int) : Nat := if e = 1 then 130 else if e = 6 then 131 else 79
def panV (T : Nat) (i : Nat) : Ending := .panicked [{ v := .iface T (.int .i64 (i : Int)), recovered := false }]
/-- What reading a word ends with. -/
def WdP (W : Wd) (i : Nat) (w : World) (e : Ending) (w' : World) : Prop :=
  Below w.heap.size w w' ∧ match W with
    | Except.ok (t, n) => e = .returned (.tuple #[tokV t i, .int .i64 ((i + n : Nat) : Int)])
    | Except.error c => e = panV (errT c) i
set_option maxRecDepth 100000 in
set_option maxHeartbeats 2000000 in
theorem name_any (s : ByteArray) (i : Nat) (hi : i ≤ s.size) (hs : s.size ≤ 1000000) (w : World) :
    Calls Tryz.prog 77 #[.string s, .int .i64 i] w (WdP (if 12 < ((tl s i).takeWhile isPt).length then .bad 7 else .ok ⟨3, 0, 0, (tl s i).takeWhile isPt⟩ ((tl s i).takeWhile isPt).length) i w) := by
  have HZ : Hid (((tl s i).takeWhile isPt).length ≤ s.size - i) := by
    have := tk_le isPt (tl s i)
    rw [tl, List.length_drop, ← size_eq] at this; exact this
  have HS : Hid ((⟨((tl s i).takeWhile isPt).toArray⟩ : ByteArray).size = ((tl s i).takeWhile isPt).length) := size_mk _
  have hc := leadP (s.extract i s.size) (by rw [sx_size]; omega)
  rw [sx_list] at hc
  generalize (tl s i).takeWhile isPt = q at *
  obtain ⟨t, ht⟩ : ∃ t : ByteArray, t = ⟨q.toArray⟩ := ⟨_, rfl⟩
  rw [← ht] at HS hc
  have HT : Hid (t = ⟨q.toArray⟩) := ht
  clear ht
  have ht := HS.out
  have hz := HZ.out
  go_enter Tryz.func77, Tryz.ntmps77
  by_cases h12 : 12 < q.length
  · rw [if_pos h12]
    have h13 : (12 : Int) < (t.size : Int) := by omega
    go_wp2_with (go_at_call 115; refine (hc _).mono ?_; rintro e w' ⟨rfl, rfl⟩)
    exact ⟨rfl, (Below.refl _ w).alloc (Nat.le_refl _) _, rfl⟩
  · rw [if_neg h12]
    have h13 : ¬ (12 : Int) < (t.size : Int) := by omega
    go_wp2_with (go_at_call 115; refine (hc _).mono ?_; rintro e w' ⟨rfl, rfl⟩)
    refine bodyPost_ret (v := .tuple #[tokV ⟨3, 0, 0, q⟩ i, .int .i64 ((i : Int) + (q.length : Int))]) (by simp [results, Tryz.results77, go_sem, tokV, HT.out]) rfl ⟨(Below.refl _ w).alloc (Nat.le_refl _) _, ?_⟩
    show _ = _
    rw [Int.natCast_add]
end Go.Proofs.YtgjgbgllhbdodaaGreatDoor
/-! Lxt: A block that holds a word: its five fields. -/
namespace Go.Proofs.YtgjgbgllhbdodaaGreatDoor
open Go.RowKit
set_option linter.unusedVariables false

def cellsT (a b c d e : Value) : Array Value := #[a, b, c, d, e]
/-- A block holds these five values, a word's. -/
def Tbx (w : World) (n : Nat) (a b c d e : Value) : Prop := w.heap[n]? = some (.cells (cellsT a b c d e) 30 (0, 0))
section
variable {w : World} {n : Nat} {a b c d e : Value}
theorem Tbx.c0 (h : Tbx w n a b c d e) : w.cell? ⟨n, 0, none⟩ = some a := by unfold Tbx at h; simp [World.cell?, h, cellsT]
theorem Tbx.c1 (h : Tbx w n a b c d e) : w.cell? ⟨n, 1, none⟩ = some b := by unfold Tbx at h; simp [World.cell?, h, cellsT]
theorem Tbx.c2 (h : Tbx w n a b c d e) : w.cell? ⟨n, 2, none⟩ = some c := by unfold Tbx at h; simp [World.cell?, h, cellsT]
theorem Tbx.c3 (h : Tbx w n a b c d e) : w.cell? ⟨n, 3, none⟩ = some d := by unfold Tbx at h; simp [World.cell?, h, cellsT]
theorem Tbx.c4 (h : Tbx w n a b c d e) : w.cell? ⟨n, 4, none⟩ = some e := by unfold Tbx at h; simp [World.cell?, h, cellsT]
theorem Tbx.fr (h : Tbx w n a b c d e) (i : Nat) : w.frozen? ⟨n, i, none⟩ = false := by unfold Tbx at h; simp [World.frozen?, h]
theorem Tbx.lt (h : Tbx w n a b c d e) : n < w.heap.size := by
  obtain ⟨hlt, _⟩ := Array.getElem?_eq_some_iff.1 h
  exact hlt
theorem Tbx.of {w' : World} (h : Tbx w n a b c d e) (q : w'.heap[n]? = w.heap[n]?) : Tbx w' n a b c d e := q.trans h
theorem Tbx.bel {w' : World} {B : Nat} (h : Tbx w n a b c d e) (hB : Below B w w') (hb : n < B) : Tbx w' n a b c d e := h.of (hB.block n hb)
/-- What a call that makes memory alone leaves. -/
theorem Tbx.go {w' : World} (h : Tbx w n a b c d e) (hB : Below w.heap.size w w') : Tbx w' n a b c d e := h.bel hB h.lt
theorem Tbx.al (h : Tbx w n a b c d e) (o : Obj) : Tbx (w.alloc o) n a b c d e := h.of (Below.heap_alloc w o n h.lt)
theorem Tbx.new (w : World) (a b c d e : Value) : Tbx (w.alloc (.cells #[a, b, c, d, e] 30)) w.heap.size a b c d e := (MapKept.heap_alloc w _).1
theorem Tbx.ot (h : Tbx w n a b c d e) {p : Addr} (hp : n ≠ p.block) (v : Value) : Tbx (w.setCell p v) n a b c d e := h.of (Below.heap_setCell w p v n hp)
theorem Tbx.s0 (h : Tbx w n a b c d e) (v : Value) : Tbx (w.setCell ⟨n, 0, none⟩ v) n v b c d e := by unfold Tbx at *; simp [World.setCell, Array.getElem?_modify, h, cellsT]
theorem Tbx.s1 (h : Tbx w n a b c d e) (v : Value) : Tbx (w.setCell ⟨n, 1, none⟩ v) n a v c d e := by unfold Tbx at *; simp [World.setCell, Array.getElem?_modify, h, cellsT]
theorem Tbx.s2 (h : Tbx w n a b c d e) (v : Value) : Tbx (w.setCell ⟨n, 2, none⟩ v) n a b v d e := by unfold Tbx at *; simp [World.setCell, Array.getElem?_modify, h, cellsT]
theorem Tbx.s3 (h : Tbx w n a b c d e) (v : Value) : Tbx (w.setCell ⟨n, 3, none⟩ v) n a b c v e := by unfold Tbx at *; simp [World.setCell, Array.getElem?_modify, h, cellsT]
theorem Tbx.s4 (h : Tbx w n a b c d e) (v : Value) : Tbx (w.setCell ⟨n, 4, none⟩ v) n a b c d v := by unfold Tbx at *; simp [World.setCell, Array.getElem?_modify, h, cellsT]
/-- All five fields written, in their order. -/
theorem Tbx.set5 (h : Tbx w n a b c d e) (a' b' c' d' e' : Value) : Tbx (((((w.setCell ⟨n, 0, none⟩ a').setCell ⟨n, 1, none⟩ b').setCell ⟨n, 2, none⟩ c').setCell ⟨n, 3, none⟩ d').setCell ⟨n, 4, none⟩ e') n a' b' c' d' e' := ((((h.s0 a').s1 b').s2 c').s3 d').s4 e'
end
theorem bel_set5 {B b : Nat} {v w : World} (h : Below B v w) (hb : B ≤ b) (a' b' c' d' e' : Value) : Below B v (((((w.setCell ⟨b, 0, none⟩ a').setCell ⟨b, 1, none⟩ b').setCell ⟨b, 2, none⟩ c').setCell ⟨b, 3, none⟩ d').setCell ⟨b, 4, none⟩ e') :=
  ((((h.setCell (p := ⟨b, 0, none⟩) hb _).setCell (p := ⟨b, 1, none⟩) hb _).setCell (p := ⟨b, 2, none⟩) hb _).setCell (p := ⟨b, 3, none⟩) hb _).setCell (p := ⟨b, 4, none⟩) hb _
end Go.Proofs.YtgjgbgllhbdodaaGreatDoor
/-! Lxc: The program reads a Number. -/
namespace Go.Proofs.YtgjgbgllhbdodaaGreatDoor
open Go.RowKit Go.Lib
set_option linter.unusedVariables false

/-- The library's variable that strconv.Atoi reads holds some error. -/
def HasRng (w : World) : Prop := ∃ te pe, w.cell? ⟨5, 0, none⟩ = some (.iface te pe)
theorem HasRng.pos {w : World} (h : HasRng w) : 5 < w.heap.size := by
  obtain ⟨te, pe, h⟩ := h; exact World.block_lt_of_cell? w _ h
theorem HasRng.go {w w' : World} (h : HasRng w) (hB : Below w.heap.size w w') : HasRng w' := by
  have hp := h.pos
  obtain ⟨te, pe, h⟩ := h
  exact ⟨te, pe, (hB.cell (p := ⟨5, 0, none⟩) hp).trans h⟩
theorem HasRng.al {w : World} (h : HasRng w) (o : Obj) : HasRng (w.alloc o) := h.go ((Below.refl _ w).alloc (Nat.le_refl _) o)
theorem bel_bytes (w : World) (e : TypeId) (t : ByteArray) : Below w.heap.size w (bytesWorld w e t) := by
  refine ⟨rfl, rfl, rfl, ?_, fun j hj => bytesWorld_at_old w e t j hj⟩
  rw [bytesWorld_size]; omega
theorem atoi_ok17 {u : ByteArray} {v : Int} (hs : u.size ≤ 1000000) (h : atoiAll u.data.toList = .ok v) (w : World) :
    Calls Tryz.prog 116 #[.string u] w fun e w' => e = .returned (.tuple #[.int .i64 v, .nilIface]) ∧ Below w.heap.size w w' := by
  refine (Tryz.strconv_Atoi_ok u (by omega) v h w).mono ?_
  rintro e w' ⟨rfl, rfl | ⟨t, rfl⟩⟩
  · exact ⟨rfl, Below.refl _ _⟩
  · exact ⟨rfl, bel_bytes _ _ _⟩
theorem atoi_rng17 {u : ByteArray} (hs : u.size ≤ 1000000) (h : atoiAll u.data.toList = .range) (w : World) (hr : HasRng w) :
    Calls Tryz.prog 116 #[.string u] w fun e w' => ∃ N x, e = .returned (.tuple #[.int .i64 x, .iface 227 (.pointer (some ⟨N, 0, none⟩))]) ∧ Below w.heap.size w w' := by
  obtain ⟨te, pe, hv⟩ := hr
  refine (Tryz.strconv_Atoi_range u (by omega) h _ w hv (.inr ⟨te, pe, rfl⟩)).mono ?_
  rintro e w' ⟨N, rfl, _, _, hB⟩
  exact ⟨N, _, rfl, hB⟩
theorem neg_list (q : List UInt8) : ((⟨#[45]⟩ : ByteArray) ++ (⟨q.toArray⟩ : ByteArray)).data.toList = 45 :: q := by
  rw [ByteArray.data_append]; simp
theorem nil_list (t : ByteArray) : ((⟨#[]⟩ : ByteArray) ++ t).data.toList = t.data.toList := by
  rw [ByteArray.data_append]; simp
theorem neg_size (q : List UInt8) : ((⟨#[45]⟩ : ByteArray) ++ (⟨q.toArray⟩ : ByteArray)).size = q.length + 1 := by
  rw [size_eq, neg_list]; rfl
/-- What reading a Number tells, by its sign and its digits. -/
def numW (m : Bool) (q : List UInt8) : Wd := if q = [] then .bad 1 else numS m q ((if m = true then 2 else 0) + q.length)
set_option maxRecDepth 100000 in
set_option maxHeartbeats 4000000 in
theorem num_any (s : ByteArray) (i : Nat) (hi : i ≤ s.size) (hs : s.size ≤ 100000) (w : World) (hr : HasRng w) (m : Bool) (hm : minusB.isPrefixOf (tl s i) = m) :
    Calls Tryz.prog 74 #[.string s, .int .i64 i] w (WdP (numW m (((tl s i).drop (if m = true then 2 else 0)).takeWhile isDg)) i w) := by
  have hc := Tryz.strings_CutPrefix (s.extract i s.size) ⟨#[194, 175]⟩
  rw [sx_list, show hasPrefix (tl s i) ((⟨#[194, 175]⟩ : ByteArray).data.toList) = m from hm,
    show trimPrefix (tl s i) ((⟨#[194, 175]⟩ : ByteArray).data.toList) = (tl s i).drop (if m = true then 2 else 0) by
      unfold trimPrefix
      rw [show hasPrefix (tl s i) ((⟨#[194, 175]⟩ : ByteArray).data.toList) = m from hm]
      cases m <;> rfl] at hc
  have hl : (tl s i).length = s.size - i := by rw [tl, List.length_drop, ← size_eq]
  generalize hrr : (tl s i).drop (if m = true then 2 else 0) = r at hc ⊢
  have hrl : r.length ≤ s.size - i := by rw [← hrr, List.length_drop]; omega
  clear hrr hl hm
  obtain ⟨t0, ht0⟩ : ∃ t0 : ByteArray, t0 = ⟨r.toArray⟩ := ⟨_, rfl⟩
  rw [← ht0] at hc
  have hd := leadD t0 (by rw [ht0, size_mk]; omega)
  rw [ht0, mk_list, ← ht0] at hd
  have hql := tk_le isDg r
  have hqa := tk_all isDg r
  generalize r.takeWhile isDg = q at *
  clear ht0
  obtain ⟨t, ht⟩ : ∃ t : ByteArray, t = ⟨q.toArray⟩ := ⟨_, rfl⟩
  rw [← ht] at hd
  have hts : t.size = q.length := by rw [ht, size_mk]
  have HT : Hid (t = ⟨q.toArray⟩) := ht
  have HR : Hid (HasRng (w.alloc (.cells #[.int .i64 0, .int .i64 0, .int .i64 0, .string ⟨#[]⟩, .int .i64 0] 30))) := hr.al _
  have HK : Hid (Tbx (w.alloc (.cells #[.int .i64 0, .int .i64 0, .int .i64 0, .string ⟨#[]⟩, .int .i64 0] 30)) w.heap.size (.int .i64 0) (.int .i64 0) (.int .i64 0) (.string ⟨#[]⟩) (.int .i64 0)) := Tbx.new w _ _ _ _ _
  have HB : Hid (Below w.heap.size w (w.alloc (.cells #[.int .i64 0, .int .i64 0, .int .i64 0, .string ⟨#[]⟩, .int .i64 0] 30))) := (Below.refl _ w).alloc (Nat.le_refl _) _
  by_cases hq : q = []
  · have hW : numW m q = .bad 1 := by unfold numW; rw [if_pos hq]
    rw [hW]
    have hte : t = ⟨#[]⟩ := by rw [ht, hq]
    clear hW ht hts hqa hql HT
    subst hq; subst hte
    go_enter Tryz.func74, Tryz.ntmps74
    go_wp2_with (first | (go_at_call 114; refine (hc _).mono ?_; rintro e w' ⟨rfl, rfl⟩) | (go_at_call 115; refine (hd _).mono ?_; rintro e w' ⟨rfl, rfl⟩))
    exact ⟨rfl, HB.out, rfl⟩
  · have hne : t.toList.isEmpty = false := emp_no (by rw [ht]; exact hq)
    cases m
    · by_cases hv : dgA 0 q < 9223372036854775808
      · have hW : numW false q = .ok ⟨1, 0, ((dgA 0 q : Nat) : Int), []⟩ (q.length) := by
          unfold numW numS; rw [if_neg hq, if_pos (by rw [if_neg Bool.false_ne_true]; exact hv)]; simp
        have ha := atoi_pos hqa hq
        rw [if_pos hv] at ha
        rw [hW]
        have HA := atoi_ok17 (u := (⟨#[]⟩ : ByteArray) ++ t) (v := ((dgA 0 q : Nat) : Int)) (by rw [size_eq, nil_list, ← size_eq]; omega) (by rw [nil_list, ht]; exact ha)
        generalize dgA 0 q = V at *
        clear ht hW hqa ha hv
        go_enter Tryz.func74, Tryz.ntmps74
        go_wp2_with (first | (go_at_call 114; refine (hc _).mono ?_; rintro e w' ⟨rfl, rfl⟩) | (go_at_call 115; refine (hd _).mono ?_; rintro e w' ⟨rfl, rfl⟩))
        refine (HA _).mono ?_
        rintro e w' ⟨rfl, hBa⟩
        have K := HK.out.go hBa
        have r0 := K.c0
        have r1 := K.c1
        have r2 := K.c2
        have r3 := K.c3
        have r4 := K.c4
        have f0 := K.fr 0
        have f1 := K.fr 1
        have f2 := K.fr 2
        have f3 := K.fr 3
        have f4 := K.fr 4
        have HBa : Hid (Below w.heap.size w w') := HB.out.trans (hBa.mono HB.out.size)
        go_wp2_with fail
        have F := K.set5 (.int .i64 1) (.int .i64 0) (.int .i64 (V : Int)) (.string ⟨#[]⟩) (.int .i64 i)
        have q0 := F.c0
        have q1 := F.c1
        have q2 := F.c2
        have q3 := F.c3
        have q4 := F.c4
        refine bodyPost_ret (v := .tuple #[tokV ⟨1, 0, (V : Int), []⟩ i, .int .i64 ((i : Int) + (q.length : Int))]) (by simp [results, Tryz.results74, go_sem, tokV, q0, q1, q2, q3, q4]) rfl ⟨bel_set5 HBa.out (Nat.le_refl _) _ _ _ _ _, ?_⟩
        have e : (i : Int) + (q.length : Int) = ((i + q.length : Nat) : Int) := by omega
        rw [e]
      · have hW : numW false q = .bad 6 := by
          unfold numW numS; rw [if_neg hq, if_neg (by rw [if_neg Bool.false_ne_true]; exact hv)]
        have ha := atoi_pos hqa hq
        rw [if_neg hv] at ha
        rw [hW]
        have HA := atoi_rng17 (u := (⟨#[]⟩ : ByteArray) ++ t) (by rw [size_eq, nil_list, ← size_eq]; omega) (by rw [nil_list, ht]; exact ha)
        clear ht hW hqa ha hv
        go_enter Tryz.func74, Tryz.ntmps74
        go_wp2_with (first | (go_at_call 114; refine (hc _).mono ?_; rintro e w' ⟨rfl, rfl⟩) | (go_at_call 115; refine (hd _).mono ?_; rintro e w' ⟨rfl, rfl⟩))
        refine (HA _ HR.out).mono ?_
        rintro e w' ⟨N, x, rfl, hBa⟩
        go_wp2_with fail
        exact ⟨rfl, HB.out.trans (hBa.mono HB.out.size), rfl⟩
    · by_cases hv : dgA 0 q ≤ 9223372036854775808
      · have hW : numW true q = .ok ⟨1, 0, (-((dgA 0 q : Nat) : Int)), []⟩ (2 + q.length) := by
          unfold numW numS; rw [if_neg hq, if_pos (by rw [if_pos rfl]; exact hv)]; simp
        have ha := atoi_neg hqa hq
        rw [if_pos hv] at ha
        rw [hW]
        have HA := atoi_ok17 (u := (⟨#[45]⟩ : ByteArray) ++ t) (v := (-((dgA 0 q : Nat) : Int))) (by rw [ht, neg_size]; omega) (by rw [ht, neg_list]; exact ha)
        generalize dgA 0 q = V at *
        clear ht hW hqa ha hv
        go_enter Tryz.func74, Tryz.ntmps74
        go_wp2_with (first | (go_at_call 114; refine (hc _).mono ?_; rintro e w' ⟨rfl, rfl⟩) | (go_at_call 115; refine (hd _).mono ?_; rintro e w' ⟨rfl, rfl⟩))
        refine (HA _).mono ?_
        rintro e w' ⟨rfl, hBa⟩
        have K := HK.out.go hBa
        have r0 := K.c0
        have r1 := K.c1
        have r2 := K.c2
        have r3 := K.c3
        have r4 := K.c4
        have f0 := K.fr 0
        have f1 := K.fr 1
        have f2 := K.fr 2
        have f3 := K.fr 3
        have f4 := K.fr 4
        have HBa : Hid (Below w.heap.size w w') := HB.out.trans (hBa.mono HB.out.size)
        go_wp2_with fail
        have F := K.set5 (.int .i64 1) (.int .i64 0) (.int .i64 (-(V : Int))) (.string ⟨#[]⟩) (.int .i64 i)
        have q0 := F.c0
        have q1 := F.c1
        have q2 := F.c2
        have q3 := F.c3
        have q4 := F.c4
        refine bodyPost_ret (v := .tuple #[tokV ⟨1, 0, (-(V : Int)), []⟩ i, .int .i64 ((i : Int) + (q.length : Int) + 2)]) (by simp [results, Tryz.results74, go_sem, tokV, q0, q1, q2, q3, q4]) rfl ⟨bel_set5 HBa.out (Nat.le_refl _) _ _ _ _ _, ?_⟩
        have e : (i : Int) + (q.length : Int) + 2 = ((i + (2 + q.length) : Nat) : Int) := by omega
        rw [e]
      · have hW : numW true q = .bad 6 := by
          unfold numW numS; rw [if_neg hq, if_neg (by rw [if_pos rfl]; exact hv)]
        have ha := atoi_neg hqa hq
        rw [if_neg hv] at ha
        rw [hW]
        have HA := atoi_rng17 (u := (⟨#[45]⟩ : ByteArray) ++ t) (by rw [ht, neg_size]; omega) (by rw [ht, neg_list]; exact ha)
        clear ht hW hqa ha hv
        go_enter Tryz.func74, Tryz.ntmps74
        go_wp2_with (first | (go_at_call 114; refine (hc _).mono ?_; rintro e w' ⟨rfl, rfl⟩) | (go_at_call 115; refine (hd _).mono ?_; rintro e w' ⟨rfl, rfl⟩))
        refine (HA _ HR.out).mono ?_
        rintro e w' ⟨N, x, rfl, hBa⟩
        go_wp2_with fail
        exact ⟨rfl, HB.out.trans (hBa.mono HB.out.size), rfl⟩
end Go.Proofs.YtgjgbgllhbdodaaGreatDoor
/-! Lxd: The program finds a sign among signs, and reads a word that is one. -/
namespace Go.Proofs.YtgjgbgllhbdodaaGreatDoor
open Go.RowKit Go.Lib
set_option linter.unusedVariables false

theorem tabs_go {g a : Nat} {w w' : World} (h : Lib.Utf8Tabs g a w) (hB : Below w.heap.size w w') : Lib.Utf8Tabs g a w' := by
  have h1 := World.block_lt_of_cell? w _ (h.1 0 (by decide))
  have h2 := World.block_lt_of_cell? w _ (h.2 0 (by decide)).1
  exact ⟨fun c hc => (hB.cell (p := ⟨_, c, none⟩) h1).trans (h.1 c hc), fun i hi => ⟨(hB.cell (p := ⟨_, 2 * i, none⟩) h2).trans (h.2 i hi).1, (hB.cell (p := ⟨_, 2 * i + 1, none⟩) h2).trans (h.2 i hi).2⟩⟩
set_option maxRecDepth 100000 in
set_option maxHeartbeats 4000000 in
theorem place_any (r : Int) (s : ByteArray) (hs : s.size ≤ 100000) (hv : validD (tl s 0) = true) (w : World) :
    Calls Tryz.prog 120 #[.int .i32 r, .string s] w fun e w' => e = .returned (.int .i64 (plI r (runesL (tl s 0)))) ∧ Below w.heap.size w w' := by
  have HV : Hid (validD (tl s 0) = true) := hv
  clear hv
  go_enter Tryz.func120, Tryz.ntmps120
  go_wp2_with fail
  go_loopw [5] (fun v wr => ∃ (pos : Nat) (xs : List Int), Hid (Rd s pos xs) ∧ Hid (r ∉ xs) ∧ v = .int .i64 xs.length ∧ wr.heap[w.heap.size]? = some (.stringIter s pos) ∧ Below w.heap.size w wr) (fun _ wr => s.size - wr.iterPos w.heap.size)
  case atStart =>
    exact ⟨0, [], Rd.zero s, (by simp : r ∉ []), rfl, World.iter_heap w s 0, (Below.refl _ w).alloc (Nat.le_refl _) _⟩
  case round =>
    obtain ⟨pos, xs, HR, HN, rfl, hit, hB⟩ := hrel
    have HB : Hid (Below w.heap.size w wr) := hB
    clear hB
    have hxl := HR.out.2.2.2
    have hpl := HR.out.1
    by_cases hp : pos < s.size
    · obtain ⟨c, m, hd, hc, hok⟩ := HR.out.step hp HV.out
      have hnx : ∀ ty, (Instr.next (.pointer (some ⟨w.heap.size, 0, none⟩)) true ty).run Tryz.prog wr = _ := fun ty => Lib.run_next_any_at wr w.heap.size s pos ty hit hp
      rw [hd] at hnx
      dsimp only at hnx
      have hit2 := Lib.iterAt_heap wr w.heap.size s pos (pos + (m + 1)) hit
      have hB2 : Hid (Below w.heap.size w (wr.iterAt w.heap.size s (pos + (m + 1)))) := Lib.below_iterAt HB.out (k := w.heap.size) (Nat.le_refl _) s (pos + (m + 1))
      have HX : Hid (Rd s (pos + (m + 1)) (xs ++ [(c : Int)])) := HR.out.next hp hok
      have HI : Hid (wr.heap[w.heap.size]? = some (.stringIter s pos)) := hit
      have HRR : Hid (runesL (tl s 0) = xs ++ (c : Int) :: runesL (tl s (pos + (m + 1)))) := by
        show _ = _
        rw [HR.out.2.1, hok.runes hp]
      clear hok hd hit
      obtain ⟨wi, hwi⟩ : ∃ wi, wi = wr.iterAt w.heap.size s (pos + (m + 1)) := ⟨_, rfl⟩
      rw [← hwi] at hnx hit2 hB2
      clear hwi
      by_cases he : (c : Int) = r
      · have HE : Hid (plI r (runesL (tl s 0)) = xs.length) := by
          show _ = _
          rw [HRR.out, he]; exact plI_at r xs _ HN.out
        have te : ((c : Int) == r) = true := by rw [beq_iff_eq]; exact he
        go_wp2_with fail
        go_ret
        exact ⟨ret1 HE.out.symm, hB2.out⟩
      · have HE : Hid (r ∉ xs ++ [(c : Int)]) := by
          show ¬ _
          rw [List.mem_append, List.mem_singleton, not_or]; exact ⟨HN.out, fun q => he q.symm⟩
        have te : ((c : Int) == r) = false := by rw [beq_eq_false_iff_ne]; exact he
        go_wp2_with fail
        refine ⟨⟨pos + (m + 1), xs ++ [(c : Int)], HX, HE, by rw [List.length_append, List.length_singleton, Int.natCast_add]; rfl, hit2, hB2.out⟩, ?_⟩
        simp only [World.iterPos, hit2, HI.out]
        omega
    · have hnx : ∀ ty, (Instr.next (.pointer (some ⟨w.heap.size, 0, none⟩)) true ty).run Tryz.prog wr = _ := fun ty => Lib.run_next_end_at wr w.heap.size s pos ty hit hp
      have HE : Hid (plI r (runesL (tl s 0)) = -1) := by
        show _ = _
        rw [HR.out.done hp]; exact plI_no r xs HN.out
      go_wp2_with fail
      go_ret
      exact ⟨ret1 HE.out.symm, HB.out⟩
set_option maxRecDepth 100000 in
theorem gly_const : validD glyB.flatten = true ∧ runesL glyB.flatten = glyR := by decide +kernel
set_option maxRecDepth 100000 in
theorem sgn_const : validD sgnB.flatten = true ∧ runesL sgnB.flatten = sgnR := by decide +kernel
theorem place_gly (r : Int) (s : ByteArray) (h : s.data.toList = glyB.flatten) (w : World) :
    Calls Tryz.prog 120 #[.int .i32 r, .string s] w fun e w' => e = .returned (.int .i64 (plI r glyR)) ∧ Below w.heap.size w w' := by
  have hz : s.size ≤ 100000 := by rw [size_eq, h]; decide
  have := place_any r s hz (by rw [tl_zero, h]; exact gly_const.1) w
  rw [tl_zero, h, gly_const.2] at this
  exact this
theorem place_sgn (r : Int) (s : ByteArray) (h : s.data.toList = sgnB.flatten) (w : World) :
    Calls Tryz.prog 120 #[.int .i32 r, .string s] w fun e w' => e = .returned (.int .i64 (plI r sgnR)) ∧ Below w.heap.size w w' := by
  have hz : s.size ≤ 100000 := by rw [size_eq, h]; decide
  have := place_any r s hz (by rw [tl_zero, h]; exact sgn_const.1) w
  rw [tl_zero, h, sgn_const.2] at this
  exact this
theorem dec_any (t : ByteArray) (ht : t.data.toList ≠ []) (w : World) (hT : Lib.Utf8Tabs (Tryz.laysValid_ren.g 3) (Tryz.laysValid_ren.g 4) w) :
    Calls Tryz.prog 119 #[.string t] w fun e w' => e = .returned (.tuple #[.int .i32 ((decodeL t.data.toList).1 : Int), .int .i64 ((decodeL t.data.toList).2 : Int)]) ∧ Below w.heap.size w w' := by
  have h := Tryz.utf8_DecodeRuneInString t w hT
  have e : decodeGo t = decodeL t.data.toList := by
    unfold decodeGo
    rw [if_neg (fun q => ht (List.length_eq_zero_iff.1 (by rw [← size_eq]; exact q)))]
    exact (decodeL_drop t 0).symm
  rw [e] at h
  exact h
set_option maxRecDepth 100000 in
set_option maxHeartbeats 4000000 in
theorem sign_any (s : ByteArray) (i : Nat) (hi : i < s.size) (hs : s.size ≤ 100000) (w : World) (hT : Lib.Utf8Tabs (Tryz.laysValid_ren.g 3) (Tryz.laysValid_ren.g 4) w) :
    Calls Tryz.prog 78 #[.string s, .int .i64 i] w (WdP (sigS (tl s i)) i w) := by
  have hne : tl s i ≠ [] := tl_ne hi
  have hw := decodeL_le (tl s i) hne
  rw [sigS_dec hne]
  have hl : (tl s i).length = s.size - i := by rw [tl, List.length_drop, ← size_eq]
  have hT1 : Lib.Utf8Tabs (Tryz.laysValid_ren.g 3) (Tryz.laysValid_ren.g 4) (w.alloc (.cells #[.int .i64 0, .int .i64 0, .int .i64 0, .string ⟨#[]⟩, .int .i64 0] 30)) := tabs_go hT ((Below.refl _ w).alloc (Nat.le_refl _) _)
  have hc := dec_any (s.extract i s.size) (by rw [sx_list]; exact hne) _ hT1
  rw [sx_list] at hc
  have HK : Hid (Tbx (w.alloc (.cells #[.int .i64 0, .int .i64 0, .int .i64 0, .string ⟨#[]⟩, .int .i64 0] 30)) w.heap.size (.int .i64 0) (.int .i64 0) (.int .i64 0) (.string ⟨#[]⟩) (.int .i64 0)) := Tbx.new w _ _ _ _ _
  have HB : Hid (Below w.heap.size w (w.alloc (.cells #[.int .i64 0, .int .i64 0, .int .i64 0, .string ⟨#[]⟩, .int .i64 0] 30))) := (Below.refl _ w).alloc (Nat.le_refl _) _
  generalize (decodeL (tl s i)).1 = c at *
  generalize (decodeL (tl s i)).2 = n at *
  obtain ⟨a, ha⟩ : ∃ a, a = plI (c : Int) glyR := ⟨_, rfl⟩
  obtain ⟨b, hb⟩ : ∃ b, b = plI (c : Int) sgnR := ⟨_, rfl⟩
  have g1 := plI_ge (c : Int) glyR
  have g2 := plI_ge (c : Int) sgnR
  have l1 := plI_lt (c : Int) glyR
  have l2 := plI_lt (c : Int) sgnR
  rw [show glyR.length = 34 from rfl] at l1
  rw [show sgnR.length = 16 from rfl] at l2
  rw [← ha] at g1 l1 ⊢
  rw [← hb] at g2 l2 ⊢
  have EA : Hid (plI (c : Int) glyR = a) := ha.symm
  have EB : Hid (plI (c : Int) sgnR = b) := hb.symm
  clear ha hb
  have HB1 := HB.out.size
  rcases g1 with g1 | g1
  · have NA : ¬ 0 ≤ a := by omega
    rw [if_neg NA]
    rcases g2 with g2 | g2
    · have NB : ¬ 0 ≤ b := by omega
      rw [if_neg NB]
      go_enter Tryz.func78, Tryz.ntmps78
      go_wp2_with fail
      refine hc.mono ?_
      rintro e w1 ⟨rfl, hB1⟩
      have B1 : Hid (Below w.heap.size w w1) := HB.out.trans (hB1.mono HB1)
      have HK1 : Hid (Tbx w1 w.heap.size (.int .i64 0) (.int .i64 0) (.int .i64 0) (.string ⟨#[]⟩) (.int .i64 0)) := HK.out.go hB1
      clear hB1 hc hT hT1
      go_wp2_with fail
      refine (place_gly (c : Int) _ rfl _).mono ?_
      rintro e w2 ⟨rfl, hB2⟩
      rw [EA.out]
      have B2 : Hid (Below w.heap.size w w2) := B1.out.trans (hB2.mono B1.out.size)
      have HK2 : Hid (Tbx w2 w.heap.size (.int .i64 0) (.int .i64 0) (.int .i64 0) (.string ⟨#[]⟩) (.int .i64 0)) := HK1.out.go hB2
      clear hB2
      go_wp2_with fail
      refine (place_sgn (c : Int) _ rfl _).mono ?_
      rintro e w3 ⟨rfl, hB3⟩
      rw [EB.out]
      have B3 : Hid (Below w.heap.size w w3) := B2.out.trans (hB3.mono B2.out.size)
      have HK3 : Hid (Tbx w3 w.heap.size (.int .i64 0) (.int .i64 0) (.int .i64 0) (.string ⟨#[]⟩) (.int .i64 0)) := HK2.out.go hB3
      clear hB3
      go_wp2_with fail
      exact ⟨rfl, B3.out, rfl⟩
    · rw [if_pos g2]
      go_enter Tryz.func78, Tryz.ntmps78
      go_wp2_with fail
      refine hc.mono ?_
      rintro e w1 ⟨rfl, hB1⟩
      have B1 : Hid (Below w.heap.size w w1) := HB.out.trans (hB1.mono HB1)
      have HK1 : Hid (Tbx w1 w.heap.size (.int .i64 0) (.int .i64 0) (.int .i64 0) (.string ⟨#[]⟩) (.int .i64 0)) := HK.out.go hB1
      clear hB1 hc hT hT1
      go_wp2_with fail
      refine (place_gly (c : Int) _ rfl _).mono ?_
      rintro e w2 ⟨rfl, hB2⟩
      rw [EA.out]
      have B2 : Hid (Below w.heap.size w w2) := B1.out.trans (hB2.mono B1.out.size)
      have HK2 : Hid (Tbx w2 w.heap.size (.int .i64 0) (.int .i64 0) (.int .i64 0) (.string ⟨#[]⟩) (.int .i64 0)) := HK1.out.go hB2
      clear hB2
      go_wp2_with fail
      refine (place_sgn (c : Int) _ rfl _).mono ?_
      rintro e w3 ⟨rfl, hB3⟩
      rw [EB.out]
      have B3 : Hid (Below w.heap.size w w3) := B2.out.trans (hB3.mono B2.out.size)
      have HK3 : Hid (Tbx w3 w.heap.size (.int .i64 0) (.int .i64 0) (.int .i64 0) (.string ⟨#[]⟩) (.int .i64 0)) := HK2.out.go hB3
      clear hB3
      have r0 := HK3.out.c0
      have r1 := HK3.out.c1
      have r2 := HK3.out.c2
      have r3 := HK3.out.c3
      have r4 := HK3.out.c4
      have f0 := HK3.out.fr 0
      have f1 := HK3.out.fr 1
      have f2 := HK3.out.fr 2
      have f3 := HK3.out.fr 3
      have f4 := HK3.out.fr 4
      go_wp2_with fail
      have F := HK3.out.set5 (.int .i64 (5 + b)) (.int .i64 0) (.int .i64 0) (.string ⟨#[]⟩) (.int .i64 i)
      have q0 := F.c0
      have q1 := F.c1
      have q2 := F.c2
      have q3 := F.c3
      have q4 := F.c4
      refine bodyPost_ret (v := .tuple #[tokV ⟨(5 + b), 0, 0, []⟩ i, .int .i64 ((i : Int) + (n : Int))]) (by simp [results, Tryz.results78, go_sem, tokV, q0, q1, q2, q3, q4]) rfl ⟨bel_set5 B3.out (Nat.le_refl _) _ _ _ _ _, ?_⟩
      show _ = _
      rw [Int.natCast_add]
  · rw [if_pos g1]
    go_enter Tryz.func78, Tryz.ntmps78
    go_wp2_with fail
    refine hc.mono ?_
    rintro e w1 ⟨rfl, hB1⟩
    have B1 : Hid (Below w.heap.size w w1) := HB.out.trans (hB1.mono HB1)
    have HK1 : Hid (Tbx w1 w.heap.size (.int .i64 0) (.int .i64 0) (.int .i64 0) (.string ⟨#[]⟩) (.int .i64 0)) := HK.out.go hB1
    clear hB1 hc hT hT1
    go_wp2_with fail
    refine (place_gly (c : Int) _ rfl _).mono ?_
    rintro e w2 ⟨rfl, hB2⟩
    rw [EA.out]
    have B2 : Hid (Below w.heap.size w w2) := B1.out.trans (hB2.mono B1.out.size)
    have HK2 : Hid (Tbx w2 w.heap.size (.int .i64 0) (.int .i64 0) (.int .i64 0) (.string ⟨#[]⟩) (.int .i64 0)) := HK1.out.go hB2
    clear hB2
    have r0 := HK2.out.c0
    have r1 := HK2.out.c1
    have r2 := HK2.out.c2
    have r3 := HK2.out.c3
    have r4 := HK2.out.c4
    have f0 := HK2.out.fr 0
    have f1 := HK2.out.fr 1
    have f2 := HK2.out.fr 2
    have f3 := HK2.out.fr 3
    have f4 := HK2.out.fr 4
    go_wp2_with fail
    have F := HK2.out.set5 (.int .i64 4) (.int .i64 (1 + a)) (.int .i64 0) (.string ⟨#[]⟩) (.int .i64 i)
    have q0 := F.c0
    have q1 := F.c1
    have q2 := F.c2
    have q3 := F.c3
    have q4 := F.c4
    refine bodyPost_ret (v := .tuple #[tokV ⟨4, (1 + a), 0, []⟩ i, .int .i64 ((i : Int) + (n : Int))]) (by simp [results, Tryz.results78, go_sem, tokV, q0, q1, q2, q3, q4]) rfl ⟨bel_set5 B2.out (Nat.le_refl _) _ _ _ _ _, ?_⟩
    show _ = _
    rw [Int.natCast_add]
end Go.Proofs.YtgjgbgllhbdodaaGreatDoor
/-! Lxe: May a text stand between quotes? And the program reads Chars. -/
namespace Go.Proofs.YtgjgbgllhbdodaaGreatDoor
open Go.RowKit Go.Lib
set_option linter.unusedVariables false

theorem dec_low (n b0 b1 b2 b3 : Nat) : ((decodeN n b0 b1 b2 b3).1 < 32 → b0 < 32) ∧ (¬ (decodeN n b0 b1 b2 b3).1 < 32 → 32 ≤ b0) := by
  unfold decodeN
  repeat' split
  all_goals (simp only; omega)
/-- Behind a character that is not below 32 no byte is. -/
theorem low_step {s : ByteArray} {i : Nat} (hi : i < s.size) :
    ((decodeL (tl s i)).1 < 32 → bt s i < 32) ∧ (¬ (decodeL (tl s i)).1 < 32 → ∀ q, q < (decodeL (tl s i)).2 → 32 ≤ bt s (i + q)) := by
  rw [tl_dec]
  have h1 := dec_low (s.size - i) (bt s i) (bt s (i + 1)) (bt s (i + 2)) (bt s (i + 3))
  have h2 := decodeN_conts (s.size - i) (bt s i) (bt s (i + 1)) (bt s (i + 2)) (bt s (i + 3))
  refine ⟨h1.1, fun h q hq => ?_⟩
  have h3 := h1.2 h
  generalize (decodeN (s.size - i) (bt s i) (bt s (i + 1)) (bt s (i + 2)) (bt s (i + 3))).2 = k at *
  rcases (by omega : q = 0 ∨ q = 1 ∨ q = 2 ∨ q = 3) with rfl | rfl | rfl | rfl
  · exact h3
  · have := (h2.1 (by omega)).1; omega
  · have := (h2.2.1 (by omega)).1; omega
  · have := (h2.2.2.1 (by omega)).1; omega
theorem qbl_no {s : ByteArray} {i : Nat} (hi : i < s.size) (h : bt s i < 32) : qbl (tl s 0) = false := by
  unfold qbl
  have hl : i < s.data.toList.length := by rw [← size_eq]; exact hi
  have : (tl s 0).all (fun b => decide (32 ≤ b.toNat)) = false := by
    rw [tl_zero, List.all_eq_false]
    refine ⟨s.data.toList[i], List.getElem_mem hl, ?_⟩
    have e : bt s i = (s.data.toList[i]).toNat := by unfold bt; rw [List.getD_eq_getElem?_getD, List.getElem?_eq_getElem hl]; rfl
    rw [e] at h
    rw [decide_eq_false (by omega)]; exact Bool.false_ne_true
  rw [this, Bool.and_false]
theorem qbl_yes {s : ByteArray} (h : ∀ j, j < s.size → 32 ≤ bt s j) : qbl (tl s 0) = validD (tl s 0) := by
  unfold qbl
  have : (tl s 0).all (fun b => decide (32 ≤ b.toNat)) = true := by
    rw [tl_zero, List.all_eq_true]
    intro b hb
    obtain ⟨j, hj, rfl⟩ := List.getElem_of_mem hb
    have := h j (by rw [size_eq]; exact hj)
    unfold bt at this
    rw [List.getD_eq_getElem?_getD, List.getElem?_eq_getElem hj] at this
    exact decide_eq_true this
  rw [this, Bool.and_true]
theorem valid17 (s : ByteArray) (w : World) (hs : s.size ≤ 9223372036854775807) (hT : Lib.Utf8Tabs (Tryz.laysValid_ren.g 3) (Tryz.laysValid_ren.g 4) w) :
    Calls Tryz.prog 135 #[.string s] w fun e w' => e = .returned (.bool (validD (tl s 0))) ∧ Below w.heap.size w w' :=
  Any.utf8_ValidString Tryz.laysValid s w hs hT
set_option maxRecDepth 100000 in
set_option maxHeartbeats 4000000 in
theorem arec_any (s : ByteArray) (hs : s.size ≤ 9223372036854775807) (w : World) (hT : Lib.Utf8Tabs (Tryz.laysValid_ren.g 3) (Tryz.laysValid_ren.g 4) w) :
    Calls Tryz.prog 102 #[.string s] w fun e w' => e = .returned (.bool (qbl (tl s 0))) ∧ Below w.heap.size w w' := by
  have HT : Hid (Lib.Utf8Tabs (Tryz.laysValid_ren.g 3) (Tryz.laysValid_ren.g 4) w) := hT
  clear hT
  go_enter Tryz.func102, Tryz.ntmps102
  go_wp2_with fail
  go_loopw [4] (fun _ wr => ∃ pos : Nat, pos ≤ s.size ∧ Hid (∀ j, j < pos → 32 ≤ bt s j) ∧ wr.heap[w.heap.size]? = some (.stringIter s pos) ∧ Below w.heap.size w wr) (fun _ wr => s.size - wr.iterPos w.heap.size)
  case atStart =>
    exact ⟨0, Nat.zero_le _, (fun j hj => by omega : ∀ j, j < 0 → 32 ≤ bt s j), World.iter_heap w s 0, (Below.refl _ w).alloc (Nat.le_refl _) _⟩
  case round =>
    obtain ⟨pos, hpl, HL, hit, hB⟩ := hrel
    have HB : Hid (Below w.heap.size w wr) := hB
    clear hB
    by_cases hp : pos < s.size
    · have hnx : ∀ ty, (Instr.next (.pointer (some ⟨w.heap.size, 0, none⟩)) true ty).run Tryz.prog wr = _ := fun ty => Lib.run_next_any_at wr w.heap.size s pos ty hit hp
      rw [← tl_utf] at hnx
      have hst := low_step (s := s) hp
      have hwd := decodeL_le (tl s pos) (tl_ne hp)
      have hw1 := decodeL_width (tl s pos)
      rw [show (tl s pos).length = s.size - pos by rw [tl, List.length_drop, ← size_eq]] at hwd
      generalize (decodeL (tl s pos)).1 = c at *
      generalize (decodeL (tl s pos)).2 = m at *
      have hit2 := Lib.iterAt_heap wr w.heap.size s pos (pos + m) hit
      have hB2 : Hid (Below w.heap.size w (wr.iterAt w.heap.size s (pos + m))) := Lib.below_iterAt HB.out (k := w.heap.size) (Nat.le_refl _) s (pos + m)
      have HI : Hid (wr.heap[w.heap.size]? = some (.stringIter s pos)) := hit
      clear hit
      obtain ⟨wi, hwi⟩ : ∃ wi, wi = wr.iterAt w.heap.size s (pos + m) := ⟨_, rfl⟩
      rw [← hwi] at hnx hit2 hB2
      clear hwi
      by_cases he : c < 32
      · have HE : Hid (qbl (tl s 0) = false) := qbl_no hp (hst.1 he)
        have te : (c : Int) < 32 := by omega
        clear hst
        go_wp2_with fail
        go_ret
        exact ⟨ret_bool HE.out.symm, hB2.out⟩
      · have HE : Hid (∀ j, j < pos + m → 32 ≤ bt s j) := fun j hj => by
          by_cases hjp : j < pos
          · exact HL.out j hjp
          · have := hst.2 he (j - pos) (by omega)
            rw [show pos + (j - pos) = j by omega] at this; exact this
        have te : ¬ (c : Int) < 32 := by omega
        clear hst
        go_wp2_with fail
        refine ⟨⟨pos + m, by omega, HE, hit2, hB2.out⟩, ?_⟩
        simp only [World.iterPos, hit2, HI.out]
        omega
    · have hnx : ∀ ty, (Instr.next (.pointer (some ⟨w.heap.size, 0, none⟩)) true ty).run Tryz.prog wr = _ := fun ty => Lib.run_next_end_at wr w.heap.size s pos ty hit hp
      have HE : Hid (qbl (tl s 0) = validD (tl s 0)) := qbl_yes (fun j hj => HL.out j (by omega))
      go_wp2_with fail
      refine (valid17 s _ hs (tabs_go HT.out HB.out)).mono ?_
      rintro e w2 ⟨rfl, hB2⟩
      go_wp2_with fail
      go_ret
      exact ⟨ret_bool HE.out.symm, HB.out.trans (hB2.mono HB.out.size)⟩
end Go.Proofs.YtgjgbgllhbdodaaGreatDoor
/-! Lxf: A builder that holds bytes; and the program reads Chars. -/
namespace Go.Proofs.YtgjgbgllhbdodaaGreatDoor
open Go.RowKit Go.Lib
set_option linter.unusedVariables false

/-- A builder of the call's own holds these bytes. -/
def Bld (w : World) (B b : Nat) (l : List UInt8) : Prop := IsBuilderF 136 5 B b (byteCells l) w
theorem Bld.new (w : World) : Bld (w.alloc (.cells #[.pointer none, .slice none 0 0] 136)) w.heap.size w.heap.size [] := IsBuilderF.of (fresh_isBuilder _ _ w)
theorem Bld.al {w : World} {B b : Nat} {l : List UInt8} (h : Bld w B b l) (o : Obj) : Bld (w.alloc o) B b l := IsBuilderF.alloc h o
theorem bld_write {w : World} {B b : Nat} {l : List UInt8} (h : Bld w B b l) (t : ByteArray) (hl : l.length ≤ 10000000) (ht : t.size ≤ 10000000) (hB : B ≤ w.heap.size) :
    Calls Tryz.prog 67 #[.pointer (some ⟨b, 0, none⟩), .string t] w fun e w' => e = .returned (.tuple #[.int .i64 t.size, .nilIface]) ∧ Bld w' B b (l ++ t.data.toList) ∧ Below B w w' := by
  refine (Any.Builder_WriteString_f { Tryz.lays154 with } Tryz.Builder_Extra_154 B b (byteCells l) t w h (by rw [byteCells_length]; omega) hB).mono ?_
  rintro e w' ⟨rfl, h1, h2⟩
  refine ⟨rfl, .inr ?_, h2⟩
  rw [byteCells_append, ← strCells_eq]; exact h1
theorem bld_str {w : World} {B b : Nat} {l : List UInt8} (h : Bld w B b l) (hB : B ≤ w.heap.size) :
    Calls Tryz.prog 70 #[.pointer (some ⟨b, 0, none⟩)] w fun e w' => e = .returned (.string ⟨l.toArray⟩) ∧ Bld w' B b l ∧ Below B w w' :=
  Tryz.Builder_String_any_f B b l w h hB
theorem chrS_none {l : List UInt8} (h : qt l = none) : chrS l = .bad 1 := by unfold chrS; rw [h]
theorem chrS_some {l t : List UInt8} {n : Nat} (h : qt l = some (t, n)) : chrS l = if qbl t = true then .ok ⟨2, 0, 0, t⟩ (n + 1) else .bad 1 := by unfold chrS; rw [h]
/-- What has been read of Chars up to a quote. -/
def Qd (s : ByteArray) (i p : Nat) (txt : List UInt8) : Prop :=
  i ≤ p ∧ p < s.size ∧ txt.length ≤ p ∧ qt (tl s (i + 1)) = (qt (tl s (p + 1))).map (fun x => (txt ++ x.1, p - i + x.2))
theorem Qd.zero {s : ByteArray} {i : Nat} (hi : i < s.size) : Qd s i i [] := by
  refine ⟨Nat.le_refl _, hi, by simp, ?_⟩
  rw [Nat.sub_self]
  cases qt (tl s (i + 1)) with
  | none => rfl
  | some x => rw [Option.map_some, List.nil_append, Nat.zero_add]
theorem tl_len (s : ByteArray) (i : Nat) : (tl s i).length = s.size - i := by rw [tl, List.length_drop, ← size_eq]
theorem Qd.no {s : ByteArray} {i p : Nat} {txt : List UInt8} (h : Qd s i p txt) (hi : indexByte (tl s (p + 1)) 39 = -1) : chrS (tl s (i + 1)) = .bad 1 := by
  refine chrS_none ?_
  rw [h.2.2.2, qt_none _ (idx_no _ hi)]; rfl
theorem tl_cons {s : ByteArray} {i : Nat} (h : i < s.size) : tl s i = (s.data.toList.getD i 0) :: tl s (i + 1) := by
  unfold tl
  have hl : i < s.data.toList.length := by rw [← size_eq]; exact h
  rw [List.drop_eq_getElem_cons hl, List.getD_eq_getElem?_getD, List.getElem?_eq_getElem hl]; rfl
/-- The next quote: it is the last one, or one of two. -/
theorem Qd.step {s : ByteArray} {i p : Nat} {txt : List UInt8} (h : Qd s i p txt) {k : Nat} (hk : indexByte (tl s (p + 1)) 39 = (k : Int)) :
    p + 1 + k < s.size ∧
    (hasPrefix (tl s (p + 1 + (k + 1))) [39] = true → Qd s i (p + 1 + (k + 1)) ((txt ++ (tl s (p + 1)).take k) ++ [39])) ∧
    (hasPrefix (tl s (p + 1 + (k + 1))) [39] = false → chrS (tl s (i + 1)) = if qbl (txt ++ (tl s (p + 1)).take k) = true then .ok ⟨2, 0, 0, txt ++ (tl s (p + 1)).take k⟩ (p + 1 + (k + 1) - i) else .bad 1) := by
  obtain ⟨h1, h2, h3, h4⟩ := h
  obtain ⟨y1, y2, y3⟩ := idx_yes _ k hk
  rw [tl_len] at y1
  have hs := qt_skip k (tl s (p + 1)) (by rw [tl_len]; omega) y2
  rw [tl_drop] at hs
  have hc := tl_cons (s := s) (i := p + 1 + k) (by omega)
  have hb : (s.data.toList.getD (p + 1 + k) 0).toNat = 39 := by
    unfold tl at y3
    rw [List.getD_eq_getElem?_getD, List.getElem?_drop] at y3
    rw [List.getD_eq_getElem?_getD]; exact y3
  rw [show p + 1 + k + 1 = p + 1 + (k + 1) by omega] at hc
  have hlt : ((tl s (p + 1)).take k).length = k := by rw [List.length_take, tl_len]; omega
  refine ⟨by omega, fun hp => ?_, fun hp => ?_⟩
  · cases hq : tl s (p + 1 + (k + 1)) with
    | nil => rw [hq] at hp; cases hp
    | cons c r =>
      rw [hq] at hp hc
      have hc39 : c = 39 := by
        have : ((39 : UInt8) == c && true) = true := by unfold hasPrefix at hp; simpa [List.isPrefixOf] using hp
        rw [Bool.and_true, beq_iff_eq] at this; exact this.symm
      have hlen : p + 1 + (k + 1) < s.size := by
        have := congrArg List.length hq
        rw [tl_len, List.length_cons] at this; omega
      have hr : r = tl s (p + 1 + (k + 1) + 1) := by
        have := tl_cons hlen
        rw [hq] at this
        exact (List.cons.inj this).2
      refine ⟨by omega, hlen, by rw [List.length_append, List.length_append, hlt, List.length_singleton]; omega, ?_⟩
      rw [h4, hs, hc, qt_two hb (by rw [hc39]; rfl), ← hr]
      cases qt r with
      | none => rfl
      | some x =>
        simp only [Option.map_some]
        rw [show p - i + (k + (x.2 + 2)) = p + 1 + (k + 1) - i + x.2 by omega]
        simp
  · have hend : qt (tl s (p + 1 + k)) = some ([], 1) := by
      rw [hc]
      cases hq : tl s (p + 1 + (k + 1)) with
      | nil => exact qt_one hb
      | cons c r =>
        rw [hq] at hp
        refine qt_end hb fun e => ?_
        have : c = 39 := u8_eq e
        subst this
        exact absurd hp (by unfold hasPrefix; simp [List.isPrefixOf])
    have he : qt (tl s (i + 1)) = some (txt ++ (tl s (p + 1)).take k, p - i + (k + 1)) := by
      rw [h4, hs, hend]
      simp only [Option.map_some, List.append_nil]
    rw [chrS_some he, show p - i + (k + 1) + 1 = p + 1 + (k + 1) - i by omega]
end Go.Proofs.YtgjgbgllhbdodaaGreatDoor
/-! Lxg: The program reads Chars. -/
namespace Go.Proofs.YtgjgbgllhbdodaaGreatDoor
open Go.RowKit Go.Lib
set_option linter.unusedVariables false

theorem Bld.go {w w' : World} {B b : Nat} {l : List UInt8} (h : Bld w B b l) (hB : Below w.heap.size w w') : Bld w' B b l := by
  have lt : ∀ {j : Nat} {o : Obj}, w.heap[j]? = some o → j < w.heap.size := fun h => by
    obtain ⟨hlt, _⟩ := Array.getElem?_eq_some_iff.1 h
    exact hlt
  have one : ∀ p : Value, BuilderAtF 136 5 B b p (byteCells l) w → BuilderAtF 136 5 B b p (byteCells l) w' := by
    rintro p ⟨h1, v, h2, ⟨h3, h4⟩, h5⟩
    refine ⟨h1, v, (hB.block b (lt h2)).trans h2, ⟨h3, ?_⟩, h5⟩
    rcases h4 with h4 | ⟨g, cap, cur, fz, e1, e2, e3, e4⟩
    · exact .inl h4
    · exact .inr ⟨g, cap, cur, fz, e1, e2, (hB.block g (lt e3)).trans e3, e4⟩
  rcases h with h | h
  · exact .inl (one _ h)
  · exact .inr (one _ h)
set_option maxRecDepth 100000 in
set_option maxHeartbeats 8000000 in
theorem chars_any17 (s : ByteArray) (i : Nat) (hi : i < s.size) (hs : s.size ≤ 100000) (w : World) (hT : Lib.Utf8Tabs (Tryz.laysValid_ren.g 3) (Tryz.laysValid_ren.g 4) w) :
    Calls Tryz.prog 75 #[.string s, .int .i64 i] w (WdP (chrS (tl s (i + 1))) i w) := by
  have HT : Hid (Lib.Utf8Tabs (Tryz.laysValid_ren.g 3) (Tryz.laysValid_ren.g 4) w) := hT
  clear hT
  have HW : Hid (∀ W, chrS (tl s (i + 1)) = W → ∀ e w', WdP W i w e w' → WdP (chrS (tl s (i + 1))) i w e w') := fun W h e w' h2 => by rw [h]; exact h2
  go_enter Tryz.func75, Tryz.ntmps75
  go_wp2_with fail
  go_loopw [7] (fun v wr => ∃ (p : Nat) (txt : List UInt8), Hid (Qd s i p txt) ∧ v = .int .i64 p ∧ Hid (Bld wr (w.heap.size + 1) (w.heap.size + 1) txt) ∧ Hid (Tbx wr w.heap.size (.int .i64 0) (.int .i64 0) (.int .i64 0) (.string ⟨#[]⟩) (.int .i64 0)) ∧ Hid (w.heap.size + 1 ≤ wr.heap.size) ∧ Hid (Below w.heap.size w wr)) (fun v _ => s.size - (RowKit.intOf v).toNat)
  case atStart =>
    refine ⟨i, [], Qd.zero hi, rfl, ?_, (Tbx.new w _ _ _ _ _).al _, (by show _ ≤ _; simp), ((Below.refl _ w).alloc (Nat.le_refl _) _).alloc (by simp) _⟩
    have := Bld.new (w.alloc (.cells #[.int .i64 0, .int .i64 0, .int .i64 0, .string ⟨#[]⟩, .int .i64 0] 30))
    rw [World.size_alloc] at this
    exact this
  case round =>
    obtain ⟨p, txt, HQ, rfl, HD, HK, HS, HB⟩ := hrel
    obtain ⟨q1, q2, q3, _⟩ := HQ.out
    have hc := Tryz.strings_Index_one (s.extract (p + 1) s.size) 39
    rw [sx_list] at hc
    rcases (by have := indexByte_ge (tl s (p + 1)) 39; omega : indexByte (tl s (p + 1)) 39 = -1 ∨ 0 ≤ indexByte (tl s (p + 1)) 39) with hx | hx
    · have HE : Hid (chrS (tl s (i + 1)) = .bad 1) := HQ.out.no hx
      rw [hx] at hc
      clear hx
      go_wp2_with fail
      refine (hc _).mono ?_
      rintro e w' ⟨rfl, rfl⟩
      go_wp2_with fail
      exact ⟨rfl, HW.out _ HE.out _ _ ⟨HB.out, rfl⟩⟩
    · obtain ⟨k, hk⟩ : ∃ k : Nat, indexByte (tl s (p + 1)) 39 = (k : Int) := ⟨(indexByte (tl s (p + 1)) 39).toNat, by omega⟩
      obtain ⟨k1, KA, KB⟩ := HQ.out.step hk
      rw [hk] at hc
      clear hk hx
      have HA : Hid (hasPrefix (tl s (p + 1 + (k + 1))) [39] = true → Qd s i (p + 1 + (k + 1)) ((txt ++ (tl s (p + 1)).take k) ++ [39])) := KA
      have HZ : Hid (hasPrefix (tl s (p + 1 + (k + 1))) [39] = false → chrS (tl s (i + 1)) = if qbl (txt ++ (tl s (p + 1)).take k) = true then .ok ⟨2, 0, 0, txt ++ (tl s (p + 1)).take k⟩ (p + 1 + (k + 1) - i) else .bad 1) := KB
      clear KA KB
      have hx : (s.extract (p + 1) (p + 1 + k)).data.toList = (tl s (p + 1)).take k := by
        rw [extract_data, Nat.add_sub_cancel_left]; rfl
      have hxs : (s.extract (p + 1) (p + 1 + k)).size = k := by
        rw [size_eq, hx, List.length_take, tl_len]; omega
      have hc2 := Tryz.strings_HasPrefix (s.extract (p + 1 + (k + 1)) s.size) ⟨#[39]⟩
      rw [sx_list] at hc2
      have hc3 := bld_write (l := txt) HD.out
      have HX : Hid ((s.extract (p + 1) (p + 1 + k)).data.toList = (tl s (p + 1)).take k) := hx
      clear hx
      go_wp2_with fail
      refine (hc _).mono ?_
      rintro e w' ⟨rfl, rfl⟩
      go_wp2_with fail
      refine (hc3 _ (by omega) (by rw [hxs]; omega) HS.out).mono ?_
      rintro e w2 ⟨rfl, hD2, hB2⟩
      rw [HX.out] at hD2
      have HD2 : Hid (Bld w2 (w.heap.size + 1) (w.heap.size + 1) (txt ++ (tl s (p + 1)).take k)) := hD2
      have HK2 : Hid (Tbx w2 w.heap.size (.int .i64 0) (.int .i64 0) (.int .i64 0) (.string ⟨#[]⟩) (.int .i64 0)) := HK.out.bel hB2 (Nat.lt_succ_self _)
      have HS2 : Hid (w.heap.size + 1 ≤ w2.heap.size) := Nat.le_trans HS.out hB2.size
      have HB2 : Hid (Below w.heap.size w w2) := HB.out.trans (hB2.mono (Nat.le_succ _))
      clear hD2 hB2 hc hc3
      cases hp : hasPrefix (tl s (p + 1 + (k + 1))) [39]
      · have HV : Hid (chrS (tl s (i + 1)) = if qbl (txt ++ (tl s (p + 1)).take k) = true then .ok ⟨2, 0, 0, txt ++ (tl s (p + 1)).take k⟩ (p + 1 + (k + 1) - i) else .bad 1) := HZ.out hp
        rw [show hasPrefix (tl s (p + 1 + (k + 1))) ((⟨#[39]⟩ : ByteArray).data.toList) = false from hp] at hc2
        clear hp
        have hlen : (txt ++ (tl s (p + 1)).take k).length ≤ s.size := by rw [List.length_append, List.length_take, tl_len]; omega
        generalize txt ++ (tl s (p + 1)).take k = tx at *
        go_wp2_with fail
        refine (hc2 _).mono ?_
        rintro e w' ⟨rfl, rfl⟩
        go_wp2_with fail
        refine (bld_str HD2.out HS2.out).mono ?_
        rintro e w3 ⟨rfl, hD3, hB3⟩
        have HD3 : Hid (Bld w3 (w.heap.size + 1) (w.heap.size + 1) tx) := hD3
        have HK3 : Hid (Tbx w3 w.heap.size (.int .i64 0) (.int .i64 0) (.int .i64 0) (.string ⟨#[]⟩) (.int .i64 0)) := HK2.out.bel hB3 (Nat.lt_succ_self _)
        have HS3 : Hid (w.heap.size + 1 ≤ w3.heap.size) := Nat.le_trans HS2.out hB3.size
        have HB3 : Hid (Below w.heap.size w w3) := HB2.out.trans (hB3.mono (Nat.le_succ _))
        clear hD3 hB3
        go_wp2_with fail
        refine (arec_any ⟨tx.toArray⟩ (by rw [size_mk]; omega) _ (tabs_go HT.out HB3.out)).mono ?_
        rintro e w4 ⟨rfl, hB4⟩
        rw [show tl (⟨tx.toArray⟩ : ByteArray) 0 = tx from rfl]
        have HD4 : Hid (Bld w4 (w.heap.size + 1) (w.heap.size + 1) tx) := HD3.out.go hB4
        have HK4 : Hid (Tbx w4 w.heap.size (.int .i64 0) (.int .i64 0) (.int .i64 0) (.string ⟨#[]⟩) (.int .i64 0)) := HK3.out.go hB4
        have HS4 : Hid (w.heap.size + 1 ≤ w4.heap.size) := Nat.le_trans HS3.out hB4.size
        have HB4 : Hid (Below w.heap.size w w4) := HB3.out.trans (hB4.mono HB3.out.size)
        clear hB4
        cases hq : qbl tx
        · have HE : Hid (chrS (tl s (i + 1)) = .bad 1) := by show _ = _; rw [HV.out, hq]; rfl
          clear hq
          go_wp2_with fail
          exact ⟨rfl, HW.out _ HE.out _ _ ⟨HB4.out, rfl⟩⟩
        · have HE : Hid (chrS (tl s (i + 1)) = .ok ⟨2, 0, 0, tx⟩ (p + 1 + (k + 1) - i)) := by show _ = _; rw [HV.out, if_pos hq]
          clear hq
          go_wp2_with fail
          refine (bld_str HD4.out HS4.out).mono ?_
          rintro e w5 ⟨rfl, hD5, hB5⟩
          have K := HK4.out.bel hB5 (Nat.lt_succ_self _)
          have HB5 : Hid (Below w.heap.size w w5) := HB4.out.trans (hB5.mono (Nat.le_succ _))
          clear hD5 hB5
          have r0 := K.c0
          have r1 := K.c1
          have r2 := K.c2
          have r3 := K.c3
          have r4 := K.c4
          have f0 := K.fr 0
          have f1 := K.fr 1
          have f2 := K.fr 2
          have f3 := K.fr 3
          have f4 := K.fr 4
          go_wp2_with fail
          have F := K.set5 (.int .i64 2) (.int .i64 0) (.int .i64 0) (.string ⟨tx.toArray⟩) (.int .i64 i)
          have q0 := F.c0
          have q1' := F.c1
          have q2' := F.c2
          have q3' := F.c3
          have q4 := F.c4
          refine bodyPost_ret (v := .tuple #[tokV ⟨2, 0, 0, tx⟩ i, .int .i64 ((p : Int) + 1 + ((k : Int) + 1))]) (by simp [results, Tryz.results75, go_sem, tokV, q0, q1', q2', q3', q4]) rfl (HW.out _ HE.out _ _ ⟨bel_set5 HB5.out (Nat.le_refl _) _ _ _ _ _, ?_⟩)
          have e : (p : Int) + 1 + ((k : Int) + 1) = ((i + (p + 1 + (k + 1) - i) : Nat) : Int) := by omega
          rw [e]
      · have HV : Hid (Qd s i (p + 1 + (k + 1)) ((txt ++ (tl s (p + 1)).take k) ++ [39])) := HA.out hp
        rw [show hasPrefix (tl s (p + 1 + (k + 1))) ((⟨#[39]⟩ : ByteArray).data.toList) = true from hp] at hc2
        clear hp
        have hlen : (txt ++ (tl s (p + 1)).take k).length ≤ s.size := by rw [List.length_append, List.length_take, tl_len]; omega
        generalize txt ++ (tl s (p + 1)).take k = tx at *
        go_wp2_with fail
        refine (hc2 _).mono ?_
        rintro e w' ⟨rfl, rfl⟩
        go_wp2_with fail
        refine (bld_write HD2.out _ (by omega) (by decide) HS2.out).mono ?_
        rintro e w3 ⟨rfl, hD3, hB3⟩
        go_wp2_with fail
        refine ⟨⟨p + 1 + (k + 1), tx ++ [39], HV, by rw [Int.natCast_add, Int.natCast_add, Int.natCast_add]; rfl, hD3, HK2.out.bel hB3 (Nat.lt_succ_self _), Nat.le_trans HS2.out hB3.size, HB2.out.trans (hB3.mono (Nat.le_succ _))⟩, ?_⟩
        simp [RowKit.intOf]; omega
end Go.Proofs.YtgjgbgllhbdodaaGreatDoor
/-! Lxh: The program reads a word. -/
namespace Go.Proofs.YtgjgbgllhbdodaaGreatDoor
open Go.RowKit Go.Lib
set_option linter.unusedVariables false

theorem word_num {l : List UInt8} (h : minusB.isPrefixOf l = true) : wordS l = numW true ((l.drop 2).takeWhile isDg) := by
  obtain ⟨r, rfl⟩ := minus_split h
  exact wordS_minus r
theorem word_dig {b : UInt8} {r : List UInt8} (h : minusB.isPrefixOf (b :: r) = false) (hd : isDg b = true) : wordS (b :: r) = numW false ((b :: r).takeWhile isDg) := by
  rw [wordS_cons h, if_pos hd]
  unfold numW
  have := tk_pos (p := isDg) (r := r) hd
  rw [if_neg (fun e => by rw [e] at this; simp at this), if_neg Bool.false_ne_true, Nat.zero_add]
theorem word_err {l : List UInt8} {c : Int} (h : wordS l = .bad c) : c = 1 ∨ c = 6 ∨ c = 7 := by
  have num : ∀ {m : Bool} {ds : List UInt8} {k : Nat}, numS m ds k = .bad c → c = 1 ∨ c = 6 ∨ c = 7 := by
    intro m ds k h
    unfold numS at h
    by_cases hc : (if m = true then dgA 0 ds ≤ 9223372036854775808 else dgA 0 ds < 9223372036854775808)
    · rw [if_pos hc] at h; cases h
    · rw [if_neg hc] at h; cases h; omega
  have chr : ∀ {l : List UInt8}, chrS l = .bad c → c = 1 ∨ c = 6 ∨ c = 7 := by
    intro l h
    unfold chrS at h
    split at h
    · cases h; omega
    · split at h
      · cases h
      · cases h; omega
  have sig : ∀ {l : List UInt8}, sigS l = .bad c → c = 1 ∨ c = 6 ∨ c = 7 := by
    intro l h
    unfold sigS at h
    split at h
    · cases h
    · split at h
      · cases h
      · cases h; omega
  unfold wordS at h
  split at h
  · split at h
    · cases h; omega
    · exact num h
  · split at h
    · cases h; omega
    · split at h
      · exact num h
      · split at h
        · split at h
          · cases h; omega
          · cases h
        · split at h
          · exact chr h
          · exact sig h
set_option maxRecDepth 100000 in
set_option maxHeartbeats 8000000 in
theorem read_any17 (s : ByteArray) (i : Nat) (hi : i < s.size) (hs : s.size ≤ 100000) (w : World) (hT : Lib.Utf8Tabs (Tryz.laysValid_ren.g 3) (Tryz.laysValid_ren.g 4) w) (hr : HasRng w) :
    Calls Tryz.prog 39 #[.string s, .int .i64 i] w (WdP (wordS (tl s i)) i w) := by
  have hbt := bt_get s i hi
  have HT : Hid (Lib.Utf8Tabs (Tryz.laysValid_ren.g 3) (Tryz.laysValid_ren.g 4) (w.alloc (.cells #[.int .i64 0, .int .i64 0, .int .i64 0, .string ⟨#[]⟩, .int .i64 0] 30))) := tabs_go hT ((Below.refl _ w).alloc (Nat.le_refl _) _)
  have HR : Hid (HasRng (w.alloc (.cells #[.int .i64 0, .int .i64 0, .int .i64 0, .string ⟨#[]⟩, .int .i64 0] 30))) := hr.al _
  have HK : Hid (Tbx (w.alloc (.cells #[.int .i64 0, .int .i64 0, .int .i64 0, .string ⟨#[]⟩, .int .i64 0] 30)) w.heap.size (.int .i64 0) (.int .i64 0) (.int .i64 0) (.string ⟨#[]⟩) (.int .i64 0)) := Tbx.new w _ _ _ _ _
  have HB : Hid (Below w.heap.size w (w.alloc (.cells #[.int .i64 0, .int .i64 0, .int .i64 0, .string ⟨#[]⟩, .int .i64 0] 30))) := (Below.refl _ w).alloc (Nat.le_refl _) _
  have hm := Tryz.strings_HasPrefix (s.extract i s.size) ⟨#[194, 175]⟩
  have hq := Tryz.strings_HasPrefix (s.extract i s.size) ⟨#[39]⟩
  rw [sx_list] at hm hq
  have hc := tl_cons hi
  have hbb : bt s i = (s.data.toList.getD i 0).toNat := rfl
  have hd := dgI_is (s.data.toList.getD i 0)
  have hl := ltI_is (s.data.toList.getD i 0)
  rw [← hbb] at hd hl
  have hqq : hasPrefix (tl s i) ((⟨#[39]⟩ : ByteArray).data.toList) = decide (bt s i = 39) := by
    rw [hc]
    show ((39 : UInt8) == s.data.toList.getD i 0 && true) = _
    rw [Bool.and_true, hbb]
    by_cases e : (s.data.toList.getD i 0) = 39
    · rw [e]; rfl
    · rw [beq_eq_false_iff_ne.2 (Ne.symm e), decide_eq_false (fun q => e (u8_eq q))]
  cases hmm : minusB.isPrefixOf (tl s i)
  · have HM : Hid (hasPrefix (tl s i) ((⟨#[194, 175]⟩ : ByteArray).data.toList) = false) := hmm
    have hmc := hmm
    rw [hc] at hmc
    cases hdd : dgI (bt s i)
    · have HD : Hid (dgI (bt s i) = false) := hdd
      have hnd : ¬ isDg (s.data.toList.getD i 0) = true := by rw [← hd, hdd]; exact Bool.false_ne_true
      by_cases h39 : bt s i = 39
      · have HQ : Hid (hasPrefix (tl s i) ((⟨#[39]⟩ : ByteArray).data.toList) = true) := by show _ = _; rw [hqq]; exact decide_eq_true h39
        have hnl : ¬ isLt (s.data.toList.getD i 0) = true := fun e => by have := lt_dg e; have := lt_rng e; omega
        obtain ⟨W, hW⟩ : ∃ W, W = chrS (tl s (i + 1)) := ⟨_, rfl⟩
        have hw : wordS (tl s i) = W := by rw [hW, hc, wordS_cons hmc, if_neg hnd, if_neg hnl, if_pos (by rw [← hbb]; exact h39)]
        have HC := chars_any17 s i hi hs _ HT.out
        rw [← hW] at HC
        clear hW hqq h39 hnl hnd hdd hmc hmm hd hl hc hT hr hbb
        have HW : Hid (∀ e w', WdP W i w e w' → WdP (wordS (tl s i)) i w e w') := fun e w' h => by rw [hw]; exact h
        clear hw
        go_enter Tryz.func39, Tryz.ntmps39
        go_wp2_with fail
        refine (dig_any _ _).mono ?_
        rintro e w' ⟨rfl, rfl⟩
        rw [HD.out]
        go_wp2_with fail
        refine (hm _).mono ?_
        rintro e w' ⟨rfl, rfl⟩
        rw [HM.out]
        go_wp2_with fail
        refine (hq _).mono ?_
        rintro e w' ⟨rfl, rfl⟩
        rw [HQ.out]
        go_wp2_with fail
        refine (HC).mono ?_
        intro e w1 hP
        have HB1 : Hid (Below w.heap.size w w1) := HB.out.trans (hP.1.mono HB.out.size)
        have K := HK.out.go hP.1
        cases W with
        | error c =>
          obtain rfl := hP.2
          clear hP K
          simp only [panV]
          go_wp2_with fail
          exact ⟨rfl, HW.out _ _ ⟨HB1.out, rfl⟩⟩
        | ok tn =>
          obtain ⟨t, n⟩ := tn
          obtain rfl := hP.2
          have r0 := K.c0
          have r1 := K.c1
          have r2 := K.c2
          have r3 := K.c3
          have r4 := K.c4
          have f0 := K.fr 0
          have f1 := K.fr 1
          have f2 := K.fr 2
          have f3 := K.fr 3
          have f4 := K.fr 4
          clear hP
          obtain ⟨tk, tf, tn, tt⟩ := t
          simp only [tokV]
          go_wp2_with fail
          have F := K.set5 (.int .i64 tk) (.int .i64 tf) (.int .i64 tn) (.string ⟨tt.toArray⟩) (.int .i64 i)
          have q0 := F.c0
          have q1 := F.c1
          have q2 := F.c2
          have q3 := F.c3
          have q4 := F.c4
          refine bodyPost_ret (v := .tuple #[tokV ⟨tk, tf, tn, tt⟩ i, .int .i64 ((i + n : Nat) : Int)]) (by simp [results, Tryz.results39, go_sem, tokV, q0, q1, q2, q3, q4]) rfl (HW.out _ _ ⟨bel_set5 HB1.out (Nat.le_refl _) _ _ _ _ _, rfl⟩)
      · have HQ : Hid (hasPrefix (tl s i) ((⟨#[39]⟩ : ByteArray).data.toList) = false) := by show _ = _; rw [hqq]; exact decide_eq_false h39
        have hn39 : ¬ (s.data.toList.getD i 0).toNat = 39 := by rw [← hbb]; exact h39
        cases hll : ltI (bt s i)
        · have HL : Hid (ltI (bt s i) = false) := hll
          have hnl : ¬ isLt (s.data.toList.getD i 0) = true := by rw [← hl, hll]; exact Bool.false_ne_true
          obtain ⟨W, hW⟩ : ∃ W, W = sigS (tl s i) := ⟨_, rfl⟩
          have hw : wordS (tl s i) = W := by rw [hW, hc, wordS_cons hmc, if_neg hnd, if_neg hnl, if_neg hn39]
          have HC := sign_any s i hi hs _ HT.out
          rw [← hW] at HC
          clear hW hqq h39 hnl hnd hdd hmc hmm hd hl hc hT hr hbb hn39 hll
          have HW : Hid (∀ e w', WdP W i w e w' → WdP (wordS (tl s i)) i w e w') := fun e w' h => by rw [hw]; exact h
          clear hw
          go_enter Tryz.func39, Tryz.ntmps39
          go_wp2_with fail
          refine (dig_any _ _).mono ?_
          rintro e w' ⟨rfl, rfl⟩
          rw [HD.out]
          go_wp2_with fail
          refine (hm _).mono ?_
          rintro e w' ⟨rfl, rfl⟩
          rw [HM.out]
          go_wp2_with fail
          refine (hq _).mono ?_
          rintro e w' ⟨rfl, rfl⟩
          rw [HQ.out]
          go_wp2_with fail
          refine (let_any _ _).mono ?_
          rintro e w' ⟨rfl, rfl⟩
          rw [HL.out]
          go_wp2_with fail
          refine (HC).mono ?_
          intro e w1 hP
          have HB1 : Hid (Below w.heap.size w w1) := HB.out.trans (hP.1.mono HB.out.size)
          have K := HK.out.go hP.1
          cases W with
          | error c =>
            obtain rfl := hP.2
            clear hP K
            simp only [panV]
            go_wp2_with fail
            exact ⟨rfl, HW.out _ _ ⟨HB1.out, rfl⟩⟩
          | ok tn =>
            obtain ⟨t, n⟩ := tn
            obtain rfl := hP.2
            have r0 := K.c0
            have r1 := K.c1
            have r2 := K.c2
            have r3 := K.c3
            have r4 := K.c4
            have f0 := K.fr 0
            have f1 := K.fr 1
            have f2 := K.fr 2
            have f3 := K.fr 3
            have f4 := K.fr 4
            clear hP
            obtain ⟨tk, tf, tn, tt⟩ := t
            simp only [tokV]
            go_wp2_with fail
            have F := K.set5 (.int .i64 tk) (.int .i64 tf) (.int .i64 tn) (.string ⟨tt.toArray⟩) (.int .i64 i)
            have q0 := F.c0
            have q1 := F.c1
            have q2 := F.c2
            have q3 := F.c3
            have q4 := F.c4
            refine bodyPost_ret (v := .tuple #[tokV ⟨tk, tf, tn, tt⟩ i, .int .i64 ((i + n : Nat) : Int)]) (by simp [results, Tryz.results39, go_sem, tokV, q0, q1, q2, q3, q4]) rfl (HW.out _ _ ⟨bel_set5 HB1.out (Nat.le_refl _) _ _ _ _ _, rfl⟩)
        · have HL : Hid (ltI (bt s i) = true) := hll
          have hyl : isLt (s.data.toList.getD i 0) = true := by rw [← hl, hll]
          obtain ⟨W, hW⟩ : ∃ W, W = (if 12 < ((tl s i).takeWhile isPt).length then Wd.bad 7 else .ok ⟨3, 0, 0, (tl s i).takeWhile isPt⟩ ((tl s i).takeWhile isPt).length) := ⟨_, rfl⟩
          have hw : wordS (tl s i) = W := by rw [hW, hc, wordS_cons hmc, if_neg hnd, if_pos hyl]
          have HC := name_any s i (Nat.le_of_lt hi) (by omega) (w.alloc (.cells #[.int .i64 0, .int .i64 0, .int .i64 0, .string ⟨#[]⟩, .int .i64 0] 30))
          rw [← hW] at HC
          clear hW hqq h39 hyl hnd hdd hmc hmm hd hl hc hT hr hbb hn39 hll
          have HW : Hid (∀ e w', WdP W i w e w' → WdP (wordS (tl s i)) i w e w') := fun e w' h => by rw [hw]; exact h
          clear hw
          go_enter Tryz.func39, Tryz.ntmps39
          go_wp2_with fail
          refine (dig_any _ _).mono ?_
          rintro e w' ⟨rfl, rfl⟩
          rw [HD.out]
          go_wp2_with fail
          refine (hm _).mono ?_
          rintro e w' ⟨rfl, rfl⟩
          rw [HM.out]
          go_wp2_with fail
          refine (hq _).mono ?_
          rintro e w' ⟨rfl, rfl⟩
          rw [HQ.out]
          go_wp2_with fail
          refine (let_any _ _).mono ?_
          rintro e w' ⟨rfl, rfl⟩
          rw [HL.out]
          go_wp2_with fail
          refine (HC).mono ?_
          intro e w1 hP
          have HB1 : Hid (Below w.heap.size w w1) := HB.out.trans (hP.1.mono HB.out.size)
          have K := HK.out.go hP.1
          cases W with
          | error c =>
            obtain rfl := hP.2
            clear hP K
            simp only [panV]
            go_wp2_with fail
            exact ⟨rfl, HW.out _ _ ⟨HB1.out, rfl⟩⟩
          | ok tn =>
            obtain ⟨t, n⟩ := tn
            obtain rfl := hP.2
            have r0 := K.c0
            have r1 := K.c1
            have r2 := K.c2
            have r3 := K.c3
            have r4 := K.c4
            have f0 := K.fr 0
            have f1 := K.fr 1
            have f2 := K.fr 2
            have f3 := K.fr 3
            have f4 := K.fr 4
            clear hP
            obtain ⟨tk, tf, tn, tt⟩ := t
            simp only [tokV]
            go_wp2_with fail
            have F := K.set5 (.int .i64 tk) (.int .i64 tf) (.int .i64 tn) (.string ⟨tt.toArray⟩) (.int .i64 i)
            have q0 := F.c0
            have q1 := F.c1
            have q2 := F.c2
            have q3 := F.c3
            have q4 := F.c4
            refine bodyPost_ret (v := .tuple #[tokV ⟨tk, tf, tn, tt⟩ i, .int .i64 ((i + n : Nat) : Int)]) (by simp [results, Tryz.results39, go_sem, tokV, q0, q1, q2, q3, q4]) rfl (HW.out _ _ ⟨bel_set5 HB1.out (Nat.le_refl _) _ _ _ _ _, rfl⟩)
    · have HD : Hid (dgI (bt s i) = true) := hdd
      have hyd : isDg (s.data.toList.getD i 0) = true := by rw [← hd, hdd]
      obtain ⟨W, hW⟩ : ∃ W, W = numW false (((tl s i).drop (if false = true then 2 else 0)).takeWhile isDg) := ⟨_, rfl⟩
      have hw : wordS (tl s i) = W := by rw [hW, if_neg Bool.false_ne_true, List.drop_zero, hc, word_dig hmc hyd]
      have HC := num_any s i (Nat.le_of_lt hi) hs _ HR.out false hmm
      rw [← hW] at HC
      clear hW hqq hyd hdd hmc hmm hd hl hc hT hr hbb
      have HW : Hid (∀ e w', WdP W i w e w' → WdP (wordS (tl s i)) i w e w') := fun e w' h => by rw [hw]; exact h
      clear hw
      go_enter Tryz.func39, Tryz.ntmps39
      go_wp2_with fail
      refine (dig_any _ _).mono ?_
      rintro e w' ⟨rfl, rfl⟩
      rw [HD.out]
      go_wp2_with fail
      refine (HC).mono ?_
      intro e w1 hP
      have HB1 : Hid (Below w.heap.size w w1) := HB.out.trans (hP.1.mono HB.out.size)
      have K := HK.out.go hP.1
      cases W with
      | error c =>
        obtain rfl := hP.2
        clear hP K
        simp only [panV]
        go_wp2_with fail
        exact ⟨rfl, HW.out _ _ ⟨HB1.out, rfl⟩⟩
      | ok tn =>
        obtain ⟨t, n⟩ := tn
        obtain rfl := hP.2
        have r0 := K.c0
        have r1 := K.c1
        have r2 := K.c2
        have r3 := K.c3
        have r4 := K.c4
        have f0 := K.fr 0
        have f1 := K.fr 1
        have f2 := K.fr 2
        have f3 := K.fr 3
        have f4 := K.fr 4
        clear hP
        obtain ⟨tk, tf, tn, tt⟩ := t
        simp only [tokV]
        go_wp2_with fail
        have F := K.set5 (.int .i64 tk) (.int .i64 tf) (.int .i64 tn) (.string ⟨tt.toArray⟩) (.int .i64 i)
        have q0 := F.c0
        have q1 := F.c1
        have q2 := F.c2
        have q3 := F.c3
        have q4 := F.c4
        refine bodyPost_ret (v := .tuple #[tokV ⟨tk, tf, tn, tt⟩ i, .int .i64 ((i + n : Nat) : Int)]) (by simp [results, Tryz.results39, go_sem, tokV, q0, q1, q2, q3, q4]) rfl (HW.out _ _ ⟨bel_set5 HB1.out (Nat.le_refl _) _ _ _ _ _, rfl⟩)
  · have HM : Hid (hasPrefix (tl s i) ((⟨#[194, 175]⟩ : ByteArray).data.toList) = true) := hmm
    have HD : Hid (dgI (bt s i) = false) := by
      show _ = _
      obtain ⟨r, hrr⟩ := minus_split hmm
      rw [hc] at hrr
      rw [hd, (List.cons.inj hrr).1]; rfl
    obtain ⟨W, hW⟩ : ∃ W, W = numW true (((tl s i).drop (if true = true then 2 else 0)).takeWhile isDg) := ⟨_, rfl⟩
    have hw : wordS (tl s i) = W := by rw [hW, if_pos rfl, word_num hmm]
    have HC := num_any s i (Nat.le_of_lt hi) hs _ HR.out true hmm
    rw [← hW] at HC
    clear hW hqq hmm hd hl hc hT hr hbb
    have HW : Hid (∀ e w', WdP W i w e w' → WdP (wordS (tl s i)) i w e w') := fun e w' h => by rw [hw]; exact h
    clear hw
    go_enter Tryz.func39, Tryz.ntmps39
    go_wp2_with fail
    refine (dig_any _ _).mono ?_
    rintro e w' ⟨rfl, rfl⟩
    rw [HD.out]
    go_wp2_with fail
    refine (hm _).mono ?_
    rintro e w' ⟨rfl, rfl⟩
    rw [HM.out]
    go_wp2_with fail
    refine (HC).mono ?_
    intro e w1 hP
    have HB1 : Hid (Below w.heap.size w w1) := HB.out.trans (hP.1.mono HB.out.size)
    have K := HK.out.go hP.1
    cases W with
    | error c =>
      obtain rfl := hP.2
      clear hP K
      simp only [panV]
      go_wp2_with fail
      exact ⟨rfl, HW.out _ _ ⟨HB1.out, rfl⟩⟩
    | ok tn =>
      obtain ⟨t, n⟩ := tn
      obtain rfl := hP.2
      have r0 := K.c0
      have r1 := K.c1
      have r2 := K.c2
      have r3 := K.c3
      have r4 := K.c4
      have f0 := K.fr 0
      have f1 := K.fr 1
      have f2 := K.fr 2
      have f3 := K.fr 3
      have f4 := K.fr 4
      clear hP
      obtain ⟨tk, tf, tn, tt⟩ := t
      simp only [tokV]
      go_wp2_with fail
      have F := K.set5 (.int .i64 tk) (.int .i64 tf) (.int .i64 tn) (.string ⟨tt.toArray⟩) (.int .i64 i)
      have q0 := F.c0
      have q1 := F.c1
      have q2 := F.c2
      have q3 := F.c3
      have q4 := F.c4
      refine bodyPost_ret (v := .tuple #[tokV ⟨tk, tf, tn, tt⟩ i, .int .i64 ((i + n : Nat) : Int)]) (by simp [results, Tryz.results39, go_sem, tokV, q0, q1, q2, q3, q4]) rfl (HW.out _ _ ⟨bel_set5 HB1.out (Nat.le_refl _) _ _ _ _ _, rfl⟩)
end Go.Proofs.YtgjgbgllhbdodaaGreatDoor
/-! Lxi: What a wrong word panicked with is told; the deferred call of Read. -/
namespace Go.Proofs.YtgjgbgllhbdodaaGreatDoor
open Go.RowKit Go.Lib
set_option linter.unusedVariables false

theorem ta_hit {P : Program} {S x : TypeId} (v : Value) (w : World) (hu : P.underlying S = some (.int .i64)) :
    (Instr.typeAssert (.iface S v) x S true).run P w = .ok (.tuple #[v, .bool true]) w := by
  simp [Instr.typeAssert, run_underlying hu, Sem.run_bind, Result.andThen]
theorem ta_miss {P : Program} {S T x : TypeId} (v : Value) (w : World) (hu : P.underlying S = some (.int .i64)) (hz : (zeroValue S).run P w = .ok (.int .i64 0) w) (h : T ≠ S) :
    (Instr.typeAssert (.iface T v) x S true).run P w = .ok (.tuple #[.int .i64 0, .bool false]) w := by
  simp [Instr.typeAssert, run_underlying hu, hz, h, Sem.run_bind, Result.andThen]
set_option maxRecDepth 100000 in
set_option maxHeartbeats 2000000 in
theorem told_any17 (c : Int) (hc : c = 1 ∨ c = 6 ∨ c = 7) (n : Int) (w : World) :
    Calls Tryz.prog 33 #[.iface (errT c) (.int .i64 n)] w fun e w' => e = .returned (.tuple #[.int .i64 n, errV c]) ∧ w' = w := by
  rcases hc with rfl | rfl | rfl
  · have h1 := fun w => ta_hit (P := Tryz.prog) (S := 130) (x := 20) (.int .i64 n) w Tryz.underlying130
    simp only [errT]
    go_enter Tryz.func33, Tryz.ntmps33
    go_wp2_with fail
    exact bodyPost_ret (v := .tuple #[.int .i64 n, errV 1]) (by simp [results, Tryz.results33, go_sem, errV]) rfl ⟨rfl, rfl⟩
  · have h1 := fun w => ta_miss (P := Tryz.prog) (S := 130) (T := 131) (x := 20) (.int .i64 n) w Tryz.underlying130 (Tryz.zeroValue130 w) (by decide)
    have h2 := fun w => ta_hit (P := Tryz.prog) (S := 131) (x := 20) (.int .i64 n) w Tryz.underlying131
    simp only [errT]
    go_enter Tryz.func33, Tryz.ntmps33
    go_wp2_with fail
    exact bodyPost_ret (v := .tuple #[.int .i64 n, errV 6]) (by simp [results, Tryz.results33, go_sem, errV]) rfl ⟨rfl, rfl⟩
  · have h1 := fun w => ta_miss (P := Tryz.prog) (S := 130) (T := 79) (x := 20) (.int .i64 n) w Tryz.underlying130 (Tryz.zeroValue130 w) (by decide)
    have h2 := fun w => ta_miss (P := Tryz.prog) (S := 131) (T := 79) (x := 20) (.int .i64 n) w Tryz.underlying131 (Tryz.zeroValue131 w) (by decide)
    have h3 := fun w => ta_hit (P := Tryz.prog) (S := 79) (x := 20) (.int .i64 n) w Tryz.underlying79
    simp only [errT]
    go_enter Tryz.func33, Tryz.ntmps33
    go_wp2_with fail
    exact bodyPost_ret (v := .tuple #[.int .i64 n, errV 7]) (by simp [results, Tryz.results33, go_sem, errV]) rfl ⟨rfl, rfl⟩
set_option maxRecDepth 100000 in
set_option maxHeartbeats 2000000 in
theorem catch17 (c : Int) (hc : c = 1 ∨ c = 6 ∨ c = 7) (n : Int) (k : Nat) (v0 v1 v2 : Value) (w : World) (h0 : w.heap[k]? = some (.cells #[v0] 22 (0, 0))) (h1 : w.heap[k + 1]? = some (.cells #[v1] 3 (0, 0))) (h2 : w.heap[k + 2]? = some (.cells #[v2] 25 (0, 0))) :
    CallsD Tryz.prog 36 #[.pointer (some ⟨k, 0, none⟩), .pointer (some ⟨k + 1, 0, none⟩), .pointer (some ⟨k + 2, 0, none⟩)] (.panicking [{ v := .iface (errT c) (.int .i64 n), recovered := false }]) w fun e u' w' =>
      e = .returned (.tuple #[]) ∧ u' = .panicking [{ v := .iface (errT c) (.int .i64 n), recovered := true }] ∧ w' = ((w.setCell ⟨k, 0, none⟩ (.slice none 0 0)).setCell ⟨k + 1, 0, none⟩ (.int .i64 n)).setCell ⟨k + 2, 0, none⟩ (errV c) := by
  refine callsD_of_wpS Tryz.func36 rfl fun c₀ cs hu => ?_
  apply wpS_seq
  apply wpS_region
  simp [wpOpsS, go_sem, recoverD, hu, Tryz.ntmps36, Exit.thenS]
  refine wpS_of_wp ?_
  have ht := told_any17 c hc n
  have he : errV c = .iface 36 (.int .i64 c) := errV_pos (by omega)
  rw [he] at ht ⊢
  have hb0 : w.cell? ⟨k, 0, none⟩ = some v0 := by simp [World.cell?, h0]
  have hz0 : w.frozen? ⟨k, 0, none⟩ = false := by simp [World.frozen?, h0]
  have e1 : (w.setCell ⟨k, 0, none⟩ (.slice none 0 0)).heap[k + 1]? = some (.cells #[v1] 3 (0, 0)) := (Below.heap_setCell w ⟨k, 0, none⟩ _ (k + 1) (by show k + 1 ≠ k; omega)).trans h1
  have e2 : (w.setCell ⟨k, 0, none⟩ (.slice none 0 0)).heap[k + 2]? = some (.cells #[v2] 25 (0, 0)) := (Below.heap_setCell w ⟨k, 0, none⟩ _ (k + 2) (by show k + 2 ≠ k; omega)).trans h2
  obtain ⟨w1, hw1⟩ : ∃ w1, w1 = w.setCell ⟨k, 0, none⟩ (.slice none 0 0) := ⟨_, rfl⟩
  rw [← hw1] at e1 e2
  have hb1 : w1.cell? ⟨k + 1, 0, none⟩ = some v1 := by simp [World.cell?, e1]
  have hz1 : w1.frozen? ⟨k + 1, 0, none⟩ = false := by simp [World.frozen?, e1]
  have e3 : (w1.setCell ⟨k + 1, 0, none⟩ (.int .i64 n)).heap[k + 2]? = some (.cells #[v2] 25 (0, 0)) := (Below.heap_setCell w1 ⟨k + 1, 0, none⟩ _ (k + 2) (by show k + 2 ≠ k + 1; omega)).trans e2
  have hb2 : (w1.setCell ⟨k + 1, 0, none⟩ (.int .i64 n)).cell? ⟨k + 2, 0, none⟩ = some v2 := by simp [World.cell?, e3]
  have hz2 : (w1.setCell ⟨k + 1, 0, none⟩ (.int .i64 n)).frozen? ⟨k + 2, 0, none⟩ = false := by simp [World.frozen?, e3]
  rw [← hw1]
  have HW : Hid (w1 = w.setCell ⟨k, 0, none⟩ (.slice none 0 0)) := hw1
  clear e1 e2 e3 h0 h1 h2 hw1
  change Code.wp Tryz.prog _ _ { tmps := #[.pointer (some ⟨k, 0, none⟩), .pointer (some ⟨k + 1, 0, none⟩), .pointer (some ⟨k + 2, 0, none⟩), .iface (errT c) (.int .i64 n), .iface (errT c) (.int .i64 n), undef, undef, undef, undef, undef, undef, undef], defers := [] } w
  go_wp2_with fail
  rw [← HW.out]
  refine (ht _).mono ?_
  rintro e w' ⟨rfl, rfl⟩
  go_wp2_with fail
  simp [bodyPostS, results, Tryz.results36]
theorem idle17 (k : Nat) (w : World) :
    CallsD Tryz.prog 36 #[.pointer (some ⟨k, 0, none⟩), .pointer (some ⟨k + 1, 0, none⟩), .pointer (some ⟨k + 2, 0, none⟩)] .returning w fun e u' w' => e = .returned (.tuple #[]) ∧ u' = .returning ∧ w' = w := by
  refine callsD_of_wpS Tryz.func36 rfl fun c₀ cs hu => ?_
  apply wpS_seq
  apply wpS_region
  simp [wpOpsS, go_sem, recoverD, hu, Tryz.ntmps36, Exit.thenS]
  refine wpS_of_wp ?_
  change Code.wp Tryz.prog _ _ { tmps := #[.pointer (some ⟨k, 0, none⟩), .pointer (some ⟨k + 1, 0, none⟩), .pointer (some ⟨k + 2, 0, none⟩), .nilIface, .nilIface, undef, undef, undef, undef, undef, undef, undef], defers := [] } w
  go_wp2_with fail
  cases c₀
  simp_all [bodyPostS, results, Tryz.results36]
end Go.Proofs.YtgjgbgllhbdodaaGreatDoor
