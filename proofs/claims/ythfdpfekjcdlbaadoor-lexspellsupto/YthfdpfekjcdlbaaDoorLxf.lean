/-
  A builder that holds bytes; and the program reads Chars.
-/
import Derived.Test.YthfdpfekjcdlbaaDoorLxe
namespace Go.Proofs.YthfdpfekjcdlbaaDoor
open Go.RowKit Go.Lib
set_option linter.unusedVariables false

/-- A builder of the call's own holds these bytes. -/
def Bld (w : World) (B b : Nat) (l : List UInt8) : Prop := IsBuilderF 58 5 B b (byteCells l) w
theorem Bld.new (w : World) : Bld (w.alloc (.cells #[.pointer none, .slice none 0 0] 58)) w.heap.size w.heap.size [] := IsBuilderF.of (fresh_isBuilder _ _ w)
theorem Bld.al {w : World} {B b : Nat} {l : List UInt8} (h : Bld w B b l) (o : Obj) : Bld (w.alloc o) B b l := IsBuilderF.alloc h o
theorem bld_write {w : World} {B b : Nat} {l : List UInt8} (h : Bld w B b l) (t : ByteArray) (hl : l.length ≤ 10000000) (ht : t.size ≤ 10000000) (hB : B ≤ w.heap.size) :
    Calls Tryd.prog 24 #[.pointer (some ⟨b, 0, none⟩), .string t] w fun e w' => e = .returned (.tuple #[.int .i64 t.size, .nilIface]) ∧ Bld w' B b (l ++ t.data.toList) ∧ Below B w w' := by
  refine (Any.Builder_WriteString_f { Tryd.lays154 with } Tryd.Builder_Extra_154 B b (byteCells l) t w h (by rw [byteCells_length]; omega) hB).mono ?_
  rintro e w' ⟨rfl, h1, h2⟩
  refine ⟨rfl, .inr ?_, h2⟩
  rw [byteCells_append, ← strCells_eq]; exact h1
theorem bld_str {w : World} {B b : Nat} {l : List UInt8} (h : Bld w B b l) (hB : B ≤ w.heap.size) :
    Calls Tryd.prog 27 #[.pointer (some ⟨b, 0, none⟩)] w fun e w' => e = .returned (.string ⟨l.toArray⟩) ∧ Bld w' B b l ∧ Below B w w' :=
  Tryd.Builder_String_any_f B b l w h hB
theorem chrS_none {l : List UInt8} (h : qt l = none) : chrS l = .bad 1 := by unfold chrS; rw [h]
theorem chrS_some {l t : List UInt8} {n : Nat} (h : qt l = some (t, n)) : chrS l = if qbl t = true then .ok ⟨2, 0, 0, t⟩ (n + 1) else .bad 1 := by unfold chrS; rw [h]
/-- What has been read of Chars up to a quote. -/
def Qd (s : ByteArray) (i p : Nat) (txt : List UInt8) : Prop :=
  i ≤ p ∧ p < s.size ∧ txt.length ≤ p ∧ qt (tl s (i + 1)) = (qt (tl s (p + 1))).map (fun x => (txt ++ x.1, p - i + x.2))
theorem Qd.zero {s : ByteArray} {i : Nat} (hi : i < s.size) : Qd s i i [] := by
  refine ⟨Nat.le_refl _, hi, by simp, ?_⟩
  rw [Nat.sub_self]
  cases qt (tl s (i + 1)) with
  | none => rfl
  | some x => rw [Option.map_some, List.nil_append, Nat.zero_add]
theorem tl_len (s : ByteArray) (i : Nat) : (tl s i).length = s.size - i := by rw [tl, List.length_drop, ← size_eq]
theorem Qd.no {s : ByteArray} {i p : Nat} {txt : List UInt8} (h : Qd s i p txt) (hi : indexByte (tl s (p + 1)) 39 = -1) : chrS (tl s (i + 1)) = .bad 1 := by
  refine chrS_none ?_
  rw [h.2.2.2, qt_none _ (idx_no _ hi)]; rfl
theorem tl_cons {s : ByteArray} {i : Nat} (h : i < s.size) : tl s i = (s.data.toList.getD i 0) :: tl s (i + 1) := by
  unfold tl
  have hl : i < s.data.toList.length := by rw [← size_eq]; exact h
  rw [List.drop_eq_getElem_cons hl, List.getD_eq_getElem?_getD, List.getElem?_eq_getElem hl]; rfl
/-- The next quote: it is the last one, or one of two. -/
theorem Qd.step {s : ByteArray} {i p : Nat} {txt : List UInt8} (h : Qd s i p txt) {k : Nat} (hk : indexByte (tl s (p + 1)) 39 = (k : Int)) :
    p + 1 + k < s.size ∧
    (hasPrefix (tl s (p + 1 + (k + 1))) [39] = true → Qd s i (p + 1 + (k + 1)) ((txt ++ (tl s (p + 1)).take k) ++ [39])) ∧
    (hasPrefix (tl s (p + 1 + (k + 1))) [39] = false → chrS (tl s (i + 1)) = if qbl (txt ++ (tl s (p + 1)).take k) = true then .ok ⟨2, 0, 0, txt ++ (tl s (p + 1)).take k⟩ (p + 1 + (k + 1) - i) else .bad 1) := by
  obtain ⟨h1, h2, h3, h4⟩ := h
  obtain ⟨y1, y2, y3⟩ := idx_yes _ k hk
  rw [tl_len] at y1
  have hs := qt_skip k (tl s (p + 1)) (by rw [tl_len]; omega) y2
  rw [tl_drop] at hs
  have hc := tl_cons (s := s) (i := p + 1 + k) (by omega)
  have hb : (s.data.toList.getD (p + 1 + k) 0).toNat = 39 := by
    unfold tl at y3
    rw [List.getD_eq_getElem?_getD, List.getElem?_drop] at y3
    rw [List.getD_eq_getElem?_getD]; exact y3
  rw [show p + 1 + k + 1 = p + 1 + (k + 1) by omega] at hc
  have hlt : ((tl s (p + 1)).take k).length = k := by rw [List.length_take, tl_len]; omega
  refine ⟨by omega, fun hp => ?_, fun hp => ?_⟩
  · cases hq : tl s (p + 1 + (k + 1)) with
    | nil => rw [hq] at hp; cases hp
    | cons c r =>
      rw [hq] at hp hc
      have hc39 : c = 39 := by
        have : ((39 : UInt8) == c && true) = true := by unfold hasPrefix at hp; simpa [List.isPrefixOf] using hp
        rw [Bool.and_true, beq_iff_eq] at this; exact this.symm
      have hlen : p + 1 + (k + 1) < s.size := by
        have := congrArg List.length hq
        rw [tl_len, List.length_cons] at this; omega
      have hr : r = tl s (p + 1 + (k + 1) + 1) := by
        have := tl_cons hlen
        rw [hq] at this
        exact (List.cons.inj this).2
      refine ⟨by omega, hlen, by rw [List.length_append, List.length_append, hlt, List.length_singleton]; omega, ?_⟩
      rw [h4, hs, hc, qt_two hb (by rw [hc39]; rfl), ← hr]
      cases qt r with
      | none => rfl
      | some x =>
        simp only [Option.map_some]
        rw [show p - i + (k + (x.2 + 2)) = p + 1 + (k + 1) - i + x.2 by omega]
        simp
  · have hend : qt (tl s (p + 1 + k)) = some ([], 1) := by
      rw [hc]
      cases hq : tl s (p + 1 + (k + 1)) with
      | nil => exact qt_one hb
      | cons c r =>
        rw [hq] at hp
        refine qt_end hb fun e => ?_
        have : c = 39 := u8_eq e
        subst this
        exact absurd hp (by unfold hasPrefix; simp [List.isPrefixOf])
    have he : qt (tl s (i + 1)) = some (txt ++ (tl s (p + 1)).take k, p - i + (k + 1)) := by
      rw [h4, hs, hend]
      simp only [Option.map_some, List.append_nil]
    rw [chrS_some he, show p - i + (k + 1) + 1 = p + 1 + (k + 1) - i by omega]
end Go.Proofs.YthfdpfekjcdlbaaDoor
