/-
  Plain mathematics of texts: the characters of a list of bytes, one behind the other; nothing of the program.
-/
import Derived.Lib.ValidU
import Derived.Lib.TrimUEq
import Derived.Lib.MapLaws
import Derived.Test.YtgjgbgllhbdodaaGreatDoorBas9
namespace Go.Proofs.YtgjgbgllhbdodaaGreatDoor
open Go.Lib
set_option linter.unusedVariables false

/-- The characters, by at most so many steps of the decoder. -/
def runesN : Nat → List UInt8 → List Int
  | 0, _ => []
  | n + 1, l => if l = [] then [] else ((decodeL l).1 : Int) :: runesN n (l.drop (decodeL l).2)
/-- The characters of a list of bytes. -/
def runesL (l : List UInt8) : List Int := runesN l.length l
/-- The decoder's step is none: it tells that there is no character. -/
def badR (l : List UInt8) : Prop := (decodeL l).1 = 65533 ∧ (decodeL l).2 = 1
theorem drop_short {l : List UInt8} (h : l ≠ []) : (l.drop (decodeL l).2).length < l.length := by
  have h1 := decodeL_width l
  have h2 := List.length_pos_iff.2 h
  rw [List.length_drop]; omega
theorem runesN_nil (n : Nat) : runesN n [] = [] := by cases n <;> simp [runesN]
theorem runesN_fuel : ∀ (n m : Nat) (l : List UInt8), l.length ≤ n → l.length ≤ m → runesN n l = runesN m l
  | 0, m, l, h, _ => by
    have : l = [] := List.eq_nil_of_length_eq_zero (by omega)
    rw [this, runesN_nil, runesN_nil]
  | n + 1, 0, l, _, h => by
    have : l = [] := List.eq_nil_of_length_eq_zero (by omega)
    rw [this, runesN_nil, runesN_nil]
  | n + 1, m + 1, l, h1, h2 => by
    simp only [runesN]
    by_cases h : l = []
    · rw [if_pos h, if_pos h]
    · rw [if_neg h, if_neg h]
      have := drop_short h
      rw [runesN_fuel n m _ (by omega) (by omega)]
theorem runesL_nil : runesL [] = [] := rfl
theorem runesL_step {l : List UInt8} (h : l ≠ []) : runesL l = ((decodeL l).1 : Int) :: runesL (l.drop (decodeL l).2) := by
  have hl := List.length_pos_iff.2 h
  have hs := drop_short h
  unfold runesL
  obtain ⟨n, hn⟩ : ∃ n, l.length = n + 1 := ⟨l.length - 1, by omega⟩
  rw [hn, runesN, if_neg h, runesN_fuel n _ _ (by omega) (Nat.le_refl _)]
theorem validGo_fuel : ∀ (n m : Nat) (l : List UInt8), l.length ≤ n → l.length ≤ m → validGoD n l = validGoD m l
  | 0, m, l, h, _ => by
    have : l = [] := List.eq_nil_of_length_eq_zero (by omega)
    subst this; cases m <;> simp [validGoD]
  | n + 1, 0, l, _, h => by
    have : l = [] := List.eq_nil_of_length_eq_zero (by omega)
    subst this; simp [validGoD]
  | n + 1, m + 1, l, h1, h2 => by
    simp only [validGoD]
    by_cases h : l = []
    · rw [if_pos h, if_pos h]
    · rw [if_neg h, if_neg h]
      have := drop_short h
      rw [validGo_fuel n m _ (by omega) (by omega)]
theorem validD_nil : validD [] = true := rfl
theorem validD_bad {l : List UInt8} (h : l ≠ []) (hb : badR l) : validD l = false := by
  have hl := List.length_pos_iff.2 h
  unfold validD
  obtain ⟨n, hn⟩ : ∃ n, l.length = n + 1 := ⟨l.length - 1, by omega⟩
  rw [hn, validGoD, if_neg h, if_pos (show (decodeL l).1 = 65533 ∧ (decodeL l).2 = 1 from hb)]
theorem validD_step {l : List UInt8} (h : l ≠ []) (hb : ¬ badR l) : validD l = validD (l.drop (decodeL l).2) := by
  have hl := List.length_pos_iff.2 h
  have hs := drop_short h
  unfold validD
  obtain ⟨n, hn⟩ : ∃ n, l.length = n + 1 := ⟨l.length - 1, by omega⟩
  rw [hn, validGoD, if_neg h, if_neg (show ¬ ((decodeL l).1 = 65533 ∧ (decodeL l).2 = 1) from hb), validGo_fuel n _ _ (by omega) (Nat.le_refl _)]
theorem runesL_le : ∀ (n : Nat) (l : List UInt8), l.length ≤ n → (runesL l).length ≤ l.length
  | 0, l, h => by
    have : l = [] := List.eq_nil_of_length_eq_zero (by omega)
    subst this; simp [runesL_nil]
  | n + 1, l, h => by
    by_cases h0 : l = []
    · subst h0; simp [runesL_nil]
    · have hs := drop_short h0
      have := runesL_le n (l.drop (decodeL l).2) (by omega)
      rw [runesL_step h0, List.length_cons]
      omega
/-- A byte of a string, as a number; 0 behind its end. -/
def bt (s : ByteArray) (j : Nat) : Nat := (s.data.toList.getD j 0).toNat
theorem bt_lt (s : ByteArray) (j : Nat) : bt s j < 256 := UInt8.toNat_lt _
theorem bt_get (s : ByteArray) (j : Nat) (h : j < s.size) : (s[j]'h).toNat = bt s j := by
  unfold bt
  rw [getD_get!']
  have e : s.get! j = s[j]'h := by
    simp [ByteArray.get!, getElem!_pos, h]
    rfl
  rw [e]
/-- The bytes from a place on. -/
def tl (s : ByteArray) (i : Nat) : List UInt8 := s.data.toList.drop i
theorem tl_zero (s : ByteArray) : tl s 0 = s.data.toList := rfl
theorem tl_ne {s : ByteArray} {i : Nat} (h : i < s.size) : tl s i ≠ [] := by
  intro e
  have := congrArg List.length e
  unfold tl at this
  rw [List.length_drop, ← size_eq] at this
  simp at this; omega
theorem tl_end {s : ByteArray} {i : Nat} (h : ¬ i < s.size) : tl s i = [] := by
  apply List.eq_nil_of_length_eq_zero
  unfold tl
  rw [List.length_drop, ← size_eq]; omega
theorem tl_drop (s : ByteArray) (i k : Nat) : (tl s i).drop k = tl s (i + k) := by unfold tl; rw [List.drop_drop]
theorem tl_dec (s : ByteArray) (i : Nat) : decodeL (tl s i) = decodeN (s.size - i) (bt s i) (bt s (i + 1)) (bt s (i + 2)) (bt s (i + 3)) := by
  unfold tl
  rw [decodeL_drop, decode_N, ← size_eq]; rfl
theorem tl_utf (s : ByteArray) (i : Nat) : decodeL (tl s i) = Utf8.decode s i := decodeL_drop s i
/-- The step at a place, where it is a character: c, of m + 1 bytes. -/
def okR (s : ByteArray) (i : Nat) (c : Int) (m : Nat) : Prop := (((decodeL (tl s i)).1 : Nat) : Int) = c ∧ (decodeL (tl s i)).2 = m + 1 ∧ ¬ badR (tl s i)
/-- The characters told so far, and those to come. -/
theorem okR.runes {s : ByteArray} {i : Nat} {c : Int} {m : Nat} (h : okR s i c m) (hi : i < s.size) : runesL (tl s i) = c :: runesL (tl s (i + (m + 1))) := by
  rw [runesL_step (tl_ne hi), h.1, h.2.1, tl_drop]
theorem okR.valid {s : ByteArray} {i : Nat} {c : Int} {m : Nat} (h : okR s i c m) (hi : i < s.size) : validD (tl s i) = validD (tl s (i + (m + 1))) := by
  rw [validD_step (tl_ne hi) h.2.2, h.2.1, tl_drop]
/-- What so many bytes make of a number, each of them less 128. -/
def cv (s : ByteArray) (i : Nat) (c : Int) : Nat → Int
  | 0 => c
  | k + 1 => cv s i c k * 64 + (bt s (i + (k + 1)) : Int) - 128
/-- A byte that goes on. -/
def goes (s : ByteArray) (j : Nat) : Prop := j < s.size ∧ 128 ≤ bt s j ∧ bt s j < 192
theorem ok0 {s : ByteArray} {i : Nat} (h : bt s i < 128) : okR s i (bt s i) 0 := by
  have e : decodeL (tl s i) = (bt s i, 1) := by rw [tl_dec]; unfold decodeN; rw [if_pos h]
  unfold okR badR
  rw [e]
  exact ⟨rfl, rfl, fun h' => by have := h'.1; simp only at this; omega⟩
theorem bad_stray {s : ByteArray} {i : Nat} (h : 128 ≤ bt s i) (h' : bt s i < 192 ∨ 248 ≤ bt s i) : badR (tl s i) := by
  unfold badR
  have hb := bt_lt s i
  rw [tl_dec]
  unfold decodeN
  rw [if_neg (by omega), if_neg (by omega), if_neg (by omega), if_neg (by omega)]
  exact ⟨rfl, rfl⟩
/-- The lead byte of a character of m + 1 bytes; what it gives; the least that may be. -/
def Lead (s : ByteArray) (i m : Nat) (c0 least : Int) : Prop :=
  (m = 1 ∧ 192 ≤ bt s i ∧ bt s i < 224 ∧ c0 = (bt s i : Int) - 192 ∧ least = 128) ∨ (m = 2 ∧ 224 ≤ bt s i ∧ bt s i < 240 ∧ c0 = (bt s i : Int) - 224 ∧ least = 2048) ∨ (m = 3 ∧ 240 ≤ bt s i ∧ bt s i < 248 ∧ c0 = (bt s i : Int) - 240 ∧ least = 65536)
theorem bad_cut {s : ByteArray} {i m : Nat} {c0 least : Int} (h : Lead s i m c0 least) {j : Nat} (h1 : 1 ≤ j) (h2 : j ≤ m) (hg : ¬ goes s (i + j)) : badR (tl s i) := by
  unfold badR
  have hb := bt_lt s (i + 1)
  have hb2 := bt_lt s (i + 2)
  have hb3 := bt_lt s (i + 3)
  have hg' : ¬ ((i + j) < s.size ∧ 128 ≤ bt s (i + j) ∧ bt s (i + j) < 192) := hg
  rw [tl_dec]
  unfold decodeN
  rcases h with ⟨rfl, a1, a2, _, _⟩ | ⟨rfl, a1, a2, _, _⟩ | ⟨rfl, a1, a2, _, _⟩
  · obtain rfl : j = 1 := by omega
    rw [if_neg (by omega), if_neg (by omega), if_neg (by omega), if_neg (by omega)]; exact ⟨rfl, rfl⟩
  · rcases (by omega : j = 1 ∨ j = 2) with rfl | rfl
    all_goals (rw [if_neg (by omega), if_neg (by omega), if_neg (by omega), if_neg (by omega)]; exact ⟨rfl, rfl⟩)
  · rcases (by omega : j = 1 ∨ j = 2 ∨ j = 3) with rfl | rfl | rfl
    all_goals (rw [if_neg (by omega), if_neg (by omega), if_neg (by omega), if_neg (by omega)]; exact ⟨rfl, rfl⟩)
theorem lead_end {s : ByteArray} {i m : Nat} {c0 least : Int} (h : Lead s i m c0 least) (hg : ∀ j, 1 ≤ j → j ≤ m → goes s (i + j)) :
    (badR (tl s i) ∧ (cv s i c0 m < least ∨ 1114111 < cv s i c0 m ∨ (55295 < cv s i c0 m ∧ cv s i c0 m < 57344))) ∨
    (okR s i (cv s i c0 m) m ∧ least ≤ cv s i c0 m ∧ cv s i c0 m ≤ 1114111 ∧ ¬ (55295 < cv s i c0 m ∧ cv s i c0 m < 57344)) := by
  unfold okR badR
  rw [tl_dec]
  unfold decodeN
  rcases h with ⟨rfl, a1, a2, rfl, rfl⟩ | ⟨rfl, a1, a2, rfl, rfl⟩ | ⟨rfl, a1, a2, rfl, rfl⟩
  · have g1 := hg 1 (by omega) (by omega)
    unfold goes at g1
    simp only [cv, Nat.zero_add, Nat.reduceAdd]
    rw [if_neg (by omega), if_pos (by omega)]
    split
    · right; simp only; refine ⟨⟨by omega, trivial, by omega⟩, by omega, by omega, by omega⟩
    · left; simp only; refine ⟨⟨trivial, trivial⟩, by omega⟩
  · have g1 := hg 1 (by omega) (by omega)
    have g2 := hg 2 (by omega) (by omega)
    unfold goes at g1 g2
    simp only [cv, Nat.zero_add, Nat.reduceAdd]
    rw [if_neg (by omega), if_neg (by omega), if_pos (by omega)]
    split
    · right; simp only; refine ⟨⟨by omega, trivial, by omega⟩, by omega, by omega, by omega⟩
    · left; simp only; refine ⟨⟨trivial, trivial⟩, by omega⟩
  · have g1 := hg 1 (by omega) (by omega)
    have g2 := hg 2 (by omega) (by omega)
    have g3 := hg 3 (by omega) (by omega)
    unfold goes at g1 g2 g3
    simp only [cv, Nat.zero_add, Nat.reduceAdd]
    rw [if_neg (by omega), if_neg (by omega), if_neg (by omega), if_pos (by omega)]
    split
    · right; simp only; refine ⟨⟨by omega, trivial, by omega⟩, by omega, by omega, by omega⟩
    · left; simp only; refine ⟨⟨trivial, trivial⟩, by omega⟩
/-- How far the reading has come. -/
def Rd (s : ByteArray) (i : Nat) (xs : List Int) : Prop := i ≤ s.size ∧ runesL (tl s 0) = xs ++ runesL (tl s i) ∧ validD (tl s 0) = validD (tl s i) ∧ xs.length ≤ i
theorem Rd.zero (s : ByteArray) : Rd s 0 [] := ⟨Nat.zero_le _, rfl, rfl, Nat.le_refl _⟩
theorem okR.in {s : ByteArray} {i : Nat} {c : Int} {m : Nat} (h : okR s i c m) (hi : i < s.size) : i + (m + 1) ≤ s.size := by
  have := decodeL_le (tl s i) (tl_ne hi)
  rw [h.2.1] at this
  unfold tl at this
  rw [List.length_drop, ← size_eq] at this
  omega
theorem Rd.next {s : ByteArray} {i : Nat} {xs : List Int} {c : Int} {m : Nat} (h : Rd s i xs) (hi : i < s.size) (hc : okR s i c m) : Rd s (i + (m + 1)) (xs ++ [c]) :=
  ⟨hc.in hi, by rw [h.2.1, hc.runes hi, List.append_assoc]; rfl, h.2.2.1.trans (hc.valid hi), by rw [List.length_append]; have := h.2.2.2; simp; omega⟩
theorem Rd.step {s : ByteArray} {i : Nat} {xs : List Int} (h : Rd s i xs) (hi : i < s.size) (hv : validD (tl s 0) = true) : ∃ (c m : Nat), Utf8.decode s i = (c, m + 1) ∧ c ≤ 1114111 ∧ okR s i (c : Int) m := by
  have hb : ¬ badR (tl s i) := fun hb => by
    have := h.2.2.1.trans (validD_bad (tl_ne hi) hb)
    rw [hv] at this; cases this
  have hw := decodeL_width (tl s i)
  have hr := decodeL_rune (tl s i)
  have e := tl_utf s i
  refine ⟨(decodeL (tl s i)).1, (decodeL (tl s i)).2 - 1, ?_, hr, rfl, by omega, hb⟩
  rw [← e]
  exact Prod.ext rfl (by show _ = _ - 1 + 1; omega)
theorem Rd.more {s : ByteArray} {i : Nat} {xs : List Int} (h : Rd s i xs) (hi : i < s.size) : xs.length < (runesL (tl s 0)).length := by
  rw [h.2.1, List.length_append, runesL_step (tl_ne hi)]
  simp
theorem Rd.done {s : ByteArray} {i : Nat} {xs : List Int} (h : Rd s i xs) (hi : ¬ i < s.size) : runesL (tl s 0) = xs := by
  rw [h.2.1, tl_end hi, runesL_nil, List.append_nil]
theorem Rd.bad {s : ByteArray} {i : Nat} {xs : List Int} (h : Rd s i xs) (hi : i < s.size) (hb : badR (tl s i)) : validD (tl s 0) = false := h.2.2.1.trans (validD_bad (tl_ne hi) hb)
theorem Rd.fin {s : ByteArray} {i : Nat} {xs : List Int} (h : Rd s i xs) (hi : ¬ i < s.size) : validD (tl s 0) = true := by rw [h.2.2.1, tl_end hi]; rfl
end Go.Proofs.YtgjgbgllhbdodaaGreatDoor
