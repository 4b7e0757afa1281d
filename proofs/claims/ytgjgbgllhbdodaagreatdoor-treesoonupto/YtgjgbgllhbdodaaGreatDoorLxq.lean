
/-
  Plain mathematics of signs: the one that a text begins with, by the character that is decoded there.
-/
import Derived.Test.YtgjgbgllhbdodaaGreatDoorLyp
import Derived.Test.YtgjgbgllhbdodaaGreatDoorUtf
import Derived.Lib.TrimAscii
namespace Go.Proofs.YtgjgbgllhbdodaaGreatDoor
open Go.Lib
set_option linter.unusedVariables false

def glyR : List Int := [43, 45, 215, 247, 124, 8968, 8970, 61, 8800, 60, 8804, 8805, 62, 8743, 8744, 42, 126, 9076, 44, 9021, 9033, 8593, 8595, 9075, 8714, 9035, 9042, 8746, 8745, 8869, 8868, 8801, 47, 92]
def sgnR : List Int := [40, 41, 91, 93, 59, 8592, 8728, 46, 9064, 123, 125, 58, 8900, 9082, 9077, 8711]
theorem gly_enc : glyB = glyR.map encodeRune := by decide +kernel
theorem sgn_enc : sgnB = sgnR.map encodeRune := by decide +kernel
/-- The first place of a number, or -1. -/
def plI (r : Int) : List Int → Int
  | [] => -1
  | x :: t => if x = r then 0 else if plI r t = -1 then -1 else plI r t + 1
theorem plI_ge (r : Int) : ∀ l, plI r l = -1 ∨ 0 ≤ plI r l
  | [] => .inl rfl
  | x :: t => by
    unfold plI
    have := plI_ge r t
    by_cases h : x = r
    · rw [if_pos h]; omega
    · rw [if_neg h]
      by_cases h2 : plI r t = -1
      · rw [if_pos h2]; omega
      · rw [if_neg h2]; omega
theorem plI_lt (r : Int) : ∀ l, plI r l < l.length
  | [] => by show (-1 : Int) < 0; omega
  | x :: t => by
    unfold plI
    have := plI_lt r t
    rw [List.length_cons]
    by_cases h : x = r
    · rw [if_pos h]; omega
    · rw [if_neg h]
      by_cases h2 : plI r t = -1
      · rw [if_pos h2]; omega
      · rw [if_neg h2]; omega
theorem plI_at (r : Int) : ∀ (xs ys : List Int), r ∉ xs → plI r (xs ++ r :: ys) = xs.length
  | [], ys, _ => by show (if r = r then (0 : Int) else _) = _; rw [if_pos rfl]; rfl
  | x :: xs, ys, h => by
    rw [List.mem_cons, not_or] at h
    have ih := plI_at r xs ys h.2
    show (if x = r then (0 : Int) else if plI r (xs ++ r :: ys) = -1 then -1 else plI r (xs ++ r :: ys) + 1) = _
    rw [if_neg (Ne.symm h.1), ih, if_neg (by omega), List.length_cons]; omega
theorem plI_no (r : Int) : ∀ (xs : List Int), r ∉ xs → plI r xs = -1
  | [], _ => rfl
  | x :: xs, h => by
    rw [List.mem_cons, not_or] at h
    show (if x = r then (0 : Int) else if plI r xs = -1 then -1 else plI r xs + 1) = _
    rw [if_neg (Ne.symm h.1), if_pos (plI_no r xs h.2)]
def okR17 (x : Int) : Prop := (0 ≤ x ∧ x < 55296)
theorem u8n (n : Nat) (h : n < 256) : ((n : Int).toNat.toUInt8).toNat = n := by
  rw [Int.toNat_natCast]
  show (UInt8.ofNat n).toNat = n
  rw [UInt8.toNat_ofNat']; exact Nat.mod_eq_of_lt (by omega)
theorem dec2 (a b : UInt8) (r : List UInt8) (h0 : a.toNat / 32 = 6) (h1 : b.toNat / 64 = 2) (h3 : 128 ≤ a.toNat % 32 * 64 + b.toNat % 64) :
    decodeL (a :: b :: r) = (a.toNat % 32 * 64 + b.toNat % 64, 2) := by
  rw [decodeL_N]
  show decodeN (r.length + 1 + 1) a.toNat b.toNat (List.getD _ 2 (0 : UInt8)).toNat (List.getD _ 3 (0 : UInt8)).toNat = _
  unfold decodeN
  rw [if_neg (by omega), if_pos ⟨h0, by omega, h1⟩, if_pos h3]
theorem dec3 (a b c : UInt8) (r : List UInt8) (h0 : a.toNat / 16 = 14) (h1 : b.toNat / 64 = 2) (h2 : c.toNat / 64 = 2) (h3 : 2048 ≤ a.toNat % 16 * 4096 + b.toNat % 64 * 64 + c.toNat % 64)
    (h4 : a.toNat % 16 * 4096 + b.toNat % 64 * 64 + c.toNat % 64 < 55296) : decodeL (a :: b :: c :: r) = (a.toNat % 16 * 4096 + b.toNat % 64 * 64 + c.toNat % 64, 3) := by
  rw [decodeL_N]
  show decodeN (r.length + 1 + 1 + 1) a.toNat b.toNat c.toNat (List.getD _ 3 (0 : UInt8)).toNat = _
  unfold decodeN
  rw [if_neg (by omega), if_neg (fun h => by omega), if_pos ⟨h0, ⟨by omega, h1⟩, by omega, h2⟩, if_pos ⟨h3, .inl h4⟩]
theorem enc_dec (x : Int) (r : List UInt8) (h : okR17 x) : decodeL (encodeRune x ++ r) = (x.toNat, (encodeRune x).length) := by
  obtain ⟨h0, h1⟩ := h
  obtain ⟨n, rfl⟩ : ∃ n : Nat, x = n := ⟨x.toNat, by omega⟩
  rw [Int.toNat_natCast]
  unfold encodeRune
  rcases (by omega : n < 128 ∨ (128 ≤ n ∧ n < 2048) ∨ (2048 ≤ n ∧ n < 55296)) with h | ⟨h, h'⟩ | ⟨h, h'⟩
  · rw [encodeRuneZ_one (by omega) (by omega)]
    show decodeL ((n : Int).toNat.toUInt8 :: r) = (n, 1)
    rw [decodeL_ascii _ _ (by rw [u8n n (by omega)]; omega), u8n n (by omega)]
  · rw [encodeRuneZ_two (by omega) (by omega)]
    show decodeL ((192 + (n : Int) / 64).toNat.toUInt8 :: (128 + (n : Int) % 64).toNat.toUInt8 :: r) = (n, 2)
    have e1 : (192 + (n : Int) / 64) = ((192 + n / 64 : Nat) : Int) := by omega
    have e2 : (128 + (n : Int) % 64) = ((128 + n % 64 : Nat) : Int) := by omega
    rw [e1, e2]
    have k1 := u8n (192 + n / 64) (by omega)
    have k2 := u8n (128 + n % 64) (by omega)
    rw [dec2 _ _ _ (by rw [k1]; omega) (by rw [k2]; omega) (by rw [k1, k2]; omega), k1, k2]
    congr 1; omega
  · rw [encodeRuneZ_three (by omega)]
    show decodeL ((224 + (n : Int) / 4096).toNat.toUInt8 :: (128 + (n : Int) / 64 % 64).toNat.toUInt8 :: (128 + (n : Int) % 64).toNat.toUInt8 :: r) = (n, 3)
    have e1 : (224 + (n : Int) / 4096) = ((224 + n / 4096 : Nat) : Int) := by omega
    have e2 : (128 + (n : Int) / 64 % 64) = ((128 + n / 64 % 64 : Nat) : Int) := by omega
    have e3 : (128 + (n : Int) % 64) = ((128 + n % 64 : Nat) : Int) := by omega
    rw [e1, e2, e3]
    have k1 := u8n (224 + n / 4096) (by omega)
    have k2 := u8n (128 + n / 64 % 64) (by omega)
    have k3 := u8n (128 + n % 64) (by omega)
    have hs : (224 + n / 4096) % 16 * 4096 + (128 + n / 64 % 64) % 64 * 64 + (128 + n % 64) % 64 = n := by omega
    rw [dec3 _ _ _ _ (by rw [k1]; omega) (by rw [k2]; omega) (by rw [k3]; omega) (by rw [k1, k2, k3, hs]; omega) (by rw [k1, k2, k3, hs]; omega), k1, k2, k3, hs]
theorem enc_pre {x : Int} {l : List UInt8} (h : okR17 x) (hl : l ≠ []) : (encodeRune x).isPrefixOf l = true ↔ ((decodeL l).1 : Int) = x := by
  constructor
  · intro e
    obtain ⟨r, rfl⟩ := List.isPrefixOf_iff_prefix.1 e
    rw [enc_dec x r h]
    have := h.1; show (x.toNat : Int) = x; omega
  · intro e
    have hb : ¬ ((decodeL l).1 = 65533 ∧ (decodeL l).2 = 1) := fun q => by have := h.2; omega
    have := encode_decode l hl hb
    rw [e] at this
    rw [List.isPrefixOf_iff_prefix, this]
    exact List.take_prefix _ _
theorem first_enc : ∀ (rs : List Int) (l : List UInt8) (k : Nat), (∀ x ∈ rs, okR17 x) → l ≠ [] →
    firstS (rs.map encodeRune) l k = if plI ((decodeL l).1 : Int) rs = -1 then none else some (k + (plI ((decodeL l).1 : Int) rs).toNat, (decodeL l).2)
  | [], l, k, _, _ => rfl
  | x :: rs, l, k, h, hl => by
    have hx := h x (by simp)
    have ih := first_enc rs l (k + 1) (fun y hy => h y (by simp [hy])) hl
    show (if (encodeRune x).isPrefixOf l = true then some (k, (encodeRune x).length) else firstS (rs.map encodeRune) l (k + 1)) = _
    unfold plI
    by_cases e : (encodeRune x).isPrefixOf l = true
    · have e2 := (enc_pre hx hl).1 e
      obtain ⟨r, hr⟩ := List.isPrefixOf_iff_prefix.1 e
      have e3 : (decodeL l).2 = (encodeRune x).length := by rw [← hr, enc_dec x r hx]
      rw [if_pos e, if_pos e2.symm, if_neg (by omega), e3]; rfl
    · have e2 : ¬ x = ((decodeL l).1 : Int) := fun q => e ((enc_pre hx hl).2 q.symm)
      have hge := plI_ge ((decodeL l).1 : Int) rs
      rw [if_neg e, if_neg e2, ih]
      by_cases h2 : plI ((decodeL l).1 : Int) rs = -1
      · rw [if_pos h2, if_pos h2]; rfl
      · rw [if_neg h2, if_neg h2, if_neg (by omega)]
        congr 2; omega
theorem glyR_ok : ∀ x ∈ glyR, okR17 x := by
  intro x hx
  have : ∀ y ∈ glyR, 0 ≤ y ∧ y < 55296 := by decide
  exact this x hx
theorem sgnR_ok : ∀ x ∈ sgnR, okR17 x := by
  intro x hx
  have : ∀ y ∈ sgnR, 0 ≤ y ∧ y < 55296 := by decide
  exact this x hx
/-- A word that is one sign, by the character that is decoded. -/
theorem sigS_dec {l : List UInt8} (hl : l ≠ []) : sigS l =
    if 0 ≤ plI ((decodeL l).1 : Int) glyR then .ok ⟨4, 1 + plI ((decodeL l).1 : Int) glyR, 0, []⟩ (decodeL l).2
    else if 0 ≤ plI ((decodeL l).1 : Int) sgnR then .ok ⟨5 + plI ((decodeL l).1 : Int) sgnR, 0, 0, []⟩ (decodeL l).2
    else .bad 1 := by
  unfold sigS
  rw [gly_enc, sgn_enc, first_enc glyR l 0 glyR_ok hl, first_enc sgnR l 0 sgnR_ok hl]
  have g1 := plI_ge ((decodeL l).1 : Int) glyR
  have g2 := plI_ge ((decodeL l).1 : Int) sgnR
  generalize plI ((decodeL l).1 : Int) glyR = a at *
  generalize plI ((decodeL l).1 : Int) sgnR = b at *
  rcases g1 with h1 | h1
  · rw [if_pos h1, if_neg (by omega : ¬ 0 ≤ a)]
    rcases g2 with h2 | h2
    · rw [if_pos h2, if_neg (by omega : ¬ 0 ≤ b)]
    · rw [if_neg (by omega : ¬ b = -1), if_pos h2]
      simp only [Nat.zero_add]
      rw [show (b.toNat : Int) + 5 = 5 + b by omega]
  · rw [if_neg (by omega : ¬ a = -1), if_pos h1]
    simp only [Nat.zero_add]
    rw [show (a.toNat : Int) + 1 = 1 + a by omega]
end Go.Proofs.YtgjgbgllhbdodaaGreatDoor
