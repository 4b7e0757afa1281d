
/-
  Plain mathematics of the words of a line: what a word is, what its text is; nothing of the program.
-/
import Derived.Lib.ValidU
import Derived.Lib.AtoiAllCases
import Derived.Lib.ItoaNum
namespace Go.Proofs.YtgjgbgllhbdodaaGreatDoor
open Go.Lib
set_option linter.unusedVariables false

/-- A word, but for where it begins. -/
structure Tk where
  kind : Int
  fn : Int
  num : Int
  text : List UInt8

def isDg (b : UInt8) : Bool := decide (48 ≤ b.toNat) && decide (b.toNat ≤ 57)
def isLt (b : UInt8) : Bool := decide (65 ≤ b.toNat) && decide (b.toNat ≤ 90) || decide (97 ≤ b.toNat) && decide (b.toNat ≤ 122)
def isPt (b : UInt8) : Bool := isLt b || isDg b || decide (b.toNat = 95)
/-- The signs of functions, byte by byte, and the other ones. -/
def glyB : List (List UInt8) := [[43], [45], [195, 151], [195, 183], [124], [226, 140, 136], [226, 140, 138], [61], [226, 137, 160], [60], [226, 137, 164], [226, 137, 165], [62], [226, 136, 167], [226, 136, 168], [42], [126], [226, 141, 180], [44], [226, 140, 189], [226, 141, 137], [226, 134, 145], [226, 134, 147], [226, 141, 179], [226, 136, 138], [226, 141, 139], [226, 141, 146], [226, 136, 170], [226, 136, 169], [226, 138, 165], [226, 138, 164], [226, 137, 161], [47], [92]]
def sgnB : List (List UInt8) := [[40], [41], [91], [93], [59], [226, 134, 144], [226, 136, 152], [46], [226, 141, 168], [123], [125], [58], [226, 139, 132], [226, 141, 186], [226, 141, 181], [226, 136, 135]]
/-- Which sign a text begins with, of those from number k on, and how long it is. -/
def firstS : List (List UInt8) → List UInt8 → Nat → Option (Nat × Nat)
  | [], _, _ => none
  | g :: t, l, k => if g.isPrefixOf l = true then some (k, g.length) else firstS t l (k + 1)
/-- What stands between two quotes, behind the first one, and how many bytes it takes. -/
def qt : List UInt8 → Option (List UInt8 × Nat)
  | [] => none
  | b :: r =>
    if b.toNat = 39 then
      match r with
      | [] => some ([], 1)
      | c :: r' => if c.toNat = 39 then (qt r').map (fun x => (39 :: x.1, x.2 + 2)) else some ([], 1)
    else (qt r).map (fun x => (b :: x.1, x.2 + 1))
/-- It may stand between quotes. -/
def qbl (t : List UInt8) : Bool := validD t && t.all (fun b => decide (32 ≤ b.toNat))
/-- What digits are worth. -/
def dgA (a : Nat) : List UInt8 → Nat
  | [] => a
  | b :: r => dgA (a * 10 + (b.toNat - 48)) r
def minusB : List UInt8 := [194, 175]
def remB : List UInt8 := [226, 141, 157]
/-- A word: it and its length, or what is wrong. -/
abbrev Wd := Except Int (Tk × Nat)
abbrev Wd.ok (t : Tk) (n : Nat) : Wd := Except.ok (t, n)
abbrev Wd.bad (e : Int) : Wd := Except.error e
def numS (m : Bool) (ds : List UInt8) (n : Nat) : Wd :=
  if (if m = true then dgA 0 ds ≤ 9223372036854775808 else dgA 0 ds < 9223372036854775808) then .ok ⟨1, 0, if m = true then -(dgA 0 ds : Int) else dgA 0 ds, []⟩ n else .bad 6
def chrS (l : List UInt8) : Wd :=
  match qt l with
  | none => .bad 1
  | some (t, n) => if qbl t = true then .ok ⟨2, 0, 0, t⟩ (n + 1) else .bad 1
def sigS (l : List UInt8) : Wd :=
  match firstS glyB l 0 with
  | some (k, n) => .ok ⟨4, (k : Int) + 1, 0, []⟩ n
  | none =>
    match firstS sgnB l 0 with
    | some (k, n) => .ok ⟨(k : Int) + 5, 0, 0, []⟩ n
    | none => .bad 1
def wordS (l : List UInt8) : Wd :=
  if minusB.isPrefixOf l = true then
    if (l.drop 2).takeWhile isDg = [] then .bad 1 else numS true ((l.drop 2).takeWhile isDg) (2 + ((l.drop 2).takeWhile isDg).length)
  else
    match l with
    | [] => .bad 1
    | b :: r =>
      if isDg b = true then numS false (l.takeWhile isDg) (l.takeWhile isDg).length
      else if isLt b = true then
        if 12 < (l.takeWhile isPt).length then .bad 7 else .ok ⟨3, 0, 0, l.takeWhile isPt⟩ (l.takeWhile isPt).length
      else if b.toNat = 39 then chrS r
      else sigS l
/-- What reading a line ends with: its words, where they begin; or the byte and what is wrong. -/
abbrev Ln := Except (Nat × Int) (List (Tk × Nat))
abbrev Ln.ok (ws : List (Tk × Nat)) : Ln := Except.ok ws
abbrev Ln.bad (i : Nat) (e : Int) : Ln := Except.error (i, e)
/-- Reading on from a byte, with so many words so far. -/
def lineN : Nat → List UInt8 → Nat → List (Tk × Nat) → Ln
  | 0, _, _, ws => .ok ws
  | f + 1, l, i, ws =>
    match l with
    | [] => .ok ws
    | b :: r =>
      if remB.isPrefixOf l = true then .ok ws
      else if b.toNat = 32 then lineN f r (i + 1) ws
      else
        match wordS l with
        | Except.error e => .bad i e
        | Except.ok (t, n) => if 200 ≤ ws.length then .bad i 7 else lineN f (l.drop n) (i + n) (ws ++ [(t, i)])
def lineS (l : List UInt8) : Ln := if 1000 < l.length then .bad 0 7 else lineN l.length l 0 []
/-- The text of a word, or what is wrong. -/
abbrev Sp := Except Int (List UInt8)
abbrev Sp.ok (b : List UInt8) : Sp := Except.ok b
abbrev Sp.bad (e : Int) : Sp := Except.error e
def dblQ : List UInt8 → List UInt8
  | [] => []
  | b :: r => if b.toNat = 39 then 39 :: 39 :: dblQ r else b :: dblQ r
def digS (n : Int) : List UInt8 := if n < 0 then minusB ++ decDigits n.natAbs else decDigits n.natAbs
def namF (t : List UInt8) : Int :=
  match t with
  | [] => 1
  | b :: r => if isLt b = true ∧ t.all isPt = true then (if 12 < t.length then 7 else 0) else 1
/-- A field that is not 0, or not empty, and tells nothing of such a word. -/
def fldF (t : Tk) : Bool := decide (t.kind ≠ 1 ∧ t.num ≠ 0) || decide (t.kind ≠ 4 ∧ t.fn ≠ 0) || decide (t.kind ≠ 3 ∧ t.kind ≠ 2 ∧ t.text ≠ [])
def spelS (t : Tk) : Sp :=
  if fldF t = true then .bad 1
  else if t.kind = 1 then .ok (digS t.num)
  else if t.kind = 3 then (if namF t.text = 0 then .ok t.text else .bad (namF t.text))
  else if t.kind = 2 then (if qbl t.text = true then .ok (39 :: dblQ t.text ++ [39]) else .bad 1)
  else if t.kind = 4 then (if 1 ≤ t.fn ∧ t.fn ≤ 34 then .ok (glyB.getD (t.fn.toNat - 1) []) else .bad 1)
  else if 5 ≤ t.kind ∧ t.kind ≤ 20 then .ok (sgnB.getD (t.kind.toNat - 5) [])
  else .bad 1
/-- The texts of words, a blank between each two. -/
def joinB : List (List UInt8) → List UInt8
  | [] => []
  | [b] => b
  | b :: r => b ++ 32 :: joinB r
def spelsN : List Tk → List (List UInt8) → Sp
  | [], acc => if 1000 < (joinB acc).length then .bad 7 else .ok (joinB acc)
  | t :: r, acc =>
    match spelS t with
    | Except.error e => .bad e
    | Except.ok b => spelsN r (acc ++ [b])
def spelsS (ts : List Tk) : Sp := if 200 < ts.length then .bad 7 else spelsN ts []
end Go.Proofs.YtgjgbgllhbdodaaGreatDoor
