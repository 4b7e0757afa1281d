/-
  Tra Trb Trc Trd, together.
-/
import Derived.Test.YtgjgbgllhbdodaaGreatDoorLxm
/-! Tra: Plain mathematics of trees: what a line says, by descent; and which words can stand, word by word. -/
namespace Go.Proofs.YtgjgbgllhbdodaaGreatDoor
open Go.Lib
set_option linter.unusedVariables false

structure Ac where
  op : Int
  f : Int
  g : Int
structure Nod where
  op : Int
  ac : Ac
  n : Int
  nums : List Int
  text : List UInt8
def ac0 : Ac := ⟨0, 0, 0⟩
/-- A part's nodes and the words behind it; or how many words there are from the one on that cannot stand (0: there must be more). -/
abbrev Rp := Except Nat (List Nod × List Tk)
abbrev Rf := Except Nat ((Ac × Int × List Nod) × List Tk)
abbrev Ri := Except Nat ((Int × List Nod) × List Tk)
def fnK (k : Int) : Bool := decide (k = 4) || decide (k = 11) || decide (k = 14) || decide (k = 20)
def hfn : List Tk → Bool
  | [] => false
  | t :: _ => fnK t.kind
/-- What stands behind Begin. -/
def bdP (E : List Tk → Rp) : Nat → List Tk → List Nod → Int → Rf
  | 0, ts, _, _ => .error ts.length
  | f + 1, ts, acc, n =>
    match E ts with
    | .error k => .error k
    | .ok (ns, []) => .error 0
    | .ok (ns, t :: r) =>
      if t.kind = 15 then .ok ((⟨6, 0, 0⟩, n, acc ++ ns), r)
      else if t.kind = 16 then
        match E r with
        | .error k => .error k
        | .ok (ms, []) => .error 0
        | .ok (ms, u :: s) => if u.kind = 17 then bdP E f s (acc ++ ns ++ ms) (n + 1) else .error (s.length + 1)
      else .error (r.length + 1)
/-- What stands behind a Glyph. -/
def glP (fn : Int) : List Tk → Rf
  | [] => .ok ((⟨0, fn, 0⟩, 0, []), [])
  | u :: r =>
    if u.kind = 13 then .ok ((⟨5, fn, 0⟩, 0, []), r)
    else if u.kind = 4 ∧ u.fn = 33 then .ok ((⟨1, fn, 0⟩, 0, []), r)
    else if u.kind = 4 ∧ u.fn = 34 then .ok ((⟨2, fn, 0⟩, 0, []), r)
    else if u.kind = 12 then
      match r with
      | [] => .error 0
      | v :: s => if v.kind = 4 then .ok ((⟨4, fn, v.fn⟩, 0, []), s) else .error (s.length + 1)
    else .ok ((⟨0, fn, 0⟩, 0, []), u :: r)
/-- What stands behind Jot. -/
def otP : List Tk → Rf
  | [] => .error 0
  | u :: r =>
    if u.kind = 12 then
      match r with
      | [] => .error 0
      | v :: s => if v.kind = 4 then .ok ((⟨3, v.fn, 0⟩, 0, []), s) else .error (s.length + 1)
    else .error (r.length + 1)
/-- A function. -/
def fnP (E : Bool → List Tk → Rp) (b : Bool) : List Tk → Rf
  | [] => .error 0
  | t :: r =>
    if t.kind = 4 then glP t.fn r
    else if t.kind = 11 then otP r
    else if t.kind = 20 ∧ b = true then .ok ((⟨7, 0, 0⟩, 0, []), r)
    else if t.kind = 14 then bdP (E true) (r.length + 1) r [] 0
    else .error (r.length + 1)
/-- What stands behind Open. -/
def ixP (E : List Tk → Rp) : Nat → List Tk → List Nod → Int → Ri
  | 0, ts, _, _ => .error ts.length
  | f + 1, ts, acc, n =>
    match E ts with
    | .error k => .error k
    | .ok (ns, []) => .error 0
    | .ok (ns, t :: r) =>
      if t.kind = 8 then .ok ((n + 1, acc ++ ns), r)
      else if t.kind = 9 then ixP E f r (acc ++ ns) (n + 1)
      else .error (r.length + 1)
def pksP (E : List Tk → Rp) : Nat → List Tk → List Nod → Rp
  | 0, ts, acc => .ok (acc, ts)
  | f + 1, ts, acc =>
    match ts with
    | [] => .ok (acc, [])
    | t :: r =>
      if t.kind = 7 then
        match ixP E (r.length + 1) r [] 0 with
        | .error k => .error k
        | .ok ((n, ns), s) => pksP E f s (⟨8, ac0, n, [], []⟩ :: acc ++ ns)
      else .ok (acc, t :: r)
/-- The numbers ahead, and what stands behind them. -/
def nmP : List Tk → List Int × List Tk
  | [] => ([], [])
  | t :: r => if t.kind = 1 then (t.num :: (nmP r).1, (nmP r).2) else ([], t :: r)
/-- An atom. -/
def atP (E : List Tk → Rp) (b : Bool) : List Tk → Rp
  | [] => .error 0
  | t :: r =>
    if t.kind = 1 then .ok ([⟨1, ac0, 0, t.num :: (nmP r).1, []⟩], (nmP r).2)
    else if t.kind = 2 then .ok ([⟨2, ac0, 0, [], t.text⟩], r)
    else if t.kind = 3 then .ok ([⟨3, ac0, 0, [], t.text⟩], r)
    else if t.kind = 18 ∧ b = true then .ok ([⟨4, ac0, 0, [], []⟩], r)
    else if t.kind = 19 ∧ b = true then .ok ([⟨5, ac0, 0, [], []⟩], r)
    else if t.kind = 5 then
      match E r with
      | .error k => .error k
      | .ok (ns, []) => .error 0
      | .ok (ns, u :: s) => if u.kind = 6 then .ok (ns, s) else .error (s.length + 1)
    else .error (r.length + 1)
def tmP (E : List Tk → Rp) (b : Bool) (ts : List Tk) : Rp :=
  match atP E b ts with
  | .error k => .error k
  | .ok (ns, r) => pksP E (r.length + 1) r ns
/-- A function and an expression, behind a part or none. -/
def agP (E : Bool → List Tk → Rp) (b : Bool) (op : Int) (ms : List Nod) (ts : List Tk) : Rp :=
  match fnP E b ts with
  | .error k => .error k
  | .ok ((a, n, body), r) =>
    match E b r with
    | .error k => .error k
    | .ok (ns, s) => .ok (⟨op, a, n, [], []⟩ :: ms ++ body ++ ns, s)
/-- An expression. -/
def exP : Nat → Bool → List Tk → Rp
  | 0, _, ts => .error ts.length
  | f + 1, b, ts =>
    if hfn ts = true then agP (exP f) b 6 [] ts
    else
      match tmP (exP f b) b ts with
      | .error k => .error k
      | .ok (ms, r) => if hfn r = true then agP (exP f) b 7 ms r else .ok (ms, r)

/-! Word by word. -/
def insO : List Int → Bool
  | [] => false
  | x :: o => decide (3 ≤ x) || insO o
def bgS (t : Tk) (o : List Int) : Int × List Int :=
  if t.kind = 1 then (2, o)
  else if t.kind = 2 ∨ t.kind = 3 then (3, o)
  else if t.kind = 4 then (4, o)
  else if t.kind = 11 then (5, o)
  else if t.kind = 5 then (1, 1 :: o)
  else if t.kind = 14 then (1, 3 :: o)
  else if insO o = true ∧ (t.kind = 18 ∨ t.kind = 19) then (3, o)
  else if insO o = true ∧ t.kind = 20 then (1, o)
  else (0, o)
def afS (t : Tk) (o : List Int) : Int × List Int :=
  if fnK t.kind = true then bgS t o
  else if t.kind = 7 then (1, 2 :: o)
  else
    match o with
    | [] => (0, [])
    | x :: u =>
      if t.kind = 6 ∧ x = 1 ∨ t.kind = 8 ∧ x = 2 then (3, u)
      else if t.kind = 9 ∧ x = 2 then (1, x :: u)
      else if t.kind = 16 ∧ x = 3 then (1, 4 :: u)
      else if t.kind = 17 ∧ x = 4 then (1, 3 :: u)
      else if t.kind = 15 ∧ x = 3 then (1, u)
      else (0, x :: u)
def stS (w : Int) (t : Tk) (o : List Int) : Int × List Int :=
  if w = 5 then (if t.kind = 12 then (6, o) else (0, o))
  else if w = 6 then (if t.kind = 4 then (1, o) else (0, o))
  else if w = 2 ∧ t.kind = 1 then (2, o)
  else if w = 2 ∨ w = 3 then afS t o
  else if w = 4 ∧ (t.kind = 13 ∨ t.kind = 4 ∧ (t.fn = 33 ∨ t.fn = 34)) then (1, o)
  else if w = 4 ∧ t.kind = 12 then (6, o)
  else bgS t o
/-- Where a word cannot stand: how many there are from it on; else what may come and what is open behind them all. -/
def runH : Int → List Int → List Tk → Except Nat (Int × List Int)
  | w, o, [] => .ok (w, o)
  | w, o, t :: r => if (stS w t o).1 = 0 then .error (r.length + 1) else runH (stS w t o).1 (stS w t o).2 r

/-- There must be more. -/
def Need (x : Except Nat (Int × List Int)) (o : List Int) : Prop := ∃ w o', x = .ok (w, o') ∧ (w ≠ 2 ∧ w ≠ 3 ∨ o.length < o'.length)
/-- What stands behind a term cannot belong to it. -/
def Stopt (w : Int) : List Tk → Prop
  | [] => True
  | t :: _ => fnK t.kind = false ∧ t.kind ≠ 7 ∧ (w = 2 → t.kind ≠ 1)
def Aft (x : Except Nat (Int × List Int)) (o : List Int) (r : List Tk) : Prop := ∃ w, (w = 2 ∨ w = 3) ∧ x = runH w o r ∧ Stopt w r
/-- Descent tells what is told word by word. -/
def Tel (x : Except Nat (Int × List Int)) (o : List Int) (n : Nat) : Rp → Prop
  | .error 0 => Need x o
  | .error (k + 1) => x = .error (k + 1)
  | .ok (_, r) => r.length < n ∧ Aft x o r
def Telf (x : Except Nat (Int × List Int)) (o : List Int) (n : Nat) : Rf → Prop
  | .error 0 => Need x o
  | .error (k + 1) => x = .error (k + 1)
  | .ok (_, r) => r.length < n ∧ (r = [] → Need x o) ∧ (r ≠ [] → x = runH 1 o r)

theorem need_up {x : Except Nat (Int × List Int)} {o : List Int} {a : Int} (h : Need x (a :: o)) : Need x o := by
  obtain ⟨w, o', e, h⟩ := h
  refine ⟨w, o', e, ?_⟩
  simp only [List.length_cons] at h
  omega
theorem need_same {x : Except Nat (Int × List Int)} {o p : List Int} (h : Need x p) (hl : p.length = o.length) : Need x o := by
  obtain ⟨w, o', e, h⟩ := h
  exact ⟨w, o', e, by omega⟩
theorem run_cons {w : Int} {o : List Int} {t : Tk} {r : List Tk} {w' : Int} {o' : List Int} (h : stS w t o = (w', o')) (hw : w' ≠ 0) : runH w o (t :: r) = runH w' o' r := by
  simp only [runH, h, hw, if_false]
theorem run_bad {w : Int} {o : List Int} {t : Tk} {r : List Tk} (h : (stS w t o).1 = 0) : runH w o (t :: r) = .error (r.length + 1) := by
  simp only [runH, h, if_true]
theorem st_stop {w : Int} {t : Tk} {r : List Tk} {o : List Int} (hw : w = 2 ∨ w = 3) (hs : Stopt w (t :: r)) : stS w t o = afS t o := by
  have h1 : ¬ (w = 2 ∧ t.kind = 1) := fun h => hs.2.2 h.1 h.2
  have h5 : w ≠ 5 := by omega
  have h6 : w ≠ 6 := by omega
  simp only [stS, if_neg h5, if_neg h6, if_neg h1, if_pos hw]
/-- Behind an expression: what closes, or what cannot stand. -/
theorem run_shut {w : Int} {t : Tk} {r : List Tk} {o : List Int} (hw : w = 2 ∨ w = 3) (hs : Stopt w (t :: r)) {w' : Int} {o' : List Int} (h : afS t o = (w', o')) (h0 : w' ≠ 0) : runH w o (t :: r) = runH w' o' r :=
  run_cons (by rw [st_stop hw hs, h]) h0
theorem run_shutBad {w : Int} {t : Tk} {r : List Tk} {o : List Int} (hw : w = 2 ∨ w = 3) (hs : Stopt w (t :: r)) (h : (afS t o).1 = 0) : runH w o (t :: r) = .error (r.length + 1) :=
  run_bad (by rw [st_stop hw hs, h])
theorem af_shut {t : Tk} {o : List Int} (h1 : fnK t.kind = false) (h2 : t.kind ≠ 7) (x : Int) : afS t (x :: o) =
    (if t.kind = 6 ∧ x = 1 ∨ t.kind = 8 ∧ x = 2 then (3, o)
      else if t.kind = 9 ∧ x = 2 then (1, x :: o)
      else if t.kind = 16 ∧ x = 3 then (1, 4 :: o)
      else if t.kind = 17 ∧ x = 4 then (1, 3 :: o)
      else if t.kind = 15 ∧ x = 3 then (1, o)
      else (0, x :: o)) := by
  simp only [afS, h1, Bool.false_eq_true, if_false, if_neg h2]
theorem need_open {w : Int} {o : List Int} {x : Int} : Need (runH w (x :: o) []) o := ⟨w, x :: o, rfl, Or.inr (by simp only [List.length_cons]; omega)⟩
theorem need_any {w : Int} {o : List Int} (h2 : w ≠ 2) (h3 : w ≠ 3) : Need (runH w o []) o := ⟨w, o, rfl, Or.inl ⟨h2, h3⟩⟩
def TelE (E : List Tk → Rp) (b : Bool) (F : Nat) : Prop := ∀ (ts : List Tk) (o : List Int), ts.length < F → insO o = b → Tel (runH 1 o ts) o ts.length (E ts)
theorem telf_same {x y : Except Nat (Int × List Int)} {o : List Int} {n m : Nat} {p : Rf} (e : x = y) (hn : n ≤ m) (h : Telf y o n p) : Telf x o m p := by
  subst e
  match p with
  | .error 0 => exact h
  | .error (k + 1) => exact h
  | .ok (_, r) => exact ⟨Nat.lt_of_lt_of_le h.1 hn, h.2⟩

theorem bd_tel {E : List Tk → Rp} {F : Nat} (hE : TelE E true F) : ∀ (f : Nat) (ts : List Tk) (acc : List Nod) (n : Int) (o : List Int), ts.length < f → ts.length < F →
    Telf (runH 1 (3 :: o) ts) o ts.length (bdP E f ts acc n)
  | 0, ts, acc, n, o, hf, _ => by omega
  | f + 1, ts, acc, n, o, hf, hF => by
    have H := hE ts (3 :: o) hF rfl
    simp only [bdP]
    match e : E ts with
    | .error 0 => rw [e] at H; exact need_up H
    | .error (k + 1) => rw [e] at H; exact H
    | .ok (ns, []) =>
      rw [e] at H; obtain ⟨_, w, hw, hx, _⟩ := H
      simp only []
      rw [hx]; exact need_open
    | .ok (ns, t :: r) =>
      rw [e] at H; obtain ⟨hl, w, hw, hx, hs⟩ := H
      have hl' : r.length + 1 < ts.length := hl
      have A := af_shut (o := o) hs.1 hs.2.1 3
      simp only []
      by_cases h15 : t.kind = 15
      · rw [if_pos h15]
        have A' : afS t (3 :: o) = (1, o) := by rw [A]; simp [h15]
        rw [hx, run_shut hw hs A' (by decide)]
        exact ⟨by omega, fun h => by subst h; exact need_any (by decide) (by decide), fun _ => rfl⟩
      · rw [if_neg h15]
        by_cases h16 : t.kind = 16
        · rw [if_pos h16]
          have A' : afS t (3 :: o) = (1, 4 :: o) := by rw [A]; simp [h16]
          rw [hx, run_shut hw hs A' (by decide)]
          have H2 := hE r (4 :: o) (by omega) rfl
          match e2 : E r with
          | .error 0 => rw [e2] at H2; exact need_up H2
          | .error (k + 1) => rw [e2] at H2; exact H2
          | .ok (ms, []) =>
            rw [e2] at H2; obtain ⟨_, w2, hw2, hx2, _⟩ := H2
            simp only []
            rw [hx2]; exact need_open
          | .ok (ms, u :: s) =>
            rw [e2] at H2; obtain ⟨hl2, w2, hw2, hx2, hs2⟩ := H2
            have hl2' : s.length + 1 < r.length := hl2
            have A2 := af_shut (o := o) hs2.1 hs2.2.1 4
            simp only []
            by_cases h17 : u.kind = 17
            · rw [if_pos h17]
              have A2' : afS u (4 :: o) = (1, 3 :: o) := by rw [A2]; simp [h17]
              exact telf_same (by rw [hx2, run_shut hw2 hs2 A2' (by decide)]) (by omega) (bd_tel hE f s (acc ++ ns ++ ms) (n + 1) o (by omega) (by omega))
            · rw [if_neg h17]
              show runH 1 (4 :: o) r = _
              rw [hx2]; exact run_shutBad hw2 hs2 (by rw [A2]; simp [h17])
        · rw [if_neg h16]
          show runH 1 (3 :: o) ts = _
          rw [hx]; exact run_shutBad hw hs (by rw [A]; simp [h15, h16])

def Teli (x : Except Nat (Int × List Int)) (o : List Int) (n : Nat) : Ri → Prop
  | .error 0 => Need x o
  | .error (k + 1) => x = .error (k + 1)
  | .ok (_, r) => r.length < n ∧ x = runH 3 o r
theorem teli_same {x y : Except Nat (Int × List Int)} {o : List Int} {n m : Nat} {p : Ri} (e : x = y) (hn : n ≤ m) (h : Teli y o n p) : Teli x o m p := by
  subst e
  match p with
  | .error 0 => exact h
  | .error (k + 1) => exact h
  | .ok (_, r) => exact ⟨Nat.lt_of_lt_of_le h.1 hn, h.2⟩
theorem ix_tel {E : List Tk → Rp} {b : Bool} {F : Nat} (hE : TelE E b F) : ∀ (f : Nat) (ts : List Tk) (acc : List Nod) (n : Int) (o : List Int), ts.length < f → ts.length < F → insO o = b →
    Teli (runH 1 (2 :: o) ts) o ts.length (ixP E f ts acc n)
  | 0, ts, acc, n, o, hf, _, _ => by omega
  | f + 1, ts, acc, n, o, hf, hF, hb => by
    have H := hE ts (2 :: o) hF (by simpa [insO] using hb)
    simp only [ixP]
    match e : E ts with
    | .error 0 => rw [e] at H; exact need_up H
    | .error (k + 1) => rw [e] at H; exact H
    | .ok (ns, []) =>
      rw [e] at H; obtain ⟨_, w, hw, hx, _⟩ := H
      simp only []
      rw [hx]; exact need_open
    | .ok (ns, t :: r) =>
      rw [e] at H; obtain ⟨hl, w, hw, hx, hs⟩ := H
      have hl' : r.length + 1 < ts.length := hl
      have A := af_shut (o := o) hs.1 hs.2.1 2
      simp only []
      by_cases h8 : t.kind = 8
      · rw [if_pos h8]
        have A' : afS t (2 :: o) = (3, o) := by rw [A]; simp [h8]
        exact ⟨by omega, by rw [hx, run_shut hw hs A' (by decide)]⟩
      · rw [if_neg h8]
        by_cases h9 : t.kind = 9
        · rw [if_pos h9]
          have A' : afS t (2 :: o) = (1, 2 :: o) := by rw [A]; simp [h9]
          exact teli_same (by rw [hx, run_shut hw hs A' (by decide)]) (by omega) (ix_tel hE f r (acc ++ ns) (n + 1) o (by omega) (by omega) hb)
        · rw [if_neg h9]
          show runH 1 (2 :: o) ts = _
          rw [hx]; exact run_shutBad hw hs (by rw [A]; simp [h8, h9])

def Half (w : Int) : List Tk → Prop
  | [] => True
  | t :: _ => t.kind ≠ 7 ∧ (w = 2 → t.kind ≠ 1)
def Num (w : Int) : List Tk → Prop
  | [] => True
  | t :: _ => w = 2 → t.kind ≠ 1
def Telt (x : Except Nat (Int × List Int)) (o : List Int) (n : Nat) (R : Int → List Tk → Prop) : Rp → Prop
  | .error 0 => Need x o
  | .error (k + 1) => x = .error (k + 1)
  | .ok (_, r) => r.length < n ∧ ∃ w, (w = 2 ∨ w = 3) ∧ x = runH w o r ∧ R w r
theorem telt_same {x y : Except Nat (Int × List Int)} {o : List Int} {n m : Nat} {R : Int → List Tk → Prop} {p : Rp} (e : x = y) (hn : n ≤ m) (h : Telt y o n R p) : Telt x o m R p := by
  subst e
  match p with
  | .error 0 => exact h
  | .error (k + 1) => exact h
  | .ok (_, r) => exact ⟨Nat.lt_of_lt_of_le h.1 hn, h.2⟩
theorem num3 (r : List Tk) : Num 3 r := by
  cases r with
  | nil => trivial
  | cons t s => intro h; omega
theorem pk_tel {E : List Tk → Rp} {b : Bool} {F : Nat} (hE : TelE E b F) : ∀ (f : Nat) (ts : List Tk) (acc : List Nod) (o : List Int) (w : Int), ts.length < f → ts.length ≤ F → insO o = b → (w = 2 ∨ w = 3) → Num w ts →
    Telt (runH w o ts) o (ts.length + 1) Half (pksP E f ts acc)
  | 0, ts, acc, o, w, hf, _, _, _, _ => by omega
  | f + 1, [], acc, o, w, hf, hF, hb, hw, hn => ⟨by simp, w, hw, rfl, trivial⟩
  | f + 1, t :: r, acc, o, w, hf, hF, hb, hw, hn => by
    simp only [List.length_cons] at hf hF
    simp only [pksP]
    by_cases h7 : t.kind = 7
    · rw [if_pos h7]
      have h1 : ¬ (w = 2 ∧ t.kind = 1) := by omega
      have A : stS w t o = (1, 2 :: o) := by
        have h5 : w ≠ 5 := by omega
        have h6 : w ≠ 6 := by omega
        simp only [stS, if_neg h5, if_neg h6, if_neg h1, if_pos hw]
        simp [afS, fnK, h7]
      have hx := run_cons (r := r) A (by decide)
      have H := ix_tel hE (r.length + 1) r [] 0 o (by omega) (by omega) hb
      match e : ixP E (r.length + 1) r [] 0 with
      | .error 0 => rw [e] at H; rw [hx]; exact H
      | .error (k + 1) => rw [e] at H; rw [hx]; exact H
      | .ok ((n, ns), s) =>
        rw [e] at H
        exact telt_same (by rw [hx, H.2]) (by simp only [List.length_cons]; have := H.1; omega) (pk_tel hE f s _ o 3 (by have := H.1; omega) (by have := H.1; omega) hb (Or.inr rfl) (num3 s))
    · rw [if_neg h7]
      exact ⟨by simp, w, hw, rfl, h7, hn⟩
theorem nm_run (o : List Int) : ∀ ts : List Tk, runH 2 o ts = runH 2 o (nmP ts).2 ∧ Num 2 (nmP ts).2 ∧ (nmP ts).2.length ≤ ts.length
  | [] => ⟨rfl, trivial, Nat.le_refl 0⟩
  | t :: r => by
    have ih := nm_run o r
    simp only [nmP]
    by_cases h1 : t.kind = 1
    · rw [if_pos h1]
      refine ⟨?_, ih.2.1, by simp only [List.length_cons]; omega⟩
      rw [run_cons (w' := 2) (o' := o) (by simp [stS, h1]) (by decide)]
      exact ih.1
    · rw [if_neg h1]
      exact ⟨rfl, fun _ => h1, Nat.le_refl _⟩
theorem st1 (t : Tk) (o : List Int) : stS 1 t o = bgS t o := by simp [stS]
theorem at_tel {E : List Tk → Rp} {b : Bool} {F : Nat} (hE : TelE E b F) {ts : List Tk} {o : List Int} (hF : ts.length ≤ F) (hb : insO o = b) (hh : hfn ts = false) :
    Telt (runH 1 o ts) o ts.length Num (atP E b ts) := by
  match ts with
  | [] => exact need_any (by decide) (by decide)
  | t :: r =>
    simp only [List.length_cons] at hF
    have hk : t.kind ≠ 4 ∧ t.kind ≠ 11 ∧ t.kind ≠ 14 ∧ t.kind ≠ 20 := by
      simp only [hfn, fnK, Bool.or_eq_false_iff, decide_eq_false_iff_not] at hh
      omega
    simp only [atP]
    by_cases h1 : t.kind = 1
    · rw [if_pos h1]
      have N := nm_run o r
      refine ⟨by simp only [List.length_cons]; omega, 2, Or.inl rfl, ?_, N.2.1⟩
      rw [run_cons (w' := 2) (o' := o) (by rw [st1]; simp [bgS, h1]) (by decide)]
      exact N.1
    rw [if_neg h1]
    by_cases h2 : t.kind = 2
    · rw [if_pos h2]
      exact ⟨by simp, 3, Or.inr rfl, run_cons (by rw [st1]; simp [bgS, h2]) (by decide), num3 r⟩
    rw [if_neg h2]
    by_cases h3 : t.kind = 3
    · rw [if_pos h3]
      exact ⟨by simp, 3, Or.inr rfl, run_cons (by rw [st1]; simp [bgS, h3]) (by decide), num3 r⟩
    rw [if_neg h3]
    by_cases h18 : t.kind = 18 ∧ b = true
    · rw [if_pos h18]
      exact ⟨by simp, 3, Or.inr rfl, run_cons (by rw [st1]; simp [bgS, h18.1, hb, h18.2]) (by decide), num3 r⟩
    rw [if_neg h18]
    by_cases h19 : t.kind = 19 ∧ b = true
    · rw [if_pos h19]
      exact ⟨by simp, 3, Or.inr rfl, run_cons (by rw [st1]; simp [bgS, h19.1, hb, h19.2]) (by decide), num3 r⟩
    rw [if_neg h19]
    by_cases h5 : t.kind = 5
    · rw [if_pos h5]
      have hx := run_cons (w := 1) (t := t) (o := o) (r := r) (w' := 1) (o' := 1 :: o) (by rw [st1]; simp [bgS, h5]) (by decide)
      have H := hE r (1 :: o) (by omega) (by simpa [insO] using hb)
      rw [hx]
      match e : E r with
      | .error 0 => rw [e] at H; exact need_up H
      | .error (k + 1) => rw [e] at H; exact H
      | .ok (ns, []) =>
        rw [e] at H; obtain ⟨_, w, hw, hx2, _⟩ := H
        simp only []
        rw [hx2]; exact need_open
      | .ok (ns, u :: s) =>
        rw [e] at H; obtain ⟨hl, w, hw, hx2, hs⟩ := H
        have hl' : s.length + 1 < r.length := hl
        have A := af_shut (o := o) hs.1 hs.2.1 1
        simp only []
        by_cases h6 : u.kind = 6
        · rw [if_pos h6]
          exact ⟨by simp only [List.length_cons]; omega, 3, Or.inr rfl, by rw [hx2, run_shut hw hs (w' := 3) (o' := o) (by rw [A]; simp [h6]) (by decide)], num3 s⟩
        · rw [if_neg h6]
          show runH 1 (1 :: o) r = _
          rw [hx2]; exact run_shutBad hw hs (by rw [A]; simp [h6])
    rw [if_neg h5]
    show runH 1 o (t :: r) = _
    refine run_bad ?_
    rw [st1]
    have n18 : ¬ (insO o = true ∧ (t.kind = 18 ∨ t.kind = 19)) := by
      rintro ⟨hi, h | h⟩
      · exact h18 ⟨h, by rw [← hb]; exact hi⟩
      · exact h19 ⟨h, by rw [← hb]; exact hi⟩
    simp only [bgS, if_neg h1, if_neg (not_or.mpr ⟨h2, h3⟩), if_neg hk.1, if_neg hk.2.1, if_neg h5, if_neg hk.2.2.1, if_neg n18]
    rw [if_neg (fun h => hk.2.2.2 h.2)]
theorem tm_tel {E : List Tk → Rp} {b : Bool} {F : Nat} (hE : TelE E b F) {ts : List Tk} {o : List Int} (hF : ts.length ≤ F) (hb : insO o = b) (hh : hfn ts = false) :
    Telt (runH 1 o ts) o ts.length Half (tmP E b ts) := by
  have H := at_tel hE hF hb hh
  unfold tmP
  match e : atP E b ts with
  | .error 0 => rw [e] at H; exact H
  | .error (k + 1) => rw [e] at H; exact H
  | .ok (ns, r) =>
    rw [e] at H
    obtain ⟨hl, w, hw, hx, hn⟩ := H
    exact telt_same hx (by omega) (pk_tel hE (r.length + 1) r ns o w (by omega) (by omega) hb hw hn)
theorem gl_tel (fn : Int) (o : List Int) : ∀ r : List Tk, Telf (runH 4 o r) o (r.length + 1) (glP fn r)
  | [] => ⟨by simp, fun _ => need_any (by decide) (by decide), fun h => absurd rfl h⟩
  | u :: r => by
    have one : ∀ {x : Int × Int × Int} {q : List Nod}, stS 4 u o = (1, o) → Telf (runH 4 o (u :: r)) o ((u :: r).length + 1) (.ok ((⟨x.1, x.2.1, x.2.2⟩, 0, q), r)) := by
      intro x q h
      rw [run_cons h (by decide)]
      exact ⟨by simp only [List.length_cons]; omega, fun h => by subst h; exact need_any (by decide) (by decide), fun _ => rfl⟩
    simp only [glP]
    by_cases h13 : u.kind = 13
    · rw [if_pos h13]; exact one (x := (5, fn, 0)) (by simp [stS, h13])
    rw [if_neg h13]
    by_cases h33 : u.kind = 4 ∧ u.fn = 33
    · rw [if_pos h33]; exact one (x := (1, fn, 0)) (by simp [stS, h33])
    rw [if_neg h33]
    by_cases h34 : u.kind = 4 ∧ u.fn = 34
    · rw [if_pos h34]; exact one (x := (2, fn, 0)) (by simp [stS, h34])
    rw [if_neg h34]
    by_cases h12 : u.kind = 12
    · rw [if_pos h12]
      have A : stS 4 u o = (6, o) := by simp [stS, h12]
      rw [run_cons A (by decide)]
      match r with
      | [] => exact need_any (by decide) (by decide)
      | v :: s =>
        simp only []
        by_cases h4 : v.kind = 4
        · rw [if_pos h4, run_cons (w' := 1) (o' := o) (by simp [stS, h4]) (by decide)]
          exact ⟨by simp only [List.length_cons]; omega, fun h => by subst h; exact need_any (by decide) (by decide), fun _ => rfl⟩
        · rw [if_neg h4]
          exact run_bad (by simp [stS, h4])
    · rw [if_neg h12]
      refine ⟨by simp, fun h => (by cases h), fun _ => ?_⟩
      have e : stS 4 u o = stS 1 u o := by
        have n1 : ¬ (u.kind = 13 ∨ u.kind = 4 ∧ (u.fn = 33 ∨ u.fn = 34)) := by
          rintro (h | ⟨g, h | h⟩)
          · exact h13 h
          · exact h33 ⟨g, h⟩
          · exact h34 ⟨g, h⟩
        simp [stS, n1, h12]
      simp only [runH, e]
theorem ot_tel (o : List Int) : ∀ r : List Tk, Telf (runH 5 o r) o (r.length + 1) (otP r)
  | [] => need_any (by decide) (by decide)
  | u :: r => by
    simp only [otP]
    by_cases h12 : u.kind = 12
    · rw [if_pos h12]
      have A : stS 5 u o = (6, o) := by simp [stS, h12]
      rw [run_cons A (by decide)]
      match r with
      | [] => exact need_any (by decide) (by decide)
      | v :: s =>
        simp only []
        by_cases h4 : v.kind = 4
        · rw [if_pos h4, run_cons (w' := 1) (o' := o) (by simp [stS, h4]) (by decide)]
          exact ⟨by simp only [List.length_cons]; omega, fun h => by subst h; exact need_any (by decide) (by decide), fun _ => rfl⟩
        · rw [if_neg h4]
          exact run_bad (by simp [stS, h4])
    · rw [if_neg h12]
      exact run_bad (by simp [stS, h12])
theorem fn_tel {E : Bool → List Tk → Rp} {b : Bool} {F : Nat} (hE : TelE (E true) true F) {ts : List Tk} {o : List Int} (hF : ts.length ≤ F) (hb : insO o = b) (hh : hfn ts = true) :
    Telf (runH 1 o ts) o ts.length (fnP E b ts) := by
  match ts with
  | [] => simp [hfn] at hh
  | t :: r =>
    simp only [List.length_cons] at hF
    simp only [fnP]
    by_cases h4 : t.kind = 4
    · rw [if_pos h4, run_cons (w' := 4) (o' := o) (by rw [st1]; simp [bgS, h4]) (by decide)]
      exact gl_tel t.fn o r
    rw [if_neg h4]
    by_cases h11 : t.kind = 11
    · rw [if_pos h11, run_cons (w' := 5) (o' := o) (by rw [st1]; simp [bgS, h11]) (by decide)]
      exact ot_tel o r
    rw [if_neg h11]
    by_cases h20 : t.kind = 20 ∧ b = true
    · rw [if_pos h20, run_cons (w' := 1) (o' := o) (by rw [st1]; simp [bgS, h20.1, hb, h20.2]) (by decide)]
      exact ⟨by simp, fun h => by subst h; exact need_any (by decide) (by decide), fun _ => rfl⟩
    rw [if_neg h20]
    by_cases h14 : t.kind = 14
    · rw [if_pos h14, run_cons (w' := 1) (o' := 3 :: o) (by rw [st1]; simp [bgS, h14]) (by decide)]
      exact telf_same rfl (by simp) (bd_tel hE (r.length + 1) r [] 0 o (by omega) (by omega))
    rw [if_neg h14]
    show runH 1 o (t :: r) = _
    have k20 : t.kind = 20 := by
      simp only [hfn, fnK, Bool.or_eq_true, decide_eq_true_eq] at hh
      omega
    have bf : insO o = false := by
      cases h : insO o with
      | false => rfl
      | true => exact absurd ⟨k20, by rw [← hb]; exact h⟩ h20
    exact run_bad (by rw [st1]; simp [bgS, k20, bf])
theorem ag_tel {E : Bool → List Tk → Rp} {b : Bool} {F : Nat} (hT : TelE (E true) true F) (hE : TelE (E b) b F) (op : Int) (ms : List Nod) {ts : List Tk} {o : List Int} (hF : ts.length ≤ F) (hb : insO o = b) (hh : hfn ts = true) :
    Tel (runH 1 o ts) o ts.length (agP E b op ms ts) := by
  have H := fn_tel hT hF hb hh
  unfold agP
  match e : fnP E b ts with
  | .error 0 => rw [e] at H; exact H
  | .error (k + 1) => rw [e] at H; exact H
  | .ok ((a, n, body), r) =>
    rw [e] at H
    obtain ⟨hl, h0, h1⟩ := H
    have G := hE r o (by omega) hb
    simp only []
    match e2 : E b r with
    | .error 0 =>
      rw [e2] at G
      by_cases hr : r = []
      · exact h0 hr
      · show Need _ o
        rw [h1 hr]; exact G
    | .error (k + 1) =>
      rw [e2] at G
      by_cases hr : r = []
      · subst hr; cases G
      · show runH 1 o ts = _
        rw [h1 hr]; exact G
    | .ok (ns, s) =>
      rw [e2] at G
      by_cases hr : r = []
      · subst hr; exact absurd G.1 (Nat.not_lt_zero _)
      · refine ⟨by have := G.1; omega, ?_⟩
        rw [h1 hr]; exact G.2
theorem run_again {w : Int} {r : List Tk} {o : List Int} (hw : w = 2 ∨ w = 3) (hh : hfn r = true) : runH w o r = runH 1 o r := by
  match r with
  | [] => simp [hfn] at hh
  | t :: s =>
    have hk : fnK t.kind = true := hh
    have n1 : t.kind ≠ 1 := by
      intro h; rw [h] at hk; cases hk
    have e : stS w t o = stS 1 t o := by
      have h5 : w ≠ 5 := by omega
      have h6 : w ≠ 6 := by omega
      rw [st1]
      simp only [stS, if_neg h5, if_neg h6, if_neg (fun h : w = 2 ∧ t.kind = 1 => n1 h.2), if_pos hw, afS, hk, if_true]
    simp only [runH, e]
/-- Descent tells what is told word by word. -/
theorem ex_tel : ∀ (f : Nat) (b : Bool), TelE (exP f b) b f
  | 0, b => fun ts o h _ => absurd h (Nat.not_lt_zero _)
  | f + 1, b => fun ts o hl hb => by
    have hT := ex_tel f true
    have hE := ex_tel f b
    simp only [exP]
    by_cases hh : hfn ts = true
    · rw [if_pos hh]
      exact ag_tel hT hE 6 [] (by omega) hb hh
    · rw [if_neg hh]
      have H := tm_tel hE (by omega : ts.length ≤ f) hb (by simpa using hh)
      match e : tmP (exP f b) b ts with
      | .error 0 => rw [e] at H; exact H
      | .error (k + 1) => rw [e] at H; exact H
      | .ok (ms, r) =>
        rw [e] at H
        obtain ⟨hlr, w, hw, hx, hs⟩ := H
        simp only []
        by_cases hr : hfn r = true
        · rw [if_pos hr]
          have G := ag_tel hT hE 7 ms (ts := r) (o := o) (by omega) hb hr
          rw [← run_again hw hr, ← hx] at G
          match e2 : agP (exP f) b 7 ms r with
          | .error 0 => rw [e2] at G; exact G
          | .error (k + 1) => rw [e2] at G; exact G
          | .ok (ns, s) => rw [e2] at G; exact ⟨by have := G.1; omega, G.2⟩
        · rw [if_neg hr]
          refine ⟨hlr, w, hw, hx, ?_⟩
          match r with
          | [] => trivial
          | t :: s => exact ⟨by simpa [hfn] using hr, hs.1, hs.2⟩
end Go.Proofs.YtgjgbgllhbdodaaGreatDoor
/-! Trb: Plain mathematics of trees: the line, as soon as can be; what stands behind what is read changes nothing. -/
namespace Go.Proofs.YtgjgbgllhbdodaaGreatDoor
open Go.Lib
set_option linter.unusedVariables false

def isAr : List Tk → Bool
  | t :: u :: _ => decide (t.kind = 3) && decide (u.kind = 10)
  | _ => false
def exprW (ts : List Tk) : List Tk := if isAr ts = true then ts.drop 2 else ts
def setN (ts : List Tk) (ns : List Nod) : List Nod :=
  match ts with
  | [] => ns
  | t :: r => if isAr (t :: r) = true then ⟨9, ac0, 0, [], t.text⟩ :: ns else ns
/-- A line's tree, or the index at which it fails. -/
def lnP (ts : List Tk) : Except Nat (List Nod) :=
  match exP ((exprW ts).length + 1) false (exprW ts) with
  | .error k => .error (ts.length - k)
  | .ok (ns, []) => .ok (setN ts ns)
  | .ok (_, _ :: r) => .error (ts.length - (r.length + 1))
def haltS (ts : List Tk) : Nat × Bool :=
  match runH 1 [] (exprW ts) with
  | .error k => (ts.length - k, false)
  | .ok (w, o) => if o = [] ∧ (w = 3 ∨ w = 2) then (0, true) else (ts.length, false)
theorem stop_nil {w : Int} {t : Tk} {r : List Tk} (hw : w = 2 ∨ w = 3) (hs : Stopt w (t :: r)) : runH w [] (t :: r) = .error (r.length + 1) := by
  refine run_shutBad hw hs ?_
  simp only [afS, hs.1, Bool.false_eq_true, if_false, if_neg hs.2.1]
theorem halt_ln (ts : List Tk) : haltS ts = (match lnP ts with | .ok _ => (0, true) | .error i => (i, false)) := by
  have H := ex_tel ((exprW ts).length + 1) false (exprW ts) [] (Nat.lt_succ_self _) rfl
  unfold haltS lnP
  match e : exP ((exprW ts).length + 1) false (exprW ts) with
  | .error 0 =>
    rw [e] at H
    obtain ⟨w, o, hx, h⟩ := H
    have n : ¬ (o = [] ∧ (w = 3 ∨ w = 2)) := by
      rintro ⟨rfl, hw⟩
      simp only [List.length_nil] at h
      omega
    simp only [hx, if_neg n]
    rfl
  | .error (k + 1) =>
    rw [e] at H
    have H : runH 1 [] (exprW ts) = .error (k + 1) := H
    simp only [H]
  | .ok (ns, []) =>
    rw [e] at H
    obtain ⟨_, w, hw, hx, _⟩ := H
    simp only [hx, runH]
    rw [if_pos ⟨trivial, by omega⟩]
  | .ok (ns, t :: r) =>
    rw [e] at H
    obtain ⟨_, w, hw, hx, hs⟩ := H
    simp only [hx, stop_nil hw hs]
theorem run_app : ∀ (ts us : List Tk) (w : Int) (o : List Int), runH w o (ts ++ us) = (match runH w o ts with | .error k => .error (k + us.length) | .ok (w', o') => runH w' o' us)
  | [], us, w, o => rfl
  | t :: r, us, w, o => by
    simp only [List.cons_append, runH]
    by_cases h : (stS w t o).1 = 0
    · simp only [if_pos h, List.length_append]
      congr 1; omega
    · simp only [if_neg h]
      exact run_app r us _ _
theorem run_pre : ∀ (ts : List Tk) (w : Int) (o : List Int) (k : Nat), runH w o ts = .error k → 1 ≤ k ∧ k ≤ ts.length ∧ ∃ x, runH w o (ts.take (ts.length - k)) = .ok x
  | [], w, o, k, h => by cases h
  | t :: r, w, o, k, h => by
    simp only [runH] at h
    by_cases h0 : (stS w t o).1 = 0
    · rw [if_pos h0] at h
      have : k = r.length + 1 := by injection h with h; exact h.symm
      subst this
      refine ⟨by omega, by simp, (w, o), ?_⟩
      simp [runH]
    · rw [if_neg h0] at h
      obtain ⟨h1, h2, x, hx⟩ := run_pre r _ _ k h
      refine ⟨h1, by simp only [List.length_cons]; omega, x, ?_⟩
      rw [show (t :: r).length - k = (r.length - k) + 1 by simp only [List.length_cons]; omega, List.take_succ_cons]
      simp only [runH, if_neg h0]
      exact hx
theorem isAr_app {ts : List Tk} (us : List Tk) (h : 2 ≤ ts.length) : isAr (ts ++ us) = isAr ts := by
  match ts, h with
  | t :: u :: r, _ => rfl
theorem isAr_len {ts : List Tk} (h : isAr ts = true) : 2 ≤ ts.length := by
  match ts, h with
  | t :: u :: r, _ => simp only [List.length_cons]; omega
theorem exprW_len (ts : List Tk) : (exprW ts).length ≤ ts.length := by
  unfold exprW; split
  · simp only [List.length_drop]; omega
  · exact Nat.le_refl _
theorem exprW_nil1 {t : Tk} {us : List Tk} (h : (stS 1 t []).1 = 0) : exprW (t :: us) = t :: us := by
  have k3 : t.kind ≠ 3 := by
    intro k; rw [st1] at h; simp [bgS, k] at h
  unfold exprW
  rw [if_neg]
  cases us with
  | nil => simp [isAr]
  | cons u r => simp [isAr, k3]
/-- AS SOON AS CAN BE. -/
theorem soon_ln {ts : List Tk} {i : Nat} (h : lnP ts = .error i) (hi : i < ts.length) (us : List Tk) :
    lnP (ts ++ us) = .error i ∧ ∀ j, lnP (ts.take i) = .error j → j = i := by
  have H := halt_ln ts
  rw [h] at H
  simp only at H
  unfold haltS at H
  match e : runH 1 [] (exprW ts) with
  | .ok (w, o) =>
    rw [e] at H; simp only at H
    split at H
    · cases H
    · injection H with H; omega
  | .error k =>
    rw [e] at H; simp only at H
    injection H with H _
    obtain ⟨k1, k2, x, hx⟩ := run_pre _ _ _ _ e
    have hl := exprW_len ts
    -- with any words behind
    have A : exprW (ts ++ us) = exprW ts ++ us := by
      match ts, hi with
      | [t], hi =>
        have e' : runH 1 [] [t] = .error k := e
        have z : (stS 1 t []).1 = 0 := by
          simp only [runH] at e'
          by_cases h0 : (stS 1 t []).1 = 0
          · exact h0
          · rw [if_neg h0] at e'; cases e'
        exact exprW_nil1 z
      | t :: u :: r, _ =>
        have hA : isAr (t :: u :: r ++ us) = isAr (t :: u :: r) := rfl
        unfold exprW
        rw [hA]
        cases isAr (t :: u :: r) <;> simp
    have B := halt_ln (ts ++ us)
    unfold haltS at B
    rw [A, run_app, e] at B
    simp only [List.length_append] at B
    refine ⟨?_, ?_⟩
    · match e2 : lnP (ts ++ us) with
      | .ok ns => rw [e2] at B; simp at B
      | .error j => rw [e2] at B; simp only [Prod.mk.injEq, and_true] at B; congr 1; omega
    · intro j hj
      have C := halt_ln (ts.take i)
      rw [hj] at C
      simp only at C
      have D : exprW (ts.take i) = (exprW ts).take ((exprW ts).length - k) := by
        unfold exprW at k2 ⊢
        by_cases ha : isAr ts = true
        · simp only [if_pos ha, List.length_drop] at k2 ⊢
          have h2 := isAr_len ha
          have ha' : isAr (ts.take i) = true := by
            match ts, ha with
            | t :: u :: r, ha =>
              simp only [List.length_cons] at hi H k2
              obtain ⟨m, rfl⟩ : ∃ m, i = m + 2 := ⟨i - 2, by omega⟩
              exact ha
          rw [if_pos ha', List.drop_take]
          congr 1; omega
        · have ha' : ¬ isAr (ts.take i) = true := by
            intro g
            have := isAr_len g
            simp only [List.length_take] at this
            apply ha
            match ts, (by omega : 2 ≤ ts.length), g with
            | t :: u :: r, _, g =>
              obtain ⟨m, rfl⟩ : ∃ m, i = m + 2 := ⟨i - 2, by omega⟩
              exact g
          simp only [if_neg ha, if_neg ha'] at k2 ⊢
          rw [H]
      unfold haltS at C
      rw [D, hx] at C
      obtain ⟨w, o⟩ := x
      simp only at C
      split at C
      · cases C
      · injection C with C _
        rw [← C, List.length_take]; omega
end Go.Proofs.YtgjgbgllhbdodaaGreatDoor
/-! Trc: Plain mathematics of trees: what stands behind what is read changes nothing; brackets about all of it. -/
namespace Go.Proofs.YtgjgbgllhbdodaaGreatDoor
open Go.Lib
set_option linter.unusedVariables false

/-- Words that can belong to nothing that ends ahead of them. -/
def StV : List Tk → Prop
  | [] => True
  | t :: _ => t.kind ≠ 1 ∧ t.kind ≠ 4 ∧ t.kind ≠ 7 ∧ t.kind ≠ 11 ∧ t.kind ≠ 12 ∧ t.kind ≠ 13 ∧ t.kind ≠ 14 ∧ t.kind ≠ 20
def Exd (E E' : List Tk → Rp) (vs : List Tk) : Prop := ∀ ts ns r, E ts = .ok (ns, r) → E' (ts ++ vs) = .ok (ns, r ++ vs)
theorem bd_ext {E E' : List Tk → Rp} {vs : List Tk} (h : Exd E E' vs) : ∀ (f : Nat) (ts : List Tk) (acc : List Nod) (n : Int) (x : Ac × Int × List Nod) (r : List Tk), bdP E f ts acc n = .ok (x, r) → ∀ F, f ≤ F → bdP E' F (ts ++ vs) acc n = .ok (x, r ++ vs)
  | 0, ts, acc, n, x, r, e, F, hF => by cases e
  | f + 1, ts, acc, n, x, r, e, F, hF => by
    obtain ⟨G, rfl⟩ : ∃ G, F = G + 1 := ⟨F - 1, by omega⟩
    simp only [bdP] at e ⊢
    match e1 : E ts with
    | .error k => rw [e1] at e; cases e
    | .ok (ns, []) => rw [e1] at e; cases e
    | .ok (ns, t :: q) =>
      rw [e1] at e
      rw [h _ _ _ e1]
      simp only [List.cons_append] at e ⊢
      by_cases h15 : t.kind = 15
      · rw [if_pos h15] at e ⊢
        injection e with e; injection e with ex er
        subst ex; subst er; rfl
      · rw [if_neg h15] at e ⊢
        by_cases h16 : t.kind = 16
        · rw [if_pos h16] at e ⊢
          match e2 : E q with
          | .error k => rw [e2] at e; cases e
          | .ok (ms, []) => rw [e2] at e; cases e
          | .ok (ms, u :: s) =>
            rw [e2] at e
            rw [h _ _ _ e2]
            simp only [List.cons_append] at e ⊢
            by_cases h17 : u.kind = 17
            · rw [if_pos h17] at e ⊢
              exact bd_ext h f s _ _ x r e G (by omega)
            · rw [if_neg h17] at e; cases e
        · rw [if_neg h16] at e; cases e
theorem ix_ext {E E' : List Tk → Rp} {vs : List Tk} (h : Exd E E' vs) : ∀ (f : Nat) (ts : List Tk) (acc : List Nod) (n : Int) (x : Int × List Nod) (r : List Tk), ixP E f ts acc n = .ok (x, r) → ∀ F, f ≤ F → ixP E' F (ts ++ vs) acc n = .ok (x, r ++ vs)
  | 0, ts, acc, n, x, r, e, F, hF => by cases e
  | f + 1, ts, acc, n, x, r, e, F, hF => by
    obtain ⟨G, rfl⟩ : ∃ G, F = G + 1 := ⟨F - 1, by omega⟩
    simp only [ixP] at e ⊢
    match e1 : E ts with
    | .error k => rw [e1] at e; cases e
    | .ok (ns, []) => rw [e1] at e; cases e
    | .ok (ns, t :: q) =>
      rw [e1] at e
      rw [h _ _ _ e1]
      simp only [List.cons_append] at e ⊢
      by_cases h8 : t.kind = 8
      · rw [if_pos h8] at e ⊢
        injection e with e; injection e with ex er
        subst ex; subst er; rfl
      · rw [if_neg h8] at e ⊢
        by_cases h9 : t.kind = 9
        · rw [if_pos h9] at e ⊢
          exact ix_ext h f q _ _ x r e G (by omega)
        · rw [if_neg h9] at e; cases e
theorem ix_less {E : List Tk → Rp} (h : ∀ ts ns r, E ts = .ok (ns, r) → r.length < ts.length) : ∀ (f : Nat) (ts : List Tk) (acc : List Nod) (n : Int) (x : Int × List Nod) (r : List Tk), ixP E f ts acc n = .ok (x, r) → r.length < ts.length
  | 0, ts, acc, n, x, r, e => by cases e
  | f + 1, ts, acc, n, x, r, e => by
    simp only [ixP] at e
    match e1 : E ts with
    | .error k => rw [e1] at e; cases e
    | .ok (ns, []) => rw [e1] at e; cases e
    | .ok (ns, t :: q) =>
      have l := h _ _ _ e1
      rw [e1] at e
      simp only [List.length_cons] at e l
      by_cases h8 : t.kind = 8
      · rw [if_pos h8] at e
        injection e with e; injection e with ex er
        subst er; omega
      · rw [if_neg h8] at e
        by_cases h9 : t.kind = 9
        · rw [if_pos h9] at e
          have := ix_less h f q _ _ x r e; omega
        · rw [if_neg h9] at e; cases e
theorem pk_stop {E : List Tk → Rp} {vs : List Tk} (hv : StV vs) (acc : List Nod) : ∀ F, pksP E F vs acc = .ok (acc, vs)
  | 0 => rfl
  | F + 1 => by
    match vs, hv with
    | [], _ => rfl
    | t :: r, hv => simp only [pksP, if_neg hv.2.2.1]
theorem pk_ext {E E' : List Tk → Rp} {vs : List Tk} (hv : StV vs) (h : Exd E E' vs) (hl : ∀ ts ns r, E ts = .ok (ns, r) → r.length < ts.length) : ∀ (f : Nat) (ts : List Tk) (acc : List Nod) (ns : List Nod) (r : List Tk), ts.length < f → pksP E f ts acc = .ok (ns, r) → ∀ F, f ≤ F → pksP E' F (ts ++ vs) acc = .ok (ns, r ++ vs)
  | 0, ts, acc, ns, r, hf, e, F, hF => by omega
  | f + 1, [], acc, ns, r, hf, e, F, hF => by
    simp only [pksP] at e
    injection e with e; injection e with e1 e2
    subst e1; subst e2
    exact pk_stop hv acc F
  | f + 1, t :: q, acc, ns, r, hf, e, F, hF => by
    obtain ⟨G, rfl⟩ : ∃ G, F = G + 1 := ⟨F - 1, by omega⟩
    simp only [List.length_cons] at hf
    simp only [pksP, List.cons_append] at e ⊢
    by_cases h7 : t.kind = 7
    · rw [if_pos h7] at e ⊢
      match e1 : ixP E (q.length + 1) q [] 0 with
      | .error k => rw [e1] at e; cases e
      | .ok ((n, ms), s) =>
        have l := ix_less hl _ _ _ _ _ _ e1
        rw [e1] at e
        rw [ix_ext h _ _ _ _ _ _ e1 _ (by simp only [List.length_append]; omega)]
        exact pk_ext hv h hl f s _ ns r (by omega) e G (by omega)
    · rw [if_neg h7] at e ⊢
      injection e with e; injection e with e1 e2
      subst e1; subst e2; rfl
theorem nm_ext {vs : List Tk} (hv : StV vs) : ∀ ts : List Tk, nmP (ts ++ vs) = ((nmP ts).1, (nmP ts).2 ++ vs)
  | [] => by
    match vs, hv with
    | [], _ => rfl
    | t :: r, hv => simp only [List.nil_append, nmP, if_neg hv.1]
  | t :: r => by
    simp only [List.cons_append, nmP]
    by_cases h1 : t.kind = 1
    · simp only [if_pos h1, nm_ext hv r]
    · simp only [if_neg h1, List.cons_append]
theorem at_ext {E E' : List Tk → Rp} {vs : List Tk} (hv : StV vs) (h : Exd E E' vs) (b : Bool) : Exd (atP E b) (atP E' b) vs := by
  intro ts ns r e
  match ts with
  | [] => cases e
  | t :: q =>
    simp only [atP, List.cons_append] at e ⊢
    by_cases h1 : t.kind = 1
    · rw [if_pos h1] at e ⊢
      rw [nm_ext hv]
      injection e with e; injection e with e1 e2
      subst e1; subst e2; rfl
    rw [if_neg h1] at e ⊢
    by_cases h2 : t.kind = 2
    · rw [if_pos h2] at e ⊢
      injection e with e; injection e with e1 e2
      subst e1; subst e2; rfl
    rw [if_neg h2] at e ⊢
    by_cases h3 : t.kind = 3
    · rw [if_pos h3] at e ⊢
      injection e with e; injection e with e1 e2
      subst e1; subst e2; rfl
    rw [if_neg h3] at e ⊢
    by_cases h18 : t.kind = 18 ∧ b = true
    · rw [if_pos h18] at e ⊢
      injection e with e; injection e with e1 e2
      subst e1; subst e2; rfl
    rw [if_neg h18] at e ⊢
    by_cases h19 : t.kind = 19 ∧ b = true
    · rw [if_pos h19] at e ⊢
      injection e with e; injection e with e1 e2
      subst e1; subst e2; rfl
    rw [if_neg h19] at e ⊢
    by_cases h5 : t.kind = 5
    · rw [if_pos h5] at e ⊢
      match e1 : E q with
      | .error k => rw [e1] at e; cases e
      | .ok (ms, []) => rw [e1] at e; cases e
      | .ok (ms, u :: s) =>
        rw [e1] at e
        rw [h _ _ _ e1]
        simp only [List.cons_append] at e ⊢
        by_cases h6 : u.kind = 6
        · rw [if_pos h6] at e ⊢
          injection e with e; injection e with e1 e2
          subst e1; subst e2; rfl
        · rw [if_neg h6] at e; cases e
    · rw [if_neg h5] at e; cases e
theorem nm_less : ∀ ts : List Tk, (nmP ts).2.length ≤ ts.length := fun ts => (nm_run [] ts).2.2
theorem at_less {E : List Tk → Rp} (hl : ∀ ts ns r, E ts = .ok (ns, r) → r.length < ts.length) (b : Bool) : ∀ ts ns r, atP E b ts = .ok (ns, r) → r.length < ts.length := by
  intro ts ns r e
  match ts with
  | [] => cases e
  | t :: q =>
    simp only [atP] at e
    have N := nm_less q
    split at e
    · injection e with e; injection e with e1 e2; subst e2; simp only [List.length_cons]; omega
    split at e
    · injection e with e; injection e with e1 e2; subst e2; simp
    split at e
    · injection e with e; injection e with e1 e2; subst e2; simp
    split at e
    · injection e with e; injection e with e1 e2; subst e2; simp
    split at e
    · injection e with e; injection e with e1 e2; subst e2; simp
    split at e
    · match e1 : E q with
      | .error k => rw [e1] at e; cases e
      | .ok (ms, []) => rw [e1] at e; cases e
      | .ok (ms, u :: s) =>
        have l := hl _ _ _ e1
        rw [e1] at e
        simp only [List.length_cons] at e l ⊢
        split at e
        · injection e with e; injection e with e1 e2; subst e2; omega
        · cases e
    · cases e
theorem tm_ext {E E' : List Tk → Rp} {vs : List Tk} (hv : StV vs) (h : Exd E E' vs) (hl : ∀ ts ns r, E ts = .ok (ns, r) → r.length < ts.length) (b : Bool) : Exd (tmP E b) (tmP E' b) vs := by
  intro ts ns r e
  unfold tmP at e ⊢
  match e1 : atP E b ts with
  | .error k => rw [e1] at e; cases e
  | .ok (ms, s) =>
    rw [e1] at e
    rw [at_ext hv h b _ _ _ e1]
    exact pk_ext hv h hl _ _ _ _ _ (Nat.lt_succ_self _) e _ (by simp only [List.length_append]; omega)
theorem gl_ext {vs : List Tk} (hv : StV vs) (fn : Int) : ∀ (ts : List Tk) (x : Ac × Int × List Nod) (r : List Tk), glP fn ts = .ok (x, r) → glP fn (ts ++ vs) = .ok (x, r ++ vs)
  | [], x, r, e => by
    simp only [glP] at e
    injection e with e; injection e with e1 e2
    subst e1; subst e2
    match vs, hv with
    | [], _ => rfl
    | t :: q, hv =>
      obtain ⟨_, h4, _, _, h12, h13, _⟩ := hv
      simp only [List.nil_append, glP, if_neg h13, if_neg (fun g : t.kind = 4 ∧ _ => h4 g.1), if_neg h12]
  | u :: q, x, r, e => by
    simp only [glP, List.cons_append] at e ⊢
    split at e
    · rename_i g; rw [if_pos g]; injection e with e; injection e with e1 e2; subst e1; subst e2; rfl
    rename_i g; rw [if_neg g]
    split at e
    · rename_i g; rw [if_pos g]; injection e with e; injection e with e1 e2; subst e1; subst e2; rfl
    rename_i g; rw [if_neg g]
    split at e
    · rename_i g; rw [if_pos g]; injection e with e; injection e with e1 e2; subst e1; subst e2; rfl
    rename_i g; rw [if_neg g]
    by_cases h12 : u.kind = 12
    · rw [if_pos h12] at e ⊢
      match q with
      | [] => cases e
      | v :: s =>
        simp only [List.cons_append] at e ⊢
        split at e
        · rename_i g; rw [if_pos g]; injection e with e; injection e with e1 e2; subst e1; subst e2; rfl
        · cases e
    · rw [if_neg h12] at e ⊢
      injection e with e; injection e with e1 e2; subst e1; subst e2; rfl
theorem ot_ext (vs : List Tk) : ∀ (ts : List Tk) (x : Ac × Int × List Nod) (r : List Tk), otP ts = .ok (x, r) → otP (ts ++ vs) = .ok (x, r ++ vs)
  | [], x, r, e => by cases e
  | u :: q, x, r, e => by
    simp only [otP, List.cons_append] at e ⊢
    by_cases h12 : u.kind = 12
    · rw [if_pos h12] at e ⊢
      match q with
      | [] => cases e
      | v :: s =>
        simp only [List.cons_append] at e ⊢
        split at e
        · rename_i g; rw [if_pos g]; injection e with e; injection e with e1 e2; subst e1; subst e2; rfl
        · cases e
    · rw [if_neg h12] at e; cases e
theorem fn_ext {E E' : Bool → List Tk → Rp} {vs : List Tk} (hv : StV vs) (h : Exd (E true) (E' true) vs) (b : Bool) : ∀ (ts : List Tk) (x : Ac × Int × List Nod) (r : List Tk), fnP E b ts = .ok (x, r) → fnP E' b (ts ++ vs) = .ok (x, r ++ vs)
  | [], x, r, e => by cases e
  | t :: q, x, r, e => by
    simp only [fnP, List.cons_append] at e ⊢
    by_cases h4 : t.kind = 4
    · rw [if_pos h4] at e ⊢; exact gl_ext hv _ _ _ _ e
    rw [if_neg h4] at e ⊢
    by_cases h11 : t.kind = 11
    · rw [if_pos h11] at e ⊢; exact ot_ext vs _ _ _ e
    rw [if_neg h11] at e ⊢
    by_cases h20 : t.kind = 20 ∧ b = true
    · rw [if_pos h20] at e ⊢; injection e with e; injection e with e1 e2; subst e1; subst e2; rfl
    rw [if_neg h20] at e ⊢
    by_cases h14 : t.kind = 14
    · rw [if_pos h14] at e ⊢; exact bd_ext h _ _ _ _ _ _ e _ (by simp only [List.length_append]; omega)
    · rw [if_neg h14] at e; cases e
theorem ag_ext {E E' : Bool → List Tk → Rp} {vs : List Tk} (hv : StV vs) (h : ∀ b, Exd (E b) (E' b) vs) (b : Bool) (op : Int) (ms : List Nod) : Exd (agP E b op ms) (agP E' b op ms) vs := by
  intro ts ns r e
  unfold agP at e ⊢
  match e1 : fnP E b ts with
  | .error k => rw [e1] at e; cases e
  | .ok ((a, n, body), q) =>
    rw [e1] at e
    rw [fn_ext hv (h true) b _ _ _ e1]
    simp only [] at e ⊢
    match e2 : E b q with
    | .error k => rw [e2] at e; cases e
    | .ok (us, s) =>
      rw [e2] at e
      rw [h b _ _ _ e2]
      injection e with e; injection e with e1 e2; subst e1; subst e2; rfl
theorem hfn_ext {vs : List Tk} (hv : StV vs) : ∀ ts : List Tk, hfn (ts ++ vs) = hfn ts
  | [] => by
    match vs, hv with
    | [], _ => rfl
    | t :: q, hv =>
      obtain ⟨_, h4, _, h11, _, _, h14, h20⟩ := hv
      simp [hfn, fnK, h4, h11, h14, h20]
  | t :: q => rfl
theorem bd_less {E : List Tk → Rp} (h : ∀ ts ns r, E ts = .ok (ns, r) → r.length < ts.length) : ∀ (f : Nat) (ts : List Tk) (acc : List Nod) (n : Int) (x : Ac × Int × List Nod) (r : List Tk), bdP E f ts acc n = .ok (x, r) → r.length < ts.length
  | 0, ts, acc, n, x, r, e => by cases e
  | f + 1, ts, acc, n, x, r, e => by
    simp only [bdP] at e
    match e1 : E ts with
    | .error k => rw [e1] at e; cases e
    | .ok (ns, []) => rw [e1] at e; cases e
    | .ok (ns, t :: q) =>
      have l := h _ _ _ e1
      rw [e1] at e
      simp only [List.length_cons] at e l
      split at e
      · injection e with e; injection e with ex er
        subst er; omega
      split at e
      · match e2 : E q with
        | .error k => rw [e2] at e; cases e
        | .ok (ms, []) => rw [e2] at e; cases e
        | .ok (ms, u :: s) =>
          have l2 := h _ _ _ e2
          rw [e2] at e
          simp only [List.length_cons] at e l2
          split at e
          · have := bd_less h f s _ _ x r e; omega
          · cases e
      · cases e
theorem gl_less (fn : Int) : ∀ (ts : List Tk) (x : Ac × Int × List Nod) (r : List Tk), glP fn ts = .ok (x, r) → r.length ≤ ts.length
  | [], x, r, e => by
    simp only [glP] at e
    injection e with e; injection e with e1 e2; subst e2; simp
  | u :: q, x, r, e => by
    simp only [glP] at e
    split at e
    · injection e with e; injection e with e1 e2; subst e2; simp
    split at e
    · injection e with e; injection e with e1 e2; subst e2; simp
    split at e
    · injection e with e; injection e with e1 e2; subst e2; simp
    split at e
    · match q with
      | [] => cases e
      | v :: s =>
        simp only [] at e
        split at e
        · injection e with e; injection e with e1 e2; subst e2; simp only [List.length_cons]; omega
        · cases e
    · injection e with e; injection e with e1 e2; subst e2; simp
theorem ot_less : ∀ (ts : List Tk) (x : Ac × Int × List Nod) (r : List Tk), otP ts = .ok (x, r) → r.length ≤ ts.length
  | [], x, r, e => by cases e
  | u :: q, x, r, e => by
    simp only [otP] at e
    split at e
    · match q with
      | [] => cases e
      | v :: s =>
        simp only [] at e
        split at e
        · injection e with e; injection e with e1 e2; subst e2; simp only [List.length_cons]; omega
        · cases e
    · cases e
theorem fn_less {E : Bool → List Tk → Rp} (h : ∀ ts ns r, E true ts = .ok (ns, r) → r.length < ts.length) (b : Bool) : ∀ (ts : List Tk) (x : Ac × Int × List Nod) (r : List Tk), fnP E b ts = .ok (x, r) → r.length < ts.length
  | [], x, r, e => by cases e
  | t :: q, x, r, e => by
    simp only [fnP] at e
    simp only [List.length_cons]
    split at e
    · have := gl_less _ _ _ _ e; omega
    split at e
    · have := ot_less _ _ _ e; omega
    split at e
    · injection e with e; injection e with e1 e2; subst e2; omega
    split at e
    · have := bd_less h _ _ _ _ _ _ e; omega
    · cases e
theorem ag_less {E : Bool → List Tk → Rp} (h : ∀ b ts ns r, E b ts = .ok (ns, r) → r.length < ts.length) (b : Bool) (op : Int) (ms : List Nod) : ∀ ts ns r, agP E b op ms ts = .ok (ns, r) → r.length < ts.length := by
  intro ts ns r e
  unfold agP at e
  match e1 : fnP E b ts with
  | .error k => rw [e1] at e; cases e
  | .ok ((a, n, body), q) =>
    have l1 := fn_less (h true) b _ _ _ e1
    rw [e1] at e
    simp only [] at e
    match e2 : E b q with
    | .error k => rw [e2] at e; cases e
    | .ok (us, s) =>
      have l2 := h b _ _ _ e2
      rw [e2] at e
      injection e with e; injection e with e1 e2; subst e2; omega
theorem pk_less {E : List Tk → Rp} (hl : ∀ ts ns r, E ts = .ok (ns, r) → r.length < ts.length) : ∀ (f : Nat) (ts : List Tk) (acc : List Nod) (ns : List Nod) (r : List Tk), pksP E f ts acc = .ok (ns, r) → r.length ≤ ts.length
  | 0, ts, acc, ns, r, e => by simp only [pksP] at e; injection e with e; injection e with e1 e2; subst e2; exact Nat.le_refl _
  | f + 1, [], acc, ns, r, e => by simp only [pksP] at e; injection e with e; injection e with e1 e2; subst e2; exact Nat.le_refl _
  | f + 1, t :: q, acc, ns, r, e => by
    simp only [pksP] at e
    split at e
    · match e1 : ixP E (q.length + 1) q [] 0 with
      | .error k => rw [e1] at e; cases e
      | .ok ((n, ms), s) =>
        have l := ix_less hl _ _ _ _ _ _ e1
        rw [e1] at e
        have := pk_less hl f s _ ns r e
        simp only [List.length_cons]; omega
    · injection e with e; injection e with e1 e2; subst e2; exact Nat.le_refl _
theorem tm_less {E : List Tk → Rp} (hl : ∀ ts ns r, E ts = .ok (ns, r) → r.length < ts.length) (b : Bool) : ∀ ts ns r, tmP E b ts = .ok (ns, r) → r.length < ts.length := by
  intro ts ns r e
  unfold tmP at e
  match e1 : atP E b ts with
  | .error k => rw [e1] at e; cases e
  | .ok (ms, s) =>
    have l := at_less hl b _ _ _ e1
    rw [e1] at e
    have := pk_less hl _ _ _ _ _ e
    omega
theorem ex_less : ∀ (f : Nat) (b : Bool), ∀ ts ns r, exP f b ts = .ok (ns, r) → r.length < ts.length
  | 0, b, ts, ns, r, e => by cases e
  | f + 1, b, ts, ns, r, e => by
    simp only [exP] at e
    split at e
    · exact ag_less (ex_less f) b 6 [] _ _ _ e
    · match e1 : tmP (exP f b) b ts with
      | .error k => rw [e1] at e; cases e
      | .ok (ms, q) =>
        have l := tm_less (ex_less f b) b _ _ _ e1
        rw [e1] at e
        simp only [] at e
        split at e
        · have := ag_less (ex_less f) b 7 ms _ _ _ e; omega
        · injection e with e; injection e with e1 e2; subst e2; exact l
theorem ex_ext {vs : List Tk} (hv : StV vs) : ∀ (f F : Nat), f ≤ F → ∀ b, Exd (exP f b) (exP F b) vs
  | 0, F, hF, b => fun ts ns r e => by cases e
  | f + 1, F, hF, b => fun ts ns r e => by
    obtain ⟨G, rfl⟩ : ∃ G, F = G + 1 := ⟨F - 1, by omega⟩
    have ih := ex_ext hv f G (by omega)
    simp only [exP] at e ⊢
    rw [hfn_ext hv]
    by_cases hh : hfn ts = true
    · rw [if_pos hh] at e ⊢
      exact ag_ext hv ih b 6 [] _ _ _ e
    · rw [if_neg hh] at e ⊢
      match e1 : tmP (exP f b) b ts with
      | .error k => rw [e1] at e; cases e
      | .ok (ms, q) =>
        rw [e1] at e
        rw [tm_ext hv (ih b) (ex_less f b) b _ _ _ e1]
        simp only [] at e ⊢
        rw [hfn_ext hv]
        by_cases hq : hfn q = true
        · rw [if_pos hq] at e ⊢
          exact ag_ext hv ih b 7 ms _ _ _ e
        · rw [if_neg hq] at e ⊢
          injection e with e; injection e with e1 e2; subst e1; subst e2; rfl
theorem at_lft {E : List Tk → Rp} {b : Bool} {t u : Tk} {q s : List Tk} {ms : List Nod} (hl : t.kind = 5) (h : E q = .ok (ms, u :: s)) (hu : u.kind = 6) : atP E b (t :: q) = .ok (ms, s) := by
  simp [atP, hl, h, hu]
theorem tm_at {E : List Tk → Rp} {b : Bool} {ts r : List Tk} {ms : List Nod} (h : atP E b ts = .ok (ms, r)) : tmP E b ts = pksP E (r.length + 1) r ms := by
  simp [tmP, h]
theorem ex_tm {f : Nat} {b : Bool} {ts r : List Tk} {ms : List Nod} (hf : hfn ts = false) (h : tmP (exP f b) b ts = .ok (ms, r)) (hr : hfn r = false) : exP (f + 1) b ts = .ok (ms, r) := by
  simp only [exP, hf, Bool.false_eq_true, if_false, h, hr]
/-- BRACKETS ABOUT ALL OF IT. -/
theorem bra_ln {ts : List Tk} {ns : List Nod} {l r : Tk} (h : lnP ts = .ok ns) (ha : isAr ts = false) (hl : l.kind = 5) (hr : r.kind = 6) : lnP (l :: ts ++ [r]) = .ok ns := by
  have hw : exprW ts = ts := by unfold exprW; rw [ha]; rfl
  have hs : ∀ ms, setN ts ms = ms := by
    intro ms
    unfold setN
    split
    · rfl
    · rw [ha]; rfl
  unfold lnP at h
  rw [hw] at h
  match e : exP (ts.length + 1) false ts with
  | .error k => rw [e] at h; cases h
  | .ok (ms, t :: q) => rw [e] at h; cases h
  | .ok (ms, []) =>
    rw [e] at h
    simp only [hs] at h
    injection h with h; subst h
    have hv : StV [r] := by simp [StV, hr]
    have X := ex_ext hv (ts.length + 1) ((ts ++ [r]).length + 1) (by simp) false _ _ _ e
    have ha2 : isAr (l :: ts ++ [r]) = false := by
      match ts with
      | [] => simp [isAr, hl]
      | t :: q => simp [isAr, hl]
    have hw2 : exprW (l :: ts ++ [r]) = l :: (ts ++ [r]) := by unfold exprW; rw [ha2]; rfl
    have hf : hfn (l :: (ts ++ [r])) = false := by simp [hfn, fnK, hl]
    have A : exP ((l :: (ts ++ [r])).length + 1) false (l :: (ts ++ [r])) = .ok (ms, []) := by
      show exP (((ts ++ [r]).length + 1) + 1) false (l :: (ts ++ [r])) = _
      exact ex_tm hf (by rw [tm_at (at_lft hl X hr)]; rfl) rfl
    unfold lnP
    rw [hw2, A]
    simp only [setN, List.cons_append]
    rw [if_neg]
    rw [← List.cons_append, ha2]; decide
end Go.Proofs.YtgjgbgllhbdodaaGreatDoor
/-! Trd: Plain mathematics of trees: which nodes are a tree, the words of it; what is printed is read. -/
namespace Go.Proofs.YtgjgbgllhbdodaaGreatDoor
open Go.Lib
set_option linter.unusedVariables false

def sgT (k : Int) : Tk := ⟨k, 0, 0, []⟩
def nuT (x : Int) : Tk := ⟨1, 0, x, []⟩
def glT (f : Int) : Tk := ⟨4, f, 0, []⟩
/-- What Spell tells of a word alone. -/
def aloF (t : Tk) : Int :=
  match spelS t with
  | .error e => e
  | .ok b => if 1000 < b.length then 7 else 0
def glyF (f : Int) : Bool := decide (1 ≤ f) && decide (f ≤ 34)
def txtF (n : Nod) : Int :=
  if n.op = 3 ∨ n.op = 9 then aloF ⟨3, 0, 0, n.text⟩ else if n.op = 2 then aloF ⟨2, 0, 0, n.text⟩ else if n.text = [] then 0 else 1
/-- A node has just the fields that it may have. -/
def okN (n : Nod) : Bool :=
  decide (1 ≤ n.op) && decide (n.op ≤ 9) && (decide (n.op = 1) == decide (0 < n.nums.length)) && decide (txtF n = 0) &&
  (if n.op ≠ 6 ∧ n.op ≠ 7 then decide (n.ac.op = 0) && decide (n.ac.f = 0) && decide (n.ac.g = 0) && (if n.op = 8 then decide (0 < n.n) else decide (n.n = 0))
   else decide (0 ≤ n.ac.op) && decide (n.ac.op ≤ 7) && decide (0 ≤ n.n) && (decide (n.n = 0) || decide (n.ac.op = 6)) &&
     (if 6 ≤ n.ac.op then decide (n.ac.f = 0) && decide (n.ac.g = 0) else glyF n.ac.f && (if n.ac.op = 4 then glyF n.ac.g else decide (n.ac.g = 0))))
theorem okn_plain {n : Nod} (h : okN n = true) (h6 : n.op ≠ 6) (h7 : n.op ≠ 7) :
    n.ac = ac0 ∧ (n.op ≠ 8 → n.n = 0) ∧ (n.op = 8 → 0 < n.n) ∧ (n.op ≠ 1 → n.nums = []) ∧ (n.op = 1 → n.nums ≠ []) ∧ (n.op ≠ 2 → n.op ≠ 3 → n.op ≠ 9 → n.text = []) ∧ 1 ≤ n.op ∧ n.op ≤ 9 := by
  simp only [okN, Bool.and_eq_true, decide_eq_true_eq, beq_iff_eq, if_pos (show n.op ≠ 6 ∧ n.op ≠ 7 from ⟨h6, h7⟩)] at h
  obtain ⟨⟨⟨⟨h1, h9⟩, hn⟩, ht⟩, ⟨⟨a0, a1⟩, a2⟩, hN⟩ := h
  refine ⟨?_, ?_, ?_, ?_, ?_, ?_, h1, h9⟩
  · obtain ⟨op, ⟨a, b, c⟩, k, nums, text⟩ := n
    simp only at a0 a1 a2; subst a0; subst a1; subst a2; rfl
  · intro h8; simpa [h8] using hN
  · intro h8; simpa [h8] using hN
  · intro g
    have : ¬ 0 < n.nums.length := by
      intro hl; apply g; simpa [hl] using hn
    exact List.length_eq_zero_iff.mp (by omega)
  · intro g e
    rw [e] at hn; simp [g] at hn
  · intro h2 h3 h9'
    unfold txtF at ht
    rw [if_neg (by omega), if_neg h2] at ht
    by_cases e : n.text = []
    · exact e
    · rw [if_neg e] at ht; cases ht
theorem okn_act {n : Nod} (h : okN n = true) (h6 : n.op = 6 ∨ n.op = 7) :
    n.nums = [] ∧ n.text = [] ∧ 0 ≤ n.ac.op ∧ n.ac.op ≤ 7 ∧ 0 ≤ n.n ∧ (n.ac.op ≠ 6 → n.n = 0) ∧ (6 ≤ n.ac.op → n.ac.f = 0 ∧ n.ac.g = 0) ∧ (n.ac.op < 6 → n.ac.op ≠ 4 → n.ac.g = 0) := by
  simp only [okN, Bool.and_eq_true, decide_eq_true_eq, beq_iff_eq, if_neg (show ¬ (n.op ≠ 6 ∧ n.op ≠ 7) by omega)] at h
  obtain ⟨⟨⟨⟨h1, h9⟩, hn⟩, ht⟩, ⟨⟨⟨a0, a7⟩, hN⟩, hd⟩, hf⟩ := h
  refine ⟨?_, ?_, a0, a7, hN, ?_, ?_, ?_⟩
  · have : ¬ 0 < n.nums.length := by
      intro hl; rw [decide_eq_true hl] at hn; have := of_decide_eq_true hn; omega
    exact List.length_eq_zero_iff.mp (by omega)
  · unfold txtF at ht
    rw [if_neg (by omega), if_neg (by omega)] at ht
    by_cases e : n.text = []
    · exact e
    · rw [if_neg e] at ht; cases ht
  · intro g
    simp only [Bool.or_eq_true, decide_eq_true_eq] at hd
    omega
  · intro g
    rw [if_pos g] at hf
    simpa using hf
  · intro g g4
    rw [if_neg (by omega), if_neg g4] at hf
    simp only [Bool.and_eq_true, decide_eq_true_eq] at hf
    exact hf.2

/-- So many trees ahead: what stands behind them. -/
def bhN (B : List Nod → Option (List Nod)) : Nat → List Nod → Option (List Nod)
  | 0, ts => some ts
  | k + 1, ts =>
    match B ts with
    | none => none
    | some r => bhN B k r
def fnB (B : List Nod → Option (List Nod)) (n : Nod) (r : List Nod) : Option (List Nod) := if n.ac.op = 6 then bhN B (2 * n.n.toNat + 1) r else some r
/-- What stands behind the expression ahead. -/
def bhS : Nat → Bool → List Nod → Option (List Nod)
  | 0, _, _ => none
  | f + 1, b, [] => none
  | f + 1, b, n :: r =>
    if okN n = false ∨ n.op = 9 ∨ b = false ∧ (n.op = 4 ∨ n.op = 5 ∨ n.ac.op = 7) then none
    else if n.op = 8 then
      match bhS f b r with
      | none => none
      | some r1 => bhN (bhS f b) n.n.toNat r1
    else if n.op = 6 ∨ n.op = 7 then
      match (if n.op = 7 then bhS f b r else some r) with
      | none => none
      | some r1 =>
        match fnB (bhS f true) n r1 with
        | none => none
        | some r2 => bhS f b r2
    else some r

def isFnN : List Nod → Bool
  | [] => false
  | n :: _ => decide (n.op = 6) || decide (n.op = 7)
def slH : List Tk → Bool
  | [] => false
  | t :: _ => decide (t.kind = 4) && (decide (t.fn = 33) || decide (t.fn = 34))
def brk (m : Bool) (ws : List Tk) : List Tk := if m = true then sgT 5 :: (ws ++ [sgT 6]) else ws
/-- The words of so many indices and one, behind Open. -/
def ixW (W : List Nod → List Tk × List Nod) : Nat → List Nod → List Tk × List Nod
  | 0, ts => ((W ts).1 ++ [sgT 8], (W ts).2)
  | k + 1, ts => ((W ts).1 ++ sgT 9 :: (ixW W k (W ts).2).1, (ixW W k (W ts).2).2)
def bdW (W : List Nod → List Tk × List Nod) : Nat → List Nod → List Tk × List Nod
  | 0, ts => ((W ts).1 ++ [sgT 15], (W ts).2)
  | k + 1, ts => ((W ts).1 ++ sgT 16 :: ((W (W ts).2).1 ++ sgT 17 :: (bdW W k (W (W ts).2).2).1), (bdW W k (W (W ts).2).2).2)
def fnW (W : List Nod → List Tk × List Nod) (n : Nod) (r : List Nod) : List Tk × List Nod :=
  if n.ac.op = 7 then ([sgT 20], r)
  else if n.ac.op = 6 then (sgT 14 :: (bdW W n.n.toNat r).1, (bdW W n.n.toNat r).2)
  else if n.ac.op = 3 then ([sgT 11, sgT 12, glT n.ac.f], r)
  else if n.ac.op = 4 then ([glT n.ac.f, sgT 12, glT n.ac.g], r)
  else if n.ac.op = 5 then ([glT n.ac.f, sgT 13], r)
  else if n.ac.op = 1 then ([glT n.ac.f, glT 33], r)
  else if n.ac.op = 2 then ([glT n.ac.f, glT 34], r)
  else ([glT n.ac.f], r)
/-- A left part's words, in brackets where they must be. -/
def lfW (W : List Nod → List Tk × List Nod) (r : List Nod) : List Tk × List Nod := (brk (isFnN r) (W r).1, (W r).2)
/-- The words of the expression ahead, and what stands behind it. -/
def wrdS : Nat → List Nod → List Tk × List Nod
  | 0, ts => ([], ts)
  | f + 1, [] => ([], [])
  | f + 1, n :: r =>
    if n.op = 1 then (n.nums.map nuT, r)
    else if n.op = 2 then ([⟨2, 0, 0, n.text⟩], r)
    else if n.op = 3 then ([⟨3, 0, 0, n.text⟩], r)
    else if n.op = 4 then ([sgT 18], r)
    else if n.op = 5 then ([sgT 19], r)
    else if n.op = 8 then
      ((lfW (wrdS f) r).1 ++ sgT 7 :: (ixW (wrdS f) (n.n.toNat - 1) (lfW (wrdS f) r).2).1, (ixW (wrdS f) (n.n.toNat - 1) (lfW (wrdS f) r).2).2)
    else
      let u := if n.op = 7 then lfW (wrdS f) r else ([], r)
      let g := fnW (wrdS f) n u.2
      let v := wrdS f g.2
      (u.1 ++ (g.1 ++ brk (decide (n.ac.op = 0) && slH v.1) v.1), v.2)

/-- Words are read as an expression. -/
def Exx (b : Bool) (us : List Tk) (seg : List Nod) : Prop := ∃ F, ∀ G, F ≤ G → ∀ vs, StV vs → exP G b (us ++ vs) = .ok (seg, vs)
/-- They are read as a term. -/
def Tmc (b : Bool) (us : List Tk) (seg : List Nod) : Prop := ∃ F, ∀ G, F ≤ G → ∀ vs, Num 2 vs → hfn (us ++ vs) = false ∧ tmP (exP G b) b (us ++ vs) = pksP (exP G b) (vs.length + 1) vs seg
theorem num_stv {vs : List Tk} (hv : StV vs) : Num 2 vs := by
  match vs, hv with
  | [], _ => trivial
  | t :: r, hv => exact fun _ => hv.1
theorem hfn_stv {vs : List Tk} (hv : StV vs) : hfn vs = false := hfn_ext hv []
theorem Tmc.exc {b : Bool} {us : List Tk} {seg : List Nod} (h : Tmc b us seg) : Exx b us seg := by
  obtain ⟨F, h⟩ := h
  refine ⟨F + 1, fun G hG vs hv => ?_⟩
  obtain ⟨H, rfl⟩ : ∃ H, G = H + 1 := ⟨G - 1, by omega⟩
  obtain ⟨h1, h2⟩ := h H (by omega) vs (num_stv hv)
  exact ex_tm h1 (by rw [h2, pk_stop hv]) (hfn_stv hv)
theorem stv_sg {k : Int} {vs : List Tk} (h : k = 6 ∨ k = 8 ∨ k = 9 ∨ k = 15 ∨ k = 16 ∨ k = 17) : StV (sgT k :: vs) := by
  simp only [StV, sgT]; omega
theorem Exx.brk {b : Bool} {us : List Tk} {seg : List Nod} (h : Exx b us seg) : Tmc b (brk true us) seg := by
  obtain ⟨F, h⟩ := h
  refine ⟨F, fun G hG vs hv => ⟨rfl, ?_⟩⟩
  have e := h G hG (sgT 6 :: vs) (stv_sg (Or.inl rfl))
  have e' : Go.Proofs.YtgjgbgllhbdodaaGreatDoor.brk true us ++ vs = sgT 5 :: (us ++ sgT 6 :: vs) := by simp [Go.Proofs.YtgjgbgllhbdodaaGreatDoor.brk]
  rw [e']
  exact tm_at (at_lft rfl e rfl)
theorem Exx.head {b : Bool} {us : List Tk} {seg : List Nod} (h : Exx b us seg) : ∃ t q, us = t :: q ∧ t.kind ≠ 12 ∧ t.kind ≠ 13 := by
  obtain ⟨F, h⟩ := h
  have e := h (F + 1) (by omega) [] trivial
  rw [List.append_nil] at e
  match us, e with
  | [], e => simp [exP, hfn, tmP, atP] at e
  | t :: q, e =>
    refine ⟨t, q, rfl, ?_, ?_⟩
    · intro k; simp [exP, hfn, fnK, tmP, atP, k] at e
    · intro k; simp [exP, hfn, fnK, tmP, atP, k] at e
/-- What can stand behind a Glyph and not belong to it. -/
def GlV : List Tk → Prop
  | [] => True
  | t :: _ => t.kind ≠ 12 ∧ t.kind ≠ 13 ∧ ¬ (t.kind = 4 ∧ t.fn = 33) ∧ ¬ (t.kind = 4 ∧ t.fn = 34)
theorem gl_pln {fn : Int} {vs : List Tk} (h : GlV vs) : glP fn vs = .ok ((⟨0, fn, 0⟩, 0, []), vs) := by
  match vs, h with
  | [], _ => rfl
  | t :: r, h => simp only [glP, if_neg h.2.1, if_neg h.2.2.1, if_neg h.2.2.2, if_neg h.1]
theorem nm_map {vs : List Tk} (hv : Num 2 vs) : ∀ l : List Int, nmP (l.map nuT ++ vs) = (l, vs)
  | [] => by
    match vs, hv with
    | [], _ => rfl
    | t :: r, hv => simp only [List.map_nil, List.nil_append, nmP, if_neg (hv rfl)]
  | x :: l => by
    simp only [List.map_cons, List.cons_append, nmP]
    rw [if_pos (show (nuT x).kind = 1 from rfl), nm_map hv l]; rfl

def Prd (f : Nat) : Prop := ∀ (b : Bool) (ts rest : List Nod), bhS f b ts = some rest → ∃ seg, ts = seg ++ rest ∧ (wrdS f ts).2 = rest ∧ Exx b (wrdS f ts).1 seg ∧ (isFnN ts = false → Tmc b (wrdS f ts).1 seg)
theorem lf_prd {f : Nat} (h : Prd f) {b : Bool} {ts rest : List Nod} (e : bhS f b ts = some rest) : ∃ seg, ts = seg ++ rest ∧ (lfW (wrdS f) ts).2 = rest ∧ Tmc b (lfW (wrdS f) ts).1 seg := by
  obtain ⟨seg, h1, h2, h3, h4⟩ := h b ts rest e
  refine ⟨seg, h1, h2, ?_⟩
  unfold lfW
  match g : isFnN ts with
  | true => exact h3.brk
  | false => simpa [brk] using h4 g
theorem ix_prd {f : Nat} (h : Prd f) {b : Bool} : ∀ (k : Nat) (ts rest : List Nod), bhN (bhS f b) (k + 1) ts = some rest → ∃ seg, ts = seg ++ rest ∧ (ixW (wrdS f) k ts).2 = rest ∧ k < (ixW (wrdS f) k ts).1.length ∧
    ∃ F, ∀ G, F ≤ G → ∀ (vs : List Tk) (acc : List Nod) (n : Int) (p : Nat), k < p → ixP (exP G b) p ((ixW (wrdS f) k ts).1 ++ vs) acc n = .ok ((n + (k + 1), acc ++ seg), vs)
  | 0, ts, rest, e => by
    simp only [bhN] at e
    match e1 : bhS f b ts with
    | none => rw [e1] at e; cases e
    | some r =>
      rw [e1] at e; injection e with e; subst e
      obtain ⟨seg, h1, h2, ⟨F, h3⟩, _⟩ := h b ts r e1
      refine ⟨seg, h1, h2, by simp [ixW], F, fun G hG vs acc n p hp => ?_⟩
      obtain ⟨q, rfl⟩ : ∃ q, p = q + 1 := ⟨p - 1, by omega⟩
      simp only [ixW, List.append_assoc, List.singleton_append, ixP]
      rw [h3 G hG (sgT 8 :: vs) (stv_sg (by omega))]
      simp [sgT]
  | k + 1, ts, rest, e => by
    rw [bhN] at e
    match e1 : bhS f b ts with
    | none => rw [e1] at e; cases e
    | some r =>
      rw [e1] at e
      obtain ⟨seg, h1, h2, ⟨F, h3⟩, _⟩ := h b ts r e1
      obtain ⟨seg2, g1, g2, g3, F2, g4⟩ := ix_prd h k r rest e
      refine ⟨seg ++ seg2, by rw [h1, g1, List.append_assoc], by simp only [ixW, h2, g2], by simp only [ixW, h2, List.length_append, List.length_cons]; omega, F + F2, fun G hG vs acc n p hp => ?_⟩
      obtain ⟨q, rfl⟩ : ∃ q, p = q + 1 := ⟨p - 1, by omega⟩
      simp only [ixW, h2, List.append_assoc, List.cons_append, ixP]
      rw [h3 G (by omega) _ (stv_sg (by omega))]
      have := g4 G (by omega) vs (acc ++ seg) (n + 1) q (by omega)
      simp only [sgT]
      rw [if_neg (by decide), if_pos trivial, this]
      simp only [List.append_assoc]
      congr 3; omega
theorem bd_prd {f : Nat} (h : Prd f) : ∀ (k : Nat) (ts rest : List Nod), bhN (bhS f true) (2 * k + 1) ts = some rest → ∃ seg, ts = seg ++ rest ∧ (bdW (wrdS f) k ts).2 = rest ∧ k < (bdW (wrdS f) k ts).1.length ∧
    ∃ F, ∀ G, F ≤ G → ∀ (vs : List Tk) (acc : List Nod) (n : Int) (p : Nat), k < p → bdP (exP G true) p ((bdW (wrdS f) k ts).1 ++ vs) acc n = .ok ((⟨6, 0, 0⟩, n + k, acc ++ seg), vs)
  | 0, ts, rest, e => by
    simp only [bhN] at e
    match e1 : bhS f true ts with
    | none => rw [e1] at e; cases e
    | some r =>
      rw [e1] at e; injection e with e; subst e
      obtain ⟨seg, h1, h2, ⟨F, h3⟩, _⟩ := h true ts r e1
      refine ⟨seg, h1, h2, by simp [bdW], F, fun G hG vs acc n p hp => ?_⟩
      obtain ⟨q, rfl⟩ : ∃ q, p = q + 1 := ⟨p - 1, by omega⟩
      simp only [bdW, List.append_assoc, List.singleton_append, bdP]
      rw [h3 G hG (sgT 15 :: vs) (stv_sg (by omega))]
      simp [sgT]
  | k + 1, ts, rest, e => by
    rw [show 2 * (k + 1) + 1 = (2 * k + 1) + 1 + 1 by omega, bhN] at e
    match e1 : bhS f true ts with
    | none => rw [e1] at e; cases e
    | some r =>
      rw [e1] at e; simp only [] at e
      rw [bhN] at e
      match e2 : bhS f true r with
      | none => rw [e2] at e; cases e
      | some s =>
        rw [e2] at e
        obtain ⟨seg, h1, h2, ⟨F, h3⟩, _⟩ := h true ts r e1
        obtain ⟨seg1, k1, k2, ⟨F1, k3⟩, _⟩ := h true r s e2
        obtain ⟨seg2, g1, g2, g3, F2, g4⟩ := bd_prd h k s rest e
        refine ⟨seg ++ (seg1 ++ seg2), by rw [h1, k1, g1]; simp only [List.append_assoc], by simp only [bdW, h2, k2, g2], by simp only [bdW, h2, k2, List.length_append, List.length_cons]; omega, F + F1 + F2, fun G hG vs acc n p hp => ?_⟩
        obtain ⟨q, rfl⟩ : ∃ q, p = q + 1 := ⟨p - 1, by omega⟩
        simp only [bdW, h2, k2, List.append_assoc, List.cons_append, bdP]
        rw [h3 G (by omega) _ (stv_sg (by omega))]
        simp only [sgT]
        rw [if_neg (by decide), if_pos trivial]
        have K := k3 G (by omega) (sgT 17 :: ((bdW (wrdS f) k s).1 ++ vs)) (stv_sg (by omega))
        simp only [sgT] at K
        rw [K]
        simp only []
        rw [if_pos trivial]
        have := g4 G (by omega) vs (acc ++ seg ++ seg1) (n + 1) q (by omega)
        simp only [List.append_assoc] at this ⊢
        rw [this]
        congr 4; omega
theorem pk_fuel {E : List Tk → Rp} (hl : ∀ ts ns r, E ts = .ok (ns, r) → r.length < ts.length) : ∀ (f g : Nat) (ts : List Tk) (acc : List Nod), ts.length < f → ts.length < g → pksP E f ts acc = pksP E g ts acc
  | 0, g, ts, acc, h, _ => by omega
  | f + 1, 0, ts, acc, _, h => by omega
  | f + 1, g + 1, [], acc, _, _ => rfl
  | f + 1, g + 1, t :: r, acc, hf, hg => by
    simp only [List.length_cons] at hf hg
    simp only [pksP]
    by_cases h7 : t.kind = 7
    · rw [if_pos h7, if_pos h7]
      match e : ixP E (r.length + 1) r [] 0 with
      | .error k => rfl
      | .ok ((n, ns), s) =>
        have := ix_less hl _ _ _ _ _ _ e
        exact pk_fuel hl f g s _ (by omega) (by omega)
    · rw [if_neg h7, if_neg h7]
theorem pk_open {E : List Tk → Rp} {t : Tk} {q s : List Tk} {n : Int} {ns : List Nod} (p : Nat) (acc : List Nod) (h : t.kind = 7) (e : ixP E (q.length + 1) q [] 0 = .ok ((n, ns), s)) : pksP E (p + 1) (t :: q) acc = pksP E p s (⟨8, ac0, n, [], []⟩ :: acc ++ ns) := by
  simp only [pksP, if_pos h, e]
theorem fn_prd {f : Nat} (h : Prd f) {b : Bool} {n : Nod} (ho : okN n = true) (h67 : n.op = 6 ∨ n.op = 7) (hb : ¬ (b = false ∧ n.ac.op = 7)) {r rest : List Nod} (e : fnB (bhS f true) n r = some rest) :
    ∃ body, r = body ++ rest ∧ (fnW (wrdS f) n r).2 = rest ∧ (∃ t q, (fnW (wrdS f) n r).1 = t :: q ∧ fnK t.kind = true ∧ t.kind ≠ 1 ∧ t.kind ≠ 7) ∧
      ∃ F, ∀ G, F ≤ G → ∀ vs, (n.ac.op = 0 → GlV vs) → fnP (exP G) b ((fnW (wrdS f) n r).1 ++ vs) = .ok ((n.ac, n.n, body), vs) := by
  obtain ⟨_, _, a0, a7, hN, hd, h6, hg⟩ := okn_act ho h67
  obtain ⟨op, ⟨ao, af, ag⟩, k, nums, text⟩ := n
  simp only at a0 a7 hN hd h6 hg hb
  unfold fnB at e
  simp only at e
  by_cases c7 : ao = 7
  · obtain ⟨rfl, rfl⟩ := h6 (by omega)
    have hk := hd (by omega)
    rw [if_neg (by omega)] at e
    injection e with e; subst e; subst c7; subst hk
    have bt : b = true := by
      cases b with
      | true => rfl
      | false => exact absurd ⟨rfl, rfl⟩ hb
    refine ⟨[], rfl, rfl, ⟨sgT 20, [], rfl, rfl, by decide, by decide⟩, 0, fun G _ vs _ => ?_⟩
    subst bt
    simp [fnW, fnP, sgT]
  by_cases c6 : ao = 6
  · obtain ⟨rfl, rfl⟩ := h6 (by omega)
    rw [if_pos c6] at e
    subst c6
    obtain ⟨seg, h1, h2, h3, F, h4⟩ := bd_prd h _ _ _ e
    refine ⟨seg, h1, by simp only [fnW]; rw [if_neg (by decide), if_pos trivial]; exact h2, ⟨sgT 14, (bdW (wrdS f) k.toNat r).1, by simp [fnW], rfl, by decide, by decide⟩, F, fun G hG vs _ => ?_⟩
    have e2 : (fnW (wrdS f) ⟨op, ⟨6, 0, 0⟩, k, nums, text⟩ r).1 = sgT 14 :: (bdW (wrdS f) k.toNat r).1 := by simp [fnW]
    rw [e2]
    simp only [List.cons_append, fnP, sgT]
    rw [if_neg (by decide), if_neg (by decide), if_neg (by simp), if_pos trivial]
    rw [h4 G hG vs [] 0 _ (by simp only [List.length_append]; omega)]
    simp only [List.nil_append]
    congr 4; omega
  rw [if_neg c6] at e
  injection e with e; subst e
  have hk := hd c6
  subst hk
  by_cases c3 : ao = 3
  · have := hg (by omega) (by omega); subst this; subst c3
    refine ⟨[], rfl, rfl, ⟨sgT 11, _, rfl, rfl, by decide, by decide⟩, 0, fun G _ vs _ => ?_⟩
    simp [fnW, fnP, sgT, otP, glT]
  by_cases c4 : ao = 4
  · subst c4
    refine ⟨[], rfl, rfl, ⟨glT af, _, rfl, rfl, by simp [glT], by simp [glT]⟩, 0, fun G _ vs _ => ?_⟩
    simp [fnW, fnP, sgT, glP, glT]
  by_cases c5 : ao = 5
  · have := hg (by omega) (by omega); subst this; subst c5
    refine ⟨[], rfl, rfl, ⟨glT af, _, rfl, rfl, by simp [glT], by simp [glT]⟩, 0, fun G _ vs _ => ?_⟩
    simp [fnW, fnP, sgT, glP, glT]
  by_cases c1 : ao = 1
  · have := hg (by omega) (by omega); subst this; subst c1
    refine ⟨[], rfl, rfl, ⟨glT af, _, rfl, rfl, by simp [glT], by simp [glT]⟩, 0, fun G _ vs _ => ?_⟩
    simp [fnW, fnP, glP, glT]
  by_cases c2 : ao = 2
  · have := hg (by omega) (by omega); subst this; subst c2
    refine ⟨[], rfl, rfl, ⟨glT af, _, rfl, rfl, by simp [glT], by simp [glT]⟩, 0, fun G _ vs _ => ?_⟩
    simp [fnW, fnP, glP, glT]
  have c0 : ao = 0 := by omega
  have := hg (by omega) (by omega); subst this; subst c0
  refine ⟨[], rfl, rfl, ⟨glT af, _, rfl, rfl, by simp [glT], by simp [glT]⟩, 0, fun G _ vs hv => ?_⟩
  have hv := hv rfl
  have e2 : (fnW (wrdS f) ⟨op, ⟨0, af, 0⟩, 0, nums, text⟩ r).1 = [glT af] := by simp [fnW]
  rw [e2]
  simp only [List.singleton_append, fnP, glT]
  rw [if_pos trivial, gl_pln hv]
theorem tail_prd {b : Bool} {v : List Tk} {seg : List Nod} (h : Exx b v seg) (a : Int) :
    Exx b (brk (decide (a = 0) && slH v) v) seg ∧ (a = 0 → ∀ vs, GlV (brk (decide (a = 0) && slH v) v ++ vs)) := by
  obtain ⟨t, q, hv, h12, h13⟩ := h.head
  match g : decide (a = 0) && slH v with
  | true => exact ⟨h.brk.exc, fun _ vs => ⟨by decide, by decide, by simp [sgT], by simp [sgT]⟩⟩
  | false =>
    refine ⟨h, fun ha vs => ?_⟩
    subst ha
    have g' : slH v = false := by simpa using g
    subst hv
    simp only [slH, Bool.and_eq_false_iff, Bool.or_eq_false_iff, decide_eq_false_iff_not] at g'
    refine ⟨h12, h13, ?_, ?_⟩
    · rintro ⟨k4, k33⟩; rcases g' with g' | g'
      · exact g' k4
      · exact g'.1 k33
    · rintro ⟨k4, k34⟩; rcases g' with g' | g'
      · exact g' k4
      · exact g'.2 k34
/-- A function and what stands behind it. -/
theorem ag_prd {b : Bool} {n : Nod} {g v' : List Tk} {body seg : List Nod} (ms : List Nod) {op : Int}
    (hg : ∃ F, ∀ G, F ≤ G → ∀ vs, (n.ac.op = 0 → GlV vs) → fnP (exP G) b (g ++ vs) = .ok ((n.ac, n.n, body), vs)) (hv : Exx b v' seg) (hs : n.ac.op = 0 → ∀ vs, GlV (v' ++ vs)) :
    ∃ F, ∀ G, F ≤ G → ∀ vs, StV vs → agP (exP G) b op ms (g ++ (v' ++ vs)) = .ok (⟨op, n.ac, n.n, [], []⟩ :: ms ++ body ++ seg, vs) := by
  obtain ⟨F1, hg⟩ := hg
  obtain ⟨F2, hv⟩ := hv
  refine ⟨F1 + F2, fun G hG vs st => ?_⟩
  unfold agP
  rw [hg G (by omega) _ (fun h => hs h vs)]
  simp only []
  rw [hv G (by omega) vs st]
theorem prd_all : ∀ f, Prd f
  | 0 => fun b ts rest e => by cases e
  | f + 1 => fun b ts rest e => by
    have ih := prd_all f
    match ts with
    | [] => cases e
    | n :: r =>
      simp only [bhS] at e
      split at e
      · cases e
      rename_i hbad
      have ho : okN n = true := by
        cases h : okN n with
        | true => rfl
        | false => exact absurd (Or.inl h) hbad
      have h9 : n.op ≠ 9 := fun h => hbad (Or.inr (Or.inl h))
      have hb : ∀ {P : Prop}, (P → n.op = 4 ∨ n.op = 5 ∨ n.ac.op = 7) → ¬ (b = false ∧ P) := fun hp h => hbad (Or.inr (Or.inr ⟨h.1, hp h.2⟩))
      have term : ∀ {us : List Tk} {seg : List Nod}, n :: r = seg ++ rest → (wrdS (f + 1) (n :: r)) = (us, rest) → Tmc b us seg →
          ∃ seg, n :: r = seg ++ rest ∧ (wrdS (f + 1) (n :: r)).2 = rest ∧ Exx b (wrdS (f + 1) (n :: r)).1 seg ∧ (isFnN (n :: r) = false → Tmc b (wrdS (f + 1) (n :: r)).1 seg) := by
        intro us seg h1 h2 h3
        exact ⟨seg, h1, by rw [h2], by rw [h2]; exact h3.exc, fun _ => by rw [h2]; exact h3⟩
      split at e
      · -- a part at indices
        rename_i h8
        obtain ⟨pa, _, pn, pnu, _, pt, _, _⟩ := okn_plain ho (by omega) (by omega)
        match e1 : bhS f b r with
        | none => rw [e1] at e; cases e
        | some r1 =>
          rw [e1] at e
          simp only [] at e
          obtain ⟨seg1, u1, u2, F1, u3⟩ := lf_prd ih e1
          obtain ⟨k, hk⟩ : ∃ k, n.n.toNat = k + 1 := ⟨n.n.toNat - 1, by have := pn h8; omega⟩
          rw [hk] at e
          obtain ⟨seg2, v1, v2, v3, F2, v4⟩ := ix_prd ih k r1 rest e
          have hn : n = ⟨8, ac0, n.n, [], []⟩ := by
            obtain ⟨op, ac, m, nums, text⟩ := n
            simp only at pa pnu pt h8
            rw [pa, pnu (by omega), pt (by omega) (by omega) (by omega), h8]
          refine term (seg := n :: seg1 ++ seg2) (by rw [u1, v1]; simp) (us := (lfW (wrdS f) r).1 ++ sgT 7 :: (ixW (wrdS f) k r1).1) ?_ ?_
          · simp only [wrdS]
            rw [if_neg (by omega), if_neg (by omega), if_neg (by omega), if_neg (by omega), if_neg (by omega), if_pos h8, hk, Nat.add_sub_cancel, u2, v2]
          · refine ⟨F1 + F2, fun G hG vs hv => ?_⟩
            have A := u3 G (by omega) (sgT 7 :: ((ixW (wrdS f) k r1).1 ++ vs)) (fun _ => by decide)
            simp only [List.append_assoc, List.cons_append]
            refine ⟨A.1, A.2.trans ?_⟩
            have B := v4 G (by omega) vs [] 0 (((ixW (wrdS f) k r1).1 ++ vs).length + 1) (by simp only [List.length_append]; omega)
            rw [pk_open _ seg1 rfl B]
            simp only [List.nil_append]
            rw [show (0 : Int) + (↑k + 1) = n.n by have := pn h8; omega, ← hn]
            simp only [List.length_cons, List.cons_append]
            refine pk_fuel (ex_less G b) _ _ _ _ ?_ ?_
            · simp only [List.length_append]; omega
            · omega
      split at e
      · -- a function
        rename_i h8 h67
        obtain ⟨pnu, pt, _⟩ := okn_act ho h67
        by_cases h7 : n.op = 7
        · rw [if_pos h7] at e
          match e1 : bhS f b r with
          | none => rw [e1] at e; cases e
          | some r1 =>
            rw [e1] at e
            simp only [] at e
            match e2 : fnB (bhS f true) n r1 with
            | none => rw [e2] at e; cases e
            | some r2 =>
              rw [e2] at e
              simp only [] at e
              obtain ⟨seg1, u1, u2, u3⟩ := lf_prd ih e1
              obtain ⟨body, g1, g2, ⟨t, q, g3, gk, gk1, gk7⟩, g4⟩ := fn_prd ih ho h67 (hb (fun h => Or.inr (Or.inr h))) e2
              obtain ⟨seg3, v1, v2, v3, _⟩ := ih b r2 rest e
              obtain ⟨w1, w2⟩ := tail_prd v3 n.ac.op
              have hn : n = ⟨7, n.ac, n.n, [], []⟩ := by
                obtain ⟨op, ac, m, nums, text⟩ := n
                simp only at pnu pt h7
                rw [pnu, pt, h7]
              have ew : wrdS (f + 1) (n :: r) = ((lfW (wrdS f) r).1 ++ ((fnW (wrdS f) n r1).1 ++ brk (decide (n.ac.op = 0) && slH (wrdS f r2).1) (wrdS f r2).1), rest) := by
                simp only [wrdS]
                rw [if_neg (by omega), if_neg (by omega), if_neg (by omega), if_neg (by omega), if_neg (by omega), if_neg (by omega), if_pos h7, u2, g2, v2]
              refine ⟨n :: seg1 ++ body ++ seg3, by rw [u1, g1, v1]; simp, by rw [ew], ?_, fun h => by simp [isFnN, h7] at h⟩
              rw [ew]
              obtain ⟨F1, u3⟩ := u3
              obtain ⟨F2, ha⟩ := ag_prd (op := 7) seg1 g4 w1 w2
              refine ⟨F1 + F2 + 1, fun G hG vs hv => ?_⟩
              obtain ⟨H, rfl⟩ : ∃ H, G = H + 1 := ⟨G - 1, by omega⟩
              simp only [List.append_assoc]
              have A := u3 H (by omega) ((fnW (wrdS f) n r1).1 ++ (brk (decide (n.ac.op = 0) && slH (wrdS f r2).1) (wrdS f r2).1 ++ vs)) (by rw [g3]; exact fun _ => gk1)
              have hh : hfn ((fnW (wrdS f) n r1).1 ++ (brk (decide (n.ac.op = 0) && slH (wrdS f r2).1) (wrdS f r2).1 ++ vs)) = true := by rw [g3]; exact gk
              have P : ∀ {p : Nat}, pksP (exP H b) (p + 1) ((fnW (wrdS f) n r1).1 ++ (brk (decide (n.ac.op = 0) && slH (wrdS f r2).1) (wrdS f r2).1 ++ vs)) seg1 = .ok (seg1, (fnW (wrdS f) n r1).1 ++ (brk (decide (n.ac.op = 0) && slH (wrdS f r2).1) (wrdS f r2).1 ++ vs)) := by
                intro p; rw [g3]; simp only [List.cons_append, pksP, if_neg gk7]
              simp only [exP]
              rw [A.1, A.2, P]
              simp only [Bool.false_eq_true, if_false, hh, if_true]
              rw [ha H (by omega) vs hv, ← hn]
              simp only [List.append_assoc, List.cons_append]
        · rw [if_neg h7] at e
          simp only [] at e
          have h6 : n.op = 6 := by omega
          match e2 : fnB (bhS f true) n r with
          | none => rw [e2] at e; cases e
          | some r2 =>
            rw [e2] at e
            simp only [] at e
            obtain ⟨body, g1, g2, ⟨t, q, g3, gk, gk1, gk7⟩, g4⟩ := fn_prd ih ho h67 (hb (fun h => Or.inr (Or.inr h))) e2
            obtain ⟨seg3, v1, v2, v3, _⟩ := ih b r2 rest e
            obtain ⟨w1, w2⟩ := tail_prd v3 n.ac.op
            have hn : n = ⟨6, n.ac, n.n, [], []⟩ := by
              obtain ⟨op, ac, m, nums, text⟩ := n
              simp only at pnu pt h6
              rw [pnu, pt, h6]
            have ew : wrdS (f + 1) (n :: r) = ((fnW (wrdS f) n r).1 ++ brk (decide (n.ac.op = 0) && slH (wrdS f r2).1) (wrdS f r2).1, rest) := by
              simp only [wrdS]
              rw [if_neg (by omega), if_neg (by omega), if_neg (by omega), if_neg (by omega), if_neg (by omega), if_neg (by omega), if_neg h7]
              simp only [g2, v2, List.nil_append]
            refine ⟨n :: body ++ seg3, by rw [g1, v1]; simp, by rw [ew], ?_, fun h => by simp [isFnN, h6] at h⟩
            rw [ew]
            obtain ⟨F2, ha⟩ := ag_prd (op := 6) [] g4 w1 w2
            refine ⟨F2 + 1, fun G hG vs hv => ?_⟩
            obtain ⟨H, rfl⟩ : ∃ H, G = H + 1 := ⟨G - 1, by omega⟩
            simp only [List.append_assoc]
            have hh : hfn ((fnW (wrdS f) n r).1 ++ (brk (decide (n.ac.op = 0) && slH (wrdS f r2).1) (wrdS f r2).1 ++ vs)) = true := by rw [g3]; exact gk
            simp only [exP, hh, if_true]
            rw [ha H (by omega) vs hv, ← hn]
            simp only [List.cons_append, List.nil_append]
      · -- an atom
        rename_i h8 h67
        injection e with e; subst e
        obtain ⟨pa, pn, _, pnu, pnu1, pt, p1, p9⟩ := okn_plain ho (by omega) (by omega)
        have pn := pn h8
        have atom : ∀ {us : List Tk}, (∀ (E : List Tk → Rp) vs, Num 2 vs → hfn (us ++ vs) = false ∧ atP E b (us ++ vs) = .ok ([n], vs)) → Tmc b us [n] := by
          intro us h
          refine ⟨0, fun G _ vs hv => ?_⟩
          obtain ⟨a1, a2⟩ := h (exP G b) vs hv
          exact ⟨a1, tm_at a2⟩
        by_cases h1 : n.op = 1
        · refine term (seg := [n]) rfl (us := n.nums.map nuT) (by simp [wrdS, h1]) (atom fun E vs hv => ?_)
          match hx : n.nums with
          | [] => exact absurd hx (pnu1 h1)
          | x :: l =>
            refine ⟨rfl, ?_⟩
            simp only [List.map_cons, List.cons_append, atP]
            rw [if_pos (show (nuT x).kind = 1 from rfl), nm_map hv l]
            obtain ⟨op, ac, m, nums, text⟩ := n
            simp only at pa pn pt h1 hx
            rw [pa, pn, pt (by omega) (by omega) (by omega), h1, hx]; rfl
        by_cases h2 : n.op = 2
        · refine term (seg := [n]) rfl (us := [⟨2, 0, 0, n.text⟩]) (by simp [wrdS, h2]) (atom fun E vs hv => ⟨rfl, ?_⟩)
          obtain ⟨op, ac, m, nums, text⟩ := n
          simp only at pa pn pnu h2
          simp [atP, pa, pn, pnu (by omega), h2]
        by_cases h3 : n.op = 3
        · refine term (seg := [n]) rfl (us := [⟨3, 0, 0, n.text⟩]) (by simp [wrdS, h3]) (atom fun E vs hv => ⟨rfl, ?_⟩)
          obtain ⟨op, ac, m, nums, text⟩ := n
          simp only at pa pn pnu h3
          simp [atP, pa, pn, pnu (by omega), h3]
        have bt : ∀ {P : Prop}, P → (P → n.op = 4 ∨ n.op = 5 ∨ n.ac.op = 7) → b = true := by
          intro P hp h
          cases b with
          | true => rfl
          | false => exact absurd ⟨rfl, hp⟩ (hb h)
        by_cases h4 : n.op = 4
        · have hbt := bt h4 Or.inl
          refine term (seg := [n]) rfl (us := [sgT 18]) (by simp [wrdS, h4]) (atom fun E vs hv => ⟨rfl, ?_⟩)
          obtain ⟨op, ac, m, nums, text⟩ := n
          simp only at pa pn pnu pt h4
          simp [atP, sgT, hbt, pa, pn, pnu (by omega), pt (by omega) (by omega) (by omega), h4]
        have h5 : n.op = 5 := by omega
        have hbt := bt h5 (fun h => Or.inr (Or.inl h))
        refine term (seg := [n]) rfl (us := [sgT 19]) (by simp [wrdS, h5]) (atom fun E vs hv => ⟨rfl, ?_⟩)
        obtain ⟨op, ac, m, nums, text⟩ := n
        simp only at pa pn pnu pt h5
        simp [atP, sgT, hbt, pa, pn, pnu (by omega), pt (by omega) (by omega) (by omega), h5]
end Go.Proofs.YtgjgbgllhbdodaaGreatDoor
