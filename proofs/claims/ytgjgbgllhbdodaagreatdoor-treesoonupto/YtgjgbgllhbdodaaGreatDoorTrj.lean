/-
  Plain mathematics of trees: numbers of a tree are those of its words; what is said outright of Parse and Print.
-/
import Derived.Test.YtgjgbgllhbdodaaGreatDoorTri
namespace Go.Proofs.YtgjgbgllhbdodaaGreatDoor
open Go.Lib
set_option linter.unusedVariables false

def NumP (P : Int → Prop) (ns : List Nod) : Prop := ∀ n ∈ ns, ∀ x ∈ n.nums, P x
def TkP (P : Int → Prop) (ts : List Tk) : Prop := ∀ t ∈ ts, P t.num
theorem NumP.app {P : Int → Prop} {a b : List Nod} (ha : NumP P a) (hb : NumP P b) : NumP P (a ++ b) := fun n hn => by
  rcases List.mem_append.mp hn with h | h
  · exact ha n h
  · exact hb n h
theorem NumP.cons {P : Int → Prop} {op n : Int} {a : Ac} {t : List UInt8} {b : List Nod} (hb : NumP P b) : NumP P (⟨op, a, n, [], t⟩ :: b) := fun m hm => by
  rcases List.mem_cons.mp hm with rfl | h
  · intro x hx; cases hx
  · exact hb m h
theorem NumP.nil {P : Int → Prop} : NumP P [] := fun n hn => by cases hn
theorem TkP.app {P : Int → Prop} {a b : List Tk} (h : TkP P (a ++ b)) : TkP P b := fun t ht => h t (List.mem_append.mpr (Or.inr ht))
theorem TkP.tl {P : Int → Prop} {t : Tk} {b : List Tk} (h : TkP P (t :: b)) : TkP P b := fun u hu => h u (List.mem_cons_of_mem _ hu)
def Enp (P : Int → Prop) (E : List Tk → Rp) : Prop := ∀ ts ns r, TkP P ts → E ts = .ok (ns, r) → NumP P ns ∧ TkP P r
theorem parts_np {P : Int → Prop} {C : Int → Prop} {E : List Tk → Rp} (h : Enp P E) : ∀ (xs : List (List Tk × List Nod)) (ts r : List Tk), TkP P ts → Parts C E ts xs r → NumP P (xs.map Prod.snd).flatten ∧ TkP P r
  | [], ts, r, _, e => e.elim
  | [x], ts, r, ht, ⟨t, h1, h2, h3, h4⟩ => by
    obtain ⟨a, b⟩ := h _ _ _ ht h1
    exact ⟨by simpa using a, b.tl⟩
  | x :: y :: xs, ts, r, ht, ⟨t, q, h1, h2, h3, h4, h5⟩ => by
    obtain ⟨a, b⟩ := h _ _ _ ht h1
    obtain ⟨c, d⟩ := parts_np h (y :: xs) q r b.tl h5
    exact ⟨by rw [List.map_cons, List.flatten_cons]; exact a.app c, d⟩
theorem nm_np {P : Int → Prop} : ∀ ts : List Tk, TkP P ts → (∀ x ∈ (nmP ts).1, P x) ∧ TkP P (nmP ts).2
  | [], h => ⟨fun x hx => (by cases hx), h⟩
  | t :: r, h => by
    obtain ⟨a, b⟩ := nm_np r h.tl
    simp only [nmP]
    split
    · refine ⟨fun x hx => ?_, b⟩
      rcases List.mem_cons.mp hx with rfl | hx
      · exact h t List.mem_cons_self
      · exact a x hx
    · exact ⟨fun x hx => (by cases hx), h⟩
theorem at_np {P : Int → Prop} {E : List Tk → Rp} (h : Enp P E) (b : Bool) : Enp P (atP E b) := by
  intro ts ns r ht e
  match ts with
  | [] => cases e
  | t :: q =>
    simp only [atP] at e
    split at e
    · injection e with e; injection e with e1 e2; subst e1; subst e2
      obtain ⟨a, c⟩ := nm_np q ht.tl
      refine ⟨fun n hn x hx => ?_, c⟩
      rw [List.mem_singleton.mp hn] at hx
      rcases List.mem_cons.mp hx with rfl | hx
      · exact ht t List.mem_cons_self
      · exact a x hx
    split at e
    · injection e with e; injection e with e1 e2; subst e1; subst e2; exact ⟨NumP.nil.cons, ht.tl⟩
    split at e
    · injection e with e; injection e with e1 e2; subst e1; subst e2; exact ⟨NumP.nil.cons, ht.tl⟩
    split at e
    · injection e with e; injection e with e1 e2; subst e1; subst e2; exact ⟨NumP.nil.cons, ht.tl⟩
    split at e
    · injection e with e; injection e with e1 e2; subst e1; subst e2; exact ⟨NumP.nil.cons, ht.tl⟩
    split at e
    · match e1 : E q with
      | .error k => rw [e1] at e; cases e
      | .ok (ms, []) => rw [e1] at e; cases e
      | .ok (ms, u :: s) =>
        obtain ⟨a, c⟩ := h _ _ _ ht.tl e1
        rw [e1] at e
        simp only [] at e
        split at e
        · injection e with e; injection e with e1 e2; subst e1; subst e2; exact ⟨a, c.tl⟩
        · cases e
    · cases e
theorem pk_np {P : Int → Prop} {E : List Tk → Rp} (hc : Ecl E) (h : Enp P E) : ∀ (f : Nat) (ts : List Tk) (acc ns : List Nod) (r : List Tk), TkP P ts → NumP P acc → pksP E f ts acc = .ok (ns, r) → NumP P ns ∧ TkP P r
  | 0, ts, acc, ns, r, ht, ha, e => by simp only [pksP] at e; injection e with e; injection e with e1 e2; subst e1; subst e2; exact ⟨ha, ht⟩
  | f + 1, [], acc, ns, r, ht, ha, e => by simp only [pksP] at e; injection e with e; injection e with e1 e2; subst e1; subst e2; exact ⟨ha, ht⟩
  | f + 1, t :: q, acc, ns, r, ht, ha, e => by
    simp only [pksP] at e
    split at e
    · match e1 : ixP E (q.length + 1) q [] 0 with
      | .error k => rw [e1] at e; cases e
      | .ok ((n, ms), s) =>
        obtain ⟨xs, p1, p2⟩ := ix_parts hc _ _ _ _ _ _ e1
        obtain ⟨a, c⟩ := parts_np h xs q s ht.tl p1
        rw [e1] at e
        injection p2 with _ p2
        rw [List.nil_append] at p2
        subst p2
        exact pk_np hc h f s _ ns r c ((ha.cons).app a) e
    · injection e with e; injection e with e1 e2; subst e1; subst e2; exact ⟨ha, ht⟩
theorem tm_np {P : Int → Prop} {E : List Tk → Rp} (hc : Ecl E) (h : Enp P E) (b : Bool) : Enp P (tmP E b) := by
  intro ts ns r ht e
  unfold tmP at e
  match e1 : atP E b ts with
  | .error k => rw [e1] at e; cases e
  | .ok (ms, s) =>
    obtain ⟨a, c⟩ := at_np h b _ _ _ ht e1
    rw [e1] at e
    exact pk_np hc h _ _ _ _ _ c a e
theorem fn_np {P : Int → Prop} {E : Bool → List Tk → Rp} (hc : Ecl (E true)) (h : Enp P (E true)) (b : Bool) {ts r : List Tk} {a : Ac} {n : Int} {body : List Nod} (ht : TkP P ts) (e : fnP E b ts = .ok ((a, n, body), r)) : NumP P body ∧ TkP P r := by
  obtain ⟨seg, s1, _, _⟩ := fn_cls hc b _ _ _ e
  have hr : TkP P r := by rw [s1] at ht; exact ht.app
  refine ⟨?_, hr⟩
  match ts with
  | [] => cases e
  | t :: q =>
    simp only [fnP] at e
    have no : ∀ {y : Ac} {m : Int} {s : List Tk}, (Except.ok ((y, m, []), s) : Rf) = .ok ((a, n, body), r) → NumP P body := by
      intro y m s k
      injection k with k; injection k with k _; injection k with _ k; injection k with _ k
      subst k; exact NumP.nil
    split at e
    · match q with
      | [] => exact no e
      | u :: s =>
        simp only [glP] at e
        split at e
        · exact no e
        split at e
        · exact no e
        split at e
        · exact no e
        split at e
        · match s with
          | [] => cases e
          | v :: p =>
            simp only [] at e
            split at e
            · exact no e
            · cases e
        · exact no e
    split at e
    · match q with
      | [] => cases e
      | u :: s =>
        simp only [otP] at e
        split at e
        · match s with
          | [] => cases e
          | v :: p =>
            simp only [] at e
            split at e
            · exact no e
            · cases e
        · cases e
    split at e
    · exact no e
    split at e
    · obtain ⟨xs, p1, k, _, p2⟩ := bd_parts hc _ _ _ _ _ _ e
      obtain ⟨c, _⟩ := parts_np h xs q r ht.tl p1
      injection p2 with _ p2; injection p2 with _ p2
      rw [List.nil_append] at p2
      subst p2; exact c
    · cases e
theorem ex_np {P : Int → Prop} : ∀ (f : Nat) (b : Bool), Enp P (exP f b)
  | 0, b => fun ts ns r _ e => by cases e
  | f + 1, b => fun ts ns r ht e => by
    have ag : ∀ {op : Int} {ms ns : List Nod} {ts r : List Tk}, TkP P ts → NumP P ms → agP (exP f) b op ms ts = .ok (ns, r) → NumP P ns ∧ TkP P r := by
      intro op ms ns ts r ht hm e
      unfold agP at e
      match e1 : fnP (exP f) b ts with
      | .error k => rw [e1] at e; cases e
      | .ok ((a, n, body), q) =>
        obtain ⟨c, d⟩ := fn_np (ex_cls f true) (ex_np f true) b ht e1
        rw [e1] at e
        simp only [] at e
        match e2 : exP f b q with
        | .error k => rw [e2] at e; cases e
        | .ok (us, s) =>
          obtain ⟨c2, d2⟩ := ex_np f b _ _ _ d e2
          rw [e2] at e
          injection e with e; injection e with ex er
          subst ex; subst er
          exact ⟨((hm.cons).app c).app c2, d2⟩
    simp only [exP] at e
    split at e
    · exact ag ht NumP.nil e
    · match e1 : tmP (exP f b) b ts with
      | .error k => rw [e1] at e; cases e
      | .ok (ms, q) =>
        obtain ⟨a, c⟩ := tm_np (ex_cls f b) (ex_np f b) b _ _ _ ht e1
        rw [e1] at e
        simp only [] at e
        split at e
        · exact ag c a e
        · injection e with e; injection e with ex er
          subst ex; subst er; exact ⟨a, c⟩
/-- A tree's numbers are those of its words. -/
theorem nums18 {P : Int → Prop} {ts : List Tk} {t : List Nod} (ht : TkP P ts) (h : parS ts = .ok t) : ∀ n ∈ t, ∀ x ∈ n.nums, P x := by
  obtain ⟨_, _, _, ha, h2⟩ := again18 h
  unfold parS at h
  rw [if_neg (by omega), bad_alo _ 0 ha] at h
  simp only [] at h
  match e2 : lnP ts with
  | .error i => rw [e2] at h; cases h
  | .ok ns =>
    rw [e2] at h
    injection h with h; subst h
    unfold lnP at e2
    match e : exP ((exprW ts).length + 1) false (exprW ts) with
    | .error k => rw [e] at e2; cases e2
    | .ok (ms, u :: q) => rw [e] at e2; cases e2
    | .ok (ms, []) =>
      rw [e] at e2
      injection e2 with e2
      have hw : TkP P (exprW ts) := by
        unfold exprW; split
        · exact fun u hu => ht u (List.mem_of_mem_drop hu)
        · exact ht
      obtain ⟨a, _⟩ := ex_np _ _ _ _ _ hw e
      subst e2
      unfold setN
      split
      · exact a
      · split
        · exact a.cons
        · exact a

/-- Where it is no line's, it is for a word that cannot be spelt, or that cannot stand. -/
theorem par_alo {ts : List Tk} (ha : Alo ts) (hl : ts.length ≤ 200) : parS ts = (match lnP ts with | .error i => .error (i, 1) | .ok ns => .ok ns) := by
  unfold parS
  rw [if_neg (by omega), bad_alo _ 0 ha]
  rfl
/-- AS SOON AS CAN BE. -/
theorem soon18 {ts us : List Tk} (ha : Alo (ts ++ us)) (hl : (ts ++ us).length ≤ 200) {i : Nat} {e : Int} (h : parS ts = .error (i, e)) (hi : i < ts.length) :
    e = 1 ∧ parS (ts ++ us) = .error (i, 1) ∧ ∀ x, parS (ts.take i) = .error x → x = (i, 1) := by
  have h1 : Alo ts := fun t ht => ha t (List.mem_append.mpr (Or.inl ht))
  have hl' := hl
  simp only [List.length_append] at hl'
  have h2 : Alo (ts.take i) := fun t ht => h1 t (List.mem_of_mem_take ht)
  rw [par_alo h1 (by omega)] at h
  match e2 : lnP ts with
  | .ok ns => rw [e2] at h; cases h
  | .error j =>
    rw [e2] at h
    injection h with h; injection h with hj he
    subst hj; subst he
    obtain ⟨s1, s2⟩ := soon_ln e2 hi us
    refine ⟨rfl, by rw [par_alo ha hl, s1], fun x hx => ?_⟩
    rw [par_alo h2 (by simp only [List.length_take]; omega)] at hx
    match e3 : lnP (ts.take j) with
    | .ok ns => rw [e3] at hx; cases hx
    | .error k =>
      rw [e3] at hx
      injection hx with hx
      rw [← hx, s2 k e3]
/-- BRACKETS ABOUT ALL OF IT. -/
theorem bra18 {ts : List Tk} {n : Nod} {t : List Nod} {l r : Tk} (h : parS ts = .ok (n :: t)) (hn : n.op ≠ 9) (hl : ts.length + 2 ≤ 200) (kl : l.kind = 5) (kr : r.kind = 6) (al : aloF l = 0) (ar : aloF r = 0) :
    parS (l :: ts ++ [r]) = .ok (n :: t) := by
  obtain ⟨_, _, _, ha, h2⟩ := again18 h
  rw [par_alo ha h2] at h
  match e : lnP ts with
  | .error j => rw [e] at h; cases h
  | .ok ns =>
    rw [e] at h
    injection h with h; subst h
    have na : isAr ts = false := by
      match g : isAr ts with
      | false => rfl
      | true =>
        unfold lnP at e
        match e2 : exP ((exprW ts).length + 1) false (exprW ts) with
        | .error k => rw [e2] at e; cases e
        | .ok (ms, u :: q) => rw [e2] at e; cases e
        | .ok (ms, []) =>
          rw [e2] at e
          injection e with e
          match ts, g with
          | t0 :: u :: q, g =>
            simp only [setN, if_pos g] at e
            injection e with e _
            exact absurd (by rw [← e]) hn
    have ab : Alo (l :: ts ++ [r]) := by
      intro u hu
      rcases List.mem_append.mp hu with hu | hu
      · rcases List.mem_cons.mp hu with rfl | hu
        · exact al
        · exact ha u hu
      · rw [List.mem_singleton.mp hu]; exact ar
    rw [par_alo ab (by simp only [List.length_append, List.length_cons, List.length_nil]; omega), bra_ln e na kl kr]
end Go.Proofs.YtgjgbgllhbdodaaGreatDoor
