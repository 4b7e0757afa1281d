/-
  Plain mathematics of trees: there are no more nodes than words.
-/
import Derived.Test.YtgjgbgllhbdodaaGreatDoorTrd
namespace Go.Proofs.YtgjgbgllhbdodaaGreatDoor
open Go.Lib
set_option linter.unusedVariables false

/-- As many as there are nodes, and numbers beyond the first one of each. -/
def wsum (ns : List Nod) : Nat := (ns.map fun n => max 1 n.nums.length).sum
theorem wsum_nil : wsum [] = 0 := rfl
theorem wsum_cons (n : Nod) (ns : List Nod) : wsum (n :: ns) = max 1 n.nums.length + wsum ns := by simp [wsum]
theorem wsum_app (xs ys : List Nod) : wsum (xs ++ ys) = wsum xs + wsum ys := by simp [wsum]
theorem wsum_len : ∀ ns : List Nod, ns.length ≤ wsum ns
  | [] => Nat.le_refl _
  | n :: r => by have := wsum_len r; rw [wsum_cons, List.length_cons]; omega
theorem wsum_num : ∀ (ns : List Nod), ∀ n ∈ ns, n.nums.length ≤ wsum ns
  | [], n, h => by cases h
  | m :: r, n, h => by
    rw [wsum_cons]
    rcases List.mem_cons.1 h with rfl | h
    · omega
    · have := wsum_num r n h; omega
theorem nm_cnt : ∀ l : List Tk, (nmP l).1.length + (nmP l).2.length = l.length
  | [] => rfl
  | t :: r => by
    have := nm_cnt r
    unfold nmP
    by_cases h : t.kind = 1
    · rw [if_pos h]; simp only [List.length_cons]; omega
    · rw [if_neg h]; simp
def Cnt (E : List Tk → Rp) : Prop := ∀ ts ns r, E ts = .ok (ns, r) → wsum ns + r.length ≤ ts.length
theorem bd_cnt {E : List Tk → Rp} (hE : Cnt E) : ∀ (f : Nat) (ts : List Tk) (acc : List Nod) (n : Int) (a : Ac) (m : Int) (body : List Nod) (r : List Tk), bdP E f ts acc n = .ok ((a, m, body), r) → wsum body + r.length + 1 ≤ wsum acc + ts.length
  | 0, ts, acc, n, a, m, body, r, h => by simp [bdP] at h
  | f + 1, ts, acc, n, a, m, body, r, h => by
    simp only [bdP] at h
    match e : E ts with
    | .error k => rw [e] at h; cases h
    | .ok (ns, []) => rw [e] at h; cases h
    | .ok (ns, t :: q) =>
      rw [e] at h
      have h1 := hE _ _ _ e
      simp only [List.length_cons] at h1 h
      by_cases h15 : t.kind = 15
      · rw [if_pos h15] at h
        cases h
        rw [wsum_app]; omega
      · rw [if_neg h15] at h
        by_cases h16 : t.kind = 16
        · rw [if_pos h16] at h
          match e2 : E q with
          | .error k => rw [e2] at h; cases h
          | .ok (ms, []) => rw [e2] at h; cases h
          | .ok (ms, u :: s) =>
            rw [e2] at h
            have h2 := hE _ _ _ e2
            simp only [List.length_cons] at h2 h
            by_cases h17 : u.kind = 17
            · rw [if_pos h17] at h
              have := bd_cnt hE f s _ _ a m body r h
              simp only [wsum_app] at this
              omega
            · rw [if_neg h17] at h; cases h
        · rw [if_neg h16] at h; cases h
theorem gl_cnt {fn : Int} {ts : List Tk} {a : Ac} {m : Int} {body : List Nod} {r : List Tk} (h : glP fn ts = .ok ((a, m, body), r)) : wsum body + r.length ≤ ts.length := by
  match ts with
  | [] => cases h; simp [wsum_nil]
  | u :: q =>
    simp only [glP] at h
    by_cases h1 : u.kind = 13
    · rw [if_pos h1] at h; cases h; simp [wsum_nil]
    rw [if_neg h1] at h
    by_cases h2 : u.kind = 4 ∧ u.fn = 33
    · rw [if_pos h2] at h; cases h; simp [wsum_nil]
    rw [if_neg h2] at h
    by_cases h3 : u.kind = 4 ∧ u.fn = 34
    · rw [if_pos h3] at h; cases h; simp [wsum_nil]
    rw [if_neg h3] at h
    by_cases h4 : u.kind = 12
    · rw [if_pos h4] at h
      match q with
      | [] => cases h
      | v :: s =>
        simp only [] at h
        by_cases h5 : v.kind = 4
        · rw [if_pos h5] at h; cases h; simp only [wsum_nil, List.length_cons]; omega
        · rw [if_neg h5] at h; cases h
    · rw [if_neg h4] at h; cases h; simp [wsum_nil]
theorem ot_cnt {ts : List Tk} {a : Ac} {m : Int} {body : List Nod} {r : List Tk} (h : otP ts = .ok ((a, m, body), r)) : wsum body + r.length ≤ ts.length := by
  match ts with
  | [] => cases h
  | u :: q =>
    simp only [otP] at h
    by_cases h4 : u.kind = 12
    · rw [if_pos h4] at h
      match q with
      | [] => cases h
      | v :: s =>
        simp only [] at h
        by_cases h5 : v.kind = 4
        · rw [if_pos h5] at h; cases h; simp only [wsum_nil, List.length_cons]; omega
        · rw [if_neg h5] at h; cases h
    · rw [if_neg h4] at h; cases h
theorem fn_cnt {E : Bool → List Tk → Rp} (hE : ∀ b, Cnt (E b)) {b : Bool} {ts : List Tk} {a : Ac} {m : Int} {body : List Nod} {r : List Tk} (h : fnP E b ts = .ok ((a, m, body), r)) : wsum body + r.length + 1 ≤ ts.length := by
  match ts with
  | [] => cases h
  | t :: q =>
    simp only [fnP] at h
    by_cases h1 : t.kind = 4
    · rw [if_pos h1] at h; have := gl_cnt h; simp only [List.length_cons]; omega
    rw [if_neg h1] at h
    by_cases h2 : t.kind = 11
    · rw [if_pos h2] at h; have := ot_cnt h; simp only [List.length_cons]; omega
    rw [if_neg h2] at h
    by_cases h3 : t.kind = 20 ∧ b = true
    · rw [if_pos h3] at h; cases h; simp [wsum_nil]
    rw [if_neg h3] at h
    by_cases h4 : t.kind = 14
    · rw [if_pos h4] at h
      have := bd_cnt (hE true) _ _ _ _ a m body r h
      simp only [List.length_cons, wsum_nil] at this ⊢; omega
    · rw [if_neg h4] at h; cases h
theorem ix_cnt {E : List Tk → Rp} (hE : Cnt E) : ∀ (f : Nat) (ts : List Tk) (acc : List Nod) (n : Int) (m : Int) (ns : List Nod) (r : List Tk), ixP E f ts acc n = .ok ((m, ns), r) → wsum ns + r.length + 1 ≤ wsum acc + ts.length
  | 0, ts, acc, n, m, ns, r, h => by simp [ixP] at h
  | f + 1, ts, acc, n, m, ns, r, h => by
    simp only [ixP] at h
    match e : E ts with
    | .error k => rw [e] at h; cases h
    | .ok (ms, []) => rw [e] at h; cases h
    | .ok (ms, t :: q) =>
      rw [e] at h
      have h1 := hE _ _ _ e
      simp only [List.length_cons] at h1 h
      by_cases h8 : t.kind = 8
      · rw [if_pos h8] at h
        cases h
        rw [wsum_app]; omega
      · rw [if_neg h8] at h
        by_cases h9 : t.kind = 9
        · rw [if_pos h9] at h
          have := ix_cnt hE f q _ _ m ns r h
          simp only [wsum_app] at this
          omega
        · rw [if_neg h9] at h; cases h
theorem pks_cnt {E : List Tk → Rp} (hE : Cnt E) : ∀ (f : Nat) (ts : List Tk) (acc : List Nod) (ns : List Nod) (r : List Tk), pksP E f ts acc = .ok (ns, r) → wsum ns + r.length ≤ wsum acc + ts.length
  | 0, ts, acc, ns, r, h => by cases h; exact Nat.le_refl _
  | f + 1, ts, acc, ns, r, h => by
    match ts with
    | [] => cases h; simp
    | t :: q =>
      simp only [pksP] at h
      by_cases h7 : t.kind = 7
      · rw [if_pos h7] at h
        match e : ixP E (q.length + 1) q [] 0 with
        | .error k => rw [e] at h; cases h
        | .ok ((n, ms), s) =>
          rw [e] at h
          have h1 := ix_cnt hE _ _ _ _ _ _ _ e
          have h2 := pks_cnt hE f s _ ns r h
          simp only [wsum_app, wsum_cons, wsum_nil, List.length_cons, List.length_nil, List.cons_append] at h1 h2 ⊢
          omega
      · rw [if_neg h7] at h
        cases h; exact Nat.le_refl _
theorem at_cnt {E : List Tk → Rp} (hE : Cnt E) {b : Bool} {ts : List Tk} {ns : List Nod} {r : List Tk} (h : atP E b ts = .ok (ns, r)) : wsum ns + r.length ≤ ts.length := by
  match ts with
  | [] => cases h
  | t :: q =>
    simp only [atP] at h
    by_cases h1 : t.kind = 1
    · rw [if_pos h1] at h
      cases h
      have := nm_cnt q
      simp only [wsum_cons, wsum_nil, List.length_cons]; omega
    rw [if_neg h1] at h
    by_cases h2 : t.kind = 2
    · rw [if_pos h2] at h; cases h; simp only [wsum_cons, wsum_nil, List.length_cons, List.length_nil]; omega
    rw [if_neg h2] at h
    by_cases h3 : t.kind = 3
    · rw [if_pos h3] at h; cases h; simp only [wsum_cons, wsum_nil, List.length_cons, List.length_nil]; omega
    rw [if_neg h3] at h
    by_cases h4 : t.kind = 18 ∧ b = true
    · rw [if_pos h4] at h; cases h; simp only [wsum_cons, wsum_nil, List.length_cons, List.length_nil]; omega
    rw [if_neg h4] at h
    by_cases h5 : t.kind = 19 ∧ b = true
    · rw [if_pos h5] at h; cases h; simp only [wsum_cons, wsum_nil, List.length_cons, List.length_nil]; omega
    rw [if_neg h5] at h
    by_cases h6 : t.kind = 5
    · rw [if_pos h6] at h
      match e : E q with
      | .error k => rw [e] at h; cases h
      | .ok (ms, []) => rw [e] at h; cases h
      | .ok (ms, u :: s) =>
        rw [e] at h
        have h1 := hE _ _ _ e
        simp only [List.length_cons] at h1 h ⊢
        by_cases h7 : u.kind = 6
        · rw [if_pos h7] at h; cases h; omega
        · rw [if_neg h7] at h; cases h
    · rw [if_neg h6] at h; cases h
theorem tm_cnt {E : List Tk → Rp} (hE : Cnt E) {b : Bool} {ts : List Tk} {ns : List Nod} {r : List Tk} (h : tmP E b ts = .ok (ns, r)) : wsum ns + r.length ≤ ts.length := by
  unfold tmP at h
  match e : atP E b ts with
  | .error k => rw [e] at h; cases h
  | .ok (ms, q) =>
    rw [e] at h
    have h1 := at_cnt hE e
    have h2 := pks_cnt hE _ _ _ _ _ h
    omega
theorem ag_cnt {E : Bool → List Tk → Rp} (hE : ∀ b, Cnt (E b)) {b : Bool} {op : Int} {ms : List Nod} {ts : List Tk} {ns : List Nod} {r : List Tk} (h : agP E b op ms ts = .ok (ns, r)) : wsum ns + r.length ≤ wsum ms + ts.length := by
  unfold agP at h
  match e : fnP E b ts with
  | .error k => rw [e] at h; cases h
  | .ok ((a, n, body), q) =>
    rw [e] at h
    have h1 := fn_cnt hE e
    simp only [] at h
    match e2 : E b q with
    | .error k => rw [e2] at h; cases h
    | .ok (ks, s) =>
      rw [e2] at h
      have h2 := hE _ _ _ _ e2
      cases h
      simp only [wsum_app, wsum_cons, List.cons_append, List.length_nil]
      omega
theorem ex_cnt : ∀ (f : Nat) (b : Bool), Cnt (exP f b)
  | 0, b => fun ts ns r h => by cases h
  | f + 1, b => fun ts ns r h => by
    have hE := ex_cnt f
    simp only [exP] at h
    by_cases hh : hfn ts = true
    · rw [if_pos hh] at h
      have := ag_cnt hE h
      simpa [wsum_nil] using this
    · rw [if_neg hh] at h
      match e : tmP (exP f b) b ts with
      | .error k => rw [e] at h; cases h
      | .ok (ms, q) =>
        rw [e] at h
        have h1 := tm_cnt (hE b) e
        simp only [] at h
        by_cases h2 : hfn q = true
        · rw [if_pos h2] at h
          have := ag_cnt hE h
          omega
        · rw [if_neg h2] at h
          cases h; exact h1
theorem ln_cnt {ts : List Tk} {ns : List Nod} (h : lnP ts = .ok ns) : wsum ns ≤ ts.length := by
  unfold lnP at h
  match e : exP ((exprW ts).length + 1) false (exprW ts) with
  | .error k => rw [e] at h; cases h
  | .ok (ms, []) =>
    rw [e] at h
    have h1 := ex_cnt _ _ _ _ _ e
    simp only [Except.ok.injEq] at h
    subst h
    unfold setN exprW at *
    match ts with
    | [] => simpa using h1
    | t :: q =>
      by_cases hA : isAr (t :: q) = true
      · rw [if_pos hA] at h1
        simp only [hA, if_true]
        simp only [wsum_cons, List.length_drop, List.length_cons, List.length_nil] at h1 ⊢
        match q with
        | [] => cases hA
        | u :: s => simp only [List.length_cons] at h1 ⊢; omega
      · rw [if_neg hA] at h1
        simp only [hA]
        simpa using h1
  | .ok (ms, _ :: _) => rw [e] at h; cases h
end Go.Proofs.YtgjgbgllhbdodaaGreatDoor
