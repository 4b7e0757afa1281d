/-
  Tre Trf Trg Trh Tri, together.
-/
import Derived.Test.YtgjgbgllhbdodaaGreatDoorTrd
import Derived.Test.YtgjgbgllhbdodaaGreatDoorLyp
/-! Tre: Plain mathematics of trees: each word of a tree can be spelt; a line's tree and its words. -/
namespace Go.Proofs.YtgjgbgllhbdodaaGreatDoor
open Go.Lib
set_option linter.unusedVariables false

theorem okn_gl {n : Nod} (h : okN n = true) (h6 : n.op = 6 ∨ n.op = 7) : (n.ac.op < 6 → glyF n.ac.f = true) ∧ (n.ac.op = 4 → glyF n.ac.g = true) := by
  simp only [okN, Bool.and_eq_true, decide_eq_true_eq, beq_iff_eq, if_neg (show ¬ (n.op ≠ 6 ∧ n.op ≠ 7) by omega)] at h
  obtain ⟨_, _, hf⟩ := h
  refine ⟨fun g => ?_, fun g => ?_⟩
  · rw [if_neg (by omega)] at hf
    simp only [Bool.and_eq_true] at hf
    exact hf.1
  · rw [if_neg (by omega), if_pos g] at hf
    simp only [Bool.and_eq_true] at hf
    exact hf.2
theorem brk_mem {P : Tk → Prop} (hs : ∀ k : Int, 5 ≤ k → k ≤ 20 → P (sgT k)) {m : Bool} {ws : List Tk} (h : ∀ t ∈ ws, P t) : ∀ t ∈ brk m ws, P t := by
  cases m with
  | false => exact h
  | true =>
    intro t ht
    simp only [brk, if_true, List.mem_cons, List.mem_append, List.not_mem_nil, or_false] at ht
    rcases ht with rfl | ht | rfl
    · exact hs 5 (by omega) (by omega)
    · exact h t ht
    · exact hs 6 (by omega) (by omega)
def Wdp (P : Tk → Prop) (Q : Nod → Prop) (f : Nat) : Prop := ∀ (b : Bool) (ts rest : List Nod), bhS f b ts = some rest → (∀ n ∈ ts, Q n) → (∀ t ∈ (wrdS f ts).1, P t) ∧ (wrdS f ts).2 = rest ∧ ∀ n ∈ rest, Q n
theorem ix_wdp {P : Tk → Prop} {Q : Nod → Prop} (hs : ∀ k : Int, 5 ≤ k → k ≤ 20 → P (sgT k)) {f : Nat} (h : Wdp P Q f) {b : Bool} : ∀ (k : Nat) (ts rest : List Nod), bhN (bhS f b) (k + 1) ts = some rest → (∀ n ∈ ts, Q n) → (∀ t ∈ (ixW (wrdS f) k ts).1, P t) ∧ (ixW (wrdS f) k ts).2 = rest ∧ ∀ n ∈ rest, Q n
  | 0, ts, rest, e, hq => by
    simp only [bhN] at e
    match e1 : bhS f b ts with
    | none => rw [e1] at e; cases e
    | some r =>
      rw [e1] at e; injection e with e; subst e
      obtain ⟨h1, h2, h3⟩ := h b ts r e1 hq
      refine ⟨fun t ht => ?_, h2, h3⟩
      simp only [ixW, List.mem_append, List.mem_singleton] at ht
      rcases ht with ht | rfl
      · exact h1 t ht
      · exact hs 8 (by omega) (by omega)
  | k + 1, ts, rest, e, hq => by
    rw [bhN] at e
    match e1 : bhS f b ts with
    | none => rw [e1] at e; cases e
    | some r =>
      rw [e1] at e
      obtain ⟨h1, h2, h3⟩ := h b ts r e1 hq
      obtain ⟨g1, g2, g3⟩ := ix_wdp hs h k r rest e h3
      refine ⟨fun t ht => ?_, by simp only [ixW, h2, g2], g3⟩
      simp only [ixW, h2, List.mem_append, List.mem_cons] at ht
      rcases ht with ht | rfl | ht
      · exact h1 t ht
      · exact hs 9 (by omega) (by omega)
      · exact g1 t ht
theorem bd_wdp {P : Tk → Prop} {Q : Nod → Prop} (hs : ∀ k : Int, 5 ≤ k → k ≤ 20 → P (sgT k)) {f : Nat} (h : Wdp P Q f) : ∀ (k : Nat) (ts rest : List Nod), bhN (bhS f true) (2 * k + 1) ts = some rest → (∀ n ∈ ts, Q n) → (∀ t ∈ (bdW (wrdS f) k ts).1, P t) ∧ (bdW (wrdS f) k ts).2 = rest ∧ ∀ n ∈ rest, Q n
  | 0, ts, rest, e, hq => by
    simp only [bhN] at e
    match e1 : bhS f true ts with
    | none => rw [e1] at e; cases e
    | some r =>
      rw [e1] at e; injection e with e; subst e
      obtain ⟨h1, h2, h3⟩ := h true ts r e1 hq
      refine ⟨fun t ht => ?_, h2, h3⟩
      simp only [bdW, List.mem_append, List.mem_singleton] at ht
      rcases ht with ht | rfl
      · exact h1 t ht
      · exact hs 15 (by omega) (by omega)
  | k + 1, ts, rest, e, hq => by
    rw [show 2 * (k + 1) + 1 = (2 * k + 1) + 1 + 1 by omega, bhN] at e
    match e1 : bhS f true ts with
    | none => rw [e1] at e; cases e
    | some r =>
      rw [e1] at e; simp only [] at e
      rw [bhN] at e
      match e2 : bhS f true r with
      | none => rw [e2] at e; cases e
      | some s =>
        rw [e2] at e
        obtain ⟨h1, h2, h3⟩ := h true ts r e1 hq
        obtain ⟨k1, k2, k3⟩ := h true r s e2 h3
        obtain ⟨g1, g2, g3⟩ := bd_wdp hs h k s rest e k3
        refine ⟨fun t ht => ?_, by simp only [bdW, h2, k2, g2], g3⟩
        simp only [bdW, h2, k2, List.mem_append, List.mem_cons] at ht
        rcases ht with ht | rfl | ht | rfl | ht
        · exact h1 t ht
        · exact hs 16 (by omega) (by omega)
        · exact k1 t ht
        · exact hs 17 (by omega) (by omega)
        · exact g1 t ht
theorem fn_wdp {P : Tk → Prop} {Q : Nod → Prop} (hs : ∀ k : Int, 5 ≤ k → k ≤ 20 → P (sgT k)) (hg : ∀ f, glyF f = true → P (glT f)) {f : Nat} (h : Wdp P Q f) {n : Nod} (ho : okN n = true) (h67 : n.op = 6 ∨ n.op = 7) {r rest : List Nod}
    (e : fnB (bhS f true) n r = some rest) (hq : ∀ n ∈ r, Q n) : (∀ t ∈ (fnW (wrdS f) n r).1, P t) ∧ (fnW (wrdS f) n r).2 = rest ∧ ∀ n ∈ rest, Q n := by
  obtain ⟨gf, gg⟩ := okn_gl ho h67
  obtain ⟨_, _, a0, a7, _⟩ := okn_act ho h67
  unfold fnB at e
  have two : ∀ {a b : Tk}, P a → P b → ∀ t ∈ [a, b], P t := by
    intro a b ha hb t ht
    simp only [List.mem_cons, List.not_mem_nil, or_false] at ht
    rcases ht with rfl | rfl <;> assumption
  unfold fnW
  by_cases c7 : n.ac.op = 7
  · rw [if_pos c7]
    rw [if_neg (by omega)] at e
    injection e with e; subst e
    exact ⟨fun t ht => by rw [List.mem_singleton.mp ht]; exact hs 20 (by omega) (by omega), rfl, hq⟩
  rw [if_neg c7]
  by_cases c6 : n.ac.op = 6
  · rw [if_pos c6]
    rw [if_pos c6] at e
    obtain ⟨h1, h2, h3⟩ := bd_wdp hs h _ _ _ e hq
    refine ⟨fun t ht => ?_, h2, h3⟩
    rcases List.mem_cons.mp ht with rfl | ht
    · exact hs 14 (by omega) (by omega)
    · exact h1 t ht
  rw [if_neg c6] at e ⊢
  injection e with e; subst e
  have hf := hg _ (gf (by omega))
  by_cases c3 : n.ac.op = 3
  · rw [if_pos c3]
    refine ⟨fun t ht => ?_, rfl, hq⟩
    simp only [List.mem_cons, List.not_mem_nil, or_false] at ht
    rcases ht with rfl | rfl | rfl
    · exact hs 11 (by omega) (by omega)
    · exact hs 12 (by omega) (by omega)
    · exact hf
  rw [if_neg c3]
  by_cases c4 : n.ac.op = 4
  · rw [if_pos c4]
    refine ⟨fun t ht => ?_, rfl, hq⟩
    simp only [List.mem_cons, List.not_mem_nil, or_false] at ht
    rcases ht with rfl | rfl | rfl
    · exact hf
    · exact hs 12 (by omega) (by omega)
    · exact hg _ (gg c4)
  rw [if_neg c4]
  by_cases c5 : n.ac.op = 5
  · rw [if_pos c5]
    exact ⟨two hf (hs 13 (by omega) (by omega)), rfl, hq⟩
  rw [if_neg c5]
  by_cases c1 : n.ac.op = 1
  · rw [if_pos c1]
    exact ⟨two hf (hg 33 rfl), rfl, hq⟩
  rw [if_neg c1]
  by_cases c2 : n.ac.op = 2
  · rw [if_pos c2]
    exact ⟨two hf (hg 34 rfl), rfl, hq⟩
  rw [if_neg c2]
  exact ⟨fun t ht => by rw [List.mem_singleton.mp ht]; exact hf, rfl, hq⟩
theorem wdp_all {P : Tk → Prop} {Q : Nod → Prop} (hs : ∀ k : Int, 5 ≤ k → k ≤ 20 → P (sgT k)) (hg : ∀ f, glyF f = true → P (glT f))
    (hq : ∀ n, Q n → okN n = true → (∀ x ∈ n.nums, P (nuT x)) ∧ (n.op = 2 → P ⟨2, 0, 0, n.text⟩) ∧ (n.op = 3 → P ⟨3, 0, 0, n.text⟩)) : ∀ f, Wdp P Q f
  | 0 => fun b ts rest e => by cases e
  | f + 1 => fun b ts rest e hts => by
    have ih := wdp_all hs hg hq f
    match ts with
    | [] => cases e
    | n :: r =>
      simp only [bhS] at e
      split at e
      · cases e
      rename_i hbad
      have ho : okN n = true := by
        cases h : okN n with
        | true => rfl
        | false => exact absurd (Or.inl h) hbad
      have hn := hts n List.mem_cons_self
      have hr : ∀ m ∈ r, Q m := fun m hm => hts m (List.mem_cons_of_mem _ hm)
      obtain ⟨q1, q2, q3⟩ := hq n hn ho
      have h9 : n.op ≠ 9 := fun h => hbad (Or.inr (Or.inl h))
      split at e
      · rename_i h8
        obtain ⟨_, _, pn, _⟩ := okn_plain ho (by omega) (by omega)
        match e1 : bhS f b r with
        | none => rw [e1] at e; cases e
        | some r1 =>
          rw [e1] at e
          simp only [] at e
          obtain ⟨u1, u2, u3⟩ := ih b r r1 e1 hr
          obtain ⟨k, hk⟩ : ∃ k, n.n.toNat = k + 1 := ⟨n.n.toNat - 1, by have := pn h8; omega⟩
          rw [hk] at e
          obtain ⟨v1, v2, v3⟩ := ix_wdp hs ih k r1 rest e u3
          simp only [wrdS]
          rw [if_neg (by omega), if_neg (by omega), if_neg (by omega), if_neg (by omega), if_neg (by omega), if_pos h8, hk, Nat.add_sub_cancel]
          simp only [lfW, u2]
          refine ⟨fun t ht => ?_, v2, v3⟩
          rcases List.mem_append.mp ht with ht | ht
          · exact brk_mem hs u1 t ht
          rcases List.mem_cons.mp ht with rfl | ht
          · exact hs 7 (by omega) (by omega)
          · exact v1 t ht
      split at e
      · rename_i h8 h67
        simp only [wrdS]
        rw [if_neg (by omega), if_neg (by omega), if_neg (by omega), if_neg (by omega), if_neg (by omega), if_neg (by omega)]
        by_cases h7 : n.op = 7
        · rw [if_pos h7] at e ⊢
          match e1 : bhS f b r with
          | none => rw [e1] at e; cases e
          | some r1 =>
            rw [e1] at e
            simp only [] at e
            match e2 : fnB (bhS f true) n r1 with
            | none => rw [e2] at e; cases e
            | some r2 =>
              rw [e2] at e
              simp only [] at e
              obtain ⟨u1, u2, u3⟩ := ih b r r1 e1 hr
              obtain ⟨g1, g2, g3⟩ := fn_wdp hs hg ih ho h67 e2 u3
              obtain ⟨v1, v2, v3⟩ := ih b r2 rest e g3
              simp only [lfW, u2, g2]
              refine ⟨fun t ht => ?_, v2, v3⟩
              rcases List.mem_append.mp ht with ht | ht
              · exact brk_mem hs u1 t ht
              rcases List.mem_append.mp ht with ht | ht
              · exact g1 t ht
              · exact brk_mem hs v1 t ht
        · rw [if_neg h7] at e ⊢
          simp only [] at e
          match e2 : fnB (bhS f true) n r with
          | none => rw [e2] at e; cases e
          | some r2 =>
            rw [e2] at e
            simp only [] at e
            obtain ⟨g1, g2, g3⟩ := fn_wdp hs hg ih ho h67 e2 hr
            obtain ⟨v1, v2, v3⟩ := ih b r2 rest e g3
            simp only [g2, List.nil_append]
            refine ⟨fun t ht => ?_, v2, v3⟩
            rcases List.mem_append.mp ht with ht | ht
            · exact g1 t ht
            · exact brk_mem hs v1 t ht
      · rename_i h8 h67
        injection e with e; subst e
        simp only [wrdS]
        by_cases h1 : n.op = 1
        · rw [if_pos h1]
          refine ⟨fun t ht => ?_, rfl, hr⟩
          obtain ⟨x, hx, rfl⟩ := List.mem_map.mp ht
          exact q1 x hx
        rw [if_neg h1]
        by_cases h2 : n.op = 2
        · rw [if_pos h2]
          exact ⟨fun t ht => by rw [List.mem_singleton.mp ht]; exact q2 h2, rfl, hr⟩
        rw [if_neg h2]
        by_cases h3 : n.op = 3
        · rw [if_pos h3]
          exact ⟨fun t ht => by rw [List.mem_singleton.mp ht]; exact q3 h3, rfl, hr⟩
        rw [if_neg h3]
        by_cases h4 : n.op = 4
        · rw [if_pos h4]
          exact ⟨fun t ht => by rw [List.mem_singleton.mp ht]; exact hs 18 (by omega) (by omega), rfl, hr⟩
        rw [if_neg h4]
        have h5 : n.op = 5 := by
          obtain ⟨_, _, _, _, _, _, p1, p9⟩ := okn_plain ho (by omega) (by omega)
          omega
        rw [if_pos h5]
        exact ⟨fun t ht => by rw [List.mem_singleton.mp ht]; exact hs 19 (by omega) (by omega), rfl, hr⟩

theorem getD_len {l : List (List UInt8)} (h : ∀ x ∈ l, x.length ≤ 3) (i : Nat) : (l.getD i []).length ≤ 3 := by
  rw [List.getD_eq_getElem?_getD]
  match e : l[i]? with
  | none => simp
  | some x => exact h x (List.mem_of_getElem? e)
theorem alo_sg (k : Int) (h5 : 5 ≤ k) (h20 : k ≤ 20) : aloF (sgT k) = 0 := by
  have e : spelS (sgT k) = .ok (sgnB.getD (k.toNat - 5) []) := by
    have n1 : k ≠ 1 := by omega
    have n2 : k ≠ 2 := by omega
    have n3 : k ≠ 3 := by omega
    have n4 : k ≠ 4 := by omega
    simp [spelS, fldF, sgT, n1, n2, n3, n4, h5, h20, Sp.ok]
  unfold aloF
  rw [e]
  have := getD_len (l := sgnB) (by decide) (k.toNat - 5)
  exact if_neg (by omega)
theorem alo_gl (f : Int) (h : glyF f = true) : aloF (glT f) = 0 := by
  simp only [glyF, Bool.and_eq_true, decide_eq_true_eq] at h
  have e : spelS (glT f) = .ok (glyB.getD (f.toNat - 1) []) := by
    simp [spelS, fldF, glT, h, Sp.ok]
  unfold aloF
  rw [e]
  have := getD_len (l := glyB) (by decide) (f.toNat - 1)
  exact if_neg (by omega)
theorem alo_nu (x : Int) (h : InR x) : aloF (nuT x) = 0 := by
  have e : spelS (nuT x) = .ok (digS x) := by
    simp [spelS, fldF, nuT, Sp.ok]
  unfold aloF
  rw [e]
  have := dig_len h
  exact if_neg (by omega)
theorem okn_txt {n : Nod} (h : okN n = true) : txtF n = 0 := by
  simp only [okN, Bool.and_eq_true, decide_eq_true_eq] at h
  exact h.1.2
/-- Each word of a tree can be spelt. -/
theorem alo_wrd {f : Nat} {b : Bool} {ts rest : List Nod} (e : bhS f b ts = some rest) (h : ∀ n ∈ ts, ∀ x ∈ n.nums, InR x) : ∀ t ∈ (wrdS f ts).1, aloF t = 0 :=
  (wdp_all (P := fun t => aloF t = 0) (Q := fun n => ∀ x ∈ n.nums, InR x) alo_sg alo_gl
    (fun n hn ho => ⟨fun x hx => alo_nu x (hn x hx), fun h2 => by have := okn_txt ho; unfold txtF at this; rwa [if_neg (by omega), if_pos h2] at this,
      fun h3 => by have := okn_txt ho; unfold txtF at this; rwa [if_pos (Or.inl h3)] at this⟩) f b ts rest e h).1
end Go.Proofs.YtgjgbgllhbdodaaGreatDoor
/-! Trf: Plain mathematics of trees: what is read is a tree, and its words are no more than those. -/
namespace Go.Proofs.YtgjgbgllhbdodaaGreatDoor
open Go.Lib
set_option linter.unusedVariables false

def Alo (ts : List Tk) : Prop := ∀ t ∈ ts, aloF t = 0
theorem Alo.tl {t : Tk} {r : List Tk} (h : Alo (t :: r)) : Alo r := fun u hu => h u (List.mem_cons_of_mem _ hu)
theorem Alo.hd {t : Tk} {r : List Tk} (h : Alo (t :: r)) : aloF t = 0 := h t List.mem_cons_self
theorem alo_fld {t : Tk} (h : aloF t = 0) : fldF t = false := by
  cases g : fldF t with
  | false => rfl
  | true =>
    unfold aloF spelS at h
    rw [if_pos g] at h
    cases h
theorem alo_glyph {t : Tk} (h : aloF t = 0) (h4 : t.kind = 4) : glyF t.fn = true := by
  have hf := alo_fld h
  unfold aloF spelS at h
  rw [if_neg (by rw [hf]; decide), if_neg (by omega), if_neg (by omega), if_neg (by omega), if_pos h4] at h
  by_cases g : 1 ≤ t.fn ∧ t.fn ≤ 34
  · simp [glyF, g]
  · rw [if_neg g] at h; cases h
theorem alo_text {t : Tk} (h : aloF t = 0) {k : Int} (hk : t.kind = k) (k23 : k = 2 ∨ k = 3) : aloF ⟨k, 0, 0, t.text⟩ = 0 := by
  have hf := alo_fld h
  simp only [fldF, Bool.or_eq_false_iff, decide_eq_false_iff_not] at hf
  obtain ⟨kd, fn, num, text⟩ := t
  simp only at hk hf
  have n0 : num = 0 := by
    by_cases e : num = 0
    · exact e
    · exact absurd ⟨by omega, e⟩ hf.1.1
  have f0 : fn = 0 := by
    by_cases e : fn = 0
    · exact e
    · exact absurd ⟨by omega, e⟩ hf.1.2
  rw [n0, f0, hk] at h
  exact h

/-- What is read as an expression is one, of no more words. -/
def Rdp (E : List Tk → Rp) (b : Bool) : Prop := ∀ ts ns r, Alo ts → E ts = .ok (ns, r) →
  Alo r ∧ ns.length + r.length ≤ ts.length ∧ 0 < ns.length ∧ ∀ F more, ns.length < F → bhS F b (ns ++ more) = some more ∧ (wrdS F (ns ++ more)).1.length + r.length ≤ ts.length ∧
    (slH (wrdS F (ns ++ more)).1 = true → slH ts = true ∨ (wrdS F (ns ++ more)).1.length + 2 + r.length ≤ ts.length)
/-- As a term. -/
def Rdt (T : List Tk → Rp) (b : Bool) : Prop := ∀ ts ns r, Alo ts → T ts = .ok (ns, r) →
  Alo r ∧ ns.length + r.length ≤ ts.length ∧ 0 < ns.length ∧ ∀ F more, ns.length < F → bhS F b (ns ++ more) = some more ∧ (lfW (wrdS F) (ns ++ more)).1.length + r.length ≤ ts.length
theorem wrd_rest {f : Nat} {b : Bool} {ts rest : List Nod} (e : bhS f b ts = some rest) : (wrdS f ts).2 = rest := (prd_all f b ts rest e).choose_spec.2.1
theorem ix_rdp {E : List Tk → Rp} {b : Bool} (h : Rdp E b) : ∀ (f : Nat) (ts : List Tk) (acc : List Nod) (n : Int) (x : Int × List Nod) (r : List Tk), Alo ts → ixP E f ts acc n = .ok (x, r) →
    Alo r ∧ ∃ (k : Nat) (seg : List Nod), x = (n + (k + 1), acc ++ seg) ∧ seg.length + r.length < ts.length ∧ ∀ F more, seg.length < F → bhN (bhS F b) (k + 1) (seg ++ more) = some more ∧ (ixW (wrdS F) k (seg ++ more)).1.length + r.length ≤ ts.length
  | 0, ts, acc, n, x, r, ha, e => by cases e
  | f + 1, ts, acc, n, x, r, ha, e => by
    simp only [ixP] at e
    match e1 : E ts with
    | .error k => rw [e1] at e; cases e
    | .ok (ns, []) => rw [e1] at e; cases e
    | .ok (ns, t :: q) =>
      obtain ⟨h1, h2, h3, h4⟩ := h _ _ _ ha e1
      rw [e1] at e
      simp only [List.length_cons] at e h2
      split at e
      · injection e with e; injection e with ex er
        subst ex; subst er
        refine ⟨h1.tl, 0, ns, by simp, by omega, fun F more hF => ?_⟩
        obtain ⟨g1, g2, _⟩ := h4 F more hF
        refine ⟨by simp only [bhN, g1], ?_⟩
        simp only [ixW, List.length_append, List.length_cons, List.length_nil] at g2 ⊢
        omega
      split at e
      · obtain ⟨k1, k, seg, k2, k3, k4⟩ := ix_rdp h f q _ _ x r h1.tl e
        refine ⟨k1, k + 1, ns ++ seg, by rw [k2]; simp only [List.append_assoc]; congr 1; omega, by simp only [List.length_append]; omega, fun F more hF => ?_⟩
        simp only [List.length_append] at hF
        obtain ⟨g1, g2, _⟩ := h4 F (seg ++ more) (by omega)
        obtain ⟨p1, p2⟩ := k4 F more (by omega)
        rw [List.append_assoc]
        refine ⟨by rw [bhN, g1]; exact p1, ?_⟩
        simp only [ixW, wrd_rest g1, List.length_append, List.length_cons] at g2 ⊢
        omega
      · cases e
theorem bd_rdp {E : List Tk → Rp} (h : Rdp E true) : ∀ (f : Nat) (ts : List Tk) (acc : List Nod) (n : Int) (x : Ac × Int × List Nod) (r : List Tk), Alo ts → bdP E f ts acc n = .ok (x, r) →
    Alo r ∧ ∃ (k : Nat) (seg : List Nod), x = (⟨6, 0, 0⟩, n + k, acc ++ seg) ∧ seg.length + r.length < ts.length ∧ ∀ F more, seg.length < F → bhN (bhS F true) (2 * k + 1) (seg ++ more) = some more ∧ (bdW (wrdS F) k (seg ++ more)).1.length + r.length ≤ ts.length
  | 0, ts, acc, n, x, r, ha, e => by cases e
  | f + 1, ts, acc, n, x, r, ha, e => by
    simp only [bdP] at e
    match e1 : E ts with
    | .error k => rw [e1] at e; cases e
    | .ok (ns, []) => rw [e1] at e; cases e
    | .ok (ns, t :: q) =>
      obtain ⟨h1, h2, h3, h4⟩ := h _ _ _ ha e1
      rw [e1] at e
      simp only [List.length_cons] at e h2
      split at e
      · injection e with e; injection e with ex er
        subst ex; subst er
        refine ⟨h1.tl, 0, ns, by simp, by omega, fun F more hF => ?_⟩
        obtain ⟨g1, g2, _⟩ := h4 F more hF
        refine ⟨by simp only [bhN, g1], ?_⟩
        simp only [bdW, List.length_append, List.length_cons, List.length_nil] at g2 ⊢
        omega
      split at e
      · match e2 : E q with
        | .error k => rw [e2] at e; cases e
        | .ok (ms, []) => rw [e2] at e; cases e
        | .ok (ms, u :: s) =>
          obtain ⟨i1, i2, i3, i4⟩ := h _ _ _ h1.tl e2
          rw [e2] at e
          simp only [List.length_cons] at e i2
          split at e
          · obtain ⟨k1, k, seg, k2, k3, k4⟩ := bd_rdp h f s _ _ x r i1.tl e
            refine ⟨k1, k + 1, ns ++ (ms ++ seg), by rw [k2]; simp only [List.append_assoc]; congr 2; omega, by simp only [List.length_append]; omega, fun F more hF => ?_⟩
            simp only [List.length_append] at hF
            obtain ⟨g1, g2, _⟩ := h4 F (ms ++ (seg ++ more)) (by omega)
            obtain ⟨j1, j2, _⟩ := i4 F (seg ++ more) (by omega)
            obtain ⟨p1, p2⟩ := k4 F more (by omega)
            simp only [List.append_assoc]
            refine ⟨by rw [show 2 * (k + 1) + 1 = (2 * k + 1) + 1 + 1 by omega, bhN, g1]; simp only []; rw [bhN, j1]; exact p1, ?_⟩
            simp only [bdW, wrd_rest g1, wrd_rest j1, List.length_append, List.length_cons] at g2 j2 ⊢
            omega
          · cases e
      · cases e
theorem isFn_app {ns : List Nod} (h : 0 < ns.length) (more : List Nod) : isFnN (ns ++ more) = isFnN ns := by
  match ns, h with
  | n :: r, _ => rfl
theorem okN8 {n : Int} (h : 0 < n) : okN ⟨8, ac0, n, [], []⟩ = true := by
  simp [okN, txtF, ac0, h]
/-- A part at indices. -/
theorem pk_rdp {E : List Tk → Rp} {b : Bool} (h : Rdp E b) : ∀ (f : Nat) (ts : List Tk) (acc ns : List Nod) (r : List Tk) (B : Nat), Alo ts → pksP E f ts acc = .ok (ns, r) → acc.length + ts.length ≤ B → 0 < acc.length →
    (∀ F more, acc.length < F → bhS F b (acc ++ more) = some more ∧ (lfW (wrdS F) (acc ++ more)).1.length + ts.length ≤ B) →
    Alo r ∧ ns.length + r.length ≤ B ∧ 0 < ns.length ∧ ∀ F more, ns.length < F → bhS F b (ns ++ more) = some more ∧ (lfW (wrdS F) (ns ++ more)).1.length + r.length ≤ B
  | 0, ts, acc, ns, r, B, ha, e, hB, h0, hc => by
    simp only [pksP] at e
    injection e with e; injection e with e1 e2; subst e1; subst e2
    exact ⟨ha, hB, h0, hc⟩
  | f + 1, [], acc, ns, r, B, ha, e, hB, h0, hc => by
    simp only [pksP] at e
    injection e with e; injection e with e1 e2; subst e1; subst e2
    exact ⟨ha, hB, h0, hc⟩
  | f + 1, t :: q, acc, ns, r, B, ha, e, hB, h0, hc => by
    simp only [pksP] at e
    split at e
    · match e1 : ixP E (q.length + 1) q [] 0 with
      | .error k => rw [e1] at e; cases e
      | .ok ((n, ms), s) =>
        obtain ⟨k1, k, seg, k2, k3, k4⟩ := ix_rdp h _ _ _ _ _ _ ha.tl e1
        rw [e1] at e
        simp only [List.nil_append, Prod.mk.injEq] at k2 e
        obtain ⟨kn, rfl⟩ := k2
        simp only [List.length_cons] at hB hc
        refine pk_rdp h f s _ ns r B k1 e (by simp only [List.cons_append, List.length_cons, List.length_append]; omega) (by simp) (fun F more hF => ?_)
        simp only [List.cons_append, List.length_cons, List.length_append] at hF
        obtain ⟨G, rfl⟩ : ∃ G, F = G + 1 := ⟨F - 1, by omega⟩
        obtain ⟨c1, c2⟩ := hc G (ms ++ more) (by omega)
        obtain ⟨d1, d2⟩ := k4 G more (by omega)
        have hn : 0 < n := by omega
        have nt : n.toNat = k + 1 := by omega
        have e8 : ⟨8, ac0, n, [], []⟩ :: acc ++ ms ++ more = (⟨8, ac0, n, [], []⟩ : Nod) :: (acc ++ (ms ++ more)) := by simp
        rw [e8]
        refine ⟨?_, ?_⟩
        · simp only [bhS, okN8 hn, c1, nt]
          simp [ac0, d1]
        · have ew : (wrdS (G + 1) ((⟨8, ac0, n, [], []⟩ : Nod) :: (acc ++ (ms ++ more)))).1 = (lfW (wrdS G) (acc ++ (ms ++ more))).1 ++ sgT 7 :: (ixW (wrdS G) k (ms ++ more)).1 := by
            have : (lfW (wrdS G) (acc ++ (ms ++ more))).2 = ms ++ more := wrd_rest c1
            simp [wrdS, this, nt]
          have eb : (lfW (wrdS (G + 1)) ((⟨8, ac0, n, [], []⟩ : Nod) :: (acc ++ (ms ++ more)))).1 = (wrdS (G + 1) ((⟨8, ac0, n, [], []⟩ : Nod) :: (acc ++ (ms ++ more)))).1 := by
            simp [lfW, isFnN, brk]
          rw [eb, ew]
          simp only [List.length_append, List.length_cons]
          omega
    · injection e with e; injection e with e1 e2; subst e1; subst e2
      exact ⟨ha, hB, h0, hc⟩
theorem one_rdt {b : Bool} {n : Nod} {ws : List Tk} (ho : okN n = true) (hop : n.op = 1 ∨ n.op = 2 ∨ n.op = 3 ∨ b = true ∧ (n.op = 4 ∨ n.op = 5)) (hw : ∀ F more, (wrdS (F + 1) (n :: more)).1 = ws) :
    ∀ F more, [n].length < F → bhS F b ([n] ++ more) = some more ∧ (lfW (wrdS F) ([n] ++ more)).1 = ws := by
  intro F more hF
  obtain ⟨pa, _⟩ := okn_plain ho (by omega) (by omega)
  obtain ⟨G, rfl⟩ : ∃ G, F = G + 1 := ⟨F - 1, by omega⟩
  refine ⟨?_, ?_⟩
  · have hb : ¬ (okN n = false ∨ n.op = 9 ∨ b = false ∧ (n.op = 4 ∨ n.op = 5 ∨ n.ac.op = 7)) := by
      rintro (h | h | ⟨h, g⟩)
      · rw [ho] at h; cases h
      · omega
      · have a7 : n.ac.op ≠ 7 := by rw [pa]; decide
        rcases hop with k | k | k | ⟨k, _⟩
        · omega
        · omega
        · omega
        · rw [h] at k; cases k
    simp only [List.singleton_append, bhS]
    rw [if_neg hb, if_neg (by omega), if_neg (by omega)]
  · have : isFnN (n :: more) = false := by
      have h6 : n.op ≠ 6 := by omega
      have h7 : n.op ≠ 7 := by omega
      simp [isFnN, h6, h7]
    simp only [List.singleton_append, lfW, this, brk]
    exact hw G more
theorem nm_alo : ∀ ts : List Tk, Alo ts → Alo (nmP ts).2 ∧ (nmP ts).1.length + (nmP ts).2.length = ts.length
  | [], h => ⟨h, rfl⟩
  | t :: r, h => by
    obtain ⟨h1, h2⟩ := nm_alo r h.tl
    simp only [nmP]
    split
    · exact ⟨h1, by simp only [List.length_cons]; omega⟩
    · exact ⟨h, by simp⟩
theorem at_rdt {E : List Tk → Rp} {b : Bool} (h : Rdp E b) : Rdt (atP E b) b := by
  intro ts ns r ha e
  match ts with
  | [] => cases e
  | t :: q =>
    have one : ∀ {n : Nod} {ws : List Tk}, okN n = true → (n.op = 1 ∨ n.op = 2 ∨ n.op = 3 ∨ b = true ∧ (n.op = 4 ∨ n.op = 5)) → (∀ F more, (wrdS (F + 1) (n :: more)).1 = ws) → ws.length + r.length ≤ (t :: q).length → 0 < ws.length → Alo r →
        Alo r ∧ [n].length + r.length ≤ (t :: q).length ∧ 0 < [n].length ∧ ∀ F more, [n].length < F → bhS F b ([n] ++ more) = some more ∧ (lfW (wrdS F) ([n] ++ more)).1.length + r.length ≤ (t :: q).length := by
      intro n ws ho hop hw hl hp hr
      refine ⟨hr, by simp only [List.length_cons, List.length_nil] at hl ⊢; omega, by simp, fun F more hF => ?_⟩
      obtain ⟨o1, o2⟩ := one_rdt ho hop hw F more hF
      exact ⟨o1, by rw [o2]; exact hl⟩
    simp only [atP] at e
    split at e
    · injection e with e; injection e with e1 e2; subst e1; subst e2
      obtain ⟨n1, n2⟩ := nm_alo q ha.tl
      exact one (ws := (t.num :: (nmP q).1).map nuT) (by simp [okN, txtF, ac0]) (Or.inl rfl) (fun F more => by simp [wrdS]) (by simp only [List.length_map, List.length_cons]; omega) (by simp) n1
    split at e
    · rename_i h2
      injection e with e; injection e with e1 e2; subst e1; subst e2
      exact one (ws := [⟨2, 0, 0, t.text⟩]) (by simp [okN, txtF, ac0, alo_text ha.hd h2 (Or.inl rfl)]) (Or.inr (Or.inl rfl)) (fun F more => by simp [wrdS]) (by simp only [List.length_cons, List.length_nil]; omega) (by simp) ha.tl
    split at e
    · rename_i h3
      injection e with e; injection e with e1 e2; subst e1; subst e2
      exact one (ws := [⟨3, 0, 0, t.text⟩]) (by simp [okN, txtF, ac0, alo_text ha.hd h3 (Or.inr rfl)]) (Or.inr (Or.inr (Or.inl rfl))) (fun F more => by simp [wrdS]) (by simp only [List.length_cons, List.length_nil]; omega) (by simp) ha.tl
    split at e
    · rename_i h18
      injection e with e; injection e with e1 e2; subst e1; subst e2
      exact one (ws := [sgT 18]) (by simp [okN, txtF, ac0]) (Or.inr (Or.inr (Or.inr ⟨h18.2, Or.inl rfl⟩))) (fun F more => by simp [wrdS]) (by simp only [List.length_cons, List.length_nil]; omega) (by simp) ha.tl
    split at e
    · rename_i h19
      injection e with e; injection e with e1 e2; subst e1; subst e2
      exact one (ws := [sgT 19]) (by simp [okN, txtF, ac0]) (Or.inr (Or.inr (Or.inr ⟨h19.2, Or.inr rfl⟩))) (fun F more => by simp [wrdS]) (by simp only [List.length_cons, List.length_nil]; omega) (by simp) ha.tl
    split at e
    · match e1 : E q with
      | .error k => rw [e1] at e; cases e
      | .ok (ms, []) => rw [e1] at e; cases e
      | .ok (ms, u :: s) =>
        obtain ⟨h1, h2, h3, h4⟩ := h _ _ _ ha.tl e1
        rw [e1] at e
        simp only [List.length_cons] at e h2
        split at e
        · injection e with e; injection e with e1 e2; subst e1; subst e2
          refine ⟨h1.tl, by simp only [List.length_cons]; omega, h3, fun F more hF => ?_⟩
          obtain ⟨g1, g2, _⟩ := h4 F more hF
          refine ⟨g1, ?_⟩
          have : (lfW (wrdS F) (ms ++ more)).1.length ≤ (wrdS F (ms ++ more)).1.length + 2 := by
            simp only [lfW, brk]; split <;> simp
          simp only [List.length_cons] at g2 ⊢
          omega
        · cases e
    · cases e
theorem tm_rdt {E : List Tk → Rp} {b : Bool} (h : Rdp E b) : Rdt (tmP E b) b := by
  intro ts ns r ha e
  unfold tmP at e
  match e1 : atP E b ts with
  | .error k => rw [e1] at e; cases e
  | .ok (ms, s) =>
    obtain ⟨h1, h2, h3, h4⟩ := at_rdt h _ _ _ ha e1
    rw [e1] at e
    exact pk_rdp h _ s ms ns r ts.length h1 e h2 h3 h4
end Go.Proofs.YtgjgbgllhbdodaaGreatDoor
/-! Trg: Plain mathematics of trees: what is read is a tree (functions, expressions); a line's tree, its words, and back. -/
namespace Go.Proofs.YtgjgbgllhbdodaaGreatDoor
open Go.Lib
set_option linter.unusedVariables false

/-- What is read as a function is one. -/
def Fdp (b : Bool) (op : Int) (a : Ac) (n : Int) (body : List Nod) (ts r : List Tk) : Prop :=
    Alo r ∧ okN ⟨op, a, n, [], []⟩ = true ∧ ¬ (b = false ∧ a.op = 7) ∧ body.length + r.length < ts.length ∧ (a.op = 0 → slH r = false) ∧
      ∀ F more, body.length < F → fnB (bhS F true) ⟨op, a, n, [], []⟩ (body ++ more) = some more ∧ (fnW (wrdS F) ⟨op, a, n, [], []⟩ (body ++ more)).2 = more ∧
        (fnW (wrdS F) ⟨op, a, n, [], []⟩ (body ++ more)).1.length + r.length ≤ ts.length ∧ 0 < (fnW (wrdS F) ⟨op, a, n, [], []⟩ (body ++ more)).1.length ∧
        (slH (fnW (wrdS F) ⟨op, a, n, [], []⟩ (body ++ more)).1 = true → slH ts = true)
theorem fn_rdp {E : Bool → List Tk → Rp} (h : Rdp (E true) true) {b : Bool} {ts r : List Tk} {a : Ac} {n : Int} {body : List Nod} (ha : Alo ts) (e : fnP E b ts = .ok ((a, n, body), r)) {op : Int} (h67 : op = 6 ∨ op = 7) :
    Fdp b op a n body ts r := by
  have ok0 : ∀ {x f g : Int}, 0 ≤ x → x < 6 → glyF f = true → (x = 4 → glyF g = true) → (x ≠ 4 → g = 0) → okN ⟨op, ⟨x, f, g⟩, 0, [], []⟩ = true := by
    intro x f g x0 x6 hf h4 hg
    have e67 : ¬ (op ≠ 6 ∧ op ≠ 7) := by omega
    by_cases x4 : x = 4
    · rcases h67 with rfl | rfl <;> simp [okN, txtF, x4, hf, h4 x4]
    · rcases h67 with rfl | rfl <;> simp [okN, txtF, x0, show x ≤ 7 by omega, show ¬ 6 ≤ x by omega, x4, hf, hg x4]
  match ts with
  | [] => cases e
  | t :: q =>
    simp only [fnP] at e
    by_cases h4 : t.kind = 4
    · rw [if_pos h4] at e
      have hf := alo_glyph ha.hd h4
      -- what a Glyph begins
      have gl : ∀ {x g : Int} {ws : List Tk} {s : List Tk}, 0 ≤ x → x < 6 → x ≠ 3 → (x = 4 → glyF g = true) → (x ≠ 4 → g = 0) → (x = 0 → slH s = false) → Alo s →
          (∀ F more, (fnW (wrdS F) ⟨op, ⟨x, t.fn, g⟩, 0, [], []⟩ more).1 = glT t.fn :: ws) → ws.length + s.length ≤ q.length → (a, n, body) = (⟨x, t.fn, g⟩, 0, []) → r = s → Fdp b op a n body (t :: q) r := by
        intro x g ws s x0 x6 x3 g4 g0 hs hl hw hlen e1 e2
        obtain ⟨rfl, e3⟩ := Prod.mk.inj e1
        obtain ⟨rfl, rfl⟩ := Prod.mk.inj e3
        subst e2
        refine ⟨hl, ok0 x0 x6 hf g4 g0, fun h => by simp only at h; omega, by simp only [List.length_nil, List.length_cons]; omega, hs, fun F more hF => ⟨?_, ?_, ?_, ?_, ?_⟩⟩
        · unfold fnB; rw [if_neg (by simp only; omega)]; rfl
        · unfold fnW
          simp only [List.nil_append]
          rw [if_neg (by omega), if_neg (by omega)]
          repeat' split
          all_goals rfl
        · rw [hw]; simp only [List.length_cons]; omega
        · rw [hw]; simp
        · rw [hw]; simp only [slH, glT, h4]; exact id
      match q with
      | [] =>
        simp only [glP] at e
        injection e with e; injection e with e1 e2
        exact gl (ws := []) (by decide) (by decide) (by decide) (fun h => absurd h (by decide)) (fun _ => rfl) (fun _ => rfl) ha.tl (fun F more => by simp [fnW]) (by simp) e1.symm e2.symm
      | u :: s =>
        simp only [glP] at e
        split at e
        · injection e with e; injection e with e1 e2
          exact gl (ws := [sgT 13]) (by decide) (by decide) (by decide) (fun h => absurd h (by decide)) (fun _ => rfl) (fun h => absurd h (by decide)) ha.tl.tl (fun F more => by simp [fnW]) (by simp only [List.length_cons, List.length_nil]; omega) e1.symm e2.symm
        split at e
        · injection e with e; injection e with e1 e2
          exact gl (ws := [glT 33]) (by decide) (by decide) (by decide) (fun h => absurd h (by decide)) (fun _ => rfl) (fun h => absurd h (by decide)) ha.tl.tl (fun F more => by simp [fnW]) (by simp only [List.length_cons, List.length_nil]; omega) e1.symm e2.symm
        split at e
        · injection e with e; injection e with e1 e2
          exact gl (ws := [glT 34]) (by decide) (by decide) (by decide) (fun h => absurd h (by decide)) (fun _ => rfl) (fun h => absurd h (by decide)) ha.tl.tl (fun F more => by simp [fnW]) (by simp only [List.length_cons, List.length_nil]; omega) e1.symm e2.symm
        rename_i n13 n33 n34
        split at e
        · match s with
          | [] => cases e
          | v :: p =>
            simp only [] at e
            split at e
            · rename_i k4
              injection e with e; injection e with e1 e2
              exact gl (ws := [sgT 12, glT v.fn]) (by decide) (by decide) (by decide) (fun _ => alo_glyph ha.tl.tl.hd k4) (fun h => absurd rfl h) (fun h => absurd h (by decide)) ha.tl.tl.tl (fun F more => by simp [fnW]) (by simp only [List.length_cons, List.length_nil]; omega) e1.symm e2.symm
            · cases e
        · injection e with e; injection e with e1 e2
          refine gl (ws := []) (by decide) (by decide) (by decide) (fun h => absurd h (by decide)) (fun _ => rfl) (fun _ => ?_) ha.tl (fun F more => by simp [fnW]) (by simp) e1.symm e2.symm
          cases g : slH (u :: s) with
          | false => rfl
          | true =>
            simp only [slH, Bool.and_eq_true, Bool.or_eq_true, decide_eq_true_eq] at g
            rcases g with ⟨g4, g | g⟩
            · exact absurd ⟨g4, g⟩ n33
            · exact absurd ⟨g4, g⟩ n34
    rw [if_neg h4] at e
    by_cases h11 : t.kind = 11
    · rw [if_pos h11] at e
      match q with
      | [] => cases e
      | u :: s =>
        simp only [otP] at e
        split at e
        · match s with
          | [] => cases e
          | v :: p =>
            simp only [] at e
            split at e
            · rename_i k4
              injection e with e; injection e with e1 e2
              obtain ⟨rfl, e3⟩ := Prod.mk.inj e1
              obtain ⟨rfl, rfl⟩ := Prod.mk.inj e3
              subst e2
              refine ⟨ha.tl.tl.tl, ok0 (by decide) (by decide) (alo_glyph ha.tl.tl.hd k4) (fun h => absurd h (by decide)) (fun _ => rfl), fun h => absurd h.2 (by simp), by simp only [List.length_nil, List.length_cons]; omega, fun h => absurd h (by simp), fun F more hF => ?_⟩
              have ew : (fnW (wrdS F) ⟨op, ⟨3, v.fn, 0⟩, 0, [], []⟩ ([] ++ more)).1 = [sgT 11, sgT 12, glT v.fn] := by simp [fnW]
              exact ⟨rfl, rfl, by rw [ew]; simp only [List.length_cons, List.length_nil]; omega, by rw [ew]; simp, by rw [ew]; simp [slH, sgT]⟩
            · cases e
        · cases e
    rw [if_neg h11] at e
    by_cases h20 : t.kind = 20 ∧ b = true
    · rw [if_pos h20] at e
      injection e with e; injection e with e1 e2
      obtain ⟨rfl, e3⟩ := Prod.mk.inj e1
      obtain ⟨rfl, rfl⟩ := Prod.mk.inj e3
      subst e2
      refine ⟨ha.tl, by rcases h67 with rfl | rfl <;> simp [okN, txtF], fun h => by rw [h20.2] at h; exact absurd h.1 (by decide), by simp, fun h => absurd h (by decide), fun F more hF => ?_⟩
      exact ⟨rfl, rfl, by simp only [fnW, if_true, List.length_cons, List.length_nil]; omega, by simp [fnW], by simp [fnW, slH, sgT]⟩
    rw [if_neg h20] at e
    by_cases h14 : t.kind = 14
    · rw [if_pos h14] at e
      obtain ⟨k1, k, seg, k2, k3, k4⟩ := bd_rdp h _ _ _ _ _ _ ha.tl e
      simp only [List.nil_append, Prod.mk.injEq] at k2
      obtain ⟨rfl, kn, rfl⟩ := k2
      have hn : n = (k : Int) := by omega
      subst hn
      refine ⟨k1, ?_, fun h => absurd h.2 (by decide), by simp only [List.length_cons]; omega, fun h => absurd h (by decide), fun F more hF => ?_⟩
      · have : 0 ≤ (k : Int) := by omega
        rcases h67 with rfl | rfl <;> simp [okN, txtF]
      · obtain ⟨g1, g2⟩ := k4 F more hF
        have g3 := (bd_prd (prd_all F) _ _ _ g1).choose_spec.2.1
        refine ⟨by simpa [fnB] using g1, by simpa [fnW] using g3, ?_, by simp [fnW], by simp [fnW, slH, sgT]⟩
        simp only [fnW, Int.toNat_natCast]
        rw [if_neg (by decide), if_pos trivial]
        simp only [List.length_cons]; omega
    · rw [if_neg h14] at e; cases e
theorem slH_app {g : List Tk} (h : 0 < g.length) (v : List Tk) : slH (g ++ v) = slH g := by
  match g, h with
  | t :: q, _ => rfl
/-- A function and what stands behind it. -/
theorem ag_rdp {E : Bool → List Tk → Rp} {b : Bool} (hT : Rdp (E true) true) (hE : Rdp (E b) b) {op : Int} (h67 : op = 6 ∨ op = 7) {ms ns : List Nod} {ts r : List Tk} (ha : Alo ts) (e : agP E b op ms ts = .ok (ns, r)) :
    Alo r ∧ ∃ (nd : Nod) (body seg : List Nod), ns = nd :: ms ++ body ++ seg ∧ nd.op = op ∧ okN nd = true ∧ ¬ (b = false ∧ nd.ac.op = 7) ∧ body.length + seg.length + 1 + r.length ≤ ts.length ∧
      ∀ F more, body.length + seg.length < F → fnB (bhS F true) nd (body ++ (seg ++ more)) = some (seg ++ more) ∧ bhS F b (seg ++ more) = some more ∧
        (fnW (wrdS F) nd (body ++ (seg ++ more))).2 = seg ++ more ∧ 0 < (fnW (wrdS F) nd (body ++ (seg ++ more))).1.length ∧ (slH (fnW (wrdS F) nd (body ++ (seg ++ more))).1 = true → slH ts = true) ∧
        (fnW (wrdS F) nd (body ++ (seg ++ more))).1.length + (brk (decide (nd.ac.op = 0) && slH (wrdS F (seg ++ more)).1) (wrdS F (seg ++ more)).1).length + r.length ≤ ts.length := by
  unfold agP at e
  match e1 : fnP E b ts with
  | .error k => rw [e1] at e; cases e
  | .ok ((a, n, body), q) =>
    obtain ⟨f1, f2, f3, f4, f5, f6⟩ := fn_rdp hT ha e1 h67
    rw [e1] at e
    simp only [] at e
    match e2 : E b q with
    | .error k => rw [e2] at e; cases e
    | .ok (us, s) =>
      obtain ⟨g1, g2, g3, g4⟩ := hE _ _ _ f1 e2
      rw [e2] at e
      injection e with e; injection e with ex er
      subst er
      refine ⟨g1, ⟨op, a, n, [], []⟩, body, us, ex.symm, rfl, f2, f3, by omega, fun F more hF => ?_⟩
      obtain ⟨p1, p2, p3, p4, p5⟩ := f6 F (us ++ more) (by omega)
      obtain ⟨q1, q2, q3⟩ := g4 F more (by omega)
      refine ⟨p1, q1, p2, p4, p5, ?_⟩
      match gm : decide (a.op = 0) && slH (wrdS F (us ++ more)).1 with
      | false => simp only [brk, Bool.false_eq_true, if_false]; omega
      | true =>
        simp only [Bool.and_eq_true, decide_eq_true_eq] at gm
        simp only [brk, if_true, List.length_cons, List.length_append, List.length_nil]
        rcases q3 gm.2 with k | k
        · rw [f5 gm.1] at k; cases k
        · omega
theorem tmc_slH {b : Bool} {us : List Tk} {seg : List Nod} (h : Tmc b us seg) : slH us = false := by
  obtain ⟨F, h⟩ := h
  have := (h F (Nat.le_refl _) [] trivial).1
  rw [List.append_nil] at this
  match us with
  | [] => rfl
  | t :: q =>
    simp only [hfn, fnK, Bool.or_eq_false_iff, decide_eq_false_iff_not] at this
    simp only [slH, Bool.and_eq_false_iff, decide_eq_false_iff_not]
    exact Or.inl this.1.1.1
theorem lf_slH {f : Nat} {b : Bool} {ts rest : List Nod} (e : bhS f b ts = some rest) : slH (lfW (wrdS f) ts).1 = false := by
  obtain ⟨seg, _, _, h⟩ := lf_prd (prd_all f) e
  exact tmc_slH h
theorem lf_pos {f : Nat} {b : Bool} {ts rest : List Nod} (e : bhS f b ts = some rest) : 0 < (lfW (wrdS f) ts).1.length := by
  obtain ⟨seg, _, _, h⟩ := lf_prd (prd_all f) e
  obtain ⟨t, q, h, _⟩ := h.exc.head
  rw [h]; simp
theorem ex_rdp : ∀ (f : Nat) (b : Bool), Rdp (exP f b) b
  | 0, b => fun ts ns r _ e => by cases e
  | f + 1, b => fun ts ns r ha e => by
    have hT := ex_rdp f true
    have hE := ex_rdp f b
    simp only [exP] at e
    by_cases hh : hfn ts = true
    · rw [if_pos hh] at e
      obtain ⟨a1, nd, body, seg, rfl, a3, a4, a5, a6, a7⟩ := ag_rdp hT hE (Or.inl rfl) ha e
      refine ⟨a1, by simp only [List.cons_append, List.nil_append, List.length_cons, List.length_append]; omega, by simp, fun F more hF => ?_⟩
      simp only [List.cons_append, List.nil_append, List.length_cons, List.length_append] at hF
      obtain ⟨G, rfl⟩ : ∃ G, F = G + 1 := ⟨F - 1, by omega⟩
      obtain ⟨p1, p2, p3, p4, p5, p6⟩ := a7 G more (by omega)
      have e0 : nd :: [] ++ body ++ seg ++ more = nd :: (body ++ (seg ++ more)) := by simp
      have hb : ¬ (okN nd = false ∨ nd.op = 9 ∨ b = false ∧ (nd.op = 4 ∨ nd.op = 5 ∨ nd.ac.op = 7)) := by
        rintro (h | h | ⟨h, g | g | g⟩)
        · rw [a4] at h; cases h
        · omega
        · omega
        · omega
        · exact a5 ⟨h, g⟩
      have ew : (wrdS (G + 1) (nd :: (body ++ (seg ++ more)))).1 = (fnW (wrdS G) nd (body ++ (seg ++ more))).1 ++ brk (decide (nd.ac.op = 0) && slH (wrdS G (seg ++ more)).1) (wrdS G (seg ++ more)).1 := by
        simp only [wrdS]
        rw [if_neg (by omega), if_neg (by omega), if_neg (by omega), if_neg (by omega), if_neg (by omega), if_neg (by omega), if_neg (by omega)]
        simp only [p3, List.nil_append]
      rw [e0]
      refine ⟨?_, ?_, ?_⟩
      · simp only [bhS]
        rw [if_neg hb, if_neg (by omega), if_pos (Or.inl a3), if_neg (by omega)]
        simp only [p1, p2]
      · rw [ew, List.length_append]; omega
      · rw [ew, slH_app p4]
        exact fun h => Or.inl (p5 h)
    · rw [if_neg hh] at e
      match e1 : tmP (exP f b) b ts with
      | .error k => rw [e1] at e; cases e
      | .ok (ms, q) =>
        obtain ⟨t1, t2, t3, t4⟩ := tm_rdt hE _ _ _ ha e1
        rw [e1] at e
        simp only [] at e
        by_cases hq : hfn q = true
        · rw [if_pos hq] at e
          obtain ⟨a1, nd, body, seg, rfl, a3, a4, a5, a6, a7⟩ := ag_rdp hT hE (Or.inr rfl) t1 e
          refine ⟨a1, by simp only [List.cons_append, List.length_cons, List.length_append]; omega, by simp, fun F more hF => ?_⟩
          simp only [List.cons_append, List.length_cons, List.length_append] at hF
          obtain ⟨G, rfl⟩ : ∃ G, F = G + 1 := ⟨F - 1, by omega⟩
          obtain ⟨p1, p2, p3, p4, p5, p6⟩ := a7 G more (by omega)
          obtain ⟨u1, u2⟩ := t4 G (body ++ (seg ++ more)) (by omega)
          have ur : (lfW (wrdS G) (ms ++ (body ++ (seg ++ more)))).2 = body ++ (seg ++ more) := wrd_rest u1
          have e0 : nd :: ms ++ body ++ seg ++ more = nd :: (ms ++ (body ++ (seg ++ more))) := by simp
          have hb : ¬ (okN nd = false ∨ nd.op = 9 ∨ b = false ∧ (nd.op = 4 ∨ nd.op = 5 ∨ nd.ac.op = 7)) := by
            rintro (h | h | ⟨h, g | g | g⟩)
            · rw [a4] at h; cases h
            · omega
            · omega
            · omega
            · exact a5 ⟨h, g⟩
          have ew : (wrdS (G + 1) (nd :: (ms ++ (body ++ (seg ++ more))))).1 = (lfW (wrdS G) (ms ++ (body ++ (seg ++ more)))).1 ++ ((fnW (wrdS G) nd (body ++ (seg ++ more))).1 ++ brk (decide (nd.ac.op = 0) && slH (wrdS G (seg ++ more)).1) (wrdS G (seg ++ more)).1) := by
            simp only [wrdS]
            rw [if_neg (by omega), if_neg (by omega), if_neg (by omega), if_neg (by omega), if_neg (by omega), if_neg (by omega), if_pos a3]
            simp only [ur, p3]
          rw [e0]
          refine ⟨?_, ?_, ?_⟩
          · simp only [bhS]
            rw [if_neg hb, if_neg (by omega), if_pos (Or.inr a3), if_pos a3]
            simp only [u1, p1, p2]
          · rw [ew, List.length_append, List.length_append]; omega
          · rw [ew, slH_app (lf_pos u1), lf_slH u1]
            intro h; cases h
        · rw [if_neg hq] at e
          injection e with e; injection e with ex er
          subst ex; subst er
          refine ⟨t1, t2, t3, fun F more hF => ?_⟩
          obtain ⟨u1, u2⟩ := t4 F more hF
          refine ⟨u1, ?_, fun hs => Or.inr ?_⟩
          · have : (wrdS F (ms ++ more)).1.length ≤ (lfW (wrdS F) (ms ++ more)).1.length := by
              simp only [lfW, brk]; split
              · simp only [List.length_cons, List.length_append]; omega
              · exact Nat.le_refl _
            omega
          · have S := lf_slH u1
            match g : isFnN (ms ++ more) with
            | false => simp only [lfW, g, brk, Bool.false_eq_true, if_false] at S; rw [hs] at S; cases S
            | true => simp only [lfW, g, brk, if_true, List.length_cons, List.length_append, List.length_nil] at u2; omega
end Go.Proofs.YtgjgbgllhbdodaaGreatDoor
/-! Trh: Plain mathematics of trees: what Parse, Check and Print tell; back and again. -/
namespace Go.Proofs.YtgjgbgllhbdodaaGreatDoor
open Go.Lib
set_option linter.unusedVariables false

/-- The first word that cannot be spelt. -/
def badW : List Tk → Nat → Option (Nat × Int)
  | [], _ => none
  | t :: r, i => if aloF t = 0 then badW r (i + 1) else some (i, aloF t)
/-- The tree of words, or where and what is wrong. -/
def parS (ts : List Tk) : Except (Nat × Int) (List Nod) :=
  if 200 < ts.length then .error (0, 7)
  else
    match badW ts 0 with
    | some x => .error x
    | none =>
      match lnP ts with
      | .error i => .error (i, 1)
      | .ok ns => .ok ns
def endB : Option (List Nod) → Bool
  | some [] => true
  | _ => false
/-- They are a line's tree. -/
def isT : List Nod → Bool
  | [] => false
  | n :: r => if n.op = 9 then okN n && endB (bhS (r.length + 1) false r) else endB (bhS (r.length + 2) false (n :: r))
def treF (t : List Nod) : Int := if 400 < t.length then 7 else if isT t = true then 0 else 1
def wordsS : List Nod → List Tk
  | [] => []
  | n :: r => if n.op = 9 then ⟨3, 0, 0, n.text⟩ :: sgT 10 :: (wrdS (r.length + 1) r).1 else (wrdS (r.length + 2) (n :: r)).1
def prtS (t : List Nod) : Except Int (List Tk) := if treF t ≠ 0 then .error (treF t) else if 200 < (wordsS t).length then .error 7 else .ok (wordsS t)

theorem bad_alo : ∀ (ts : List Tk) (i : Nat), Alo ts → badW ts i = none
  | [], i, _ => rfl
  | t :: r, i, h => by
    simp only [badW, h.hd, if_true]
    exact bad_alo r (i + 1) h.tl
theorem bad_none : ∀ (ts : List Tk) (i : Nat), badW ts i = none → Alo ts
  | [], i, _ => fun t h => by cases h
  | t :: r, i, h => by
    simp only [badW] at h
    split at h
    · rename_i g
      intro u hu
      rcases List.mem_cons.mp hu with rfl | hu
      · exact g
      · exact bad_none r (i + 1) h u hu
    · cases h
theorem endB_some {x : Option (List Nod)} (h : endB x = true) : x = some [] := by
  match x, h with
  | some [], _ => rfl
/-- There is room enough to read. -/
theorem ex_full {G : Nat} {ts : List Tk} {ns : List Nod} (h : exP G false ts = .ok (ns, [])) : exP (ts.length + 1) false ts = .ok (ns, []) := by
  have up : ∀ {f F : Nat} {ms : List Nod} {r : List Tk}, f ≤ F → exP f false ts = .ok (ms, r) → exP F false ts = .ok (ms, r) := by
    intro f F ms r hf e
    have := ex_ext (vs := []) trivial f F hf false _ _ _ e
    simpa using this
  have e1 := up (F := G + (ts.length + 1)) (by omega) h
  have T1 := ex_tel (G + (ts.length + 1)) false ts [] (by omega) rfl
  rw [e1] at T1
  obtain ⟨_, w, hw, hx, _⟩ := T1
  have hx : runH 1 [] ts = .ok (w, []) := hx
  have T2 := ex_tel (ts.length + 1) false ts [] (by omega) rfl
  match e2 : exP (ts.length + 1) false ts with
  | .error 0 =>
    rw [e2] at T2
    obtain ⟨w', o', k, k2⟩ := T2
    rw [hx] at k
    injection k with k; injection k with ka kb
    subst ka; subst kb
    simp only [List.length_nil] at k2
    omega
  | .error (k + 1) =>
    rw [e2] at T2
    have T2 : runH 1 [] ts = .error (k + 1) := T2
    rw [hx] at T2; cases T2
  | .ok (ms, r) =>
    have e3 := up (F := G + (ts.length + 1)) (by omega) e2
    rw [e1] at e3
    injection e3 with e3; injection e3 with ea eb
    rw [ea, eb]
/-- What begins as what gets a name is no expression. -/
theorem ar_ex {ts : List Tk} (h : isAr ts = true) (f : Nat) (b : Bool) (ns : List Nod) : exP f b ts ≠ .ok (ns, []) := by
  match ts, h with
  | t :: u :: q, h =>
    simp only [isAr, Bool.and_eq_true, decide_eq_true_eq] at h
    obtain ⟨h3, h10⟩ := h
    match f with
    | 0 => intro e; cases e
    | f + 1 =>
      have hf : hfn (t :: u :: q) = false := by simp [hfn, fnK, h3]
      have ha : atP (exP f b) b (t :: u :: q) = .ok ([⟨3, ac0, 0, [], t.text⟩], u :: q) := by simp [atP, h3]
      have ht : tmP (exP f b) b (t :: u :: q) = .ok ([⟨3, ac0, 0, [], t.text⟩], u :: q) := by
        rw [tm_at ha]; simp only [pksP, List.length_cons]; rw [if_neg (by omega)]
      rw [ex_tm hf ht (by simp [hfn, fnK, h10])]
      intro e; injection e with e; injection e with _ e; cases e
theorem okn_set {n : Nod} (h : okN n = true) (h9 : n.op = 9) : n = ⟨9, ac0, 0, [], n.text⟩ := by
  obtain ⟨pa, pn, _, pu, _⟩ := okn_plain h (by omega) (by omega)
  obtain ⟨op, ac, m, nums, text⟩ := n
  simp only at pa pn pu h9
  rw [pa, pn (by omega), pu (by omega), h9]
/-- The words of a tree have it. -/
theorem back_ln {t : List Nod} (h : isT t = true) : lnP (wordsS t) = .ok t := by
  match t, h with
  | n :: r, h =>
    simp only [isT] at h
    by_cases h9 : n.op = 9
    · rw [if_pos h9] at h
      simp only [Bool.and_eq_true] at h
      obtain ⟨seg, e1, _, ⟨F, e2⟩, _⟩ := prd_all _ _ _ _ (endB_some h.2)
      rw [List.append_nil] at e1; subst e1
      have e3 := e2 F (Nat.le_refl _) [] trivial
      rw [List.append_nil] at e3
      have e4 := ex_full e3
      have ew : wordsS (n :: r) = ⟨3, 0, 0, n.text⟩ :: sgT 10 :: (wrdS (r.length + 1) r).1 := by simp only [wordsS, if_pos h9]
      have ex : exprW (wordsS (n :: r)) = (wrdS (r.length + 1) r).1 := by rw [ew]; rfl
      unfold lnP
      rw [ex, e4]
      simp only []
      rw [ew]
      show Except.ok (⟨9, ac0, 0, [], n.text⟩ :: r) = _
      rw [← okn_set h.1 h9]
    · rw [if_neg h9] at h
      obtain ⟨seg, e1, _, ⟨F, e2⟩, _⟩ := prd_all _ _ _ _ (endB_some h)
      rw [List.append_nil] at e1; subst e1
      have e3 := e2 F (Nat.le_refl _) [] trivial
      rw [List.append_nil] at e3
      have e4 := ex_full e3
      have ew : wordsS (n :: r) = (wrdS (r.length + 2) (n :: r)).1 := by simp only [wordsS, if_neg h9]
      rw [ew]
      have na : isAr (wrdS (r.length + 2) (n :: r)).1 = false := by
        match g : isAr (wrdS (r.length + 2) (n :: r)).1 with
        | false => rfl
        | true => exact absurd e4 (ar_ex g _ _ _)
      unfold lnP exprW
      rw [na]
      simp only [Bool.false_eq_true, if_false]
      have e5 : exP ((wrdS (r.length + 2) (n :: r)).1.length + 1) false (wrdS (r.length + 2) (n :: r)).1 = .ok (n :: r, []) := e4
      rw [e5]
      simp only [setN]
      match g : (wrdS (r.length + 2) (n :: r)).1 with
      | [] => rfl
      | t :: q => rw [g] at na; simp only [na, Bool.false_eq_true, if_false]
theorem alo_words {t : List Nod} (h : isT t = true) (hr : ∀ n ∈ t, ∀ x ∈ n.nums, InR x) : Alo (wordsS t) := by
  match t, h with
  | n :: r, h =>
    simp only [isT] at h
    by_cases h9 : n.op = 9
    · rw [if_pos h9] at h
      simp only [Bool.and_eq_true] at h
      have A := alo_wrd (endB_some h.2) (fun m hm => hr m (List.mem_cons_of_mem _ hm))
      simp only [wordsS, if_pos h9]
      intro u hu
      rcases List.mem_cons.mp hu with rfl | hu
      · have := okn_txt h.1
        unfold txtF at this
        rwa [if_pos (Or.inr h9)] at this
      rcases List.mem_cons.mp hu with rfl | hu
      · exact alo_sg 10 (by omega) (by omega)
      · exact A u hu
    · rw [if_neg h9] at h
      have A := alo_wrd (endB_some h) hr
      simp only [wordsS, if_neg h9]
      exact A
/-- WHAT IS PRINTED IS READ. -/
theorem back18 {t : List Nod} {ws : List Tk} (hr : ∀ n ∈ t, ∀ x ∈ n.nums, InR x) (h : prtS t = .ok ws) : parS ws = .ok t := by
  unfold prtS at h
  by_cases h0 : treF t ≠ 0
  · rw [if_pos h0] at h; cases h
  rw [if_neg h0] at h
  by_cases h2 : 200 < (wordsS t).length
  · rw [if_pos h2] at h; cases h
  rw [if_neg h2] at h
  injection h with h; subst h
  have hT : isT t = true := by
    unfold treF at h0
    by_cases h4 : 400 < t.length
    · rw [if_pos h4] at h0; exact absurd (by decide) h0
    · rw [if_neg h4] at h0
      by_cases g : isT t = true
      · exact g
      · rw [if_neg g] at h0; exact absurd (by decide) h0
  unfold parS
  rw [if_neg h2, bad_alo _ 0 (alo_words hT hr), back_ln hT]
theorem alo_expr {ts : List Tk} (h : Alo ts) : Alo (exprW ts) := by
  unfold exprW
  split
  · exact fun t ht => h t (List.mem_of_mem_drop ht)
  · exact h
/-- What is read is a tree, and its words are no more than those. -/
theorem tree_ln {ts : List Tk} {t : List Nod} (ha : Alo ts) (h : lnP ts = .ok t) : isT t = true ∧ (wordsS t).length ≤ ts.length ∧ t.length ≤ ts.length := by
  unfold lnP at h
  match e : exP ((exprW ts).length + 1) false (exprW ts) with
  | .error k => rw [e] at h; cases h
  | .ok (ns, u :: q) => rw [e] at h; cases h
  | .ok (ns, []) =>
    rw [e] at h
    injection h with h
    obtain ⟨_, h2, h3, h4⟩ := ex_rdp _ _ _ _ _ (alo_expr ha) e
    simp only [List.length_nil, Nat.add_zero] at h2 h4
    by_cases hA : isAr ts = true
    · match ts, hA with
      | t0 :: u :: q, hA =>
        have k3 : t0.kind = 3 := by
          simp only [isAr, Bool.and_eq_true, decide_eq_true_eq] at hA
          exact hA.1
        have ew : exprW (t0 :: u :: q) = q := by unfold exprW; rw [if_pos hA]; rfl
        rw [ew] at h2 h4 e
        simp only [setN, if_pos hA] at h
        subst h
        obtain ⟨g1, g2, _⟩ := h4 (ns.length + 1) [] (by omega)
        rw [List.append_nil] at g1 g2
        have ho : okN ⟨9, ac0, 0, [], t0.text⟩ = true := by
          have := alo_text ha.hd k3 (Or.inr rfl)
          simp [okN, txtF, ac0, this]
        refine ⟨?_, ?_, by simp only [List.length_cons]; omega⟩
        · simp only [isT, if_true, ho, g1, endB, Bool.and_self]
        · simp only [wordsS, if_true, List.length_cons]; omega
    · have ew : exprW ts = ts := by unfold exprW; rw [if_neg hA]
      rw [ew] at h2 h4 e
      have hs : setN ts ns = ns := by
        unfold setN
        split
        · rfl
        · rw [if_neg hA]
      rw [hs] at h
      subst h
      match ns, h3 with
      | n :: r, _ =>
        obtain ⟨g1, g2, _⟩ := h4 (r.length + 2) [] (by simp)
        rw [List.append_nil] at g1 g2
        have h9 : n.op ≠ 9 := by
          intro k
          simp only [bhS, k] at g1
          simp at g1
        refine ⟨?_, ?_, h2⟩
        · simp only [isT, if_neg h9, g1, endB]
        · simp only [wordsS, if_neg h9]; exact g2
/-- WHAT IS READ IS A TREE. -/
theorem again18 {ts : List Tk} {t : List Nod} (h : parS ts = .ok t) : treF t = 0 ∧ prtS t = .ok (wordsS t) ∧ (wordsS t).length ≤ ts.length ∧ Alo ts ∧ ts.length ≤ 200 := by
  unfold parS at h
  by_cases h2 : 200 < ts.length
  · rw [if_pos h2] at h; cases h
  rw [if_neg h2] at h
  match e : badW ts 0 with
  | some x => rw [e] at h; cases h
  | none =>
    rw [e] at h
    simp only [] at h
    match e2 : lnP ts with
    | .error i => rw [e2] at h; cases h
    | .ok ns =>
      rw [e2] at h
      injection h with h; subst h
      have ha := bad_none ts 0 e
      obtain ⟨h3, h4, h5⟩ := tree_ln ha e2
      have h0 : treF ns = 0 := by unfold treF; rw [if_neg (by omega), if_pos h3]
      refine ⟨h0, ?_, h4, ha, by omega⟩
      unfold prtS
      rw [if_neg (by rw [h0]; decide), if_neg (by omega)]
end Go.Proofs.YtgjgbgllhbdodaaGreatDoor
/-! Tri: Plain mathematics of trees: brackets, and where words are cut, as the reference looks for them. -/
namespace Go.Proofs.YtgjgbgllhbdodaaGreatDoor
open Go.Lib
set_option linter.unusedVariables false

def opK (k : Int) : Bool := decide (k = 5) || decide (k = 7) || decide (k = 14)
def clK (k : Int) : Bool := decide (k = 6) || decide (k = 8) || decide (k = 15)
def dpK (k : Int) : Int := if opK k = true then 1 else if clK k = true then -1 else 0
/-- So many words to where the brackets ahead are closed. -/
def pstN : Int → List Tk → Nat
  | _, [] => 0
  | d, t :: r => if d + dpK t.kind = 0 then 1 else 1 + pstN (d + dpK t.kind) r
/-- Where words are cut: those of two kinds that stand in no inner bracket. -/
def splN (one two : Int) : Nat → Nat → List Tk → Nat → List Nat
  | 0, _, _, _ => []
  | f + 1, 0, _, _ => []
  | f + 1, k + 1, [], _ => []
  | f + 1, k + 1, t :: r, i =>
    if opK t.kind = true then splN one two f (k + 1 - pstN 0 (t :: r)) ((t :: r).drop (pstN 0 (t :: r))) (i + pstN 0 (t :: r))
    else if t.kind = one ∨ t.kind = two then i :: splN one two f k r (i + 1)
    else splN one two f k r (i + 1)
/-- Brackets are closed in it. -/
def Bal (seg : List Tk) : Prop := ∀ (d : Int) (more : List Tk), 1 ≤ d → pstN d (seg ++ more) = seg.length + pstN d more
def cutK (k : Int) : Prop := k = 9 ∨ k = 16 ∨ k = 17
/-- And it is not cut. -/
def Cls (seg : List Tk) : Prop := Bal seg ∧ ∀ (one two : Int) (f k : Nat) (more : List Tk) (i : Nat), cutK one → cutK two → seg.length ≤ k → seg.length ≤ f →
  ∃ g, f ≤ g + seg.length ∧ splN one two f k (seg ++ more) i = splN one two g (k - seg.length) more (i + seg.length)
theorem bal_nil : Bal [] := fun d more _ => by simp
theorem bal_app {a b : List Tk} (ha : Bal a) (hb : Bal b) : Bal (a ++ b) := fun d more hd => by
  rw [List.append_assoc, ha d _ hd, hb d _ hd, List.length_append]; omega
theorem bal_one {t : Tk} (h : dpK t.kind = 0) : Bal [t] := fun d more hd => by
  simp only [List.singleton_append, pstN, h]
  rw [if_neg (by omega)]
  simp
theorem pst_grp {o c : Tk} {seg : List Tk} (ho : opK o.kind = true) (hc : clK c.kind = true) (hs : Bal seg) {d : Int} (hd : 0 ≤ d) (more : List Tk) :
    pstN d (o :: (seg ++ c :: more)) = if d = 0 then seg.length + 2 else seg.length + 2 + pstN d more := by
  have h1 : dpK o.kind = 1 := by simp [dpK, ho]
  have h2 : dpK c.kind = -1 := by
    have : opK c.kind = false := by
      simp only [clK, Bool.or_eq_true, decide_eq_true_eq] at hc
      simp only [opK, Bool.or_eq_false_iff, decide_eq_false_iff_not]; omega
    simp [dpK, hc, this]
  simp only [pstN, h1]
  rw [if_neg (by omega), hs _ _ (by omega)]
  simp only [pstN, h2]
  rw [show d + 1 + -1 = d by omega]
  split <;> omega
theorem bal_grp {o c : Tk} {seg : List Tk} (ho : opK o.kind = true) (hc : clK c.kind = true) (hs : Bal seg) : Bal (o :: (seg ++ [c])) := fun d more hd => by
  have := pst_grp ho hc hs (d := d) (by omega) more
  simp only [List.cons_append, List.append_assoc, List.nil_append, List.length_cons, List.length_append, List.length_nil]
  rw [this, if_neg (by omega)]
theorem cls_nil : Cls [] := ⟨bal_nil, fun one two f k more i _ _ _ _ => ⟨f, by simp, by simp⟩⟩
theorem cls_app {a b : List Tk} (ha : Cls a) (hb : Cls b) : Cls (a ++ b) := by
  refine ⟨bal_app ha.1 hb.1, fun one two f k more i c1 c2 hk hf => ?_⟩
  simp only [List.length_append] at hk hf
  obtain ⟨g, g1, g2⟩ := ha.2 one two f k (b ++ more) i c1 c2 (by omega) (by omega)
  obtain ⟨p, p1, p2⟩ := hb.2 one two g (k - a.length) more (i + a.length) c1 c2 (by omega) (by omega)
  refine ⟨p, by simp only [List.length_append]; omega, ?_⟩
  rw [List.append_assoc, g2, p2]
  simp only [List.length_append]
  congr 1 <;> omega
theorem cls_one {t : Tk} (h : dpK t.kind = 0) (hc : ¬ cutK t.kind) : Cls [t] := by
  refine ⟨bal_one h, fun one two f k more i c1 c2 hk hf => ?_⟩
  simp only [List.length_cons, List.length_nil] at hk hf
  obtain ⟨g, rfl⟩ : ∃ g, f = g + 1 := ⟨f - 1, by omega⟩
  obtain ⟨m, rfl⟩ : ∃ m, k = m + 1 := ⟨k - 1, by omega⟩
  refine ⟨g, by simp, ?_⟩
  have ho : ¬ opK t.kind = true := by
    intro ho; simp only [dpK, ho, if_true] at h; omega
  have h1 : ¬ (t.kind = one ∨ t.kind = two) := by
    rintro (e | e)
    · rw [← e] at c1; exact hc c1
    · rw [← e] at c2; exact hc c2
  simp only [List.singleton_append, splN, if_neg ho, if_neg h1, List.length_cons, List.length_nil, Nat.add_sub_cancel, Nat.zero_add]
theorem cls_grp {o c : Tk} {seg : List Tk} (ho : opK o.kind = true) (hc : clK c.kind = true) (hs : Bal seg) : Cls (o :: (seg ++ [c])) := by
  refine ⟨bal_grp ho hc hs, fun one two f k more i c1 c2 hk hf => ?_⟩
  simp only [List.length_cons, List.length_append, List.length_nil] at hk hf
  obtain ⟨g, rfl⟩ : ∃ g, f = g + 1 := ⟨f - 1, by omega⟩
  obtain ⟨m, rfl⟩ : ∃ m, k = m + 1 := ⟨k - 1, by omega⟩
  have hp := pst_grp ho hc hs (d := 0) (by omega) more
  rw [if_pos rfl] at hp
  have e : o :: (seg ++ [c]) ++ more = o :: (seg ++ c :: more) := by simp
  refine ⟨g, by simp, ?_⟩
  rw [e]
  simp only [splN, if_pos ho, hp]
  have ed : (o :: (seg ++ c :: more)).drop (seg.length + 2) = more := by
    rw [← e, show seg.length + 2 = (o :: (seg ++ [c])).length by simp, List.drop_left]
  rw [ed]
  simp only [List.length_cons, List.length_append, List.length_nil, Nat.zero_add]

/-- What it reads of words is closed, and not cut. -/
def Ecl (E : List Tk → Rp) : Prop := ∀ ts ns r, E ts = .ok (ns, r) → ∃ seg, ts = seg ++ r ∧ seg ≠ [] ∧ Cls seg
/-- Expressions, a word between each two, and one behind them. -/
def Parts (C : Int → Prop) (E : List Tk → Rp) : List Tk → List (List Tk × List Nod) → List Tk → Prop
  | _, [], _ => False
  | ts, [x], r => ∃ t, E ts = .ok (x.2, t :: r) ∧ ts = x.1 ++ t :: r ∧ Cls x.1 ∧ clK t.kind = true
  | ts, x :: y :: xs, r => ∃ t q, E ts = .ok (x.2, t :: q) ∧ ts = x.1 ++ t :: q ∧ Cls x.1 ∧ C t.kind ∧ Parts C E q (y :: xs) r
theorem parts_cons {C : Int → Prop} {E : List Tk → Rp} {x : List Tk × List Nod} {ts q r : List Tk} {t : Tk} {xs : List (List Tk × List Nod)} (h1 : E ts = .ok (x.2, t :: q)) (h2 : ts = x.1 ++ t :: q) (h3 : Cls x.1) (h4 : C t.kind) (h : Parts C E q xs r) : Parts C E ts (x :: xs) r := by
  match xs, h with
  | y :: ys, h => exact ⟨t, q, h1, h2, h3, h4, h⟩
theorem ix_parts {E : List Tk → Rp} (h : Ecl E) : ∀ (f : Nat) (ts : List Tk) (acc : List Nod) (n : Int) (x : Int × List Nod) (r : List Tk), ixP E f ts acc n = .ok (x, r) →
    ∃ xs, Parts (· = 9) E ts xs r ∧ x = (n + (xs.length : Nat), acc ++ (xs.map Prod.snd).flatten)
  | 0, ts, acc, n, x, r, e => by cases e
  | f + 1, ts, acc, n, x, r, e => by
    simp only [ixP] at e
    match e1 : E ts with
    | .error k => rw [e1] at e; cases e
    | .ok (ns, []) => rw [e1] at e; cases e
    | .ok (ns, t :: q) =>
      obtain ⟨seg, s1, s2, s3⟩ := h _ _ _ e1
      rw [e1] at e
      simp only [] at e
      split at e
      · rename_i h8
        injection e with e; injection e with ex er
        subst ex; subst er
        exact ⟨[(seg, ns)], ⟨t, e1, s1, s3, by simp [clK, h8]⟩, by simp⟩
      split at e
      · rename_i h9
        obtain ⟨xs, p1, p2⟩ := ix_parts h f q _ _ x r e
        refine ⟨(seg, ns) :: xs, parts_cons e1 s1 s3 h9 p1, ?_⟩
        rw [p2]
        simp only [List.map_cons, List.flatten_cons, List.append_assoc, List.length_cons]
        congr 1; omega
      · cases e
theorem bd_parts {E : List Tk → Rp} (h : Ecl E) : ∀ (f : Nat) (ts : List Tk) (acc : List Nod) (n : Int) (x : Ac × Int × List Nod) (r : List Tk), bdP E f ts acc n = .ok (x, r) →
    ∃ xs, Parts (fun k => k = 16 ∨ k = 17) E ts xs r ∧ ∃ k : Nat, xs.length = 2 * k + 1 ∧ x = (⟨6, 0, 0⟩, n + k, acc ++ (xs.map Prod.snd).flatten)
  | 0, ts, acc, n, x, r, e => by cases e
  | f + 1, ts, acc, n, x, r, e => by
    simp only [bdP] at e
    match e1 : E ts with
    | .error k => rw [e1] at e; cases e
    | .ok (ns, []) => rw [e1] at e; cases e
    | .ok (ns, t :: q) =>
      obtain ⟨seg, s1, s2, s3⟩ := h _ _ _ e1
      rw [e1] at e
      simp only [] at e
      split at e
      · rename_i h15
        injection e with e; injection e with ex er
        subst ex; subst er
        exact ⟨[(seg, ns)], ⟨t, e1, s1, s3, by simp [clK, h15]⟩, 0, rfl, by simp⟩
      split at e
      · rename_i h16
        match e2 : E q with
        | .error k => rw [e2] at e; cases e
        | .ok (ms, []) => rw [e2] at e; cases e
        | .ok (ms, u :: s) =>
          obtain ⟨seg2, z1, z2, z3⟩ := h _ _ _ e2
          rw [e2] at e
          simp only [] at e
          split at e
          · rename_i h17
            obtain ⟨xs, p1, k, p2, p3⟩ := bd_parts h f s _ _ x r e
            refine ⟨(seg, ns) :: (seg2, ms) :: xs, parts_cons e1 s1 s3 (Or.inl h16) (parts_cons e2 z1 z3 (Or.inr h17) p1), k + 1, by simp only [List.length_cons]; omega, ?_⟩
            rw [p3]
            simp only [List.map_cons, List.flatten_cons, List.append_assoc]
            congr 2; omega
          · cases e
      · cases e
theorem dp_cut {k : Int} (h : cutK k) : dpK k = 0 := by
  unfold cutK at h
  rcases h with rfl | rfl | rfl <;> rfl
/-- Expressions with words between: brackets are closed in them. -/
theorem parts_bal {C : Int → Prop} (hC : ∀ k, C k → cutK k) {E : List Tk → Rp} : ∀ (xs : List (List Tk × List Nod)) (ts r : List Tk), Parts C E ts xs r → ∃ seg t, ts = seg ++ t :: r ∧ Bal seg ∧ clK t.kind = true
  | [], ts, r, h => h.elim
  | [x], ts, r, ⟨t, h1, h2, h3, h4⟩ => ⟨x.1, t, h2, h3.1, h4⟩
  | x :: y :: xs, ts, r, ⟨t, q, h1, h2, h3, h4, h5⟩ => by
    obtain ⟨seg, u, e1, e2, e3⟩ := parts_bal hC (y :: xs) q r h5
    exact ⟨x.1 ++ ([t] ++ seg), u, by rw [h2, e1]; simp, bal_app h3.1 (bal_app (bal_one (dp_cut (hC _ h4))) e2), e3⟩
/-- Where they are cut, from a place on. -/
def cutsP : List (List Tk × List Nod) → Nat → List Nat
  | [], _ => []
  | [_], _ => []
  | x :: y :: xs, i => (i + x.1.length) :: cutsP (y :: xs) (i + x.1.length + 1)
theorem parts_spl {C : Int → Prop} {E : List Tk → Rp} {one two : Int} (c1 : cutK one) (c2 : cutK two) (hC : ∀ k, C k → k = one ∨ k = two) : ∀ (xs : List (List Tk × List Nod)) (ts r : List Tk) (f k i : Nat), Parts C E ts xs r → ts.length = k + 1 + r.length → k < f → splN one two f k ts i = cutsP xs i
  | [], ts, r, f, k, i, h, _, _ => h.elim
  | [x], ts, r, f, k, i, ⟨t, h1, h2, h3, h4⟩, hl, hf => by
    rw [h2] at hl
    simp only [List.length_append, List.length_cons] at hl
    obtain ⟨g, g1, g2⟩ := h3.2 one two f k (t :: r) i c1 c2 (by omega) (by omega)
    rw [h2, g2, show k - x.1.length = 0 by omega]
    cases g <;> rfl
  | x :: y :: xs, ts, r, f, k, i, ⟨t, q, h1, h2, h3, h4, h5⟩, hl, hf => by
    have ht := hC _ h4
    have hcut : ∀ k, C k → cutK k := by
      intro k hk
      rcases hC k hk with rfl | rfl <;> assumption
    obtain ⟨seg, u, e1, _, _⟩ := parts_bal hcut (y :: xs) q r h5
    rw [h2] at hl
    simp only [List.length_append, List.length_cons] at hl
    have lq : r.length + 1 ≤ q.length := by rw [e1]; simp only [List.length_append, List.length_cons]; omega
    obtain ⟨g, g1, g2⟩ := h3.2 one two f k (t :: q) i c1 c2 (by omega) (by omega)
    obtain ⟨p, rfl⟩ : ∃ p, g = p + 1 := ⟨g - 1, by omega⟩
    obtain ⟨m, hm⟩ : ∃ m, k - x.1.length = m + 1 := ⟨k - x.1.length - 1, by omega⟩
    have no : ¬ opK t.kind = true := by
      intro ho
      have := dp_cut (hcut _ h4)
      simp only [dpK, ho, if_true] at this; omega
    rw [h2, g2, hm]
    simp only [splN, if_neg no, if_pos ht, cutsP]
    rw [parts_spl c1 c2 hC (y :: xs) q r p m (i + x.1.length + 1) h5 (by omega) (by omega)]
/-- Cuts are found where the expressions end. -/
theorem ix_cuts {E : List Tk → Rp} {xs : List (List Tk × List Nod)} {ts r : List Tk} {f k i : Nat} (h : Parts (· = 9) E ts xs r) (hl : ts.length = k + 1 + r.length) (hf : k < f) : splN 9 9 f k ts i = cutsP xs i :=
  parts_spl (Or.inl rfl) (Or.inl rfl) (fun k hk => Or.inl hk) xs ts r f k i h hl hf
theorem bd_cuts {E : List Tk → Rp} {xs : List (List Tk × List Nod)} {ts r : List Tk} {f k i : Nat} (h : Parts (fun k => k = 16 ∨ k = 17) E ts xs r) (hl : ts.length = k + 1 + r.length) (hf : k < f) : splN 16 17 f k ts i = cutsP xs i :=
  parts_spl (Or.inr (Or.inl rfl)) (Or.inr (Or.inr rfl)) (fun k hk => hk) xs ts r f k i h hl hf

/-! What is read is closed. -/
theorem nm_cls : ∀ ts : List Tk, ∃ seg, ts = seg ++ (nmP ts).2 ∧ Cls seg
  | [] => ⟨[], rfl, cls_nil⟩
  | t :: r => by
    simp only [nmP]
    split
    · rename_i h1
      obtain ⟨seg, e, c⟩ := nm_cls r
      refine ⟨[t] ++ seg, by simp only [List.cons_append, List.nil_append]; rw [← e], cls_app (cls_one (by rw [h1]; rfl) (by rw [h1]; unfold cutK; omega)) c⟩
    · exact ⟨[], rfl, cls_nil⟩
theorem plain_cls {t : Tk} (h : t.kind = 1 ∨ t.kind = 2 ∨ t.kind = 3 ∨ t.kind = 4 ∨ 10 ≤ t.kind ∧ t.kind ≤ 13 ∨ 18 ≤ t.kind ∧ t.kind ≤ 20) : Cls [t] := by
  refine cls_one ?_ (by unfold cutK; omega)
  have a : opK t.kind = false := by simp only [opK, Bool.or_eq_false_iff, decide_eq_false_iff_not]; omega
  have b : clK t.kind = false := by simp only [clK, Bool.or_eq_false_iff, decide_eq_false_iff_not]; omega
  simp [dpK, a, b]
theorem at_cls {E : List Tk → Rp} (h : Ecl E) (b : Bool) : Ecl (atP E b) := by
  intro ts ns r e
  match ts with
  | [] => cases e
  | t :: q =>
    have one : ∀ {m : List Nod} {s : List Tk}, (t.kind = 2 ∨ t.kind = 3 ∨ 18 ≤ t.kind ∧ t.kind ≤ 20) → q = r → ∃ seg, t :: q = seg ++ r ∧ seg ≠ [] ∧ Cls seg := by
      intro m s hk e
      exact ⟨[t], by rw [e]; rfl, by simp, plain_cls (by omega)⟩
    simp only [atP] at e
    split at e
    · rename_i h1
      injection e with e; injection e with e1 e2; subst e2
      obtain ⟨seg, s1, s2⟩ := nm_cls q
      exact ⟨[t] ++ seg, by simp only [List.cons_append, List.nil_append]; rw [← s1], by simp, cls_app (plain_cls (Or.inl h1)) s2⟩
    split at e
    · injection e with e; injection e with e1 e2; exact one (m := []) (s := []) (by omega) e2
    split at e
    · injection e with e; injection e with e1 e2; exact one (m := []) (s := []) (by omega) e2
    split at e
    · rename_i h18; injection e with e; injection e with e1 e2; exact one (m := []) (s := []) (by omega) e2
    split at e
    · rename_i h19; injection e with e; injection e with e1 e2; exact one (m := []) (s := []) (by omega) e2
    split at e
    · rename_i h5
      match e1 : E q with
      | .error k => rw [e1] at e; cases e
      | .ok (ms, []) => rw [e1] at e; cases e
      | .ok (ms, u :: s) =>
        obtain ⟨seg, s1, s2, s3⟩ := h _ _ _ e1
        rw [e1] at e
        simp only [] at e
        split at e
        · rename_i h6
          injection e with e; injection e with e1 e2; subst e2
          exact ⟨t :: (seg ++ [u]), by rw [s1]; simp, by simp, cls_grp (by simp [opK, h5]) (by simp [clK, h6]) s3.1⟩
        · cases e
    · cases e
theorem pk_cls {E : List Tk → Rp} (h : Ecl E) : ∀ (f : Nat) (ts : List Tk) (acc ns : List Nod) (r : List Tk), pksP E f ts acc = .ok (ns, r) → ∃ seg, ts = seg ++ r ∧ Cls seg
  | 0, ts, acc, ns, r, e => by simp only [pksP] at e; injection e with e; injection e with e1 e2; subst e2; exact ⟨[], rfl, cls_nil⟩
  | f + 1, [], acc, ns, r, e => by simp only [pksP] at e; injection e with e; injection e with e1 e2; subst e2; exact ⟨[], rfl, cls_nil⟩
  | f + 1, t :: q, acc, ns, r, e => by
    simp only [pksP] at e
    split at e
    · rename_i h7
      match e1 : ixP E (q.length + 1) q [] 0 with
      | .error k => rw [e1] at e; cases e
      | .ok ((n, ms), s) =>
        obtain ⟨xs, p1, _⟩ := ix_parts h _ _ _ _ _ _ e1
        obtain ⟨seg, u, b1, b2, b3⟩ := parts_bal (C := (· = 9)) (fun k hk => Or.inl hk) xs q s p1
        rw [e1] at e
        obtain ⟨seg2, c1, c2⟩ := pk_cls h f s _ ns r e
        exact ⟨t :: (seg ++ [u]) ++ seg2, by rw [b1, c1]; simp, cls_app (cls_grp (by simp [opK, h7]) b3 b2) c2⟩
    · injection e with e; injection e with e1 e2; subst e2; exact ⟨[], rfl, cls_nil⟩
theorem tm_cls {E : List Tk → Rp} (h : Ecl E) (b : Bool) : Ecl (tmP E b) := by
  intro ts ns r e
  unfold tmP at e
  match e1 : atP E b ts with
  | .error k => rw [e1] at e; cases e
  | .ok (ms, s) =>
    obtain ⟨seg, s1, s2, s3⟩ := at_cls h b _ _ _ e1
    rw [e1] at e
    obtain ⟨seg2, c1, c2⟩ := pk_cls h _ _ _ _ _ e
    exact ⟨seg ++ seg2, by rw [s1, c1]; simp, by simp [s2], cls_app s3 c2⟩
theorem fn_cls {E : Bool → List Tk → Rp} (h : Ecl (E true)) (b : Bool) : ∀ (ts : List Tk) (x : Ac × Int × List Nod) (r : List Tk), fnP E b ts = .ok (x, r) → ∃ seg, ts = seg ++ r ∧ seg ≠ [] ∧ Cls seg
  | [], x, r, e => by cases e
  | t :: q, x, r, e => by
    simp only [fnP] at e
    split at e
    · rename_i h4
      match q with
      | [] =>
        simp only [glP] at e
        injection e with e; injection e with e1 e2; subst e2
        exact ⟨[t], rfl, by simp, plain_cls (by omega)⟩
      | u :: s =>
        simp only [glP] at e
        split at e
        · injection e with e; injection e with e1 e2; subst e2
          exact ⟨[t] ++ [u], rfl, by simp, cls_app (plain_cls (by omega)) (plain_cls (by omega))⟩
        split at e
        · injection e with e; injection e with e1 e2; subst e2
          exact ⟨[t] ++ [u], rfl, by simp, cls_app (plain_cls (by omega)) (plain_cls (by omega))⟩
        split at e
        · injection e with e; injection e with e1 e2; subst e2
          exact ⟨[t] ++ [u], rfl, by simp, cls_app (plain_cls (by omega)) (plain_cls (by omega))⟩
        split at e
        · match s with
          | [] => cases e
          | v :: p =>
            simp only [] at e
            split at e
            · injection e with e; injection e with e1 e2; subst e2
              exact ⟨[t] ++ ([u] ++ [v]), rfl, by simp, cls_app (plain_cls (by omega)) (cls_app (plain_cls (by omega)) (plain_cls (by omega)))⟩
            · cases e
        · injection e with e; injection e with e1 e2; subst e2
          exact ⟨[t], rfl, by simp, plain_cls (by omega)⟩
    split at e
    · match q with
      | [] => cases e
      | u :: s =>
        simp only [otP] at e
        split at e
        · match s with
          | [] => cases e
          | v :: p =>
            simp only [] at e
            split at e
            · injection e with e; injection e with e1 e2; subst e2
              exact ⟨[t] ++ ([u] ++ [v]), rfl, by simp, cls_app (plain_cls (by omega)) (cls_app (plain_cls (by omega)) (plain_cls (by omega)))⟩
            · cases e
        · cases e
    split at e
    · injection e with e; injection e with e1 e2; subst e2
      exact ⟨[t], rfl, by simp, plain_cls (by omega)⟩
    split at e
    · rename_i h14
      obtain ⟨xs, p1, _⟩ := bd_parts h _ _ _ _ _ _ e
      obtain ⟨seg, u, b1, b2, b3⟩ := parts_bal (C := fun k => k = 16 ∨ k = 17) (fun k hk => Or.inr hk) xs q r p1
      exact ⟨t :: (seg ++ [u]), by rw [b1]; simp, by simp, cls_grp (by simp [opK, h14]) b3 b2⟩
    · cases e
theorem ag_cls {E : Bool → List Tk → Rp} (h : ∀ b, Ecl (E b)) (b : Bool) (op : Int) (ms : List Nod) : Ecl (agP E b op ms) := by
  intro ts ns r e
  unfold agP at e
  match e1 : fnP E b ts with
  | .error k => rw [e1] at e; cases e
  | .ok ((a, n, body), q) =>
    obtain ⟨seg, s1, s2, s3⟩ := fn_cls (h true) b _ _ _ e1
    rw [e1] at e
    simp only [] at e
    match e2 : E b q with
    | .error k => rw [e2] at e; cases e
    | .ok (us, s) =>
      obtain ⟨seg2, z1, z2, z3⟩ := h b _ _ _ e2
      rw [e2] at e
      injection e with e; injection e with ex er
      subst er
      exact ⟨seg ++ seg2, by rw [s1, z1]; simp, by simp [s2], cls_app s3 z3⟩
/-- What is read as an expression is closed, and not cut. -/
theorem ex_cls : ∀ (f : Nat) (b : Bool), Ecl (exP f b)
  | 0, b => fun ts ns r e => by cases e
  | f + 1, b => fun ts ns r e => by
    have ih := ex_cls f
    simp only [exP] at e
    split at e
    · exact ag_cls ih b 6 [] _ _ _ e
    · match e1 : tmP (exP f b) b ts with
      | .error k => rw [e1] at e; cases e
      | .ok (ms, q) =>
        obtain ⟨seg, s1, s2, s3⟩ := tm_cls (ih b) b _ _ _ e1
        rw [e1] at e
        simp only [] at e
        split at e
        · obtain ⟨seg2, z1, z2, z3⟩ := ag_cls ih b 7 ms _ _ _ e
          exact ⟨seg ++ seg2, by rw [s1, z1]; simp, by simp [s2], cls_app s3 z3⟩
        · injection e with e; injection e with ex er
          subst er
          exact ⟨seg, s1, s2, s3⟩
end Go.Proofs.YtgjgbgllhbdodaaGreatDoor
