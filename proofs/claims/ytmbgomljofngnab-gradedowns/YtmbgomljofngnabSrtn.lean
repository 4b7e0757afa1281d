/-
  Plain mathematics of a merge in place, and of runs that become fewer; nothing of the program.
-/
import Derived.Test.YtmbgomljofngnabSrtm
namespace Go.Proofs.Ytmbgomljofngnab
open Go.RowKit
set_option linter.unusedVariables false

/-! ### A search in halves -/
structure Bs (P : Nat → Bool) (L R i j : Nat) : Prop where
  l : L ≤ i
  m : i ≤ j
  r : j ≤ R
  yes : ∀ k, L ≤ k → k < i → P k = true
  no : ∀ k, j ≤ k → k < R → P k = false
def Fall (P : Nat → Bool) (L R : Nat) : Prop := ∀ k h, L ≤ k → k ≤ h → h < R → P h = true → P k = true
theorem Bs.zero {P : Nat → Bool} {L R : Nat} (h : L ≤ R) : Bs P L R L R := ⟨Nat.le_refl _, h, Nat.le_refl _, fun k h1 h2 => by omega, fun k h1 h2 => by omega⟩
theorem Bs.up {P : Nat → Bool} {L R i j h : Nat} (B : Bs P L R i j) (F : Fall P L R) (hi : i ≤ h) (hj : h < j) (e : P h = true) : Bs P L R (h + 1) j :=
  ⟨by have := B.l; omega, by omega, B.r, fun k h1 h2 => F k h h1 (by omega) (by have := B.r; omega) e, B.no⟩
theorem Bs.down {P : Nat → Bool} {L R i j h : Nat} (B : Bs P L R i j) (F : Fall P L R) (hi : i ≤ h) (hj : h < j) (e : P h = false) : Bs P L R i h := by
  refine ⟨B.l, hi, by have := B.r; omega, B.yes, fun k h1 h2 => ?_⟩
  cases q : P k with
  | false => rfl
  | true => rw [F h k (by have := B.l; omega) h1 h2 q] at e; cases e
section
variable {lt : Nat → Nat → Bool} {n : Nat} {z : List Int}
/-- Equal places, or it rises. -/
theorem ris_le {a b i j : Nat} (hr : Ris lt z a b) (ha : a ≤ i) (hij : i ≤ j) (hb : j < b) : nt z i = nt z j ∨ lt (nt z i) (nt z j) = true := by
  by_cases e : i = j
  · exact .inl (by rw [e])
  · exact .inr (hr i j ha (by omega) hb)
theorem le_lt (T : Tot lt n) (ho : IsOrd z) (hl : z.length = n) {i j k : Nat} (hi : i < n) (hj : j < n) (hk : k < n) (h1 : nt z i = nt z j ∨ lt (nt z i) (nt z j) = true) (h2 : lt (nt z j) (nt z k) = true) : lt (nt z i) (nt z k) = true := by
  rcases h1 with e | e
  · rw [e]; exact h2
  · exact lt_tr T ho hl hi hj hk e h2
theorem lt_le (T : Tot lt n) (ho : IsOrd z) (hl : z.length = n) {i j k : Nat} (hi : i < n) (hj : j < n) (hk : k < n) (h1 : lt (nt z i) (nt z j) = true) (h2 : nt z j = nt z k ∨ lt (nt z j) (nt z k) = true) : lt (nt z i) (nt z k) = true := by
  rcases h2 with e | e
  · rw [← e]; exact h1
  · exact lt_tr T ho hl hi hj hk h1 e
/-! ### The three searches -/
def Pa1 (lt : Nat → Nat → Bool) (z : List Int) (a k : Nat) : Bool := lt (nt z k) (nt z a)
def Pa2 (lt : Nat → Nat → Bool) (z : List Int) (m k : Nat) : Bool := !lt (nt z m) (nt z k)
def Pa3 (lt : Nat → Nat → Bool) (z : List Int) (p c : Nat) : Bool := !lt (nt z (p - c)) (nt z c)
theorem Pa1_fall (T : Tot lt n) (ho : IsOrd z) (hl : z.length = n) {a m b : Nat} (ha : a < n) (hb : b ≤ n) (hr : Ris lt z m b) : Fall (Pa1 lt z a) m b := fun k h h1 h2 h3 e =>
  le_lt T ho hl (by omega) (by omega) ha (ris_le hr h1 h2 h3) e
theorem Pa2_fall (T : Tot lt n) (ho : IsOrd z) (hl : z.length = n) {a m : Nat} (hm : m < n) (hr : Ris lt z a m) : Fall (Pa2 lt z m) a m := fun k h h1 h2 h3 e => by
  unfold Pa2 at *
  cases q : lt (nt z m) (nt z k) with
  | false => rfl
  | true => rw [lt_le T ho hl hm (by omega) (by omega) q (ris_le hr h1 h2 h3)] at e; exact e
/-- Where the third search goes. -/
structure Wd (a m b mid L R : Nat) : Prop where
  am : a < m
  mb : m < b
  md : 2 * mid ≤ a + b ∧ a + b ≤ 2 * mid + 1
  al : a ≤ L
  lr : L ≤ R
  rm : R ≤ m
  rd : R ≤ mid
  lb : mid + m ≤ L + b
  le : L = a ∨ L + b = mid + m
  re : R = m ∨ R = mid
theorem Pa3_fall (T : Tot lt n) (ho : IsOrd z) (hl : z.length = n) {a m b mid L R : Nat} (W : Wd a m b mid L R) (hb : b ≤ n) (r1 : Ris lt z a m) (r2 : Ris lt z m b) : Fall (Pa3 lt z (mid + m - 1)) L R := fun k h h1 h2 h3 e => by
  unfold Pa3 at *
  have w1 := W.al
  have w2 := W.rm
  have w3 := W.rd
  have w4 := W.lb
  have w5 := W.mb
  cases q : lt (nt z (mid + m - 1 - k)) (nt z k) with
  | false => rfl
  | true =>
    have h4 := le_lt T ho hl (i := mid + m - 1 - h) (j := mid + m - 1 - k) (k := k) (by omega) (by omega) (by omega) (ris_le r2 (by omega) (by omega) (by omega)) q
    rw [lt_le T ho hl (by omega) (by omega) (by omega) h4 (ris_le r1 (i := k) (j := h) (by omega) h2 (by omega))] at e; exact e
/-! ### What the third search found -/
theorem rtF_none {m i j : Nat} (h : i = 0 ∨ j = 0) : mvL (rtF m i j) z = z := mvL_same fun p _ => by
  unfold rtF; split <;> (try split) <;> (try split) <;> omega
/-- The two halves, behind the turn. -/
structure Hv (lt : Nat → Nat → Bool) (z : List Int) (a s mid e b : Nat) : Prop where
  r1 : Ris lt z a s
  r2 : Ris lt z s mid
  r3 : Ris lt z mid e
  r4 : Ris lt z e b
  s1 : Sep z a s mid
  s2 : Sep z mid e b
  x : ∀ i j, a ≤ i → i < mid → mid ≤ j → j < b → lt (nt z i) (nt z j) = true
theorem halves (T : Tot lt n) (ho : IsOrd z) (hl : z.length = n) {a m b mid L R s : Nat} (W : Wd a m b mid L R) (hb : b ≤ n) (r1 : Ris lt z a m) (r2 : Ris lt z m b) (hs : Sep z a m b) (B : Bs (Pa3 lt z (mid + m - 1)) L R s s) :
    a ≤ s ∧ s ≤ m ∧ s ≤ mid ∧ m ≤ mid + m - s ∧ mid ≤ mid + m - s ∧ mid + m - s ≤ b ∧ Hv lt (mvL (rtF m (m - s) (mid - s)) z) a s mid (mid + m - s) b := by
  have w1 := W.al
  have w2 := W.rm
  have w3 := W.rd
  have w4 := W.lb
  have w5 := W.mb
  have w6 := W.am
  have w7 := W.md
  have w8 := W.le
  have w9 := W.re
  have w0 := W.lr
  have b1 := B.l
  have b2 := B.r
  refine ⟨by omega, by omega, by omega, by omega, by omega, by omega, ?_⟩
  have x1 : ∀ i j, a ≤ i → i < s → mid + m - s ≤ j → j < b → lt (nt z i) (nt z j) = true := fun i j h1 h2 h3 h4 => by
    have h5 := B.yes (s - 1) (by omega) (by omega)
    unfold Pa3 at h5
    rw [show mid + m - 1 - (s - 1) = mid + m - s by omega, Bool.not_eq_true'] at h5
    have h6 := (tot_not T ho hl (by omega) (by omega) (by omega)).1 h5
    exact le_lt T ho hl (by omega) (by omega) (by omega) (ris_le r1 h1 (by omega) (by omega)) (lt_le T ho hl (by omega) (by omega) (by omega) h6 (ris_le r2 (by omega) h3 h4))
  have x2 : ∀ i j, m ≤ i → i < mid + m - s → s ≤ j → j < m → lt (nt z i) (nt z j) = true := fun i j h1 h2 h3 h4 => by
    have h5 := B.no s (by omega) (by omega)
    unfold Pa3 at h5
    rw [Bool.not_eq_false'] at h5
    exact le_lt T ho hl (by omega) (by omega) (by omega) (ris_le r2 h1 (by omega) (by omega)) (lt_le T ho hl (by omega) (by omega) (by omega) h5 (ris_le r1 (by omega) h3 h4))
  have q1 : ∀ k, k < s → nt (mvL (rtF m (m - s) (mid - s)) z) k = nt z k := fun k hk => by
    rw [nt_mv (by omega)]; unfold rtF; rw [if_pos (by omega)]
  have q2 : ∀ k, s ≤ k → k < mid → nt (mvL (rtF m (m - s) (mid - s)) z) k = nt z (k + (m - s)) := fun k h1 h2 => by
    rw [nt_mv (by omega)]; unfold rtF; rw [if_neg (by omega), if_pos (by omega)]
  have q3 : ∀ k, mid ≤ k → k < mid + m - s → nt (mvL (rtF m (m - s) (mid - s)) z) k = nt z (k - (mid - s)) := fun k h1 h2 => by
    rw [nt_mv (by omega)]; unfold rtF; rw [if_neg (by omega), if_neg (by omega), if_pos (by omega)]
  have q4 : ∀ k, mid + m - s ≤ k → k < b → nt (mvL (rtF m (m - s) (mid - s)) z) k = nt z k := fun k h1 h2 => by
    rw [nt_mv (by omega)]; unfold rtF; rw [if_neg (by omega), if_neg (by omega), if_neg (by omega)]
  refine ⟨fun i j h1 h2 h3 => ?_, fun i j h1 h2 h3 => ?_, fun i j h1 h2 h3 => ?_, fun i j h1 h2 h3 => ?_, fun i j h1 h2 h3 h4 => ?_, fun i j h1 h2 h3 h4 => ?_, fun i j h1 h2 h3 h4 => ?_⟩
  · rw [q1 i (by omega), q1 j h3]; exact r1 i j h1 h2 (by omega)
  · rw [q2 i h1 (by omega), q2 j (by omega) h3]; exact r2 _ _ (by omega) (by omega) (by omega)
  · rw [q3 i h1 (by omega), q3 j (by omega) h3]; exact r1 _ _ (by omega) (by omega) (by omega)
  · rw [q4 i h1 (by omega), q4 j (by omega) h3]; exact r2 _ _ (by omega) (by omega) (by omega)
  · rw [q1 i h2, q2 j h3 h4]; exact hs _ _ (by omega) (by omega) (by omega) (by omega)
  · rw [q3 i h1 h2, q4 j h3 h4]; exact hs _ _ (by omega) (by omega) (by omega) (by omega)
  · by_cases c1 : i < s
    · rw [q1 i c1]
      by_cases c2 : j < mid + m - s
      · rw [q3 j h3 c2]; exact r1 _ _ h1 (by omega) (by omega)
      · rw [q4 j (by omega) h4]; exact x1 _ _ h1 c1 (by omega) h4
    · rw [q2 i (by omega) h2]
      by_cases c2 : j < mid + m - s
      · rw [q3 j h3 c2]; exact x2 _ _ (by omega) (by omega) (by omega) (by omega)
      · rw [q4 j (by omega) h4]; exact r2 _ _ (by omega) (by omega) h4
/-- One half has been merged; the other one is as it was. -/
structure Hw (lt : Nat → Nat → Bool) (z : List Int) (a mid e b : Nat) : Prop where
  r1 : Ris lt z a mid
  r3 : Ris lt z mid e
  r4 : Ris lt z e b
  s2 : Sep z mid e b
  x : ∀ i j, a ≤ i → i < mid → mid ≤ j → j < b → lt (nt z i) (nt z j) = true
theorem hv_left {z1 z2 : List Int} {a s mid e b : Nat} (hm : mid ≤ z1.length) (hme : mid ≤ e) (H : Hv lt z1 a s mid e b) (M : Mv a mid z1 z2) (hr : Ris lt z2 a mid) : Hw lt z2 a mid e b := by
  have q : ∀ k, mid ≤ k → nt z2 k = nt z1 k := fun k hk => by unfold nt; rw [M.out hm (.inr hk)]
  refine ⟨hr, fun i j h1 h2 h3 => ?_, fun i j h1 h2 h3 => ?_, fun i j h1 h2 h3 h4 => ?_, fun i j h1 h2 h3 h4 => ?_⟩
  · rw [q i h1, q j (by omega)]; exact H.r3 i j h1 h2 h3
  · rw [q i (by omega), q j (by omega)]; exact H.r4 i j h1 h2 h3
  · rw [q i h1, q j (by omega)]; exact H.s2 i j h1 h2 h3 h4
  · obtain ⟨i', h5, h6, h7⟩ := M.ins hm h1 h2
    rw [q j h3, show nt z2 i = nt z1 i' by unfold nt; rw [h7]]
    exact H.x i' j h5 h6 h3 h4
theorem hv_skip {z1 : List Int} {a s mid e b : Nat} (h : s ≤ a ∨ mid ≤ s) (hs : a ≤ s) (hs2 : s ≤ mid) (H : Hv lt z1 a s mid e b) : Hw lt z1 a mid e b := by
  refine ⟨fun i j h1 h2 h3 => ?_, H.r3, H.r4, H.s2, H.x⟩
  rcases h with h | h
  · exact H.r2 i j (by omega) h2 h3
  · exact H.r1 i j h1 h2 (by omega)
theorem hw_right {z2 z3 : List Int} {a mid e b : Nat} (hb : b ≤ z2.length) (H : Hw lt z2 a mid e b) (M : Mv mid b z2 z3) (hr : Ris lt z3 mid b) : Ris lt z3 a b := by
  have q : ∀ k, k < mid → nt z3 k = nt z2 k := fun k hk => by unfold nt; rw [M.out hb (.inl hk)]
  intro i j h1 h2 h3
  by_cases c1 : mid ≤ i
  · exact hr i j c1 h2 h3
  · by_cases c2 : mid ≤ j
    · obtain ⟨j', h5, h6, h7⟩ := M.ins hb c2 h3
      rw [q i (by omega), show nt z3 j = nt z2 j' by unfold nt; rw [h7]]
      exact H.x i j' h1 (by omega) h5 h6
    · rw [q i (by omega), q j (by omega)]; exact H.r1 i j h1 h2 (by omega)
theorem hw_skip {z2 : List Int} {a mid e b : Nat} (h : e ≤ mid ∨ b ≤ e) (he : mid ≤ e) (he2 : e ≤ b) (H : Hw lt z2 a mid e b) : Ris lt z2 a b := by
  intro i j h1 h2 h3
  by_cases c1 : mid ≤ i
  · rcases h with h | h
    · exact H.r4 i j (by omega) h2 h3
    · exact H.r3 i j c1 h2 (by omega)
  · by_cases c2 : mid ≤ j
    · exact H.x i j h1 (by omega) c2 h3
    · exact H.r1 i j h1 h2 (by omega)
/-! ### Runs, and what parts them -/
/-- At a boundary the numbers are parted; between boundaries they rise. -/
structure Sg (lt : Nat → Nat → Bool) (n : Nat) (Q : Nat → Prop) (z : List Int) : Prop where
  len : z.length = n
  ord : IsOrd z
  bd : ∀ M, M < n → Q M → ∀ k, k < n → (k < M ↔ nt z k < M)
  ris : ∀ i j, i < j → j < n → (∀ M, i < M → M ≤ j → ¬ Q M) → lt (nt z i) (nt z j) = true
theorem Sg.congr {Q Q' : Nat → Prop} (h : Sg lt n Q z) (e : ∀ M, 0 < M → M < n → (Q M ↔ Q' M)) : Sg lt n Q' z := by
  refine ⟨h.len, h.ord, fun M hM hQ k hk => ?_, fun i j h1 h2 h3 => h.ris i j h1 h2 fun M k1 k2 hQ => h3 M k1 k2 ((e M (by omega) (by omega)).1 hQ)⟩
  by_cases h0 : M = 0
  · subst h0; exact ⟨fun h => absurd h (by omega), fun h => absurd h (by omega)⟩
  · exact h.bd M hM ((e M (by omega) hM).2 hQ) k hk
theorem idn_nt {k : Nat} (h : k < n) : nt (idn n) k = k := by
  unfold nt; rw [show nth (idn n) k = (k : Int) by rw [nth_get _ _ (by simp [idn]; exact h)]; simp [idn]]; omega
theorem Sg.start (n : Nat) : Sg lt n (fun _ => True) (idn n) :=
  ⟨by simp [idn], idn_ord n, fun M hM _ k hk => by rw [idn_nt hk], fun i j h1 h2 h3 => absurd trivial (h3 j h1 (Nat.le_refl _))⟩
theorem Sg.ris_in {Q : Nat → Prop} (h : Sg lt n Q z) {a b : Nat} (hb : b ≤ n) (hq : ∀ M, a < M → M < b → ¬ Q M) : Ris lt z a b := fun i j h1 h2 h3 =>
  h.ris i j h2 (by omega) fun M k1 k2 => hq M (by omega) (by omega)
theorem Sg.sep {Q : Nat → Prop} (h : Sg lt n Q z) {a m b : Nat} (hb : b ≤ n) (hm : Q m) (hmb : m < b) : Sep z a m b := fun i j h1 h2 h3 h4 => by
  have e1 := (h.bd m (by omega) hm i (by omega)).1 h2
  have e2 := (h.bd m (by omega) hm j (by omega))
  omega
/-- A part has been put in order: what parted it is gone. -/
theorem Sg.next {Q : Nat → Prop} {z' : List Int} (h : Sg lt n Q z) {a b : Nat} (hab : a ≤ b) (hb : b ≤ n) (qa : a = 0 ∨ Q a) (qb : b = n ∨ Q b) (M : Mv a b z z') (hr : Ris lt z' a b) : Sg lt n (fun M => Q M ∧ ¬ (a < M ∧ M < b)) z' := by
  have hl := h.len
  have hbz : b ≤ z.length := by omega
  refine ⟨by rw [M.len, hl], M.ord hbz h.ord, fun X hX hQ k hk => ?_, fun i j h1 h2 h3 => ?_⟩
  · by_cases c : a ≤ k ∧ k < b
    · obtain ⟨k', h5, h6, h7⟩ := M.ins hbz c.1 c.2
      have e := h.bd X hX hQ.1 k' (by omega)
      rw [show nt z' k = nt z k' by unfold nt; rw [h7], ← e]
      have := hQ.2
      omega
    · rw [show nt z' k = nt z k by unfold nt; rw [M.out hbz (by omega)]]
      exact h.bd X hX hQ.1 k hk
  · by_cases c1 : j < a ∨ b ≤ i
    · rw [show nt z' i = nt z i by unfold nt; rw [M.out hbz (by omega)], show nt z' j = nt z j by unfold nt; rw [M.out hbz (by omega)]]
      exact h.ris i j h1 h2 fun X k1 k2 hQ => h3 X k1 k2 ⟨hQ, by omega⟩
    · by_cases c2 : i < a
      · rcases qa with e | e
        · omega
        · exact absurd ⟨e, by omega⟩ (h3 a c2 (by omega))
      · by_cases c3 : b ≤ j
        · rcases qb with e | e
          · omega
          · exact absurd ⟨e, by omega⟩ (h3 b (by omega) c3)
        · exact hr i j (by omega) h1 (by omega)
/-- No boundary is left: it is the order. -/
theorem Sg.done (T : Tot lt n) {Q : Nat → Prop} (h : Sg lt n Q z) (hq : ∀ M, 0 < M → M < n → ¬ Q M) : z = grd lt n :=
  grd_only T h.ord h.len fun i hi => h.ris i (i + 1) (by omega) hi fun M k1 k2 => hq M (by omega) (by omega)
end
end Go.Proofs.Ytmbgomljofngnab
