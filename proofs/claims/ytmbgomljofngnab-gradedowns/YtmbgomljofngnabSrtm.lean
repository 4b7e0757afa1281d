/-
  Plain mathematics of a sort in place: numbers of a list change places; runs that rise, and what parts them; nothing of the program.
-/
import Derived.Test.YtmbgomljofngnabGrdn
namespace Go.Proofs.Ytmbgomljofngnab
open Go.RowKit
set_option linter.unusedVariables false

/-- A list, each number taken from elsewhere. -/
def mvL (f : Nat → Nat) (z : List Int) : List Int := (List.range z.length).map fun p => nth z (f p)
theorem mvL_length (f : Nat → Nat) (z : List Int) : (mvL f z).length = z.length := by simp [mvL]
theorem mvL_nth {f : Nat → Nat} {z : List Int} {k : Nat} (h : k < z.length) : nth (mvL f z) k = nth z (f k) := by
  rw [nth_get _ _ (by rw [mvL_length]; exact h)]; simp [mvL]
theorem mvL_congr {f g : Nat → Nat} {z : List Int} (h : ∀ p, p < z.length → f p = g p) : mvL f z = mvL g z := by
  refine nth_ext (by rw [mvL_length, mvL_length]) fun p hp => ?_
  rw [mvL_length] at hp
  rw [mvL_nth hp, mvL_nth hp, h p hp]
theorem mvL_same {f : Nat → Nat} {z : List Int} (h : ∀ p, p < z.length → f p = p) : mvL f z = z := by
  refine nth_ext (by rw [mvL_length]) fun p hp => ?_
  rw [mvL_length] at hp
  rw [mvL_nth hp, h p hp]
theorem mvL_mvL {f g : Nat → Nat} {z : List Int} (h : ∀ p, p < z.length → g p < z.length) : mvL g (mvL f z) = mvL (fun p => f (g p)) z := by
  refine nth_ext (by rw [mvL_length, mvL_length, mvL_length]) fun p hp => ?_
  rw [mvL_length, mvL_length] at hp
  rw [mvL_nth (by rw [mvL_length]; exact hp), mvL_nth (h p hp), mvL_nth hp]
/-- Two that change places. -/
def exF (i j p : Nat) : Nat := if p = j then i else if p = i then j else p
theorem set_set10 {z : List Int} {i j : Nat} (hi : i < z.length) (hj : j < z.length) : (z.set i (nth z j)).set j (nth z i) = mvL (exF i j) z := by
  refine nth_ext (by rw [mvL_length]; simp) fun p hp => ?_
  simp only [List.length_set] at hp
  rw [mvL_nth hp, nth_set _ _ _ _ (by simpa using hj), nth_set _ _ _ _ hi]
  unfold exF
  by_cases h1 : p = j
  · rw [if_pos h1, if_pos h1]
  · rw [if_neg h1, if_neg h1]
    by_cases h2 : p = i
    · rw [if_pos h2, if_pos h2]
    · rw [if_neg h2, if_neg h2]
theorem ex_step {f g : Nat → Nat} {z : List Int} {i j : Nat} (hi : i < z.length) (hj : j < z.length) (h : ∀ p, p < z.length → f (exF i j p) = g p) :
    ((mvL f z).set i (nth (mvL f z) j)).set j (nth (mvL f z) i) = mvL g z := by
  rw [set_set10 (by rw [mvL_length]; exact hi) (by rw [mvL_length]; exact hj), mvL_mvL (fun p hp => by unfold exF; split; exact hi; split; exact hj; exact hp)]
  exact mvL_congr h
/-- Moved within a part. -/
structure Fx (a b : Nat) (f : Nat → Nat) : Prop where
  out : ∀ k, k < a ∨ b ≤ k → f k = k
  ins : ∀ k, a ≤ k → k < b → a ≤ f k ∧ f k < b
  inj : ∀ i j, f i = f j → i = j
def Mv (a b : Nat) (z z' : List Int) : Prop := ∃ f, z' = mvL f z ∧ Fx a b f
theorem Fx.id (a b : Nat) : Fx a b (fun p => p) := ⟨fun _ _ => rfl, fun _ h1 h2 => ⟨h1, h2⟩, fun _ _ h => h⟩
theorem Fx.wide {a b a' b' : Nat} {f : Nat → Nat} (h : Fx a b f) (ha : a' ≤ a) (hb : b ≤ b') : Fx a' b' f := by
  refine ⟨fun k hk => h.out k (by omega), fun k h1 h2 => ?_, h.inj⟩
  by_cases q : a ≤ k ∧ k < b
  · have := h.ins k q.1 q.2; omega
  · have := h.out k (by omega); omega
theorem Mv.refl (a b : Nat) (z : List Int) : Mv a b z z := ⟨_, (mvL_same fun _ _ => rfl).symm, Fx.id a b⟩
theorem Mv.len {a b : Nat} {z z' : List Int} (h : Mv a b z z') : z'.length = z.length := by
  obtain ⟨f, rfl, _⟩ := h; rw [mvL_length]
theorem Mv.wide {a b a' b' : Nat} {z z' : List Int} (h : Mv a b z z') (ha : a' ≤ a) (hb : b ≤ b') : Mv a' b' z z' := by
  obtain ⟨f, e, F⟩ := h; exact ⟨f, e, F.wide ha hb⟩
theorem Fx.low {a b n : Nat} {f : Nat → Nat} (F : Fx a b f) (hb : b ≤ n) {p : Nat} (hp : p < n) : f p < n := by
  by_cases q : a ≤ p ∧ p < b
  · have := F.ins p q.1 q.2; omega
  · have := F.out p (by omega); omega
theorem Mv.trans {a b : Nat} {z z' z'' : List Int} (h : Mv a b z z') (k : Mv a b z' z'') (hb : b ≤ z.length) : Mv a b z z'' := by
  obtain ⟨f, rfl, F⟩ := h
  obtain ⟨g, rfl, G⟩ := k
  rw [mvL_mvL fun p hp => G.low hb hp]
  refine ⟨_, rfl, fun k hk => by rw [G.out k hk, F.out k hk], fun k h1 h2 => ?_, fun i j e => G.inj _ _ (F.inj _ _ e)⟩
  have := G.ins k h1 h2
  exact F.ins _ this.1 this.2
theorem Mv.ord {a b : Nat} {z z' : List Int} (h : Mv a b z z') (hb : b ≤ z.length) (ho : IsOrd z) : IsOrd z' := by
  obtain ⟨f, rfl, F⟩ := h
  refine ⟨fun j hj => ?_, fun i j hij hj e => ?_⟩
  · rw [mvL_length] at hj ⊢
    rw [mvL_nth hj]
    exact ho.1 _ (F.low hb hj)
  · rw [mvL_length] at hj
    rw [mvL_nth hj, mvL_nth (by omega)] at e
    have := F.inj _ _ (ho.inj (F.low hb (by omega)) (F.low hb hj) e)
    omega
theorem Mv.out {a b : Nat} {z z' : List Int} (h : Mv a b z z') (hb : b ≤ z.length) {k : Nat} (hk : k < a ∨ b ≤ k) : nth z' k = nth z k := by
  obtain ⟨f, rfl, F⟩ := h
  by_cases q : k < z.length
  · rw [mvL_nth q, F.out k hk]
  · unfold nth
    rw [List.getD_eq_getElem?_getD, List.getD_eq_getElem?_getD, List.getElem?_eq_none (by rw [mvL_length]; omega), List.getElem?_eq_none (by omega)]
theorem Mv.ins {a b : Nat} {z z' : List Int} (h : Mv a b z z') (hb : b ≤ z.length) {k : Nat} (h1 : a ≤ k) (h2 : k < b) : ∃ j, a ≤ j ∧ j < b ∧ nth z' k = nth z j := by
  obtain ⟨f, rfl, F⟩ := h
  have := F.ins k h1 h2
  exact ⟨f k, this.1, this.2, mvL_nth (by omega)⟩
/-- The number at a place. -/
def nt (z : List Int) (k : Nat) : Nat := (nth z k).toNat
theorem nt_mv {f : Nat → Nat} {z : List Int} {k : Nat} (h : k < z.length) : nt (mvL f z) k = nt z (f k) := by unfold nt; rw [mvL_nth h]
/-- It rises there. -/
def Ris (lt : Nat → Nat → Bool) (z : List Int) (a b : Nat) : Prop := ∀ i j, a ≤ i → i < j → j < b → lt (nt z i) (nt z j) = true
/-- The left ones are the lesser numbers. -/
def Sep (z : List Int) (a m b : Nat) : Prop := ∀ i j, a ≤ i → i < m → m ≤ j → j < b → nt z i < nt z j
section
variable {lt : Nat → Nat → Bool} {n : Nat} {z : List Int}
theorem tot_not (T : Tot lt n) (ho : IsOrd z) (hl : z.length = n) {i j : Nat} (hi : i < n) (hj : j < n) (hne : i ≠ j) : lt (nt z i) (nt z j) = false ↔ lt (nt z j) (nt z i) = true := by
  subst hl
  have h1 := ord_at ho hi
  have h2 := ord_at ho hj
  have hne' : nt z i ≠ nt z j := fun e => hne (ho.inj hi hj (by rw [← h1.2, ← h2.2]; exact congrArg _ e))
  constructor
  · intro h
    rcases T.tot _ _ h1.1 h2.1 hne' with q | q
    · rw [show lt (nth z i).toNat (nth z j).toNat = lt (nt z i) (nt z j) from rfl, h] at q; cases q
    · exact q
  · intro h
    cases q : lt (nt z i) (nt z j) with
    | false => rfl
    | true =>
      have := T.tr _ _ _ h1.1 h2.1 h1.1 q h
      rw [T.irr _ h1.1] at this; cases this
theorem nt_lt (ho : IsOrd z) (hl : z.length = n) {i : Nat} (hi : i < n) : nt z i < n := by subst hl; exact (ord_at ho hi).1
theorem lt_tr (T : Tot lt n) (ho : IsOrd z) (hl : z.length = n) {i j k : Nat} (hi : i < n) (hj : j < n) (hk : k < n) (h1 : lt (nt z i) (nt z j) = true) (h2 : lt (nt z j) (nt z k) = true) : lt (nt z i) (nt z k) = true :=
  T.tr _ _ _ (nt_lt ho hl hi) (nt_lt ho hl hj) (nt_lt ho hl hk) h1 h2
theorem Ris.one (a b : Nat) (h : b ≤ a + 1) : Ris lt z a b := fun i j h1 h2 h3 => by omega
theorem Ris.part {a b a' b' : Nat} (h : Ris lt z a b) (ha : a ≤ a') (hb : b' ≤ b) : Ris lt z a' b' := fun i j h1 h2 h3 => h i j (by omega) h2 (by omega)
/-! ### One that goes down to its place -/
def shR (j i p : Nat) : Nat := if j < p ∧ p ≤ i then p - 1 else if p = j then i else p
theorem shR_fx {a b j i : Nat} (ha : a ≤ j) (hj : j ≤ i) (hb : i < b) : Fx a b (shR j i) := by
  refine ⟨fun k hk => ?_, fun k h1 h2 => ?_, fun p q e => ?_⟩
  · unfold shR; split <;> (try split) <;> omega
  · unfold shR; split <;> (try split) <;> omega
  · unfold shR at e; split at e <;> split at e <;> (try split at e) <;> (try split at e) <;> omega
theorem shR_zero (i : Nat) : mvL (shR i i) z = z := mvL_same fun p _ => by unfold shR; split <;> (try split) <;> omega
theorem shR_step {j i : Nat} (h0 : 0 < j) (hj : j ≤ i) (hi : i < z.length) :
    ((mvL (shR j i) z).set j (nth (mvL (shR j i) z) (j - 1))).set (j - 1) (nth (mvL (shR j i) z) j) = mvL (shR (j - 1) i) z := by
  refine ex_step (by omega) (by omega) fun p hp => ?_
  unfold exF shR
  split <;> (try split) <;> (try split) <;> (try split) <;> (try split) <;> omega
theorem shR_at {j i : Nat} (hj : j ≤ i) (hi : i < z.length) : nth (mvL (shR j i) z) j = nth z i := by
  rw [mvL_nth (by omega)]; unfold shR; rw [if_neg (by omega), if_pos rfl]
theorem shR_low {j i k : Nat} (hk : k < j) (hj : j ≤ i) (hi : i < z.length) : nth (mvL (shR j i) z) k = nth z k := by
  rw [mvL_nth (by omega)]; unfold shR; rw [if_neg (by omega), if_neg (by omega)]
/-- Insertion: it went down to its place, and all rises. -/
theorem ris_shR (T : Tot lt n) (ho : IsOrd z) (hl : z.length = n) {a j i : Nat} (ha : a ≤ j) (hj : j ≤ i) (hi : i < n) (hr : Ris lt z a i) (hg : ∀ k, j ≤ k → k < i → lt (nt z i) (nt z k) = true) (hs : j = a ∨ lt (nt z (j - 1)) (nt z i) = true) :
    Ris lt (mvL (shR j i) z) a (i + 1) := by
  intro p q h1 h2 h3
  rw [nt_mv (by omega), nt_mv (by omega)]
  have hd : ∀ k, a ≤ k → k < j → lt (nt z k) (nt z i) = true := fun k k1 k2 => by
    rcases hs with e | e
    · omega
    · by_cases q : k = j - 1
      · subst q; exact e
      · exact lt_tr T ho hl (by omega) (by omega) hi (hr k (j - 1) k1 (by omega) (by omega)) e
  unfold shR
  split <;> split <;> (try split) <;> (try split) <;> first | omega | (exact hr _ _ (by omega) (by omega) (by omega)) | (exact hg _ (by omega) (by omega)) | (exact hd _ (by omega) (by omega)) | skip
/-! ### One that goes up to its place -/
def shL (a k p : Nat) : Nat := if a ≤ p ∧ p < k then p + 1 else if p = k then a else p
theorem shL_fx {a b k : Nat} (ha : a ≤ k) (hb : k < b) : Fx a b (shL a k) := by
  refine ⟨fun p hp => ?_, fun p h1 h2 => ?_, fun p q e => ?_⟩
  · unfold shL; split <;> (try split) <;> omega
  · unfold shL; split <;> (try split) <;> omega
  · unfold shL at e; split at e <;> split at e <;> (try split at e) <;> (try split at e) <;> omega
theorem shL_zero (a : Nat) : mvL (shL a a) z = z := mvL_same fun p _ => by unfold shL; split <;> (try split) <;> omega
theorem shL_step {a k : Nat} (ha : a ≤ k) (hk : k + 1 < z.length) :
    ((mvL (shL a k) z).set k (nth (mvL (shL a k) z) (k + 1))).set (k + 1) (nth (mvL (shL a k) z) k) = mvL (shL a (k + 1)) z := by
  refine ex_step (by omega) hk fun p hp => ?_
  unfold exF shL
  split <;> (try split) <;> (try split) <;> (try split) <;> (try split) <;> omega
theorem ris_shL (T : Tot lt n) (ho : IsOrd z) (hl : z.length = n) {a i b : Nat} (ha : a + 1 ≤ i) (hi : i ≤ b) (hb : b ≤ n) (hr : Ris lt z (a + 1) b) (hg : ∀ k, a + 1 ≤ k → k < i → lt (nt z k) (nt z a) = true) (hs : ∀ k, i ≤ k → k < b → lt (nt z k) (nt z a) = false) :
    Ris lt (mvL (shL a (i - 1)) z) a b := by
  intro p q h1 h2 h3
  rw [nt_mv (by omega), nt_mv (by omega)]
  have hd : ∀ k, i ≤ k → k < b → lt (nt z a) (nt z k) = true := fun k k1 k2 => (tot_not T ho hl (by omega) (by omega) (by omega)).1 (hs k k1 k2)
  unfold shL
  split <;> split <;> (try split) <;> (try split) <;> first | omega | (exact hr _ _ (by omega) (by omega) (by omega)) | (exact hg _ (by omega) (by omega)) | (exact hd _ (by omega) (by omega)) | skip
/-! ### Two runs that change places -/
def swF (a b n p : Nat) : Nat := if a ≤ p ∧ p < a + n then p + (b - a) else if b ≤ p ∧ p < b + n then p - (b - a) else p
theorem swF_zero (a b : Nat) : mvL (swF a b 0) z = z := mvL_same fun p _ => by unfold swF; split <;> (try split) <;> omega
theorem swF_step {a b k : Nat} (h : a + k < b) (hb : b + k < z.length) :
    ((mvL (swF a b k) z).set (a + k) (nth (mvL (swF a b k) z) (b + k))).set (b + k) (nth (mvL (swF a b k) z) (a + k)) = mvL (swF a b (k + 1)) z := by
  refine ex_step (by omega) hb fun p hp => ?_
  unfold exF swF
  split <;> (try split) <;> (try split) <;> (try split) <;> (try split) <;> (try split) <;> omega
def rtF (m i j p : Nat) : Nat := if p < m - i then p else if p < m - i + j then p + i else if p < m + j then p - j else p
theorem rtF_fx {m i j : Nat} (hi : i ≤ m) : Fx (m - i) (m + j) (rtF m i j) := by
  refine ⟨fun p hp => ?_, fun p h1 h2 => ?_, fun p q e => ?_⟩
  · unfold rtF; split <;> (try split) <;> (try split) <;> omega
  · unfold rtF; split <;> (try split) <;> (try split) <;> omega
  · unfold rtF at e; split at e <;> (try split at e) <;> (try split at e) <;> (try split at e) <;> (try split at e) <;> (try split at e) <;> omega
theorem rtF_left {m i j : Nat} (hij : j < i) (hi : i ≤ m) (hb : m + j ≤ z.length) : mvL (rtF m (i - j) j) (mvL (swF (m - i) m j) z) = mvL (rtF m i j) z := by
  rw [mvL_mvL fun p hp => (rtF_fx (by omega)).low hb hp]
  refine mvL_congr fun p hp => ?_
  unfold swF rtF
  split <;> (try split) <;> (try split) <;> (try split) <;> (try split) <;> (try split) <;> (try split) <;> omega
theorem rtF_right {m i j : Nat} (hij : i < j) (hi : i ≤ m) (hb : m + j ≤ z.length) : mvL (rtF m i (j - i)) (mvL (swF (m - i) (m + j - i) i) z) = mvL (rtF m i j) z := by
  rw [mvL_mvL fun p hp => (rtF_fx (by omega)).low (by omega) hp]
  refine mvL_congr fun p hp => ?_
  unfold swF rtF
  split <;> (try split) <;> (try split) <;> (try split) <;> (try split) <;> (try split) <;> (try split) <;> omega
theorem rtF_last {m i : Nat} (hi : i ≤ m) (hb : m + i ≤ z.length) : mvL (swF (m - i) m i) z = mvL (rtF m i i) z := by
  refine mvL_congr fun p hp => ?_
  unfold swF rtF
  split <;> (try split) <;> (try split) <;> (try split) <;> (try split) <;> (try split) <;> omega
end
end Go.Proofs.Ytmbgomljofngnab
