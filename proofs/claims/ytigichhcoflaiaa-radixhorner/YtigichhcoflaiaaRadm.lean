/-
  Plain mathematics of digits: what they are worth, and the digits of a number; nothing of the program.
-/
import Derived.Test.YtigichhcoflaiaaBas9
import Derived.Test.YtigichhcoflaiaaPrml
namespace Go.Proofs.Ytigichhcoflaiaa
open Go.RowKit
set_option linter.unusedVariables false

/-- What the first k digits are worth, and the product of the first k bases, with no bound. -/
def hv (b d : List Int) : Nat → Int
  | 0 => 0
  | k + 1 => hv b d k * nth b k + nth d k
def pk (b : List Int) : Nat → Int
  | 0 => 1
  | k + 1 => pk b k * nth b k
theorem hv_step (b d : List Int) (k : Nat) : wrap64 (wrap64 (wrap64 (hv b d k) * nth b k) + nth d k) = wrap64 (hv b d (k + 1)) := by
  rw [w_addl, ← w_addl, w_mull, w_addl]; rfl
theorem pk_step (b : List Int) (k : Nat) : wrap64 (wrap64 (pk b k) * nth b k) = wrap64 (pk b (k + 1)) := by rw [w_mull]; rfl
theorem hv_congr {b c d e : List Int} : ∀ {k : Nat}, (∀ i, i < k → nth b i = nth c i ∧ nth d i = nth e i) → hv b d k = hv c e k
  | 0, _ => rfl
  | k + 1, h => by simp only [hv]; rw [hv_congr fun i hi => h i (by omega), (h k (by omega)).1, (h k (by omega)).2]
theorem pk_congr {b c : List Int} : ∀ {k : Nat}, (∀ i, i < k → nth b i = nth c i) → pk b k = pk c k
  | 0, _ => rfl
  | k + 1, h => by simp only [pk]; rw [pk_congr fun i hi => h i (by omega), h k (by omega)]
theorem nth_app_r (a b : List Int) (j : Nat) : nth (a ++ b) (a.length + j) = nth b j := by
  unfold nth; rw [List.getD_eq_getElem?_getD, List.getD_eq_getElem?_getD, List.getElem?_append_right (by omega), Nat.add_sub_cancel_left]
theorem hv_app (b c d e : List Int) (hl : d.length = b.length) : ∀ k, hv (b ++ c) (d ++ e) (b.length + k) = hv b d b.length * pk c k + hv c e k
  | 0 => by
    simp only [pk, hv, Nat.add_zero, Int.mul_one, Int.add_zero]
    exact hv_congr fun i hi => ⟨nth_append_left _ _ _ hi, nth_append_left _ _ _ (by omega)⟩
  | k + 1 => by
    rw [← Nat.add_assoc]
    simp only [hv, pk]
    rw [hv_app b c d e hl k, nth_app_r]
    have : nth (d ++ e) (b.length + k) = nth e k := by rw [← hl]; exact nth_app_r _ _ _
    rw [this]
    grind
theorem pk_app (b c : List Int) : ∀ k, pk (b ++ c) (b.length + k) = pk b b.length * pk c k
  | 0 => by
    simp only [pk, Nat.add_zero, Int.mul_one]
    exact pk_congr fun i hi => nth_append_left _ _ _ hi
  | k + 1 => by
    rw [← Nat.add_assoc]
    simp only [pk]
    rw [pk_app b c k, nth_app_r, Int.mul_assoc]
theorem pk_prod : ∀ b : List Int, pk b b.length = prod b
  | [] => rfl
  | x :: b => by
    have h := pk_app [x] b b.length
    have e : pk [x] [x].length = x := by simp [pk, nth]
    rw [e, pk_prod b] at h
    have l : (x :: b).length = [x].length + b.length := by simp; omega
    rw [l]
    exact h
theorem hv_place : ∀ (b d : List Int), d.length = b.length → hv b d b.length = place b d
  | [], d, _ => by cases d <;> rfl
  | x :: b, [], h => by simp at h
  | x :: b, y :: d, h => by
    have h1 := hv_app [x] b [y] d (by simp) b.length
    have e : hv [x] [y] [x].length = y := by simp [hv, nth]
    rw [e, pk_prod b, hv_place b d (by simpa using h)] at h1
    have l : (x :: b).length = [x].length + b.length := by simp; omega
    rw [l]
    exact h1
/-- Values of digits added are added. -/
theorem hv_add {c e f s : List Int} : ∀ {k : Nat}, (∀ i, i < k → nth s i = wrap64 (nth e i + nth f i)) → wrap64 (hv c s k) = wrap64 (wrap64 (hv c e k) + wrap64 (hv c f k))
  | 0, _ => by simp only [hv]; rw [w_addl, w_addr, Int.add_zero]
  | k + 1, h => by
    have ih := hv_add (c := c) (e := e) (f := f) (s := s) (k := k) fun i hi => h i (by omega)
    rw [w_addl, w_addr] at ih ⊢
    simp only [hv]
    rw [← w_addl, ← w_mull, ih, w_mull, w_addl, h k (by omega), w_addr]
    congr 1
    grind
/-- Of digits joined to digits. -/
theorem hv_join {b c d e : List Int} (hl : d.length = b.length) : wrap64 (wrap64 (wrap64 (hv b d b.length) * wrap64 (pk c c.length)) + wrap64 (hv c e c.length)) = wrap64 (hv (b ++ c) (d ++ e) (b.length + c.length)) := by
  rw [hv_app b c d e hl, w_addr, w_addl, ← w_addl, w_mulr, w_mull, w_addl]

/-! ### Each digit times all bases behind it -/
def mp (b : List Int) (x : Int) (i : Nat) : Nat → Int
  | 0 => x
  | m + 1 => mp b x i m * nth b (i + 1 + m)
theorem mp_step (b : List Int) (x : Int) (i m : Nat) : wrap64 (wrap64 (mp b x i m) * nth b (i + 1 + m)) = wrap64 (mp b x i (m + 1)) := by rw [w_mull]; rfl
def tv (b d : List Int) (N : Nat) : Nat → Int
  | 0 => 0
  | i + 1 => tv b d N i + mp b (nth d i) i (N - 1 - i)
theorem tv_step (b d : List Int) (N i : Nat) : wrap64 (wrap64 (tv b d N i) + wrap64 (mp b (nth d i) i (N - 1 - i))) = wrap64 (tv b d N (i + 1)) := by rw [w_addl, w_addr]; rfl
theorem tv_more (b d : List Int) (N : Nat) : ∀ i, i ≤ N → tv b d (N + 1) i = tv b d N i * nth b N
  | 0, _ => by simp [tv]
  | i + 1, h => by
    simp only [tv]
    rw [tv_more b d N i (by omega)]
    have e : N + 1 - 1 - i = (N - 1 - i) + 1 := by omega
    rw [e]
    simp only [mp]
    have e2 : i + 1 + (N - 1 - i) = N := by omega
    rw [e2, Int.add_mul]
theorem tv_hv (b d : List Int) : ∀ N, tv b d N N = hv b d N
  | 0 => rfl
  | N + 1 => by
    have e : N + 1 - 1 - N = 0 := by omega
    simp only [tv, hv]
    rw [tv_more b d N N (Nat.le_refl _), tv_hv b d N, e]
    rfl

/-! ### The digits of a number, from the last place on -/
def qt (b n : Int) : Int := if b = 0 then 0 else divV n b
def dd (b n : Int) : Int := if b = 0 then n else n.fmod b
theorem qt_zero (n : Int) : qt 0 n = 0 := by simp [qt]
theorem dd_zero (n : Int) : dd 0 n = n := by simp [dd]
theorem qt_else {b : Int} (h : b ≠ 0) (n : Int) : qt b n = divV n b := by simp [qt, h]
theorem dd_else {b : Int} (h : b ≠ 0) (n : Int) : dd b n = n.fmod b := by simp [dd, h]
theorem qt_in (b n : Int) : In64 (qt b n) := by
  unfold qt; split
  · unfold In64; omega
  · exact In64.w _
theorem dd_in {b n : Int} (hb : In64 b) (hn : In64 n) : In64 (dd b n) := by
  unfold dd; split
  · exact hn
  · exact In64.fmod hb hn
/-- The digit as the reference reckons it. -/
theorem dd_wrap {b n : Int} (h : b ≠ 0) (hb : In64 b) (hn : In64 n) : wrap64 (n - wrap64 (b * divV n b)) = dd b n := by
  rw [dd_else h, w_subr]
  unfold divV
  have : wrap64 (n - b * wrap64 (n.fdiv b)) = wrap64 (n - b * n.fdiv b) := by rw [← w_subr, w_mulr, w_subr]
  rw [this, fmod_is]
  exact (In64.fmod hb hn).same
theorem qd (b n : Int) : wrap64 (b * qt b n + dd b n) = wrap64 n := by
  by_cases h : b = 0
  · subst h; simp [qt, dd]
  · rw [qt_else h, dd_else h]
    unfold divV
    rw [← w_addl, w_mulr, w_addl]
    congr 1
    have := fmod_is n b
    omega
def dgL (b : List Int) : Nat → Int → List Int
  | 0, _ => []
  | N + 1, n => dgL b N (qt (nth b N) n) ++ [dd (nth b N) n]
/-- What is left of the number behind j places. -/
def rs (b : List Int) (N : Nat) (n : Int) : Nat → Int
  | 0 => n
  | j + 1 => qt (nth b (N - 1 - j)) (rs b N n j)
theorem rs_in {b : List Int} {N : Nat} {n : Int} (hn : In64 n) : ∀ j, In64 (rs b N n j)
  | 0 => hn
  | j + 1 => qt_in _ _
theorem rs_next (b : List Int) (N : Nat) (n : Int) : ∀ j, rs b (N + 1) n (j + 1) = rs b N (qt (nth b N) n) j
  | 0 => by simp [rs]
  | j + 1 => by
    have h := rs_next b N n j
    rw [rs, h, rs]
    have : N + 1 - 1 - (j + 1) = N - 1 - j := by omega
    rw [this]
theorem dgL_length (b : List Int) : ∀ (N : Nat) (n : Int), (dgL b N n).length = N
  | 0, _ => rfl
  | N + 1, n => by simp [dgL, dgL_length b N]
theorem dgL_take (b : List Int) (k : Nat) : ∀ (N : Nat) (n : Int), N ≤ k → dgL (b.take k) N n = dgL b N n
  | 0, _, _ => rfl
  | N + 1, n, h => by simp only [dgL]; rw [nth_take b k N (by omega), dgL_take b k N _ (by omega)]
theorem dgL_nth (b : List Int) : ∀ (N : Nat) (n : Int) (i : Nat), i < N → nth (dgL b N n) i = dd (nth b i) (rs b N n (N - 1 - i))
  | 0, _, _, h => by omega
  | N + 1, n, i, h => by
    simp only [dgL]
    by_cases hi : i < N
    · rw [nth_append_left _ _ _ (by rw [dgL_length]; exact hi), dgL_nth b N _ i hi]
      have : N + 1 - 1 - i = (N - 1 - i) + 1 := by omega
      rw [this, rs_next]
    · have : i = N := by omega
      subst this
      have h1 := nth_app_r (dgL b i (qt (nth b i) n)) [dd (nth b i) n] 0
      rw [dgL_length, Nat.add_zero] at h1
      rw [h1]
      have : i + 1 - 1 - i = 0 := by omega
      rw [this]
      rfl
theorem dgL_in {b : List Int} {N : Nat} {n : Int} (hb : ∀ i, In64 (nth b i)) (hn : In64 n) (i : Nat) : In64 (nth (dgL b N n) i) := by
  by_cases h : i < N
  · rw [dgL_nth b N n i h]; exact dd_in (hb i) (rs_in hn _)
  · have : nth (dgL b N n) i = 0 := by unfold nth; rw [List.getD_eq_getElem?_getD, List.getElem?_eq_none (by rw [dgL_length]; omega)]; rfl
    rw [this]; unfold In64; omega

/-- Nothing is lost: the number is what its digits are worth, and the bases' product times what is left. -/
theorem whole (b : List Int) : ∀ (N : Nat) (n : Int), wrap64 (hv b (dgL b N n) N + pk b N * rs b N n N) = wrap64 n
  | 0, n => by simp [hv, pk, rs]
  | N + 1, n => by
    have ih := whole b N (qt (nth b N) n)
    have e : hv b (dgL b (N + 1) n) N = hv b (dgL b N (qt (nth b N) n)) N :=
      hv_congr fun i hi => ⟨rfl, by simp only [dgL]; exact nth_append_left _ _ _ (by rw [dgL_length]; exact hi)⟩
    have e2 : nth (dgL b (N + 1) n) N = dd (nth b N) n := by
      rw [dgL_nth b (N + 1) n N (by omega)]
      have : N + 1 - 1 - N = 0 := by omega
      rw [this]; rfl
    simp only [hv, pk]
    rw [e, e2, rs_next, ← qd (nth b N) n, ← w_addl (nth b N * qt (nth b N) n), ← w_mulr, ← ih, w_mulr, w_addl]
    congr 1
    grind
theorem pk_zero {b : List Int} {i : Nat} (h : nth b i = 0) : ∀ {N : Nat}, i < N → pk b N = 0
  | 0, h0 => by omega
  | N + 1, h0 => by
    simp only [pk]
    by_cases hi : i = N
    · rw [← hi, h, Int.mul_zero]
    · rw [pk_zero h (by omega : i < N), Int.zero_mul]
theorem whole_zero {b : List Int} {N : Nat} {n : Int} (hn : In64 n) (h : wrap64 (pk b N) = 0) : wrap64 (hv b (dgL b N n) N) = n := by
  have h1 := whole b N n
  rw [hn.same] at h1
  have e : wrap64 (hv b (dgL b N n) N + pk b N * rs b N n N) = wrap64 (hv b (dgL b N n) N) := by
    have e0 : wrap64 (pk b N * rs b N n N) = 0 := by rw [← w_mull, h, Int.zero_mul]; exact w_small (by omega) (by omega)
    rw [← w_addr, e0, Int.add_zero]
  exact e.symm.trans h1

/-! ### With no bound: numbers and bases that are small -/
theorem fdiv_abs (a : Int) {b : Int} (h : b ≠ 0) : (a.fdiv b).natAbs ≤ a.natAbs := by
  have e := fmod_is a b
  by_cases hb : 0 < b
  · have m := fmod_pos (a := a) hb
    generalize a.fdiv b = q at *
    generalize a.fmod b = r at *
    by_cases hq : 0 ≤ q
    · have : q * 1 ≤ q * b := Int.mul_le_mul_of_nonneg_left (by omega) hq
      rw [Int.mul_comm q b] at this
      omega
    · have : (-q - 1) * 1 ≤ (-q - 1) * b := Int.mul_le_mul_of_nonneg_left (by omega) (by omega)
      have e3 : (-q - 1) * b = -(b * q) - b := by grind
      omega
  · have m := fmod_neg (a := a) (b := b) (by omega)
    generalize a.fdiv b = q at *
    generalize a.fmod b = r at *
    by_cases hq : 0 ≤ q
    · have : q * 1 ≤ q * (-b) := Int.mul_le_mul_of_nonneg_left (by omega) hq
      have e3 : q * (-b) = -(b * q) := by grind
      omega
    · have : (-q - 1) * 1 ≤ (-q - 1) * (-b) := Int.mul_le_mul_of_nonneg_left (by omega) (by omega)
      have e3 : (-q - 1) * (-b) = b * q + b := by grind
      omega
theorem qd_small {b n : Int} (h : b ≠ 0) (hn : n.natAbs ≤ 1099511627776) : b * qt b n + dd b n = n ∧ (qt b n).natAbs ≤ 1099511627776 := by
  have h1 := fdiv_abs n h
  have e : qt b n = n.fdiv b := by
    rw [qt_else h]; unfold divV; exact w_small (by omega) (by omega)
  rw [e, dd_else h]
  have := fmod_is n b
  exact ⟨by omega, by omega⟩
theorem whole_small (b : List Int) : ∀ (N : Nat) (n : Int), (∀ i, i < N → nth b i ≠ 0) → n.natAbs ≤ 1099511627776 → hv b (dgL b N n) N + pk b N * rs b N n N = n
  | 0, n, _, _ => by simp [hv, pk, rs]
  | N + 1, n, hb, hn => by
    obtain ⟨q1, q2⟩ := qd_small (hb N (by omega)) hn
    have ih := whole_small b N (qt (nth b N) n) (fun i hi => hb i (by omega)) q2
    have e : hv b (dgL b (N + 1) n) N = hv b (dgL b N (qt (nth b N) n)) N :=
      hv_congr fun i hi => ⟨rfl, by simp only [dgL]; exact nth_append_left _ _ _ (by rw [dgL_length]; exact hi)⟩
    have e2 : nth (dgL b (N + 1) n) N = dd (nth b N) n := by
      rw [dgL_nth b (N + 1) n N (by omega)]
      have : N + 1 - 1 - N = 0 := by omega
      rw [this]; rfl
    simp only [hv, pk]
    rw [e, e2, rs_next]
    generalize rs b N (qt (nth b N) n) N = r at *
    generalize hv b (dgL b N (qt (nth b N) n)) N = h at *
    generalize qt (nth b N) n = q at *
    have : nth b N * (h + pk b N * r) + dd (nth b N) n = n := by rw [ih]; exact q1
    rw [← this]
    grind
theorem dd_abs {b n : Int} (h : b ≠ 0) (hb : b.natAbs ≤ 1000) : (dd b n).natAbs ≤ 999 := by
  rw [dd_else h]
  by_cases h0 : 0 < b
  · have := fmod_pos (a := n) h0; omega
  · have := fmod_neg (a := n) (b := b) (by omega); omega
theorem hv_abs {b d : List Int} : ∀ {k : Nat}, (∀ i, i < k → (nth b i).natAbs ≤ 1000 ∧ (nth d i).natAbs ≤ 999) → (hv b d k).natAbs < 1000 ^ k
  | 0, _ => by simp [hv]
  | k + 1, h => by
    have ih := hv_abs (b := b) (d := d) (k := k) fun i hi => h i (by omega)
    obtain ⟨h1, h2⟩ := h k (by omega)
    simp only [hv, Nat.pow_succ]
    have h3 : (hv b d k * nth b k).natAbs ≤ (hv b d k).natAbs * 1000 := by rw [Int.natAbs_mul]; exact Nat.mul_le_mul_left _ h1
    omega
theorem pk_abs {b : List Int} : ∀ {k : Nat}, (∀ i, i < k → (nth b i).natAbs ≤ 1000) → (pk b k).natAbs ≤ 1000 ^ k
  | 0, _ => by simp [pk]
  | k + 1, h => by
    have ih := pk_abs (b := b) (k := k) fun i hi => h i (by omega)
    have h1 := h k (by omega)
    simp only [pk, Nat.pow_succ]
    rw [Int.natAbs_mul]
    exact Nat.mul_le_mul ih h1
theorem pow_four {k : Nat} (h : k ≤ 4) : 1000 ^ k ≤ 1000000000000 := Nat.le_trans (Nat.pow_le_pow_right (by decide) h) (by decide)
theorem whole_tmod {b : List Int} {N : Nat} {n : Int} (hN : N ≤ 4) (hb : ∀ i, i < N → nth b i ≠ 0 ∧ (nth b i).natAbs ≤ 1000) (hn : n.natAbs ≤ 1099511627776) :
    (wrap64 (n - wrap64 (hv b (dgL b N n) N))).tmod (wrap64 (pk b N)) = 0 := by
  have e := whole_small b N n (fun i hi => (hb i hi).1) hn
  have a1 : (hv b (dgL b N n) N).natAbs < 1000 ^ N := hv_abs fun i hi => ⟨(hb i hi).2, by rw [dgL_nth b N n i hi]; exact dd_abs (hb i hi).1 (hb i hi).2⟩
  have a2 : (pk b N).natAbs ≤ 1000 ^ N := pk_abs fun i hi => (hb i hi).2
  have a3 := pow_four hN
  generalize 1000 ^ N = P at *
  rw [w_small (n := hv b (dgL b N n) N) (by omega) (by omega), w_small (n := pk b N) (by omega) (by omega), w_small (by omega) (by omega)]
  have e2 : n - hv b (dgL b N n) N = pk b N * rs b N n N := by omega
  rw [e2]
  exact Int.mul_tmod_right _ _

/-! ### Digits below their bases -/
def Prp (b d : List Int) (k : Nat) : Prop := ∀ i, i < k → 1 ≤ nth b i ∧ 0 ≤ nth d i ∧ nth d i < nth b i
theorem Prp.less {b d : List Int} {k j : Nat} (h : Prp b d k) (hj : j ≤ k) : Prp b d j := fun i hi => h i (by omega)
theorem Prp.more {b d : List Int} {k : Nat} (h : Prp b d k) (h1 : 1 ≤ nth b k) (h2 : 0 ≤ nth d k) (h3 : nth d k < nth b k) : Prp b d (k + 1) := fun i hi => by
  by_cases e : i = k
  · subst e; exact ⟨h1, h2, h3⟩
  · exact h i (by omega)
theorem Prp.pos {b d : List Int} : ∀ {k : Nat}, Prp b d k → 1 ≤ pk b k
  | 0, _ => by simp [pk]
  | k + 1, h => by
    have ih := Prp.pos (h.less (Nat.le_succ k))
    have h1 := (h k (by omega)).1
    have : 1 * 1 ≤ pk b k * nth b k := Int.mul_le_mul ih h1 (by omega) (by omega)
    simp only [pk]; omega
theorem Prp.grow {b d : List Int} {k : Nat} : ∀ {m : Nat}, Prp b d (k + m) → pk b k ≤ pk b (k + m)
  | 0, _ => Int.le_refl _
  | m + 1, h => by
    have ih := Prp.grow (k := k) (m := m) (h.less (by omega))
    have h0 := (h.less (by omega : k + m ≤ k + (m + 1))).pos
    have h1 := (h (k + m) (by omega)).1
    have : pk b (k + m) * 1 ≤ pk b (k + m) * nth b (k + m) := Int.mul_le_mul_of_nonneg_left h1 (by omega)
    rw [← Nat.add_assoc]
    simp only [pk]; omega
theorem Prp.bd {b d : List Int} : ∀ {k : Nat}, Prp b d k → 0 ≤ hv b d k ∧ hv b d k < pk b k
  | 0, _ => by simp [hv, pk]
  | k + 1, h => by
    have ih := Prp.bd (h.less (Nat.le_succ k))
    obtain ⟨h1, h2, h3⟩ := h k (by omega)
    simp only [hv, pk]
    have a1 : 0 ≤ hv b d k * nth b k := Int.mul_nonneg ih.1 (by omega)
    have a2 : (hv b d k + 1) * nth b k ≤ pk b k * nth b k := Int.mul_le_mul_of_nonneg_right (by omega) (by omega)
    rw [Int.add_mul] at a2
    omega
/-- The room: 2^62 cut by each base. -/
theorem room_step {b d : List Int} {k : Nat} (h : Prp b d (k + 1)) : ((4611686018427387904 / pk b k : Int)).tdiv (nth b k) = 4611686018427387904 / pk b (k + 1) := by
  have h0 := (h.less (Nat.le_succ k)).pos
  have h1 := (h k (by omega)).1
  rw [Int.tdiv_eq_ediv_of_nonneg (Int.ediv_nonneg (by omega) (by omega))]
  simp only [pk]
  exact Int.ediv_ediv_of_nonneg (by omega)
theorem room_bd {b d : List Int} {k : Nat} (h : Prp b d k) : 0 ≤ (4611686018427387904 / pk b k : Int) ∧ (4611686018427387904 / pk b k : Int) ≤ 4611686018427387904 := by
  have h0 := h.pos
  exact ⟨Int.ediv_nonneg (by omega) (by omega), Int.ediv_le_self _ (by omega)⟩
theorem room_iff {b d : List Int} {k : Nat} (h : Prp b d k) : 0 < (4611686018427387904 / pk b k : Int) ↔ pk b k ≤ 4611686018427387904 := by
  have h0 := h.pos
  constructor
  · intro h1
    have h2 : pk b k * 1 ≤ pk b k * (4611686018427387904 / pk b k) := Int.mul_le_mul_of_nonneg_left (by omega) (by omega)
    have h3 := Int.mul_ediv_self_le (x := 4611686018427387904) (k := pk b k) (by omega)
    omega
  · intro h1
    exact Int.le_ediv_of_mul_le (a := 1) h0 (by omega)
/-- Each number once: the digits of what digits below their bases are worth. -/
theorem back {b d : List Int} : ∀ {N : Nat}, Prp b d N → pk b N ≤ 4611686018427387904 → N ≤ d.length → dgL b N (hv b d N) = d.take N
  | 0, _, _, _ => by simp [dgL]
  | N + 1, h, hp, hl => by
    obtain ⟨h1, h2, h3⟩ := h N (by omega)
    have g := h.less (Nat.le_succ N)
    have hp' : pk b N ≤ 4611686018427387904 := Int.le_trans (Prp.grow (m := 1) h) hp
    have bd := g.bd
    have e0 : nth b N ≠ 0 := by omega
    have e1 : qt (nth b N) (hv b d (N + 1)) = hv b d N := by
      rw [qt_else e0]
      unfold divV
      have : (hv b d (N + 1)).fdiv (nth b N) = hv b d N := by
        simp only [hv]
        rw [Int.fdiv_eq_ediv_of_nonneg _ (by omega), Int.add_comm, Int.add_mul_ediv_right _ _ e0, Int.ediv_eq_zero_of_lt h2 h3, Int.zero_add]
      rw [this]
      exact w_small (by omega) (by omega)
    have e2 : dd (nth b N) (hv b d (N + 1)) = nth d N := by
      rw [dd_else e0, Int.fmod_eq_emod_of_nonneg _ (by omega)]
      simp only [hv]
      rw [Int.add_comm, Int.add_mul_emod_self_right, Int.emod_eq_of_lt h2 h3]
    simp only [dgL]
    rw [e1, e2, back g hp' (by omega), nth_get d N (by omega), List.take_append_getElem]
theorem Prp.ins {b d : List Int} (h : Prp b d b.length) (hl : d.length = b.length) : insB b d = true := (insB_iff hl).mpr fun k hk => ⟨(h k hk).2.1, (h k hk).2.2⟩
/-- The first digit that differs tells which value is less. -/
theorem place_cmp : ∀ {s t u : List Int}, insB s t = true → insB s u = true → (place s t < place s u ↔ cmpL t u < 0)
  | [], [], [], _, _ => by simp [place, cmpL]
  | [], _ :: _, _, h, _ => by simp [insB] at h
  | [], [], _ :: _, _, h => by simp [insB] at h
  | _ :: _, [], _, h, _ => by simp [insB] at h
  | _ :: _, _ :: _, [], _, h => by simp [insB] at h
  | x :: s, a :: t, c :: u, h, h' => by
    simp only [insB, Bool.and_eq_true, decide_eq_true_eq] at h h'
    have ih := place_cmp h.2 h'.2
    have b1 := place_bd h.2
    have b2 := place_bd h'.2
    simp only [place, cmpL]
    by_cases h1 : a < c
    · rw [if_pos h1]
      have : (a + 1) * prod s ≤ c * prod s := Int.mul_le_mul_of_nonneg_right (by omega) (by omega)
      rw [Int.add_mul] at this
      constructor <;> intro _ <;> omega
    · rw [if_neg h1]
      by_cases h2 : c < a
      · rw [if_pos h2]
        have : (c + 1) * prod s ≤ a * prod s := Int.mul_le_mul_of_nonneg_right (by omega) (by omega)
        rw [Int.add_mul] at this
        constructor <;> intro _ <;> omega
      · rw [if_neg h2]
        have : a = c := by omega
        subst this
        rw [← ih]
        constructor <;> intro _ <;> omega
theorem hv_cmp {b d e : List Int} (h : Prp b d b.length) (hl : d.length = b.length) (h' : Prp b e b.length) (hl' : e.length = b.length) : hv b d b.length < hv b e b.length ↔ cmpL d e < 0 := by
  rw [hv_place b d hl, hv_place b e hl']
  exact place_cmp (h.ins hl) (h'.ins hl')
end Go.Proofs.Ytigichhcoflaiaa
