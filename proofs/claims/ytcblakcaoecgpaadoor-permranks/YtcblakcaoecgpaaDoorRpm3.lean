/-
  The document's answers on orders: ranks, and the order of a rank.
-/
import Derived.Test.YtcblakcaoecgpaaDoorRpm2
namespace Go.Proofs.YtcblakcaoecgpaaDoor
open Go.RowKit
set_option linter.unusedVariables false

/-! ### Ranks -/
def lsK (p : List Int) (i j : Nat) : Nat := lsN (nth p i) ((p.take j).drop (i + 1))
theorem lsK_start (p : List Int) (i : Nat) : lsK p i (i + 1) = 0 := by
  unfold lsK
  rw [List.drop_eq_nil_of_le (by rw [List.length_take]; omega)]
  rfl
theorem lsK_next {p : List Int} {i j : Nat} (h1 : i + 1 ≤ j) (h2 : j < p.length) : lsK p i (j + 1) = lsK p i j + if nth p j < nth p i then 1 else 0 := by
  unfold lsK lsN
  rw [take_snoc p j h2, List.drop_append_of_le_length (by rw [List.length_take]; omega), List.countP_append]
  congr 1
  by_cases h : nth p j < nth p i
  · rw [if_pos h, List.countP_cons_of_pos (by simpa using h)]; rfl
  · rw [if_neg h, List.countP_cons_of_neg (by simpa using h)]; rfl
theorem lsK_le (p : List Int) (i j : Nat) : lsK p i j ≤ j := by
  unfold lsK
  have := lsN_le (nth p i) ((p.take j).drop (i + 1))
  rw [List.length_drop, List.length_take] at this
  omega
theorem rk_drop {p : List Int} {i : Nat} (h : i < p.length) : rk (p.drop i) = lsK p i p.length * fac (p.length - 1 - i) + rk (p.drop (i + 1)) := by
  rw [List.drop_eq_getElem_cons h, ← nth_get p i h]
  unfold lsK
  rw [List.take_length]
  show lsN (nth p i) (p.drop (i + 1)) * fac (p.drop (i + 1)).length + rk (p.drop (i + 1)) = _
  rw [List.length_drop, show p.length - (i + 1) = p.length - 1 - i by omega]
theorem rk_le12 {p : List Int} (h : p.length ≤ 12) : rk p < 479001600 := Nat.lt_of_lt_of_le (rk_lt p) (fac_le12 _ (by omega))
set_option maxRecDepth 100000 in
set_option maxHeartbeats 2000000 in
theorem ranked_any (a : Option Addr) (cap : Nat) (p : List Int) (h1 : p.length ≤ 12) (n₀ : Nat) (w : World) (hI : IsInts n₀ w a p) :
    Calls Tryd.prog 23 #[.slice a p.length cap] w fun e w' => e = .returned (.int .i64 (rk p : Nat)) ∧ Below w.heap.size w w' := by
  obtain ⟨Z, hZ⟩ : ∃ Z, Z = rk p := ⟨_, rfl⟩
  rw [← hZ]
  have HZ : Hid (Z = rk p ∧ Z < 479001600) := ⟨hZ, by rw [hZ]; exact rk_le12 h1⟩
  have HI : Hid (IsInts n₀ w a p) := hI
  clear hZ hI
  go_enter Tryd.func23, Tryd.ntmps23
  go_wp2_with fail
  go_loopw [3, 4] (fun r i wr => ∃ k R : Nat, k ≤ p.length ∧ i = .int .i64 k ∧ r = .int .i64 R ∧ Hid (R + rk (p.drop k) = Z) ∧ ∃ m, wr = w.drewN m) (fun _ i _ => p.length - (intOf i).toNat)
  case atStart => exact ⟨0, 0, Nat.zero_le _, rfl, rfl, by show _ = _; rw [List.drop_zero, HZ.out.1, Nat.zero_add], 0, rfl⟩
  case round =>
    obtain ⟨k, R, hk, rfl, rfl, HR, m, rfl⟩ := hrel
    by_cases hlt : k < p.length
    · go_wp2_with fail
      go_loopw [5, 6] (fun l i wr => ∃ j : Nat, k + 1 ≤ j ∧ j ≤ p.length ∧ i = .int .i64 j ∧ l = .int .i64 (lsK p k j : Nat) ∧ ∃ m, wr = w.drewN m) (fun _ i _ => p.length - (intOf i).toNat)
      case atStart => exact ⟨k + 1, Nat.le_refl _, hlt, by go_num, by rw [lsK_start]; rfl, m, rfl⟩
      case round =>
        clear m
        obtain ⟨j, hj0, hj, rfl, rfl, m, rfl⟩ := hrel
        by_cases hjl : j < p.length
        · obtain ⟨b, off, rfl, hb, hcell⟩ := HI.out.at hlt
          have hc := hcell k hlt
          have hc' := hcell j hjl
          have hn := lsK_next hj0 hjl
          have hle := lsK_le p k j
          clear hcell
          by_cases he : nth p j < nth p k
          · rw [if_pos he] at hn
            have hd : decide (nth p j < nth p k) = true := decide_eq_true he
            have HN : Hid (lsK p k (j + 1) = lsK p k j + 1) := hn
            clear hn he
            generalize lsK p k j = L at *
            go_wp2_with fail
            go_quiet (fail)
            go_wp2
            go_roundw
            case rel => exact ⟨j + 1, by omega, by omega, by go_num, by rw [HN.out]; go_num, _, rfl⟩
            case measure => simp [intOf]; omega
          · rw [if_neg he] at hn
            have hd : decide (nth p j < nth p k) = false := decide_eq_false he
            have HN : Hid (lsK p k (j + 1) = lsK p k j) := hn
            clear hn he
            generalize lsK p k j = L at *
            go_wp2_with fail
            go_quiet (fail)
            go_wp2
            go_roundw
            case rel => exact ⟨j + 1, by omega, by omega, by go_num, by rw [HN.out], _, rfl⟩
            case measure => simp [intOf]; omega
        · obtain rfl : j = p.length := by omega
          have hd := rk_drop hlt
          have h2 := HR.out
          have h3 := HZ.out.2
          have hle := lsK_le p k p.length
          have hf := fac_le12 (p.length - 1 - k) (by omega)
          obtain ⟨M, hM⟩ : ∃ M, M = lsK p k p.length * fac (p.length - 1 - k) := ⟨_, rfl⟩
          have hw : wrap64 ((lsK p k p.length : Int) * (fac (p.length - 1 - k) : Int)) = (M : Nat) := by rw [← Int.natCast_mul, ← hM]; exact w_small (by omega) (by omega)
          rw [← hM] at hd
          have HN : Hid (R + M + rk (p.drop (k + 1)) = Z) := by show _ = _; omega
          have hRM : R + M < 479001600 := by omega
          clear hM hd h2 h3
          generalize lsK p k p.length = L at *
          go_wp2_with fail
          refine (fact_any _ (by omega) (by omega) _).mono ?_
          rintro e w1 ⟨rfl, rfl⟩
          rw [show ((p.length : Int) - 1 - (k : Int)).toNat = p.length - 1 - k by omega]
          generalize fac (p.length - 1 - k) = G at *
          go_wp2_with fail
          exact ⟨⟨k + 1, R + M, by omega, by go_num, by first | go_num | rfl, HN.out, _, rfl⟩, by simp [intOf]; omega⟩
    · obtain rfl : k = p.length := by omega
      have e : R = Z := by have := HR.out; rw [List.drop_length] at this; exact this
      subst e
      go_wp2_with fail
      go_ret
      exact ⟨rfl, bel_drewN (Below.refl _ _) _⟩
/-! ### The order of a rank -/
/-- The numbers that are not used, in order. -/
def unl (us : Nat → Bool) : Nat → List Int
  | 0 => []
  | n + 1 => if us n = true then unl us n else unl us n ++ [(n : Int)]
def usS (us : Nat → Bool) (c : Nat) : Nat → Bool := fun j => if j = c then true else us j
theorem unl_idn : ∀ n, unl (fun _ => false) n = idn n
  | 0 => rfl
  | n + 1 => by
    simp only [unl]
    rw [if_neg (by decide), unl_idn n]
    unfold idn
    rw [List.range_succ, List.map_append]; rfl
theorem unl_le (us : Nat → Bool) : ∀ {c n : Nat}, c ≤ n → (unl us c).length ≤ (unl us n).length
  | c, 0, h => by obtain rfl : c = 0 := by omega
                  exact Nat.le_refl _
  | c, n + 1, h => by
    by_cases e : c = n + 1
    · subst e; exact Nat.le_refl _
    · have ih := unl_le us (c := c) (n := n) (by omega)
      simp only [unl]
      split
      · exact ih
      · rw [List.length_append]; omega
theorem unl_lt {us : Nat → Bool} {c n : Nat} (h : c < n) (hu : us c = false) : (unl us c).length < (unl us n).length := by
  have := unl_le us (show c + 1 ≤ n from h)
  have e : unl us (c + 1) = unl us c ++ [(c : Int)] := by simp only [unl]; rw [if_neg (by rw [hu]; decide)]
  rw [e, List.length_append] at this
  simp at this
  omega
theorem nth_left {l r : List Int} {i : Nat} (h : i < l.length) : nth (l ++ r) i = nth l i := by
  unfold nth
  simp [List.getD_eq_getElem?_getD, List.getElem?_append_left h]
theorem unl_at {us : Nat → Bool} {c : Nat} (hu : us c = false) : ∀ {n : Nat}, c < n → nth (unl us n) (unl us c).length = c
  | 0, h => by omega
  | n + 1, h => by
    by_cases e : c = n
    · subst e
      simp only [unl]
      rw [if_neg (by rw [hu]; decide)]
      unfold nth
      simp
    · have hl := unl_lt (show c < n by omega) hu
      have ih := unl_at hu (show c < n by omega)
      simp only [unl]
      split
      · exact ih
      · rw [nth_left hl]; exact ih
theorem unl_same {us : Nat → Bool} {c : Nat} : ∀ {n : Nat}, n ≤ c → unl (usS us c) n = unl us n
  | 0, _ => rfl
  | n + 1, h => by
    have e : usS us c n = us n := by unfold usS; rw [if_neg (by omega)]
    simp only [unl]
    rw [e, unl_same (by omega)]
theorem unl_erase {us : Nat → Bool} {c : Nat} (hu : us c = false) : ∀ {n : Nat}, c < n → unl (usS us c) n = (unl us n).eraseIdx (unl us c).length
  | 0, h => by omega
  | n + 1, h => by
    by_cases e : c = n
    · subst e
      have e1 : usS us c c = true := by unfold usS; rw [if_pos rfl]
      simp only [unl]
      rw [if_pos e1, if_neg (by rw [hu]; decide), unl_same (Nat.le_refl _), List.eraseIdx_append_of_length_le (Nat.le_refl _), Nat.sub_self]
      simp
    · have hl := unl_lt (show c < n by omega) hu
      have ih := unl_erase hu (show c < n by omega)
      have e1 : usS us c n = us n := by unfold usS; rw [if_neg (fun q => e q.symm)]
      simp only [unl]
      rw [e1]
      split
      · exact ih
      · rw [ih, List.eraseIdx_append_of_lt_length hl]
theorem own_set {w : World} {base : Nat} {e : TypeId} {size : Nat} {v : Value} {n : Nat} {xs : List Value} (h : w.ownsRow base e size v n xs) {a : Addr} (ha : a.block < base) (u : Value) : (w.setCell a u).ownsRow base e size v n xs := by
  obtain ⟨hl, hc⟩ := h
  refine ⟨hl, ?_⟩
  rcases hc with hc | ⟨g, cap, cur, h1, h2, hg, hr⟩
  · exact .inl hc
  · exact .inr ⟨g, cap, cur, h1, h2, (Below.heap_setCell w a u g (by omega)).trans hg, hr⟩
/-- What holds behind so many numbers. -/
def UrI (n : Nat) (L : List Int) (i : Nat) (us : Nat → Bool) (k : Nat) : Prop := (unl us n).length = n - i ∧ k < fac (n - i) ∧ ur (n - i) (unl us n) k = L.drop i
theorem UrI.start {n k : Nat} (h : k < fac n) : UrI n (ur n (idn n) k) 0 (fun _ => false) k := by
  refine ⟨by rw [unl_idn, idn_length]; rfl, h, ?_⟩
  rw [unl_idn, List.drop_zero, Nat.sub_zero]
theorem UrI.found {n : Nat} {L : List Int} (hL : L.length = n) {i : Nat} {us : Nat → Bool} {k c t r : Nat} (H : UrI n L i us k) (hi : i < n) (hc : c < n) (hu : us c = false) (ht : t = (unl us c).length) (hr : r + t * fac (n - 1 - i) = k) (hlt : r < fac (n - 1 - i)) :
    L.take (i + 1) = L.take i ++ [(c : Int)] ∧ UrI n L (i + 1) (usS us c) r := by
  obtain ⟨h1, h2, h3⟩ := H
  have hm : n - i = (n - 1 - i) + 1 := by omega
  have hd : k / fac (n - 1 - i) = t := by
    rw [← hr, Nat.add_mul_div_right _ _ (fac_pos _), Nat.div_eq_of_lt hlt, Nat.zero_add]
  have he : k % fac (n - 1 - i) = r := by rw [← hr, Nat.add_mul_mod_self_right, Nat.mod_eq_of_lt hlt]
  rw [hm] at h3
  simp only [ur] at h3
  rw [hd, he, ht, unl_at hu hc, ← unl_erase hu hc] at h3
  have hdr : L.drop i = nth L i :: L.drop (i + 1) := by rw [List.drop_eq_getElem_cons (by omega), ← nth_get L i (by omega)]
  rw [hdr] at h3
  obtain ⟨e1, e2⟩ := List.cons.inj h3
  refine ⟨by rw [take_snoc L i (by omega), ← e1], ?_, ?_, ?_⟩
  · rw [unl_erase hu hc, List.length_eraseIdx_of_lt (unl_lt hc hu), h1]; omega
  · rw [show n - (i + 1) = n - 1 - i by omega]; exact hlt
  · rw [show n - (i + 1) = n - 1 - i by omega]; exact e2
theorem UrI.not_all {n : Nat} {L : List Int} {i : Nat} {us : Nat → Bool} {k r : Nat} (H : UrI n L i us k) (hi : i < n) (hr : r + (unl us n).length * fac (n - 1 - i) = k) : False := by
  obtain ⟨h1, h2, _⟩ := H
  rw [h1] at hr
  have e : fac (n - i) = (n - i) * fac (n - 1 - i) := by
    have : n - i = (n - 1 - i) + 1 := by omega
    rw [this]; rfl
  omega
end Go.Proofs.YtcblakcaoecgpaaDoor
