/-
  What prod.Inner finds at a place: a line with a line, folded.
-/
import Derived.Test.YtgaelbgeoobgiaaPrc
import Derived.Test.YtgaelbgeoobgiaaPrdp
import Derived.Test.YtgaelbgeoobgiaaPair
import Derived.Test.YtgaelbgeoobgiaaFdf
namespace Go.Proofs.Ytgaelbgeoobgiaa
open Go.RowKit
set_option linter.unusedVariables false

section
variable {w w1 w2 : World} {r : Nat}
theorem gb_refl (w : World) (r : Nat) : w.grownBy w (some r) := ⟨rfl, rfl, rfl, Nat.le_refl _, fun _ _ _ => rfl⟩
theorem gb_drew (h : w.grownBy w1 (some r)) : w.grownBy w1.drew (some r) := ⟨h.os, h.tape, h.output, h.size, h.block⟩
theorem gb_go (h : w.grownBy w1 (some r)) (hB : Below w1.heap.size w1 w2) : w.grownBy w2 (some r) := ⟨hB.os.trans h.os, hB.tape.trans h.tape, hB.output.trans h.output, Nat.le_trans h.size hB.size, fun k hk hne => (hB.block k (Nat.lt_of_lt_of_le hk h.size)).trans (h.block k hk hne)⟩
theorem gb_bel {n : Nat} (h : w.grownBy w1 (some r)) (hn : w.heap.size ≤ n) (hB : Below n w1 w2) : w.grownBy w2 (some r) := ⟨hB.os.trans h.os, hB.tape.trans h.tape, hB.output.trans h.output, Nat.le_trans h.size hB.size, fun k hk hne => (hB.block k (by omega)).trans (h.block k hk hne)⟩
theorem gb_set (h : w.grownBy w1 (some r)) (k : Nat) (v : Value) : w.grownBy (w1.setCell ⟨r, k, none⟩ v) (some r) := by
  refine ⟨h.os, h.tape, h.output, ?_, fun i hi hne => ?_⟩
  · have : (w1.setCell ⟨r, k, none⟩ v).heap.size = w1.heap.size := by simp [World.setCell]
    rw [this]; exact h.size
  · exact (Below.heap_setCell w1 ⟨r, k, none⟩ v i (fun e => hne (by rw [e]))).trans (h.block i hi hne)
theorem gb_trans (h : w.grownBy w1 (some r)) (k : w1.grownBy w2 (some r)) : w.grownBy w2 (some r) := ⟨k.os.trans h.os, k.tape.trans h.tape, k.output.trans h.output, Nat.le_trans h.size k.size, fun i hi hne => (k.block i (Nat.lt_of_lt_of_le hi h.size) hne).trans (h.block i hi hne)⟩
theorem gb_cell (h : w.grownBy w1 (some r)) {p : Addr} {v : Value} (hc : w.cell? p = some v) (hne : p.block ≠ r) : w1.cell? p = some v := h.cell hc (fun e => hne (Option.some.inj e))
theorem gb_ints (h : w.grownBy w1 (some r)) {n : Nat} {a : Option Addr} {zs : List Int} (hI : IsInts n w a zs) (hn : n ≤ r) (hw : n ≤ w.heap.size) : IsInts n w1 a zs := hI.below ((Below.refl n w).grown h hw (fun k e => by have := Option.some.inj e; omega))
end
/-- A row of numbers. -/
def Rw13 (w : World) (B L : Nat) (xs : List Int) : Prop := xs.length = L ∧ w.rowIs B 3 L (fun j => .int .i64 (nth xs j))
theorem Rw13.go {w w' : World} {B L : Nat} {xs : List Int} (h : Rw13 w B L xs) (hB : Below w.heap.size w w') : Rw13 w' B L xs := ⟨h.1, h.2.of_block (hB.block B h.2.lt)⟩
theorem Rw13.put {w : World} {B L : Nat} {xs : List Int} (h : Rw13 w B L xs) {i : Nat} (hi : i < L) (v : Int) : Rw13 (w.setCell ⟨B, i, none⟩ (.int .i64 v)) B L (xs.set i v) := by
  refine ⟨by rw [List.length_set]; exact h.1, (h.2.set i _).congr fun j hj => ?_⟩
  rw [nth_set _ _ _ _ (by rw [h.1]; omega)]
  by_cases e : j = i
  · rw [if_pos e, if_pos e]
  · rw [if_neg e, if_neg e]
theorem ffold_all (f : Int) (B : Nat) (l : List Int) (L cap : Nat) (hL : L ≤ 4096) (hc : L ≤ cap) (w : World) (T : ∀ j, In64 (nth l j)) (hr : Rw13 w B L l) : Calls Try.prog 29 #[.int .i64 f, .slice (some ⟨B, 0, none⟩) L cap] w (FdP f l w) := by
  obtain ⟨hl, hr⟩ := hr
  cases L with
  | zero =>
    obtain rfl := List.eq_nil_of_length_eq_zero hl
    exact ffold_nil f _ _ w
  | succ n =>
    have hn : n < l.length := by omega
    have e : l = l.take n ++ [nth l n] := by
      have h := List.take_append_drop n l
      rw [List.drop_eq_getElem_cons hn, List.drop_eq_nil_of_le (by omega), ← nth_get l n hn] at h
      exact h.symm
    have ht : ∀ j, j < n → nth (l.take n) j = nth l j := fun j hj => by unfold nth; rw [List.getD_eq_getElem?_getD, List.getD_eq_getElem?_getD, List.getElem?_take_of_lt hj]
    have h := ffold_snoc f B 0 (l.take n) (nth l n) n cap (by rw [List.length_take]; omega) (by omega) (by omega) w hr.lt
      (.inr ⟨B, 0, rfl, hr.lt, fun j hj => by rw [List.length_take] at hj; rw [ht j (by omega), Nat.zero_add]; exact hr.cell (by omega)⟩)
      (by rw [Nat.zero_add]; exact hr.cell (by omega)) (fun j => by
        by_cases hj : j < n
        · rw [ht j hj]; exact T j
        · have : nth (l.take n) j = 0 := by simp [nth, List.getElem?_eq_none (show (l.take n).length ≤ j by rw [List.length_take]; omega)]
          rw [this]; unfold In64; decide) (T n)
    rw [← e] at h
    exact h
/-- The numbers of a line, and its error. -/
def lnI (g : Int) (t : Bool) (U V : Nat → Int) (L : Nat) : List Int := (List.range L).map fun k => tcV g t (U k) (V k)
def lnX (f g : Int) (t : Bool) (U V : Nat → Int) (L : Nat) : Int := if ((List.range L).all fun k => tcE g t (U k) (V k) == 0) = true then fdE f (lnI g t U V L) else 6
def InP (f g : Int) (t : Bool) (U V : Nat → Int) (B L : Nat) (w : World) (e : Ending) (w' : World) : Prop :=
  ∃ v, e = .returned (.tuple #[.int .i64 v, errV (lnX f g t U V L)]) ∧ (lnX f g t U V L = 0 → v = fdV f (lnI g t U V L)) ∧ w.grownBy w' (some B) ∧ ∃ xs, Rw13 w' B L xs
theorem lnI_eq {g : Int} {t : Bool} {U V : Nat → Int} {L : Nat} {xs : List Int} (hl : xs.length = L) (h : ∀ j, j < L → nth xs j = tcV g t (U j) (V j)) : xs = lnI g t U V L := by
  refine nth_ext (by simp [lnI, hl]) fun j hj => ?_
  rw [h j (by omega)]
  simp [lnI, nth, show j < L by omega]
theorem lnX_six {f g : Int} {t : Bool} {U V : Nat → Int} {L k : Nat} (hk : k < L) (h : tcE g t (U k) (V k) ≠ 0) : lnX f g t U V L = 6 := by
  unfold lnX
  rw [if_neg]
  intro hh
  have := List.all_eq_true.1 hh k (List.mem_range.2 hk)
  exact h (by simpa using this)
theorem lnX_all {f g : Int} {t : Bool} {U V : Nat → Int} {L : Nat} (h : ∀ j, j < L → tcE g t (U j) (V j) = 0) : lnX f g t U V L = fdE f (lnI g t U V L) := by
  unfold lnX
  rw [if_pos]
  exact List.all_eq_true.2 fun k hk => by simpa using h k (List.mem_range.1 hk)
theorem lnI_64 {g : Int} {t : Bool} {U V : Nat → Int} {L : Nat} (hU : ∀ k, In64 (U k)) (hV : ∀ k, In64 (V k)) (j : Nat) : In64 (nth (lnI g t U V L) j) := by
  by_cases hj : j < L
  · have : nth (lnI g t U V L) j = tcV g t (U j) (V j) := by simp [lnI, nth, hj]
    rw [this]
    exact tcV_64 (hU j) (hV j)
  · have : nth (lnI g t U V L) j = 0 := by simp [lnI, nth, hj]
    rw [this]; unfold In64; decide
set_option maxRecDepth 100000 in
set_option maxHeartbeats 4000000 in
theorem inner1_any (f g : Int) (t : Bool) (hg : ¬ (g < 1 ∨ 16 < g)) (p L A N M : Nat) (hA : 0 < A) (hA4 : A ≤ 4096) (hp4 : p ≤ 4096) (hL4 : L ≤ 4096) (hN4 : N ≤ 4096) (hM4 : M ≤ 4096) (b1 b2 b3 b4 b5 b6 b7 B n0 m : Nat) (v : Value) (da : Option Addr) (dc : Nat) (dz : List Int) (da' : Option Addr) (dc' : Nat) (dz' : List Int) (hN : dz.length = N) (hM : dz'.length = M) (hin : ∀ k, k < L → p / A * L + k < N ∧ p % A + k * A < M) (T : ∀ j, In64 (nth dz j)) (T' : ∀ j, In64 (nth dz' j)) (w : World)
    (k1 : w.cell? ⟨b1, 0, none⟩ = some (.int .i64 (A : Nat))) (k2 : w.cell? ⟨b2, 0, none⟩ = some (.int .i64 (L : Nat))) (k3 : w.cell? ⟨b3, 0, none⟩ = some (.slice (some ⟨B, 0, none⟩) L L)) (k4 : w.cell? ⟨b4, 0, none⟩ = some v) (k5 : w.cell? ⟨b5, 2, none⟩ = some (.slice da N dc)) (k6 : w.cell? ⟨b6, 2, none⟩ = some (.slice da' M dc')) (k7 : w.cell? ⟨b7, 0, none⟩ = some (.int .i64 f))
    (n1 : b1 ≠ B) (n2 : b2 ≠ B) (n3 : b3 ≠ B) (n4 : b4 ≠ B) (n5 : b5 ≠ B) (n6 : b6 ≠ B) (n7 : b7 ≠ B) (F : PairF n0 w v g t) (hn0 : n0 ≤ B) (hmB : m ≤ B) (hmw : m ≤ w.heap.size) (hd : IsInts m w da dz) (hd' : IsInts m w da' dz') (xs : List Int) (hr : Rw13 w B L xs) :
    Calls Try.prog 28 #[.int .i64 (p : Nat), .pointer (some ⟨b1, 0, none⟩), .pointer (some ⟨b2, 0, none⟩), .pointer (some ⟨b3, 0, none⟩), .pointer (some ⟨b4, 0, none⟩), .pointer (some ⟨b5, 0, none⟩), .pointer (some ⟨b6, 0, none⟩), .pointer (some ⟨b7, 0, none⟩)] w (InP f g t (fun k => nth dz (p / A * L + k)) (fun k => nth dz' (p % A + k * A)) B L w) := by
  obtain ⟨kf, d, rfl⟩ := F.fn
  obtain ⟨q, hq⟩ : ∃ q, q = p / A := ⟨_, rfl⟩
  obtain ⟨r, hre⟩ : ∃ r, r = p % A := ⟨_, rfl⟩
  have d1 : (p : Int) / (A : Int) = (q : Int) := by rw [hq]; simp
  have d2 : (p : Int).tmod (A : Int) = (r : Int) := by rw [Int.tmod_eq_emod_of_nonneg (by omega), hre]; simp
  have hqp : q ≤ p := by rw [hq]; exact Nat.div_le_self _ _
  have hrA : r < A := by rw [hre]; exact Nat.mod_lt _ hA
  rw [← hq, ← hre] at hin ⊢
  obtain ⟨l, hl⟩ : ∃ l, l = q * L := ⟨_, rfl⟩
  rw [← hl] at hin ⊢
  have hl16 : l ≤ 4096 * 4096 := by rw [hl]; exact Nat.mul_le_mul (by omega) hL4
  have d3 : IntKind.i64.wrap (q : Int) = (q : Int) := IntWalk.i64_in _ (by omega)
  have d5 : IntKind.i64.wrap ((q : Int) * (L : Int)) = (l : Int) := by rw [hl, ← Int.natCast_mul]; exact IntWalk.i64_in _ (by rw [← hl]; omega)
  have hA0 : ¬ A = 0 := by omega
  obtain ⟨U, hU⟩ : ∃ U : Nat → Int, U = fun k => nth dz (l + k) := ⟨_, rfl⟩
  obtain ⟨V, hV⟩ : ∃ V : Nat → Int, V = fun k => nth dz' (r + k * A) := ⟨_, rfl⟩
  rw [← hU, ← hV]
  have HT : Hid ((∀ k, In64 (U k)) ∧ ∀ k, In64 (V k)) := ⟨fun k => by rw [hU]; exact T _, fun k => by rw [hV]; exact T' _⟩
  have HI : Hid (IsInts m w da dz ∧ IsInts m w da' dz' ∧ PairF n0 w (.func (.func kf) #[] #[.pointer (some ⟨d, 0, none⟩)]) g t ∧ Rw13 w B L xs) := ⟨hd, hd', F, hr⟩
  have HU : Hid ((∀ k, U k = nth dz (l + k)) ∧ (∀ k, V k = nth dz' (r + k * A)) ∧ (∀ k, k < L → l + k < N ∧ r + k * A < M) ∧ dz.length = N ∧ dz'.length = M) := ⟨fun k => by rw [hU], fun k => by rw [hV], hin, hN, hM⟩
  have HG : Hid (¬ (g < 1 ∨ 16 < g)) := hg
  have HC : Hid ((w.cell? ⟨b1, 0, none⟩ = some (.int .i64 (A : Nat)) ∧ b1 ≠ B) ∧ (w.cell? ⟨b3, 0, none⟩ = some (.slice (some ⟨B, 0, none⟩) L L) ∧ b3 ≠ B) ∧ (w.cell? ⟨b4, 0, none⟩ = some (.func (.func kf) #[] #[.pointer (some ⟨d, 0, none⟩)]) ∧ b4 ≠ B) ∧ (w.cell? ⟨b5, 2, none⟩ = some (.slice da N dc) ∧ b5 ≠ B) ∧ (w.cell? ⟨b6, 2, none⟩ = some (.slice da' M dc') ∧ b6 ≠ B) ∧ (w.cell? ⟨b7, 0, none⟩ = some (.int .i64 f) ∧ b7 ≠ B)) := ⟨⟨k1, n1⟩, ⟨k3, n3⟩, ⟨k4, n4⟩, ⟨k5, n5⟩, ⟨k6, n6⟩, k7, n7⟩
  have HM : Hid (m ≤ B ∧ m ≤ w.heap.size ∧ n0 ≤ B) := ⟨hmB, hmw, hn0⟩
  clear hq hre hl hU hV hd hd' F hr hin hN hM T T' hg n1 n2 n3 n4 n5 n6 n7 k4 k5 k6 k7 hmB hmw hn0
  go_enter Try.func28, Try.ntmps28
  go_wp2_with fail
  refine anyT_begin 9 (fun w' => w'.cell? ⟨b1, 0, none⟩ = some (.int .i64 (A : Nat)) ∧ w'.cell? ⟨b2, 0, none⟩ = some (.int .i64 (L : Nat))) 10 #[false, false, false, false, false, false, false, false, false, false] (by kernel_rfl) rfl rfl ?_
  refine anyT_put 0 16 ?rv0 #[true, false, false, false, false, false, false, false, false, false] rfl rfl rfl (by kernel_rfl) (by kernel_rfl) (by kernel_rfl) (fun _ _ _ h => h) (by decide) ?ry0 (fun _ => ⟨k1, k2⟩) ?rm0
  case ry0 => first | exact Or.inl ⟨by rfl, by intro w'; go_simp; first | done | rfl⟩
  case rm0 =>
  simp only [Act.put, List.setIfInBounds_toArray, List.set_cons_zero, List.set_cons_succ]
  refine anyT_take 1 17 ?rv1 #[true, true, false, false, false, false, false, false, false, false] rfl rfl rfl (by kernel_rfl) (by kernel_rfl) (by kernel_rfl) (fun _ _ _ h => h) (by kernel_rfl) (by decide) (by kernel_rfl) ?ry1 (⟨k1, k2⟩) ?rm1
  case ry1 => first | exact Or.inl ⟨by rfl, by intro w' hw'; (try dsimp only at hw'); go_simp; first | done | rfl⟩
  case rm1 =>
  simp only [Act.put, List.setIfInBounds_toArray, List.set_cons_zero, List.set_cons_succ]
  refine anyT_put 2 18 ?rv2 #[true, true, true, false, false, false, false, false, false, false] rfl rfl rfl (by kernel_rfl) (by kernel_rfl) (by kernel_rfl) (fun _ _ _ h => h) (by decide) ?ry2 (fun _ => ⟨k1, k2⟩) ?rm2
  case ry2 => first | exact Or.inl ⟨by rfl, by intro w'; go_simp; first | done | rfl⟩
  case rm2 =>
  simp only [Act.put, List.setIfInBounds_toArray, List.set_cons_zero, List.set_cons_succ]
  refine anyT_take 3 19 ?rv3 #[true, true, true, true, false, false, false, false, false, false] rfl rfl rfl (by kernel_rfl) (by kernel_rfl) (by kernel_rfl) (fun _ _ _ h => h) (by kernel_rfl) (by decide) (by kernel_rfl) ?ry3 (⟨k1, k2⟩) ?rm3
  case ry3 => first | exact Or.inl ⟨by rfl, by intro w' hw'; (try dsimp only at hw'); go_simp; first | done | rfl⟩
  case rm3 =>
  simp only [Act.put, List.setIfInBounds_toArray, List.set_cons_zero, List.set_cons_succ]
  refine anyT_put 4 20 ?rv4 #[true, true, true, true, true, false, false, false, false, false] rfl rfl rfl (by kernel_rfl) (by kernel_rfl) (by kernel_rfl) (fun _ _ _ h => h) (by decide) ?ry4 (fun _ => ⟨k1, k2⟩) ?rm4
  case ry4 => first | exact Or.inl ⟨by rfl, by intro w'; go_simp; first | done | rfl⟩
  case rm4 =>
  simp only [Act.put, List.setIfInBounds_toArray, List.set_cons_zero, List.set_cons_succ]
  refine anyT_put 5 21 ?rv5 #[true, true, true, true, true, true, false, false, false, false] rfl rfl rfl (by kernel_rfl) (by kernel_rfl) (by kernel_rfl) (fun _ _ _ h => h) (by decide) ?ry5 (fun _ => ⟨k1, k2⟩) ?rm5
  case ry5 => first | exact Or.inl ⟨by rfl, by intro w'; go_simp; first | done | rfl⟩
  case rm5 =>
  simp only [Act.put, List.setIfInBounds_toArray, List.set_cons_zero, List.set_cons_succ]
  refine anyT_take 6 22 ?rv6 #[true, true, true, true, true, true, true, false, false, false] rfl rfl rfl (by kernel_rfl) (by kernel_rfl) (by kernel_rfl) (fun _ _ _ h => h) (by kernel_rfl) (by decide) (by kernel_rfl) ?ry6 (⟨k1, k2⟩) ?rm6
  case ry6 => first | exact Or.inl ⟨by rfl, by intro w' hw'; (try dsimp only at hw'); go_simp; first | done | rfl⟩
  case rm6 =>
  simp only [Act.put, List.setIfInBounds_toArray, List.set_cons_zero, List.set_cons_succ]
  refine anyT_put 7 23 ?rv7 #[true, true, true, true, true, true, true, true, false, false] rfl rfl rfl (by kernel_rfl) (by kernel_rfl) (by kernel_rfl) (fun _ _ _ h => h) (by decide) ?ry7 (fun _ => ⟨k1, k2⟩) ?rm7
  case ry7 => first | exact Or.inl ⟨by rfl, by intro w'; go_simp; first | done | rfl⟩
  case rm7 =>
  simp only [Act.put, List.setIfInBounds_toArray, List.set_cons_zero, List.set_cons_succ]
  refine anyT_one 8 #[true, true, true, true, true, true, true, true, true, false] (by kernel_rfl) rfl rfl (fun K hK => ?_)
  go_simp
  refine hK.out _ _ (fun _ => ⟨k1, k2⟩) ?_
  clear hK K
  refine anyT_one 9 #[true, true, true, true, true, true, true, true, true, true] (by kernel_rfl) rfl rfl (fun K hK => ?_)
  go_simp
  refine hK.out _ _ (fun h => absurd h (by decide)) ?_
  clear hK K
  refine anyT_done (by kernel_rfl) ?_
  clear d1 d2 d3 d5
  have k3 : w.drew.cell? ⟨b3, 0, none⟩ = some (.slice (some ⟨B, 0, none⟩) L L) := HC.out.2.1.1
  go_wp2_with fail
  clear k1 k2 k3
  go_loopw [26] (fun i wr => ∃ (k : Nat) (ys : List Int), k ≤ L ∧ i = .int .i64 k ∧ Hid (∀ j, j < k → tcE g t (U j) (V j) = 0) ∧ Hid (∀ j, j < k → nth ys j = tcV g t (U j) (V j)) ∧ Hid (Rw13 wr B L ys) ∧ Hid (w.grownBy wr (some B))) (fun i _ => L - (intOf i).toNat)
  case atStart => exact ⟨0, xs, Nat.zero_le _, rfl, fun j hj => absurd hj (by omega), fun j hj => absurd hj (by omega), HI.out.2.2.2, gb_drew (gb_refl _ _)⟩
  case round =>
    obtain ⟨k, ys, hk, rfl, HZ, HY, HR, HB⟩ := hrel
    by_cases hlt : k < L
    · obtain ⟨hi1, hi2⟩ := HU.out.2.2.1 k hlt
      have hkA : k * A ≤ 4096 * 4096 := Nat.mul_le_mul (by omega) hA4
      obtain ⟨i1, hi1e⟩ : ∃ i1, i1 = l + k := ⟨_, rfl⟩
      obtain ⟨i2, hi2e⟩ : ∃ i2, i2 = r + k * A := ⟨_, rfl⟩
      rw [← hi1e] at hi1
      rw [← hi2e] at hi2
      have hw1 : IntKind.i64.wrap ((l : Int) + (k : Int)) = (i1 : Int) := by rw [hi1e, ← Int.natCast_add]; exact IntWalk.i64_in _ (by omega)
      have hw2 : IntKind.i64.wrap ((r : Int) + IntKind.i64.wrap ((k : Int) * (A : Int))) = (i2 : Int) := by
        rw [← Int.natCast_mul, IntWalk.i64_in ((k * A : Nat) : Int) (by omega), ← Int.natCast_add, ← hi2e]; exact IntWalk.i64_in _ (by omega)
      obtain ⟨bd, od, rfl, hbd, hcD⟩ := (gb_ints HB.out HI.out.1 HM.out.1 HM.out.2.1).at (q := i1) (by rw [HU.out.2.2.2.1]; exact hi1)
      obtain ⟨bd', od', rfl, hbd', hcD'⟩ := (gb_ints HB.out HI.out.2.1 HM.out.1 HM.out.2.1).at (q := i2) (by rw [HU.out.2.2.2.2]; exact hi2)
      have c0 := hcD i1 (by rw [HU.out.2.2.2.1]; exact hi1)
      have c1 := hcD' i2 (by rw [HU.out.2.2.2.2]; exact hi2)
      rw [hi1e, ← HU.out.1 k, ← hi1e] at c0
      rw [hi2e, ← HU.out.2.1 k, ← hi2e] at c1
      obtain ⟨x, hx⟩ : ∃ x, x = U k := ⟨_, rfl⟩
      obtain ⟨y, hy⟩ : ∃ y, y = V k := ⟨_, rfl⟩
      rw [← hx] at c0
      rw [← hy] at c1
      have HXY : Hid (x = U k ∧ y = V k) := ⟨hx, hy⟩
      have k1 := gb_cell HB.out HC.out.1.1 HC.out.1.2
      have k4 := gb_cell HB.out HC.out.2.2.1.1 HC.out.2.2.1.2
      have k5 := gb_cell HB.out HC.out.2.2.2.1.1 HC.out.2.2.2.1.2
      have k6 := gb_cell HB.out HC.out.2.2.2.2.1.1 HC.out.2.2.2.2.1.2
      obtain ⟨kf', d', o, _, ev, e1, xd, H1⟩ := HI.out.2.2.1.grown HB.out HM.out.2.2
      have hfe : kf = kf' ∧ d = d' := by
        injection ev with e2 e3 e4
        injection e2 with e5
        simp at e4
        exact ⟨e5, e4⟩
      obtain ⟨rfl, rfl⟩ := hfe
      have HX : Hid (wr.heap[d]? = some o ∧ ∀ w', w'.heap[d]? = some o → Calls Try.prog kf #[.int .i64 x, .int .i64 y, .pointer (some ⟨d, 0, none⟩)] w' fun e w'' => e = .returned (.tuple #[.int .i64 (tcV g t x y), errV (tcE g t x y)]) ∧ Below w'.heap.size w' w'') := ⟨xd, H1 x y (by rw [hx]; exact HT.out.1 k) (by rw [hy]; exact HT.out.2 k)⟩
      clear hcD hcD' hx hy ev xd H1 hi1e hi2e
      go_wp2_with fail
      refine anyT_begin 21 (fun w' => w'.cell? ⟨b4, 0, none⟩ = some (.func (.func kf) #[] #[.pointer (some ⟨d, 0, none⟩)]) ∧ w'.cell? ⟨b5, 2, none⟩ = some (.slice (some ⟨bd, od, none⟩) N dc) ∧ w'.cell? ⟨b6, 2, none⟩ = some (.slice (some ⟨bd', od', none⟩) M dc') ∧ w'.cell? ⟨b1, 0, none⟩ = some (.int .i64 (A : Nat)) ∧ w'.cell? ⟨bd, od + i1, none⟩ = some (.int .i64 x) ∧ w'.cell? ⟨bd', od' + i2, none⟩ = some (.int .i64 y)) 23 #[false, false, false, false, false, false, false, false, false, false, false, false, false, false, false, false, false, false, false, false, false, false, false] (by kernel_rfl) rfl rfl ?_
      refine anyT_take 0 30 ?rv10 #[true, false, false, false, false, false, false, false, false, false, false, false, false, false, false, false, false, false, false, false, false, false, false] rfl rfl rfl (by kernel_rfl) (by kernel_rfl) (by kernel_rfl) (fun _ _ _ h => h) (by kernel_rfl) (by decide) (by kernel_rfl) ?ry10 (⟨k4, k5, k6, k1, c0, c1⟩) ?rm10
      case ry10 => first | exact Or.inl ⟨by rfl, by intro w' hw'; (try dsimp only at hw'); go_simp; first | done | rfl⟩
      case rm10 =>
      simp only [Act.put, List.setIfInBounds_toArray, List.set_cons_zero, List.set_cons_succ]
      refine anyT_put 1 31 ?rv11 #[true, true, false, false, false, false, false, false, false, false, false, false, false, false, false, false, false, false, false, false, false, false, false] rfl rfl rfl (by kernel_rfl) (by kernel_rfl) (by kernel_rfl) (fun _ _ _ h => h) (by decide) ?ry11 (fun _ => ⟨k4, k5, k6, k1, c0, c1⟩) ?rm11
      case ry11 => first | exact Or.inl ⟨by rfl, by intro w'; go_simp; first | done | rfl⟩
      case rm11 =>
      simp only [Act.put, List.setIfInBounds_toArray, List.set_cons_zero, List.set_cons_succ]
      refine anyT_take 2 32 ?rv12 #[true, true, true, false, false, false, false, false, false, false, false, false, false, false, false, false, false, false, false, false, false, false, false] rfl rfl rfl (by kernel_rfl) (by kernel_rfl) (by kernel_rfl) (fun _ _ _ h => h) (by kernel_rfl) (by decide) (by kernel_rfl) ?ry12 (⟨k4, k5, k6, k1, c0, c1⟩) ?rm12
      case ry12 => first | exact Or.inl ⟨by rfl, by intro w' hw'; (try dsimp only at hw'); go_simp; first | done | rfl⟩
      case rm12 =>
      simp only [Act.put, List.setIfInBounds_toArray, List.set_cons_zero, List.set_cons_succ]
      refine anyT_put 3 33 ?rv13 #[true, true, true, true, false, false, false, false, false, false, false, false, false, false, false, false, false, false, false, false, false, false, false] rfl rfl rfl (by kernel_rfl) (by kernel_rfl) (by kernel_rfl) (fun _ _ _ h => h) (by decide) ?ry13 (fun _ => ⟨k4, k5, k6, k1, c0, c1⟩) ?rm13
      case ry13 => first | exact Or.inl ⟨by rfl, by intro w'; go_simp; first | done | rfl⟩
      case rm13 =>
      simp only [Act.put, List.setIfInBounds_toArray, List.set_cons_zero, List.set_cons_succ]
      refine anyT_put 4 34 ?rv14 #[true, true, true, true, true, false, false, false, false, false, false, false, false, false, false, false, false, false, false, false, false, false, false] rfl rfl rfl (by kernel_rfl) (by kernel_rfl) (by kernel_rfl) (fun _ _ _ h => h) (by decide) ?ry14 (fun _ => ⟨k4, k5, k6, k1, c0, c1⟩) ?rm14
      case ry14 => first | exact Or.inl ⟨by rfl, by intro w'; go_simp; first | done | rfl⟩
      case rm14 =>
      simp only [Act.put, List.setIfInBounds_toArray, List.set_cons_zero, List.set_cons_succ]
      refine anyT_put 5 35 ?rv15 #[true, true, true, true, true, true, false, false, false, false, false, false, false, false, false, false, false, false, false, false, false, false, false] rfl rfl rfl (by kernel_rfl) (by kernel_rfl) (by kernel_rfl) (fun _ _ _ h => h) (by decide) ?ry15 (fun _ => ⟨k4, k5, k6, k1, c0, c1⟩) ?rm15
      case ry15 => first | exact Or.inl ⟨by rfl, by intro w'; go_simp; first | done | rfl⟩
      case rm15 =>
      simp only [Act.put, List.setIfInBounds_toArray, List.set_cons_zero, List.set_cons_succ]
      refine anyT_put 6 36 ?rv16 #[true, true, true, true, true, true, true, false, false, false, false, false, false, false, false, false, false, false, false, false, false, false, false] rfl rfl rfl (by kernel_rfl) (by kernel_rfl) (by kernel_rfl) (fun _ _ _ h => h) (by decide) ?ry16 (fun _ => ⟨k4, k5, k6, k1, c0, c1⟩) ?rm16
      case ry16 => first | exact Or.inl ⟨by rfl, by intro w'; go_simp; first | done | rfl⟩
      case rm16 =>
      simp only [Act.put, List.setIfInBounds_toArray, List.set_cons_zero, List.set_cons_succ]
      refine anyT_take 7 37 ?rv17 #[true, true, true, true, true, true, true, true, false, false, false, false, false, false, false, false, false, false, false, false, false, false, false] rfl rfl rfl (by kernel_rfl) (by kernel_rfl) (by kernel_rfl) (fun _ _ _ h => h) (by kernel_rfl) (by decide) (by kernel_rfl) ?ry17 (⟨k4, k5, k6, k1, c0, c1⟩) ?rm17
      case ry17 => first | exact Or.inl ⟨by rfl, by intro w' hw'; (try dsimp only at hw'); go_simp; first | done | rfl⟩
      case rm17 =>
      simp only [Act.put, List.setIfInBounds_toArray, List.set_cons_zero, List.set_cons_succ]
      refine anyT_put 8 38 ?rv18 #[true, true, true, true, true, true, true, true, true, false, false, false, false, false, false, false, false, false, false, false, false, false, false] rfl rfl rfl (by kernel_rfl) (by kernel_rfl) (by kernel_rfl) (fun _ _ _ h => h) (by decide) ?ry18 (fun _ => ⟨k4, k5, k6, k1, c0, c1⟩) ?rm18
      case ry18 => first | exact Or.inl ⟨by rfl, by intro w'; go_simp; first | done | rfl⟩
      case rm18 =>
      simp only [Act.put, List.setIfInBounds_toArray, List.set_cons_zero, List.set_cons_succ]
      refine anyT_take 9 39 ?rv19 #[true, true, true, true, true, true, true, true, true, true, false, false, false, false, false, false, false, false, false, false, false, false, false] rfl rfl rfl (by kernel_rfl) (by kernel_rfl) (by kernel_rfl) (fun _ _ _ h => h) (by kernel_rfl) (by decide) (by kernel_rfl) ?ry19 (⟨k4, k5, k6, k1, c0, c1⟩) ?rm19
      case ry19 => first | exact Or.inl ⟨by rfl, by intro w' hw'; (try dsimp only at hw'); go_simp; first | done | rfl⟩
      case rm19 =>
      simp only [Act.put, List.setIfInBounds_toArray, List.set_cons_zero, List.set_cons_succ]
      refine anyT_put 10 40 ?rv20 #[true, true, true, true, true, true, true, true, true, true, true, false, false, false, false, false, false, false, false, false, false, false, false] rfl rfl rfl (by kernel_rfl) (by kernel_rfl) (by kernel_rfl) (fun _ _ _ h => h) (by decide) ?ry20 (fun _ => ⟨k4, k5, k6, k1, c0, c1⟩) ?rm20
      case ry20 => first | exact Or.inl ⟨by rfl, by intro w'; go_simp; first | done | rfl⟩
      case rm20 =>
      simp only [Act.put, List.setIfInBounds_toArray, List.set_cons_zero, List.set_cons_succ]
      refine anyT_put 11 41 ?rv21 #[true, true, true, true, true, true, true, true, true, true, true, true, false, false, false, false, false, false, false, false, false, false, false] rfl rfl rfl (by kernel_rfl) (by kernel_rfl) (by kernel_rfl) (fun _ _ _ h => h) (by decide) ?ry21 (fun _ => ⟨k4, k5, k6, k1, c0, c1⟩) ?rm21
      case ry21 => first | exact Or.inl ⟨by rfl, by intro w'; go_simp; first | done | rfl⟩
      case rm21 =>
      simp only [Act.put, List.setIfInBounds_toArray, List.set_cons_zero, List.set_cons_succ]
      refine anyT_take 12 42 ?rv22 #[true, true, true, true, true, true, true, true, true, true, true, true, true, false, false, false, false, false, false, false, false, false, false] rfl rfl rfl (by kernel_rfl) (by kernel_rfl) (by kernel_rfl) (fun _ _ _ h => h) (by kernel_rfl) (by decide) (by kernel_rfl) ?ry22 (⟨k4, k5, k6, k1, c0, c1⟩) ?rm22
      case ry22 => first | exact Or.inl ⟨by rfl, by intro w' hw'; (try dsimp only at hw'); go_simp; first | done | rfl⟩
      case rm22 =>
      simp only [Act.put, List.setIfInBounds_toArray, List.set_cons_zero, List.set_cons_succ]
      refine anyT_put 13 43 ?rv23 #[true, true, true, true, true, true, true, true, true, true, true, true, true, true, false, false, false, false, false, false, false, false, false] rfl rfl rfl (by kernel_rfl) (by kernel_rfl) (by kernel_rfl) (fun _ _ _ h => h) (by decide) ?ry23 (fun _ => ⟨k4, k5, k6, k1, c0, c1⟩) ?rm23
      case ry23 => first | exact Or.inl ⟨by rfl, by intro w'; go_simp; first | done | rfl⟩
      case rm23 =>
      simp only [Act.put, List.setIfInBounds_toArray, List.set_cons_zero, List.set_cons_succ]
      refine anyT_put 14 44 ?rv24 #[true, true, true, true, true, true, true, true, true, true, true, true, true, true, true, false, false, false, false, false, false, false, false] rfl rfl rfl (by kernel_rfl) (by kernel_rfl) (by kernel_rfl) (fun _ _ _ h => h) (by decide) ?ry24 (fun _ => ⟨k4, k5, k6, k1, c0, c1⟩) ?rm24
      case ry24 => first | exact Or.inl ⟨by rfl, by intro w'; go_simp; first | done | rfl⟩
      case rm24 =>
      simp only [Act.put, List.setIfInBounds_toArray, List.set_cons_zero, List.set_cons_succ]
      refine anyT_put 15 45 ?rv25 #[true, true, true, true, true, true, true, true, true, true, true, true, true, true, true, true, false, false, false, false, false, false, false] rfl rfl rfl (by kernel_rfl) (by kernel_rfl) (by kernel_rfl) (fun _ _ _ h => h) (by decide) ?ry25 (fun _ => ⟨k4, k5, k6, k1, c0, c1⟩) ?rm25
      case ry25 => first | exact Or.inl ⟨by rfl, by intro w'; go_simp; first | done | rfl⟩
      case rm25 =>
      simp only [Act.put, List.setIfInBounds_toArray, List.set_cons_zero, List.set_cons_succ]
      refine anyT_take 16 46 ?rv26 #[true, true, true, true, true, true, true, true, true, true, true, true, true, true, true, true, true, false, false, false, false, false, false] rfl rfl rfl (by kernel_rfl) (by kernel_rfl) (by kernel_rfl) (fun _ _ _ h => h) (by kernel_rfl) (by decide) (by kernel_rfl) ?ry26 (⟨k4, k5, k6, k1, c0, c1⟩) ?rm26
      case ry26 => first | exact Or.inl ⟨by rfl, by intro w' hw'; (try dsimp only at hw'); go_simp; first | done | rfl⟩
      case rm26 =>
      simp only [Act.put, List.setIfInBounds_toArray, List.set_cons_zero, List.set_cons_succ]
      refine anyT_one 17 #[true, true, true, true, true, true, true, true, true, true, true, true, true, true, true, true, true, true, false, false, false, false, false] (by kernel_rfl) rfl rfl (fun K hK => ?_)
      go_simp
      go_wp2_with fail
      refine (HX.out.2 wr.drew HX.out.1).mono ?_
      rintro e w2 ⟨rfl, hB2⟩
      have HB2 : Hid (Below wr.heap.size wr w2) := (Below.refl _ wr).drew.trans hB2
      clear hB2
      refine hK.out _ _ (fun _ => ⟨cell_to k4 HB2.out, cell_to k5 HB2.out, cell_to k6 HB2.out, cell_to k1 HB2.out, cell_to c0 HB2.out, cell_to c1 HB2.out⟩) ?_
      clear hK K
      refine anyT_put 18 29 ?rv28 #[true, true, true, true, true, true, true, true, true, true, true, true, true, true, true, true, true, true, true, false, false, false, false] rfl rfl rfl (by kernel_rfl) (by kernel_rfl) (by kernel_rfl) (fun _ _ _ h => h) (by decide) ?ry28 (fun _ => ⟨cell_to k4 HB2.out, cell_to k5 HB2.out, cell_to k6 HB2.out, cell_to k1 HB2.out, cell_to c0 HB2.out, cell_to c1 HB2.out⟩) ?rm28
      case ry28 => first | exact Or.inl ⟨by rfl, by intro w'; go_simp; first | done | rfl⟩
      case rm28 =>
      simp only [Act.put, List.setIfInBounds_toArray, List.set_cons_zero, List.set_cons_succ]
      refine anyT_put 19 48 ?rv29 #[true, true, true, true, true, true, true, true, true, true, true, true, true, true, true, true, true, true, true, true, false, false, false] rfl rfl rfl (by kernel_rfl) (by kernel_rfl) (by kernel_rfl) (fun _ _ _ h => h) (by decide) ?ry29 (fun _ => ⟨cell_to k4 HB2.out, cell_to k5 HB2.out, cell_to k6 HB2.out, cell_to k1 HB2.out, cell_to c0 HB2.out, cell_to c1 HB2.out⟩) ?rm29
      case ry29 => first | exact Or.inl ⟨by rfl, by intro w'; go_simp; first | done | rfl⟩
      case rm29 =>
      simp only [Act.put, List.setIfInBounds_toArray, List.set_cons_zero, List.set_cons_succ]
      refine anyT_put 20 49 ?rv30 #[true, true, true, true, true, true, true, true, true, true, true, true, true, true, true, true, true, true, true, true, true, false, false] rfl rfl rfl (by kernel_rfl) (by kernel_rfl) (by kernel_rfl) (fun _ _ _ h => h) (by decide) ?ry30 (fun _ => ⟨cell_to k4 HB2.out, cell_to k5 HB2.out, cell_to k6 HB2.out, cell_to k1 HB2.out, cell_to c0 HB2.out, cell_to c1 HB2.out⟩) ?rm30
      case ry30 => first | exact Or.inl ⟨by rfl, by intro w'; go_simp; first | done | rfl⟩
      case rm30 =>
      simp only [Act.put, List.setIfInBounds_toArray, List.set_cons_zero, List.set_cons_succ]
      refine anyT_one 21 #[true, true, true, true, true, true, true, true, true, true, true, true, true, true, true, true, true, true, true, true, true, true, false] (by kernel_rfl) rfl rfl (fun K hK => ?_)
      go_simp
      refine hK.out _ _ (fun h => absurd h (by decide)) ?_
      clear hK K
      refine anyT_one 22 #[true, true, true, true, true, true, true, true, true, true, true, true, true, true, true, true, true, true, true, true, true, true, true] (by kernel_rfl) rfl rfl (fun K hK => ?_)
      go_simp
      refine hK.out _ _ (fun h => absurd h (by decide)) ?_
      clear hK K
      refine anyT_done (by kernel_rfl) ?_
      clear k1 k4 k5 k6 c0 c1 hw1 hw2
      have k3 := cell_to (gb_cell HB.out HC.out.2.1.1 HC.out.2.1.2) HB2.out
      replace HR : Hid (Rw13 w2 B L ys) := HR.out.go HB2.out
      replace HB : Hid (w.grownBy w2 (some B)) := gb_go HB.out HB2.out
      by_cases he : tcE g t x y = 0
      · have HE : Hid (tcE g t (U k) (V k) = 0 ∧ tcV g t x y = tcV g t (U k) (V k)) := ⟨by rw [← HXY.out.1, ← HXY.out.2]; exact he, by rw [HXY.out.1, HXY.out.2]⟩
        rw [he, errV_zero]
        have c2 := HR.out.2.cell hlt
        have f2 := HR.out.2.frozen k
        clear he
        go_wp2_with fail
        refine ⟨⟨k + 1, ys.set k (tcV g t x y), by omega, by go_num, all13 HZ.out HE.out.1, fun j hj => ?_, HR.out.put hlt _, gb_set HB.out _ _⟩, by simp [intOf]; omega⟩
        rw [nth_set _ _ _ _ (by rw [HR.out.1]; omega)]
        by_cases e : j = k
        · rw [if_pos e, e]; exact HE.out.2
        · rw [if_neg e]; exact HY.out j (by omega)
      · have h6 : tcE g t x y = 6 := (tcE_cell HG.out t x y).resolve_left he
        have HE : Hid (lnX f g t U V L = 6) := lnX_six hlt (by rw [← HXY.out.1, ← HXY.out.2]; exact he)
        rw [h6, show errV 6 = .iface 76 (.int .i64 6) from rfl]
        clear he h6
        go_wp2_with fail
        go_ret2
        exact ⟨0, by rw [HE.out]; rfl, fun h => absurd (HE.out.symm.trans h) (by decide), HB.out, ys, HR.out⟩
    · obtain rfl : k = L := by omega
      have HL : Hid (ys = lnI g t U V k) := lnI_eq HR.out.1 HY.out
      have HX : Hid (lnX f g t U V k = fdE f (lnI g t U V k)) := lnX_all HZ.out
      have k3 := gb_cell HB.out HC.out.2.1.1 HC.out.2.1.2
      have k7 := gb_cell HB.out HC.out.2.2.2.2.2.1 HC.out.2.2.2.2.2.2
      have hfd := ffold_all f B ys k k hL4 (Nat.le_refl _) wr (fun j => by rw [HL.out]; exact lnI_64 HT.out.1 HT.out.2 j) HR.out
      go_wp2_with fail
      refine hfd.mono ?_
      rintro e w2 ⟨v, rfl, hv, hB2⟩
      have HV : Hid ((fdE f ys = 0 → v = fdV f ys) ∧ Below wr.heap.size wr w2) := ⟨hv, hB2⟩
      clear hv hB2 hfd k3 k7
      go_wp2_with fail
      go_ret2
      exact ⟨v, by rw [HX.out, ← HL.out]; rfl, fun h => by rw [HX.out, ← HL.out] at h; rw [← HL.out]; exact HV.out.1 h, gb_go HB.out HV.out.2, ys, HR.out.go HV.out.2⟩
end Go.Proofs.Ytgaelbgeoobgiaa
