/-
  The statements' own words of relations: the fact of a chain; does each two steps have one; answers that are alike.
-/
import Derived.BigQuiet
import Derived.Test.YtgaelbgeoobgiabRgh
import Derived.Test.YtgaelbgeoobgiabRsr
import Derived.Test.YtgaelbgeoobgiabBase
import Derived.Test.YtgaelbgeoobgiabMidc
namespace Go.Proofs.Ytgaelbgeoobgiab
open Go.RowKit
set_option linter.unusedVariables false

/-- Each two steps have one. -/
def Trn (n : Nat) (A : Rl) : Prop := ∀ i, i < n → ∀ j, j < n → ∀ k, k < n → A i j = true → A j k = true → A i k = true
/-- So far. -/
def TrP (n : Nat) (A : Rl) (a b c : Nat) : Prop := ∀ i, i < n → ∀ j, j < n → ∀ k, k < n → (i < a ∨ i = a ∧ (j < b ∨ j = b ∧ k < c)) → A i j = true → A j k = true → A i k = true
theorem TrP.all {n : Nat} {A : Rl} (h : TrP n A n 0 0) : Trn n A := fun i hi j hj k hk => h i hi j hj k hk (.inl hi)
theorem TrP.next {n a b c : Nat} {A : Rl} (h : TrP n A a b c) (hs : A a b = true → A b c = true → A a c = true) : TrP n A a b (c + 1) := fun i hi j hj k hk hp => by
  by_cases e : i = a ∧ j = b ∧ k = c
  · obtain ⟨rfl, rfl, rfl⟩ := e; exact hs
  · exact h i hi j hj k hk (by omega)
theorem TrP.row {n a b : Nat} {A : Rl} (h : TrP n A a b n) : TrP n A a (b + 1) 0 := fun i hi j hj k hk hp => h i hi j hj k hk (by omega)
theorem TrP.col {n a : Nat} {A : Rl} (h : TrP n A a n 0) : TrP n A (a + 1) 0 0 := fun i hi j hj k hk hp => h i hi j hj k hk (by omega)
theorem cl_Trn (R : Rl) (n : Nat) : Trn n (clB R n) := fun _ _ _ _ _ _ h1 h2 => cl_trans h1 h2
theorem Trn.congr {n : Nat} {A B : Rl} (h : Trn n A) (e : ∀ i, i < n → ∀ j, j < n → B i j = A i j) : Trn n B := fun i hi j hj k hk h1 h2 => by rw [e i hi k hk]; exact h i hi j hj k hk (by rw [← e i hi j hj]; exact h1) (by rw [← e j hj k hk]; exact h2)
theorem cl_Trn_L (R : Rl) (n : Nat) : Trn n (rdR n (clL n (clB R n))) := (cl_Trn R n).congr fun i hi j hj => rdR_clL _ hi hj
theorem cl_twice (R : Rl) (n : Nat) : clL n (clB (rdR n (clL n (clB R n))) n) = clL n (clB R n) := clL_congr fun i hi j hj => by
  rw [cl_eqv (B := clB R n) (fun i hi j hj => rdR_clL _ hi hj) hi, Bool.eq_iff_iff]
  exact cl_again hi
theorem chain15 : clL 3 (clB (rdR 3 [0, 1, 0, 0, 0, 1, 0, 0, 0]) 3) = [0, 1, 1, 0, 0, 1, 0, 0, 0] := by decide +kernel
set_option maxRecDepth 100000 in
set_option maxHeartbeats 1000000 in
theorem chain_any (w : World) : Calls Try.prog 4 #[] w fun e w' => e = .returned (.bool true) ∧ Below w.heap.size w w' := by
  have n1 := lit_mid w 3 [0, 1, 0, 0, 0, 1, 0, 0, 0] 9 rfl
  simp only [List.map_cons, List.map_nil] at n1
  go_enter Try.func4, Try.ntmps4
  go_wp2_with fail
  obtain ⟨wo2, hwo2⟩ : ∃ wo2, wo2 = (w.alloc (.cells #[.int .i64 0, .int .i64 1, .int .i64 0, .int .i64 0, .int .i64 0, .int .i64 1, .int .i64 0, .int .i64 0, .int .i64 0] 3)) := ⟨_, rfl⟩
  rw [← hwo2]
  have z3 : w.heap.size + 1 ≤ wo2.heap.size := by rw [hwo2]; simp only [World.size_alloc]; omega
  have L4 : Hid (MidC (w.heap.size) (w.heap.size + 1) wo2 (some ⟨w.heap.size, 0, none⟩) ([0, 1, 0, 0, 0, 1, 0, 0, 0]) (9)) := by rw [hwo2]; exact n1
  have hb5 : Hid (Below w.heap.size w wo2) := by rw [hwo2]; exact ((Below.refl w.heap.size w).alloc (by omega) (.cells #[.int .i64 0, .int .i64 1, .int .i64 0, .int .i64 0, .int .i64 0, .int .i64 1, .int .i64 0, .int .i64 0, .int .i64 0] 3))
  have zwo2 : w.heap.size ≤ wo2.heap.size := hb5.out.size
  clear hwo2 n1
  refine (sqr15_any 3 (some ⟨w.heap.size, 0, none⟩) 9 9 _).mono ?_
  rintro e v1 ⟨xs1, rfl, hS, hB⟩
  have z6 : wo2.heap.size ≤ v1.heap.size := hB.size
  have L7 : Hid (MidC (w.heap.size) (w.heap.size + 1) v1 (some ⟨w.heap.size, 0, none⟩) ([0, 1, 0, 0, 0, 1, 0, 0, 0]) (9)) := L4.out.go (by omega) hB
  have hb8 : Hid (Below w.heap.size w v1) := hb5.out.trans (hB.mono hb5.out.size)
  have L9 : Hid (MidC (wo2.heap.size) (v1.heap.size) v1 (xs1) ([(3 : Int), (3 : Int)]) (2)) := hS.midc
  clear hB hb5 L4 hS
  go_wp2_with fail
  refine (clo_ok 3 (by decide) xs1 2 (some ⟨w.heap.size, 0, none⟩) 9 [0, 1, 0, 0, 0, 1, 0, 0, 0] 9 rfl rfl (by decide) _ (L9.out.is (by omega)).1 (L7.out.is (by omega)).1).mono ?_
  rw [chain15]
  rintro e v2 ⟨xa1, xc1, ya1, yc1, rfl, hX1, hY1, hB⟩
  have z10 : v1.heap.size ≤ v2.heap.size := hB.size
  have L11 : Hid (MidC (w.heap.size) (w.heap.size + 1) v2 (some ⟨w.heap.size, 0, none⟩) ([0, 1, 0, 0, 0, 1, 0, 0, 0]) (9)) := L7.out.go (by omega) hB
  have L12 : Hid (MidC (wo2.heap.size) (v1.heap.size) v2 (xs1) ([(3 : Int), (3 : Int)]) (2)) := L9.out.go (by omega) hB
  have hb13 : Hid (Below w.heap.size w v2) := hb8.out.trans (hB.mono hb8.out.size)
  have L14 : Hid (MidC (v1.heap.size) (v2.heap.size) v2 (xa1) ([(3 : Int), (3 : Int)]) (xc1)) := hX1.midc
  have L15 : Hid (MidC (v1.heap.size) (v2.heap.size) v2 (ya1) ([0, 1, 1, 0, 0, 1, 0, 0, 0]) (yc1)) := hY1.midc
  clear hB hb8 L7 L9 hX1 hY1
  have n16 := Abx.new v2 (.bool false) (.slice xa1 2 xc1) (.slice ya1 9 yc1)
  have l17 := (n16).c0
  have l18 := (n16).c1
  have l19 := (n16).c2
  have n20 := lit_mid (v2.alloc (.cells #[.bool false, .slice xa1 2 xc1, .slice ya1 9 yc1] 24)) 3 [0, 1, 1, 0, 0, 1, 0, 0, 0] 9 rfl
  simp only [World.size_alloc, List.map_cons, List.map_nil] at n20
  have l21 := ((n16.al (.cells #[.int .i64 0, .int .i64 1, .int .i64 1, .int .i64 0, .int .i64 0, .int .i64 1, .int .i64 0, .int .i64 0, .int .i64 0] 3))).c0
  have l22 := ((n16.al (.cells #[.int .i64 0, .int .i64 1, .int .i64 1, .int .i64 0, .int .i64 0, .int .i64 1, .int .i64 0, .int .i64 0, .int .i64 0] 3))).c1
  have l23 := ((n16.al (.cells #[.int .i64 0, .int .i64 1, .int .i64 1, .int .i64 0, .int .i64 0, .int .i64 1, .int .i64 0, .int .i64 0, .int .i64 0] 3))).c2
  go_wp2_with fail
  obtain ⟨wo24, hwo24⟩ : ∃ wo24, wo24 = ((v2.alloc (.cells #[.bool false, .slice xa1 2 xc1, .slice ya1 9 yc1] 24)).alloc (.cells #[.int .i64 0, .int .i64 1, .int .i64 1, .int .i64 0, .int .i64 0, .int .i64 1, .int .i64 0, .int .i64 0, .int .i64 0] 3)) := ⟨_, rfl⟩
  rw [← hwo24]
  have z25 : v2.heap.size + 1 + 1 ≤ wo24.heap.size := by rw [hwo24]; simp only [World.size_alloc]; omega
  have B26 : Hid (Abx wo24 (v2.heap.size) (.bool false) (.slice xa1 2 xc1) (.slice ya1 9 yc1)) := by rw [hwo24]; exact (n16.al (.cells #[.int .i64 0, .int .i64 1, .int .i64 1, .int .i64 0, .int .i64 0, .int .i64 1, .int .i64 0, .int .i64 0, .int .i64 0] 3))
  have L27 : Hid (MidC (w.heap.size) (w.heap.size + 1) wo24 (some ⟨w.heap.size, 0, none⟩) ([0, 1, 0, 0, 0, 1, 0, 0, 0]) (9)) := by rw [hwo24]; exact ((L11.out.al (by omega) (.cells #[.bool false, .slice xa1 2 xc1, .slice ya1 9 yc1] 24)).al (by simp only [World.size_alloc]; omega) (.cells #[.int .i64 0, .int .i64 1, .int .i64 1, .int .i64 0, .int .i64 0, .int .i64 1, .int .i64 0, .int .i64 0, .int .i64 0] 3))
  have L28 : Hid (MidC (wo2.heap.size) (v1.heap.size) wo24 (xs1) ([(3 : Int), (3 : Int)]) (2)) := by rw [hwo24]; exact ((L12.out.al (by omega) (.cells #[.bool false, .slice xa1 2 xc1, .slice ya1 9 yc1] 24)).al (by simp only [World.size_alloc]; omega) (.cells #[.int .i64 0, .int .i64 1, .int .i64 1, .int .i64 0, .int .i64 0, .int .i64 1, .int .i64 0, .int .i64 0, .int .i64 0] 3))
  have L29 : Hid (MidC (v1.heap.size) (v2.heap.size) wo24 (xa1) ([(3 : Int), (3 : Int)]) (xc1)) := by rw [hwo24]; exact ((L14.out.al (by omega) (.cells #[.bool false, .slice xa1 2 xc1, .slice ya1 9 yc1] 24)).al (by simp only [World.size_alloc]; omega) (.cells #[.int .i64 0, .int .i64 1, .int .i64 1, .int .i64 0, .int .i64 0, .int .i64 1, .int .i64 0, .int .i64 0, .int .i64 0] 3))
  have L30 : Hid (MidC (v1.heap.size) (v2.heap.size) wo24 (ya1) ([0, 1, 1, 0, 0, 1, 0, 0, 0]) (yc1)) := by rw [hwo24]; exact ((L15.out.al (by omega) (.cells #[.bool false, .slice xa1 2 xc1, .slice ya1 9 yc1] 24)).al (by simp only [World.size_alloc]; omega) (.cells #[.int .i64 0, .int .i64 1, .int .i64 1, .int .i64 0, .int .i64 0, .int .i64 1, .int .i64 0, .int .i64 0, .int .i64 0] 3))
  have L31 : Hid (MidC (v2.heap.size + 1) (v2.heap.size + 1 + 1) wo24 (some ⟨v2.heap.size + 1, 0, none⟩) ([0, 1, 1, 0, 0, 1, 0, 0, 0]) (9)) := by rw [hwo24]; exact n20
  have hb32 : Hid (Below w.heap.size w wo24) := by rw [hwo24]; exact ((hb13.out.alloc (by omega) (.cells #[.bool false, .slice xa1 2 xc1, .slice ya1 9 yc1] 24)).alloc (by simp only [World.size_alloc]; omega) (.cells #[.int .i64 0, .int .i64 1, .int .i64 1, .int .i64 0, .int .i64 0, .int .i64 1, .int .i64 0, .int .i64 0, .int .i64 0] 3))
  have zwo24 : w.heap.size ≤ wo24.heap.size := hb32.out.size
  clear hwo24 n16 l17 l18 l19 n20 l21 l22 l23 hb13 L11 L12 L14 L15
  refine (ints_any ya1 yc1 [0, 1, 1, 0, 0, 1, 0, 0, 0] (some ⟨v2.heap.size + 1, 0, none⟩) 9 [0, 1, 1, 0, 0, 1, 0, 0, 0] (by simp) _ _ (L30.out.is (by omega)).1 (L31.out.is (by omega)).1).mono ?_
  rintro e v3 ⟨rfl, hB⟩
  have z33 : wo24.heap.size ≤ v3.heap.size := hB.size
  have B34 : Hid (Abx v3 (v2.heap.size) (.bool false) (.slice xa1 2 xc1) (.slice ya1 9 yc1)) := B26.out.go hB
  have L35 : Hid (MidC (w.heap.size) (w.heap.size + 1) v3 (some ⟨w.heap.size, 0, none⟩) ([0, 1, 0, 0, 0, 1, 0, 0, 0]) (9)) := L27.out.go (by omega) hB
  have L36 : Hid (MidC (wo2.heap.size) (v1.heap.size) v3 (xs1) ([(3 : Int), (3 : Int)]) (2)) := L28.out.go (by omega) hB
  have L37 : Hid (MidC (v1.heap.size) (v2.heap.size) v3 (xa1) ([(3 : Int), (3 : Int)]) (xc1)) := L29.out.go (by omega) hB
  have L38 : Hid (MidC (v1.heap.size) (v2.heap.size) v3 (ya1) ([0, 1, 1, 0, 0, 1, 0, 0, 0]) (yc1)) := L30.out.go (by omega) hB
  have L39 : Hid (MidC (v2.heap.size + 1) (v2.heap.size + 1 + 1) v3 (some ⟨v2.heap.size + 1, 0, none⟩) ([0, 1, 1, 0, 0, 1, 0, 0, 0]) (9)) := L31.out.go (by omega) hB
  have hb40 : Hid (Below w.heap.size w v3) := hb32.out.trans (hB.mono hb32.out.size)
  clear hB hb32 B26 L27 L28 L29 L30 L31
  rw [eqB_true rfl]
  go_wp2_with fail
  go_ret
  exact ⟨rfl, hb40.out⟩
end Go.Proofs.Ytgaelbgeoobgiab
