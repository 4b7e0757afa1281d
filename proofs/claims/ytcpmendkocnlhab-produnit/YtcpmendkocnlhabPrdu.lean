/-
  Each index held against each: the matrix by which a matrix stays, as the statement's walk uses it; the first numbers.
-/
import Derived.Test.YtcpmendkocnlhabPrdz
import Derived.Test.YtcpmendkocnlhabIotc
namespace Go.Proofs.Ytcpmendkocnlhab
open Go.RowKit
set_option linter.unusedVariables false

theorem io13 (n : Nat) (N : Int) (hN : N = n) (hn : n ≤ 4096) (D : List Int) (l : Nat) (hD : D = iot n) (hl : D.length = l) (w : World) :
    Calls Try.prog 5 #[.int .i64 N] w fun e w' => ∃ xa xc ya yc, e = .returned (.tuple #[.agg #[.bool false, .slice xa 1 xc, .slice ya l yc], .nilIface]) ∧ NewC w.heap.size w' xa [N] xc ∧ NewC w.heap.size w' ya D yc ∧ Below w.heap.size w w' := by
  subst hN hl hD
  refine (iota_c n hn w).mono ?_
  rintro e w' ⟨xa, xc, ya, yc, rfl, h1, h2, h3⟩
  exact ⟨xa, xc, ya, yc, by rw [iot_length], h1, h2, h3⟩
theorem iot_z64 (n : Nat) (h : n ≤ 4096) : ∀ j, In64 (nth (iot n) j) := l64z (L64.map fun k hk => by
  have := List.mem_range.1 hk
  show In64 ((k : Nat) : Int)
  unfold In64
  omega)
theorem unit13 {c1 : Bool} {sz1 dz1 : List Int} (G : GrdP 16 c1 sz1 dz1) (T1 : ∀ j, In64 (nth dz1 j)) :
    ∃ (m n : Nat) (DM DN SM SN U V : List Int), (nth sz1 0 = m ∧ m ≤ 4096 ∧ DM = iot m ∧ ∀ j, In64 (nth DM j)) ∧ (nth sz1 1 = n ∧ n ≤ 4096 ∧ DN = iot n ∧ ∀ j, In64 (nth DN j)) ∧
      (otE 8 false [nth sz1 0] DM false [nth sz1 0] DM = 0 ∧ [nth sz1 0] ++ [nth sz1 0] = SM ∧ otD 8 false [nth sz1 0] DM false [nth sz1 0] DM = U) ∧ (otE 8 false [nth sz1 1] DN false [nth sz1 1] DN = 0 ∧ [nth sz1 1] ++ [nth sz1 1] = SN ∧ otD 8 false [nth sz1 1] DN false [nth sz1 1] DN = V) ∧
      (inE 1 3 false SM U false sz1 dz1 = 0 ∧ inS SM sz1 = sz1 ∧ inD 1 3 false SM U false sz1 dz1 = dz1) ∧ (inE 1 3 false sz1 dz1 false SN V = 0 ∧ inS sz1 SN = sz1 ∧ inD 1 3 false sz1 dz1 false SN V = dz1) ∧
      ((∀ j, In64 (nth U j)) ∧ ∀ j, In64 (nth V j)) ∧ DM.length ≤ 4096 ∧ DN.length ≤ 4096 ∧ (SM.length ≤ 4096 ∧ U.length ≤ 4096) ∧ SN.length ≤ 4096 ∧ V.length ≤ 4096 := by
  obtain ⟨m, n, rfl, a1, a2, hm, hn, f1⟩ := grd_form G
  rw [a1, a2]
  obtain ⟨M, rfl⟩ : ∃ M : Nat, m = M := ⟨m.toNat, by omega⟩
  obtain ⟨N, rfl⟩ : ∃ N : Nat, n = N := ⟨n.toNat, by omega⟩
  have line : ∀ k : Nat, k ≤ 64 → flawE false [(k : Int)] (iot k) = 0 := fun k hk => flawE_okn (errOf_zero.2 ⟨by simp, fun x hx => by rw [List.mem_singleton.1 hx]; omega, by simp [prod]; omega⟩) (by rw [iot_length]; simp [prod])
  have eM := err_two hm hm
  have eN := err_two hn hn
  obtain ⟨u1, u2⟩ := ot_unit (line M (by omega)) eM fun i hi => iot_nth M (by omega)
  obtain ⟨v1, v2⟩ := ot_unit (line N (by omega)) eN fun i hi => iot_nth N (by omega)
  obtain ⟨p1, p2, p3⟩ := in_unit_left f1 eM u2 T1
  obtain ⟨q1, q2, q3⟩ := in_unit_right f1 eN v2 T1
  have e0 := (flawE_zero f1).1
  have x1 := in_two srg13.su srg13.pr p1 f1 e0 p2 T1
  have x2 := in_two srg13.su srg13.pr f1 q1 e0 T1 q2
  refine ⟨M, N, iot M, iot N, [(M : Int), (M : Int)], [(N : Int), (N : Int)], _, _, ⟨rfl, by omega, rfl, iot_z64 M (by omega)⟩, ⟨rfl, by omega, rfl, iot_z64 N (by omega)⟩, ⟨u1, rfl, rfl⟩, ⟨v1, rfl, rfl⟩, ⟨x1.1, x1.2.1, p3⟩, ⟨x2.1, x2.2.1, q3⟩, ⟨p2, q2⟩, by rw [iot_length]; omega, by rw [iot_length]; omega, short13 p1, short13 q1⟩
end Go.Proofs.Ytcpmendkocnlhab
