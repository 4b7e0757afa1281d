/-
  The document's rows of an array: how many there are, how long they are; a row as a piece of its memory.
-/
import Derived.Test.YteddkfeiikdekaaGrdq
import Derived.Test.YteddkfeiikdekaaGrdr
import Derived.Test.YteddkfeiikdekaaBase
import Derived.Deep.DeepCutAuto
namespace Go.Proofs.Yteddkfeiikdekaa
open Go.RowKit
set_option linter.unusedVariables false

theorem row_cut {n₀ : Nat} {W : World} {da : Option Addr} {dz : List Int} {dc n long j : Nat} {A : Option Addr} (h : IsC n₀ W da dz dc) (hn : n * long ≤ dz.length) (hj : j < n) (hA : (if dc = j * long then da else da.map fun x => x.add (j * long)) = A) : IsInts n₀ W A (rwL dz long j) := by
  obtain ⟨ad, cp, e, hI⟩ := rwV_is h hn hj
  unfold rwV at e
  subst hA
  split at e
  · rename_i h1; rw [if_pos h1]; have := (Value.slice.inj e).1; rw [this]; exact hI.1
  · rename_i h1; rw [if_neg h1]; have := (Value.slice.inj e).1; rw [this]; exact hI.1
set_option maxRecDepth 100000 in
set_option maxHeartbeats 2000000 in
theorem rowsr_any (c : Bool) (sa : Option Addr) (sc : Nat) (sz : List Int) (da : Option Addr) (dc : Nat) (dz : List Int) (he : gdE c sz dz = 0) (n lo : Nat) (hn : nR sz = n) (hlo : lR sz dz = lo) (w : World) (hs : IsInts w.heap.size w sa sz) :
    Calls Try.prog 11 #[.agg #[.bool c, .slice sa sz.length sc, .slice da dz.length dc]] w fun r w' => r = .returned (.tuple #[.int .i64 (n : Nat), .int .i64 (lo : Nat)]) ∧ Below w.heap.size w w' := by
  have hnR := nR_is he
  have hfl := flawE_short (gdE_zero.1 he).1
  have h0 := (gdE_zero.1 he).2
  rw [hn] at hnR
  have hlo2 : lo = dz.length / n := by rw [← hlo, lR_is, hn]
  have HL : Hid (lo = dz.length / n) := hlo2
  obtain ⟨bs, os, rfl, hbs, hcS⟩ := hs.at h0
  have c0 := hcS 0 h0
  rw [hnR.1] at c0
  obtain ⟨W0, hW0⟩ : ∃ W0, W0 = w.alloc (.cells #[.bool c, .slice (some ⟨bs, os, none⟩) sz.length sc, .slice da dz.length dc] 24) := ⟨_, rfl⟩
  have HB0 : Hid (Below w.heap.size w W0) := by rw [hW0]; exact (Below.refl _ w).alloc (Nat.le_refl _) _
  have HP : Hid (Abx W0 w.heap.size (.bool c) (.slice (some ⟨bs, os, none⟩) sz.length sc) (.slice da dz.length dc)) := by rw [hW0]; exact Abx.new w _ _ _
  have c1 : W0.cell? ⟨bs, os + 0, none⟩ = some (.int .i64 (n : Int)) := (HB0.out.cell (p := ⟨bs, os + 0, none⟩) hbs).trans c0
  rw [Nat.add_zero] at c1
  have p1 := HP.out.c1
  have p2 := HP.out.c2
  have hn4 := hnR.2
  have hd4 := hfl.2
  clear hcS c0 hs hnR hfl hlo hlo2 hn he
  go_enter Try.func11, Try.ntmps11
  go_upto_region 1 with fail
  rw [← hW0]
  clear hW0
  by_cases h1 : n = 0
  · have H1 : Hid (n = 0) := h1
    have hb : ((n : Int) == 0) = true := by rw [h1]; rfl
    clear h1
    go_wp2_with fail
    go_ret2
    refine ⟨?_, HB0.out⟩
    have : lo = 0 := by rw [HL.out, H1.out, Nat.div_zero]
    rw [this, H1.out]; rfl
  · have hb : ((n : Int) == 0) = false := by rw [beq_eq_false_iff_ne]; omega
    have hn0 : (n : Int) ≠ 0 := by omega
    obtain ⟨D, hD⟩ : ∃ D, D = dz.length := ⟨_, rfl⟩
    have e1 : (D : Int) / (n : Int) = (lo : Int) := by rw [HL.out, hD]; rfl
    have e2 : IntKind.i64.wrap (lo : Int) = (lo : Int) := by
      have : (lo : Int) ≤ 4096 := by have := Nat.div_le_self dz.length n; have := HL.out; omega
      exact IntWalk.i64_in _ (by omega)
    rw [← hD] at p2
    clear hD
    go_wp2_with fail
    refine anyT_begin 7 (fun w' => w'.cell? ⟨w.heap.size, 2, none⟩ = some (.slice da D dc)) 8 #[false, false, false, false, false, false, false, false] (by kernel_rfl) rfl rfl ?_
    refine anyT_put 0 11 ?rv10 #[true, false, false, false, false, false, false, false] rfl rfl rfl (by kernel_rfl) (by kernel_rfl) (by kernel_rfl) (fun _ _ _ h => h) (by decide) ?ry10 (fun _ => p2) ?rm10
    case ry10 => first | exact Or.inl ⟨by rfl, by intro w'; go_simp; first | done | rfl⟩
    case rm10 =>
    simp only [Act.put, List.setIfInBounds_toArray, List.set_cons_zero, List.set_cons_succ]
    refine anyT_put 1 12 ?rv11 #[true, true, false, false, false, false, false, false] rfl rfl rfl (by kernel_rfl) (by kernel_rfl) (by kernel_rfl) (fun _ _ _ h => h) (by decide) ?ry11 (fun _ => p2) ?rm11
    case ry11 => first | exact Or.inl ⟨by rfl, by intro w'; go_simp; first | done | rfl⟩
    case rm11 =>
    simp only [Act.put, List.setIfInBounds_toArray, List.set_cons_zero, List.set_cons_succ]
    refine anyT_take 2 13 ?rv12 #[true, true, true, false, false, false, false, false] rfl rfl rfl (by kernel_rfl) (by kernel_rfl) (by kernel_rfl) (fun _ _ _ h => h) (by kernel_rfl) (by decide) (by kernel_rfl) ?ry12 (p2) ?rm12
    case ry12 => first | exact Or.inl ⟨by rfl, by intro w' hw'; (try dsimp only at hw'); go_simp; first | done | rfl⟩
    case rm12 =>
    simp only [Act.put, List.setIfInBounds_toArray, List.set_cons_zero, List.set_cons_succ]
    refine anyT_put 3 14 ?rv13 #[true, true, true, true, false, false, false, false] rfl rfl rfl (by kernel_rfl) (by kernel_rfl) (by kernel_rfl) (fun _ _ _ h => h) (by decide) ?ry13 (fun _ => p2) ?rm13
    case ry13 => first | exact Or.inl ⟨by rfl, by intro w'; go_simp; first | done | rfl⟩
    case rm13 =>
    simp only [Act.put, List.setIfInBounds_toArray, List.set_cons_zero, List.set_cons_succ]
    refine anyT_put 4 15 ?rv14 #[true, true, true, true, true, false, false, false] rfl rfl rfl (by kernel_rfl) (by kernel_rfl) (by kernel_rfl) (fun _ _ _ h => h) (by decide) ?ry14 (fun _ => p2) ?rm14
    case ry14 => first | exact Or.inl ⟨by rfl, by intro w'; go_simp; first | done | rfl⟩
    case rm14 =>
    simp only [Act.put, List.setIfInBounds_toArray, List.set_cons_zero, List.set_cons_succ]
    refine anyT_put 5 16 ?rv15 #[true, true, true, true, true, true, false, false] rfl rfl rfl (by kernel_rfl) (by kernel_rfl) (by kernel_rfl) (fun _ _ _ h => h) (by decide) ?ry15 (fun _ => p2) ?rm15
    case ry15 => first | exact Or.inl ⟨by rfl, by intro w'; go_simp; first | done | rfl⟩
    case rm15 =>
    simp only [Act.put, List.setIfInBounds_toArray, List.set_cons_zero, List.set_cons_succ]
    refine anyT_one 6 #[true, true, true, true, true, true, true, false] (by kernel_rfl) rfl rfl (fun K hK => ?_)
    go_simp
    refine hK.out _ _ (fun _ => p2) ?_
    clear hK K
    refine anyT_one 7 #[true, true, true, true, true, true, true, true] (by kernel_rfl) rfl rfl (fun K hK => ?_)
    go_simp
    refine hK.out _ _ (fun h => absurd h (by decide)) ?_
    clear hK K
    refine anyT_done (by kernel_rfl) ?_
    go_wp2_with fail
    go_ret2
    exact ⟨rfl, HB0.out.drew⟩
end Go.Proofs.Yteddkfeiikdekaa
