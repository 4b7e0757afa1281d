/-
  The document's rows of an array: how many there are, how long they are; a row as a piece of its memory.
-/
import Derived.Test.YteddkfeiikdekaaDoorGrdq
import Derived.Test.YteddkfeiikdekaaDoorGrdr
import Derived.Test.YteddkfeiikdekaaDoorBase
import Derived.Deep.DeepCutAuto
namespace Go.Proofs.YteddkfeiikdekaaDoor
open Go.RowKit
set_option linter.unusedVariables false

theorem row_cut {n₀ : Nat} {W : World} {da : Option Addr} {dz : List Int} {dc n long j : Nat} {A : Option Addr} (h : IsC n₀ W da dz dc) (hn : n * long ≤ dz.length) (hj : j < n) (hA : (if dc = j * long then da else da.map fun x => x.add (j * long)) = A) : IsInts n₀ W A (rwL dz long j) := by
  obtain ⟨ad, cp, e, hI⟩ := rwV_is h hn hj
  unfold rwV at e
  subst hA
  split at e
  · rename_i h1; rw [if_pos h1]; have := (Value.slice.inj e).1; rw [this]; exact hI.1
  · rename_i h1; rw [if_neg h1]; have := (Value.slice.inj e).1; rw [this]; exact hI.1
set_option maxRecDepth 100000 in
set_option maxHeartbeats 2000000 in
theorem rowsr_any (c : Bool) (sa : Option Addr) (sc : Nat) (sz : List Int) (da : Option Addr) (dc : Nat) (dz : List Int) (he : gdE c sz dz = 0) (n lo : Nat) (hn : nR sz = n) (hlo : lR sz dz = lo) (w : World) (hs : IsInts w.heap.size w sa sz) :
    Calls Tryd.prog 10 #[.agg #[.bool c, .slice sa sz.length sc, .slice da dz.length dc]] w fun r w' => r = .returned (.tuple #[.int .i64 (n : Nat), .int .i64 (lo : Nat)]) ∧ Below w.heap.size w w' := by
  have hnR := nR_is he
  have hfl := flawE_short (gdE_zero.1 he).1
  have h0 := (gdE_zero.1 he).2
  rw [hn] at hnR
  have hlo2 : lo = dz.length / n := by rw [← hlo, lR_is, hn]
  have HL : Hid (lo = dz.length / n) := hlo2
  obtain ⟨bs, os, rfl, hbs, hcS⟩ := hs.at h0
  have c0 := hcS 0 h0
  rw [hnR.1] at c0
  obtain ⟨W0, hW0⟩ : ∃ W0, W0 = w.alloc (.cells #[.bool c, .slice (some ⟨bs, os, none⟩) sz.length sc, .slice da dz.length dc] 24) := ⟨_, rfl⟩
  have HB0 : Hid (Below w.heap.size w W0) := by rw [hW0]; exact (Below.refl _ w).alloc (Nat.le_refl _) _
  have HP : Hid (Abx W0 w.heap.size (.bool c) (.slice (some ⟨bs, os, none⟩) sz.length sc) (.slice da dz.length dc)) := by rw [hW0]; exact Abx.new w _ _ _
  have c1 : W0.cell? ⟨bs, os + 0, none⟩ = some (.int .i64 (n : Int)) := (HB0.out.cell (p := ⟨bs, os + 0, none⟩) hbs).trans c0
  rw [Nat.add_zero] at c1
  have p1 := HP.out.c1
  have p2 := HP.out.c2
  have hn4 := hnR.2
  have hd4 := hfl.2
  clear hcS c0 hs hnR hfl hlo hlo2 hn he
  go_enter Tryd.func10, Tryd.ntmps10
  go_upto_region 1 with fail
  rw [← hW0]
  clear hW0
  by_cases h1 : n = 0
  · have H1 : Hid (n = 0) := h1
    have hb : ((n : Int) == 0) = true := by rw [h1]; rfl
    clear h1
    go_wp2_with fail
    go_ret2
    refine ⟨?_, HB0.out⟩
    have : lo = 0 := by rw [HL.out, H1.out, Nat.div_zero]
    rw [this, H1.out]; rfl
  · have hb : ((n : Int) == 0) = false := by rw [beq_eq_false_iff_ne]; omega
    have hn0 : (n : Int) ≠ 0 := by omega
    obtain ⟨D, hD⟩ : ∃ D, D = dz.length := ⟨_, rfl⟩
    have e1 : (D : Int) / (n : Int) = (lo : Int) := by rw [HL.out, hD]; rfl
    have e2 : IntKind.i64.wrap (lo : Int) = (lo : Int) := by
      have : (lo : Int) ≤ 4096 := by have := Nat.div_le_self dz.length n; have := HL.out; omega
      exact IntWalk.i64_in _ (by omega)
    rw [← hD] at p2
    clear hD
    go_wp2_with fail
    refine anyT_begin 7 (fun w' => w'.cell? ⟨w.heap.size, 2, none⟩ = some (.slice da D dc)) 8 #[false, false, false, false, false, false, false, false] (by kernel_rfl) rfl rfl ?_
    refine anyT_put 0 11 ?rv0 #[true, false, false, false, false, false, false, false] rfl rfl rfl (by kernel_rfl) (by kernel_rfl) (by kernel_rfl) (fun _ _ _ h => h) (by decide) ?ry0 (fun _ => p2) ?rm0
    case ry0 => first | exact Or.inl ⟨by rfl, by intro w'; go_simp; first | done | rfl⟩
    case rm0 =>
    simp only [Act.put, List.setIfInBounds_toArray, List.set_cons_zero, List.set_cons_succ]
    refine anyT_put 1 12 ?rv1 #[true, true, false, false, false, false, false, false] rfl rfl rfl (by kernel_rfl) (by kernel_rfl) (by kernel_rfl) (fun _ _ _ h => h) (by decide) ?ry1 (fun _ => p2) ?rm1
    case ry1 => first | exact Or.inl ⟨by rfl, by intro w'; go_simp; first | done | rfl⟩
    case rm1 =>
    simp only [Act.put, List.setIfInBounds_toArray, List.set_cons_zero, List.set_cons_succ]
    refine anyT_take 2 13 ?rv2 #[true, true, true, false, false, false, false, false] rfl rfl rfl (by kernel_rfl) (by kernel_rfl) (by kernel_rfl) (fun _ _ _ h => h) (by kernel_rfl) (by decide) (by kernel_rfl) ?ry2 (p2) ?rm2
    case ry2 => first | exact Or.inl ⟨by rfl, by intro w' hw'; (try dsimp only at hw'); go_simp; first | done | rfl⟩
    case rm2 =>
    simp only [Act.put, List.setIfInBounds_toArray, List.set_cons_zero, List.set_cons_succ]
    refine anyT_put 3 14 ?rv3 #[true, true, true, true, false, false, false, false] rfl rfl rfl (by kernel_rfl) (by kernel_rfl) (by kernel_rfl) (fun _ _ _ h => h) (by decide) ?ry3 (fun _ => p2) ?rm3
    case ry3 => first | exact Or.inl ⟨by rfl, by intro w'; go_simp; first | done | rfl⟩
    case rm3 =>
    simp only [Act.put, List.setIfInBounds_toArray, List.set_cons_zero, List.set_cons_succ]
    refine anyT_put 4 15 ?rv4 #[true, true, true, true, true, false, false, false] rfl rfl rfl (by kernel_rfl) (by kernel_rfl) (by kernel_rfl) (fun _ _ _ h => h) (by decide) ?ry4 (fun _ => p2) ?rm4
    case ry4 => first | exact Or.inl ⟨by rfl, by intro w'; go_simp; first | done | rfl⟩
    case rm4 =>
    simp only [Act.put, List.setIfInBounds_toArray, List.set_cons_zero, List.set_cons_succ]
    refine anyT_put 5 16 ?rv5 #[true, true, true, true, true, true, false, false] rfl rfl rfl (by kernel_rfl) (by kernel_rfl) (by kernel_rfl) (fun _ _ _ h => h) (by decide) ?ry5 (fun _ => p2) ?rm5
    case ry5 => first | exact Or.inl ⟨by rfl, by intro w'; go_simp; first | done | rfl⟩
    case rm5 =>
    simp only [Act.put, List.setIfInBounds_toArray, List.set_cons_zero, List.set_cons_succ]
    refine anyT_one 6 #[true, true, true, true, true, true, true, false] (by kernel_rfl) rfl rfl (fun K hK => ?_)
    go_simp
    refine hK.out _ _ (fun _ => p2) ?_
    clear hK K
    refine anyT_one 7 #[true, true, true, true, true, true, true, true] (by kernel_rfl) rfl rfl (fun K hK => ?_)
    go_simp
    refine hK.out _ _ (fun h => absurd h (by decide)) ?_
    clear hK K
    refine anyT_done (by kernel_rfl) ?_
    go_wp2_with fail
    go_ret2
    exact ⟨rfl, HB0.out.drew⟩
end Go.Proofs.YteddkfeiikdekaaDoor
