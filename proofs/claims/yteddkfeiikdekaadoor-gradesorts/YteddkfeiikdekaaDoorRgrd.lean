/-
  The document's orders of rows.
-/
import Derived.Test.YteddkfeiikdekaaDoorRgrdm
import Derived.Test.YteddkfeiikdekaaDoorRrow
import Derived.Test.YteddkfeiikdekaaDoorRcmp
import Derived.Test.YteddkfeiikdekaaDoorFlaw
import Derived.Test.YteddkfeiikdekaaDoorSrts
import Derived.Test.YteddkfeiikdekaaDoorBase
import Derived.Deep.DeepCutAuto
namespace Go.Proofs.YteddkfeiikdekaaDoor
open Go.RowKit
set_option linter.unusedVariables false

/-- What the document's order of rows is, and its error. -/
def UG (E : Int) (L : List Int) (w : World) (r : Ending) (w' : World) : Prop := ∃ g gc, r = .returned (.tuple #[.slice g L.length gc, .int .i64 E]) ∧ NewC w.heap.size w' g L gc ∧ Below w.heap.size w w'
theorem UG.no {E : Int} {L : List Int} {w w' : World} (h : E ≠ 0) (hB : Below w.heap.size w w') : UG E (onL E L) w (.returned (.tuple #[.slice none 0 0, .int .i64 E])) w' := by
  rw [onL_no h]
  exact ⟨none, 0, rfl, ⟨.inl rfl, Nat.le_refl _⟩, hB⟩
theorem cmp_l10 (a : Option Addr) (cap : Nat) (p : List Int) (l : Nat) (hp : p.length = l) (b : Option Addr) (bap : Nat) (q : List Int) (m : Nat) (hq : q.length = m) (C : Int) (hC : cmpL p q = C) (hlm : l = m) (h : l ≤ 9223372036854775807) (n₀ : Nat) (w : World) (hI : IsInts n₀ w a p) (hI' : IsInts n₀ w b q) :
    Calls Tryd.prog 14 #[.slice a l cap, .slice b m bap] w fun e w' => e = .returned (.int .i64 C) ∧ Below w.heap.size w w' := by
  subst hp hq hC
  exact cmp_any a cap p b bap q hlm h n₀ w hI hI'
set_option maxRecDepth 100000 in
set_option maxHeartbeats 8000000 in
theorem rgrd_any (dn : Bool) (c : Bool) (sa : Option Addr) (sc : Nat) (sz : List Int) (da : Option Addr) (dc : Nat) (dz : List Int) (w : World) (h1 : sz.length ≤ 9223372036854775807) (h2 : dz.length ≤ 9223372036854775807) (hs : IsC w.heap.size w sa sz sc) (hd : IsC w.heap.size w da dz dc) :
    Calls Tryd.prog 5 #[.agg #[.bool c, .slice sa sz.length sc, .slice da dz.length dc], .bool dn] w (UG (gdE c sz dz) (onL (gdE c sz dz) (gdO dn sz dz)) w) := by
  have HI : Hid (IsC w.heap.size w sa sz sc ∧ IsC w.heap.size w da dz dc) := ⟨hs, hd⟩
  obtain ⟨W0, hW0⟩ : ∃ W0, W0 = w.alloc (.cells #[.bool c, .slice sa sz.length sc, .slice da dz.length dc] 24) := ⟨_, rfl⟩
  have HB0 : Hid (Below w.heap.size w W0) := by rw [hW0]; exact (Below.refl _ w).alloc (Nat.le_refl _) _
  have HP : Hid (Abx W0 w.heap.size (.bool c) (.slice sa sz.length sc) (.slice da dz.length dc)) := by rw [hW0]; exact Abx.new w _ _ _
  have HF : Hid (Calls Tryd.prog 13 #[.agg #[.bool c, .slice sa sz.length sc, .slice da dz.length dc]] W0 fun e w' => e = .returned (.int .i64 (flawE c sz dz)) ∧ Below W0.heap.size W0 w') := flaw_any c sa sc sz da dc dz h1 h2 W0 ((HI.out.1.1.below HB0.out).mono HB0.out.size) ((HI.out.2.1.below HB0.out).mono HB0.out.size)
  have p0 := HP.out.c0
  have p1 := HP.out.c1
  have p2 := HP.out.c2
  clear hs hd
  go_enter Tryd.func5, Tryd.ntmps5
  go_upto_region 1 with fail
  rw [← hW0]
  clear hW0
  go_wp2_with fail
  refine HF.out.mono ?_
  rintro e v1 ⟨rfl, hB1⟩
  have HB1 : Hid (Below w.heap.size w v1) := HB0.out.trans (hB1.mono HB0.out.size)
  have HA1 : Hid (Abx v1 w.heap.size (.bool c) (.slice sa sz.length sc) (.slice da dz.length dc)) := HP.out.go hB1
  have q0 := HA1.out.c0
  have q1 := HA1.out.c1
  have q2 := HA1.out.c2
  clear p0 p1 p2 hB1 HF
  by_cases h3 : flawE c sz dz = 0
  · by_cases h4 : sz.length = 0
    · have HE : Hid (gdE c sz dz = 3) := gdE_rank h3 h4
      have hl0 : ((sz.length : Int) == 0) = true := by rw [h4]; rfl
      rw [h3]
      clear h3 h4
      go_wp2_with fail
      go_ret2
      rw [HE.out]
      exact UG.no (by decide) HB1.out
    · have H3 : Hid (gdE c sz dz = 0) := gdE_zero.2 ⟨h3, by omega⟩
      have hl0 : ((sz.length : Int) == 0) = false := by rw [beq_eq_false_iff_ne]; omega
      rw [h3]
      obtain ⟨n, hn⟩ : ∃ n, nR sz = n := ⟨_, rfl⟩
      obtain ⟨lo, hlo⟩ : ∃ lo, lR sz dz = lo := ⟨_, rfl⟩
      have hn4 : n ≤ 4096 := by rw [← hn]; exact (nR_is H3.out).2
      have hd4 : dz.length ≤ 4096 := (flawE_short h3).2
      have HL : Hid (n * lo ≤ dz.length) := by show _ ≤ _; rw [← hn, ← hlo]; exact lR_le sz dz
      have HT : Hid (Tot (ltR dn dz lo) n) := ltR_tot HL.out
      have HG : Hid (gdO dn sz dz = grd (ltR dn dz lo) n) := by show grO dn dz (nR sz) (lR sz dz) = _; rw [hn, hlo]; rfl
      have HRW : Hid (Calls Tryd.prog 10 #[.agg #[.bool c, .slice sa sz.length sc, .slice da dz.length dc]] v1 fun r w' => r = .returned (.tuple #[.int .i64 (n : Nat), .int .i64 (lo : Nat)]) ∧ Below v1.heap.size v1 w') := rowsr_any c sa sc sz da dc dz H3.out n lo hn hlo v1 ((HI.out.1.1.below HB1.out).mono HB1.out.size)
      clear h3 h4 hn hlo
      go_wp2_with fail
      refine HRW.out.mono ?_
      rintro e u ⟨rfl, hB2⟩
      have HB2 : Hid (Below w.heap.size w u) := HB1.out.trans (hB2.mono HB1.out.size)
      have HA2 : Hid (Abx u w.heap.size (.bool c) (.slice sa sz.length sc) (.slice da dz.length dc)) := HA1.out.go hB2
      have hmk := run_make_row' (P := Tryd.prog) 22 3 (.int .i64 0) 8 Tryd.underlying22 Tryd.infoInt rfl .i64 .i64 n (by omega) (by omega)
      have hR0 : (u.alloc (.cells (madeCells #[.int .i64 0] n) 3)).rowIs u.heap.size 3 n (fun _ => .int .i64 0) := World.rowIs_made u (.int .i64 0) n 3
      have HR0 : Hid ((u.alloc (.cells (madeCells #[.int .i64 0] n) 3)).rowIs u.heap.size 3 n (zc (gdU (ltR dn dz lo) n 0))) := hR0.congr fun j hj => by unfold zc; rw [gdU_zero HT.out hj]
      clear q0 q1 q2 hB2 HRW hR0 hl0
      go_wp2_with fail
      clear hmk
      go_loopw [10] (fun i wr => ∃ k : Nat, k ≤ n ∧ i = .int .i64 k ∧ wr.rowIs u.heap.size 3 n (zc (gdU (ltR dn dz lo) n k)) ∧ Below u.heap.size u wr) (fun i _ => n - (intOf i).toNat)
      case atStart => exact ⟨0, Nat.zero_le _, rfl, HR0.out, (Below.refl _ u).alloc (Nat.le_refl _) _⟩
      case round =>
        obtain ⟨k, hk, rfl, hrow, hB⟩ := hrel
        obtain ⟨wo, hwo⟩ : ∃ wo, wo = wr := ⟨_, rfl⟩
        subst hwo
        have HRk : Hid (wo.rowIs u.heap.size 3 n (zc (gdU (ltR dn dz lo) n k))) := hrow
        have HBk : Hid (Below u.heap.size u wo) := hB
        have hSz : u.heap.size < wo.heap.size := hrow.lt
        clear hrow hB
        by_cases hkn : k < n
        · go_wp2_with fail
          go_loopw [11, 12] (fun va vj wr => ∃ j : Nat, j ≤ n ∧ vj = .int .i64 j ∧ va = .int .i64 (ahT (ltR dn dz lo) k j : Nat) ∧ Below wo.heap.size wo wr) (fun _ vj _ => n - (intOf vj).toNat)
          case atStart => exact ⟨0, Nat.zero_le _, rfl, rfl, Below.refl _ _⟩
          case round =>
            obtain ⟨j, hj, rfl, rfl, hBj⟩ := hrel
            have HBj : Hid (Below wo.heap.size wo wr) := hBj
            have HBu : Hid (Below u.heap.size u wr) := HBk.out.trans (hBj.mono HBk.out.size)
            have HBw : Hid (Below w.heap.size w wr) := HB2.out.trans (HBu.out.mono HB2.out.size)
            have HA : Hid (Abx wr w.heap.size (.bool c) (.slice sa sz.length sc) (.slice da dz.length dc)) := HA2.out.go HBu.out
            have hal := ahT_le (ltR dn dz lo) k j
            by_cases hjn : j < n
            · have hdw : IsC w.heap.size wr da dz dc := HI.out.2.below HBw.out
              have hdc : dz.length ≤ dc := HI.out.2.2
              have hkkn := hkn
              have hlx := rwL_length HL.out hjn
              have hly := rwL_length HL.out hkn
              obtain ⟨K0, hK0⟩ : ∃ K0, K0 = j * lo := ⟨_, rfl⟩
              obtain ⟨J0, hJ0⟩ : ∃ J0, J0 = k * lo := ⟨_, rfl⟩
              have b1 : K0 + lo ≤ dz.length := by have h6 := Nat.mul_le_mul_right lo (show j + 1 ≤ n by omega); rw [Nat.add_mul, Nat.one_mul, ← hK0] at h6; have := HL.out; omega
              have b2 : J0 + lo ≤ dz.length := by have h6 := Nat.mul_le_mul_right lo (show k + 1 ≤ n by omega); rw [Nat.add_mul, Nat.one_mul, ← hJ0] at h6; have := HL.out; omega
              obtain ⟨AX, hAX⟩ : ∃ AX : Option Addr, (if dc = K0 then da else Option.map (fun x => x.add K0) da) = AX := ⟨_, rfl⟩
              obtain ⟨AY, hAY⟩ : ∃ AY : Option Addr, (if dc = J0 then da else Option.map (fun x => x.add J0) da) = AY := ⟨_, rfl⟩
              have HIX : Hid (IsInts w.heap.size wr AX (rwL dz lo j) ∧ IsInts w.heap.size wr AY (rwL dz lo k)) := ⟨row_cut hdw HL.out hjn (by rw [← hK0]; exact hAX), row_cut hdw HL.out hkn (by rw [← hJ0]; exact hAY)⟩
              obtain ⟨K1, hK1⟩ : ∃ K1, K1 = K0 + lo := ⟨_, rfl⟩
              obtain ⟨J1, hJ1⟩ : ∃ J1, J1 = J0 + lo := ⟨_, rfl⟩
              have w1 : IntKind.i64.wrap ((j : Int) * (lo : Int)) = (K0 : Int) := by rw [show (j : Int) * (lo : Int) = (K0 : Int) by rw [hK0]; exact (Int.natCast_mul _ _).symm]; exact IntWalk.i64_in _ (by omega)
              have w2 : IntKind.i64.wrap ((k : Int) * (lo : Int)) = (J0 : Int) := by rw [show (k : Int) * (lo : Int) = (J0 : Int) by rw [hJ0]; exact (Int.natCast_mul _ _).symm]; exact IntWalk.i64_in _ (by omega)
              have w3 : IntKind.i64.wrap ((K0 : Int) + (lo : Int)) = (K1 : Int) := by rw [wr_sm (by omega)]; omega
              have w4 : IntKind.i64.wrap ((J0 : Int) + (lo : Int)) = (J1 : Int) := by rw [wr_sm (by omega)]; omega
              have s1 : K1 - K0 = lo := by omega
              have s2 : J1 - J0 = lo := by omega
              have s3 : K0 ≤ K1 := by omega
              have s4 : J0 ≤ J1 := by omega
              have s5 : K1 ≤ dc := by omega
              have s6 : J1 ≤ dc := by omega
              have hlo4 : lo ≤ 4096 := by omega
              have HLL : Hid ((rwL dz lo j).length = lo ∧ (rwL dz lo k).length = lo) := ⟨hlx, hly⟩
              clear hlx hly hK0 hJ0 hK1 hJ1
              have p2 := HA.out.c2
              obtain ⟨D, hD⟩ : ∃ D, D = dz.length := ⟨_, rfl⟩
              rw [← hD] at p2
              obtain ⟨C, hC⟩ : ∃ C, cmpL (rwL dz lo j) (rwL dz lo k) = C := ⟨_, rfl⟩
              have HCC : Hid (cmpL (rwL dz lo j) (rwL dz lo k) = C) := hC
              have hcb := cmpL_bd (rwL dz lo j) (rwL dz lo k)
              rw [hC] at hcb
              obtain ⟨M, hM⟩ : ∃ M, M = ahT (ltR dn dz lo) k j := ⟨_, rfl⟩
              rw [← hM]
              rw [← hM] at hal
              have HM : Hid (M = ahT (ltR dn dz lo) k j) := hM
              have HLT : Hid (∀ b, ltR dn dz lo j k = b → ltR dn dz lo j k = b) := fun b h => h
              have HCM : Hid (cmR dn dz lo j k = if dn = true then -C else C) := by show _ = _; unfold cmR; rw [hC]
              clear hBj hdw hD hC hM
              cases dn with
              | false =>
                by_cases hc1 : C < 0
                · have t1 : decide (C < 0) = true := decide_eq_true hc1
                  have HLt : Hid (ltR false dz lo j k = true) := by
                    show _ = _
                    have hcm := HCM.out
                    simp only [Bool.false_eq_true, if_false] at hcm
                    rw [ltR_iff, hcm]; omega
                  clear hc1
                  go_wp2_with fail
                  refine anyT_begin 23 (fun w' => w'.cell? ⟨w.heap.size, 2, none⟩ = some (.slice da D dc)) 24 #[false, false, false, false, false, false, false, false, false, false, false, false, false, false, false, false, false, false, false, false, false, false, false, false] (by kernel_rfl) rfl rfl ?_
                  refine anyT_put 0 44 ?rv0 #[true, false, false, false, false, false, false, false, false, false, false, false, false, false, false, false, false, false, false, false, false, false, false, false] rfl rfl rfl (by kernel_rfl) (by kernel_rfl) (by kernel_rfl) (fun _ _ _ h => h) (by decide) ?ry0 (fun _ => p2) ?rm0
                  case ry0 => first | exact Or.inl ⟨by rfl, by intro w'; go_simp; first | done | rfl⟩
                  case rm0 =>
                  simp only [Act.put, List.setIfInBounds_toArray, List.set_cons_zero, List.set_cons_succ]
                  refine anyT_take 1 45 ?rv1 #[true, true, false, false, false, false, false, false, false, false, false, false, false, false, false, false, false, false, false, false, false, false, false, false] rfl rfl rfl (by kernel_rfl) (by kernel_rfl) (by kernel_rfl) (fun _ _ _ h => h) (by kernel_rfl) (by decide) (by kernel_rfl) ?ry1 (p2) ?rm1
                  case ry1 => first | exact Or.inl ⟨by rfl, by intro w' hw'; (try dsimp only at hw'); go_simp; first | done | rfl⟩
                  case rm1 =>
                  simp only [Act.put, List.setIfInBounds_toArray, List.set_cons_zero, List.set_cons_succ]
                  refine anyT_put 2 46 ?rv2 #[true, true, true, false, false, false, false, false, false, false, false, false, false, false, false, false, false, false, false, false, false, false, false, false] rfl rfl rfl (by kernel_rfl) (by kernel_rfl) (by kernel_rfl) (fun _ _ _ h => h) (by decide) ?ry2 (fun _ => p2) ?rm2
                  case ry2 => first | exact Or.inl ⟨by rfl, by intro w'; go_simp; first | done | rfl⟩
                  case rm2 =>
                  simp only [Act.put, List.setIfInBounds_toArray, List.set_cons_zero, List.set_cons_succ]
                  refine anyT_put 3 47 ?rv3 #[true, true, true, true, false, false, false, false, false, false, false, false, false, false, false, false, false, false, false, false, false, false, false, false] rfl rfl rfl (by kernel_rfl) (by kernel_rfl) (by kernel_rfl) (fun _ _ _ h => h) (by decide) ?ry3 (fun _ => p2) ?rm3
                  case ry3 => first | exact Or.inl ⟨by rfl, by intro w'; go_simp; first | done | rfl⟩
                  case rm3 =>
                  simp only [Act.put, List.setIfInBounds_toArray, List.set_cons_zero, List.set_cons_succ]
                  refine anyT_put 4 48 ?rv4 #[true, true, true, true, true, false, false, false, false, false, false, false, false, false, false, false, false, false, false, false, false, false, false, false] rfl rfl rfl (by kernel_rfl) (by kernel_rfl) (by kernel_rfl) (fun _ _ _ h => h) (by decide) ?ry4 (fun _ => p2) ?rm4
                  case ry4 => first | exact Or.inl ⟨by rfl, by intro w'; go_simp; first | done | rfl⟩
                  case rm4 =>
                  simp only [Act.put, List.setIfInBounds_toArray, List.set_cons_zero, List.set_cons_succ]
                  refine anyT_put 5 49 ?rv5 #[true, true, true, true, true, true, false, false, false, false, false, false, false, false, false, false, false, false, false, false, false, false, false, false] rfl rfl rfl (by kernel_rfl) (by kernel_rfl) (by kernel_rfl) (fun _ _ _ h => h) (by decide) ?ry5 (fun _ => p2) ?rm5
                  case ry5 => first | exact Or.inl ⟨by rfl, by intro w'; go_simp; first | done | rfl⟩
                  case rm5 =>
                  simp only [Act.put, List.setIfInBounds_toArray, List.set_cons_zero, List.set_cons_succ]
                  refine anyT_put 6 50 ?rv6 #[true, true, true, true, true, true, true, false, false, false, false, false, false, false, false, false, false, false, false, false, false, false, false, false] rfl rfl rfl (by kernel_rfl) (by kernel_rfl) (by kernel_rfl) (fun _ _ _ h => h) (by decide) ?ry6 (fun _ => p2) ?rm6
                  case ry6 => first | exact Or.inl ⟨by rfl, by intro w'; go_simp; first | done | rfl⟩
                  case rm6 =>
                  simp only [Act.put, List.setIfInBounds_toArray, List.set_cons_zero, List.set_cons_succ]
                  refine anyT_put 7 51 ?rv7 #[true, true, true, true, true, true, true, true, false, false, false, false, false, false, false, false, false, false, false, false, false, false, false, false] rfl rfl rfl (by kernel_rfl) (by kernel_rfl) (by kernel_rfl) (fun _ _ _ h => h) (by decide) ?ry7 (fun _ => p2) ?rm7
                  case ry7 => first | exact Or.inl ⟨by rfl, by intro w'; go_simp; first | done | rfl⟩
                  case rm7 =>
                  simp only [Act.put, List.setIfInBounds_toArray, List.set_cons_zero, List.set_cons_succ]
                  refine anyT_put 8 52 ?rv8 #[true, true, true, true, true, true, true, true, true, false, false, false, false, false, false, false, false, false, false, false, false, false, false, false] rfl rfl rfl (by kernel_rfl) (by kernel_rfl) (by kernel_rfl) (fun _ _ _ h => h) (by decide) ?ry8 (fun _ => p2) ?rm8
                  case ry8 => first | exact Or.inl ⟨by rfl, by intro w'; go_simp; first | done | rfl⟩
                  case rm8 =>
                  simp only [Act.put, List.setIfInBounds_toArray, List.set_cons_zero, List.set_cons_succ]
                  refine anyT_put 9 53 ?rv9 #[true, true, true, true, true, true, true, true, true, true, false, false, false, false, false, false, false, false, false, false, false, false, false, false] rfl rfl rfl (by kernel_rfl) (by kernel_rfl) (by kernel_rfl) (fun _ _ _ h => h) (by decide) ?ry9 (fun _ => p2) ?rm9
                  case ry9 => first | exact Or.inl ⟨by rfl, by intro w'; go_simp; first | done | rfl⟩
                  case rm9 =>
                  simp only [Act.put, List.setIfInBounds_toArray, List.set_cons_zero, List.set_cons_succ]
                  refine anyT_put 10 54 ?rv10 #[true, true, true, true, true, true, true, true, true, true, true, false, false, false, false, false, false, false, false, false, false, false, false, false] rfl rfl rfl (by kernel_rfl) (by kernel_rfl) (by kernel_rfl) (fun _ _ _ h => h) (by decide) ?ry10 (fun _ => p2) ?rm10
                  case ry10 => first | exact Or.inl ⟨by rfl, by intro w'; go_simp; first | done | rfl⟩
                  case rm10 =>
                  simp only [Act.put, List.setIfInBounds_toArray, List.set_cons_zero, List.set_cons_succ]
                  refine anyT_put 11 55 ?rv11 #[true, true, true, true, true, true, true, true, true, true, true, true, false, false, false, false, false, false, false, false, false, false, false, false] rfl rfl rfl (by kernel_rfl) (by kernel_rfl) (by kernel_rfl) (fun _ _ _ h => h) (by decide) ?ry11 (fun _ => p2) ?rm11
                  case ry11 => first | exact Or.inl ⟨by rfl, by intro w'; go_simp; first | done | rfl⟩
                  case rm11 =>
                  simp only [Act.put, List.setIfInBounds_toArray, List.set_cons_zero, List.set_cons_succ]
                  refine anyT_take 12 56 ?rv12 #[true, true, true, true, true, true, true, true, true, true, true, true, true, false, false, false, false, false, false, false, false, false, false, false] rfl rfl rfl (by kernel_rfl) (by kernel_rfl) (by kernel_rfl) (fun _ _ _ h => h) (by kernel_rfl) (by decide) (by kernel_rfl) ?ry12 (p2) ?rm12
                  case ry12 => first | exact Or.inl ⟨by rfl, by intro w' hw'; (try dsimp only at hw'); go_simp; first | done | rfl⟩
                  case rm12 =>
                  simp only [Act.put, List.setIfInBounds_toArray, List.set_cons_zero, List.set_cons_succ]
                  refine anyT_put 13 57 ?rv13 #[true, true, true, true, true, true, true, true, true, true, true, true, true, true, false, false, false, false, false, false, false, false, false, false] rfl rfl rfl (by kernel_rfl) (by kernel_rfl) (by kernel_rfl) (fun _ _ _ h => h) (by decide) ?ry13 (fun _ => p2) ?rm13
                  case ry13 => first | exact Or.inl ⟨by rfl, by intro w'; go_simp; first | done | rfl⟩
                  case rm13 =>
                  simp only [Act.put, List.setIfInBounds_toArray, List.set_cons_zero, List.set_cons_succ]
                  refine anyT_put 14 58 ?rv14 #[true, true, true, true, true, true, true, true, true, true, true, true, true, true, true, false, false, false, false, false, false, false, false, false] rfl rfl rfl (by kernel_rfl) (by kernel_rfl) (by kernel_rfl) (fun _ _ _ h => h) (by decide) ?ry14 (fun _ => p2) ?rm14
                  case ry14 => first | exact Or.inl ⟨by rfl, by intro w'; go_simp; first | done | rfl⟩
                  case rm14 =>
                  simp only [Act.put, List.setIfInBounds_toArray, List.set_cons_zero, List.set_cons_succ]
                  refine anyT_put 15 59 ?rv15 #[true, true, true, true, true, true, true, true, true, true, true, true, true, true, true, true, false, false, false, false, false, false, false, false] rfl rfl rfl (by kernel_rfl) (by kernel_rfl) (by kernel_rfl) (fun _ _ _ h => h) (by decide) ?ry15 (fun _ => p2) ?rm15
                  case ry15 => first | exact Or.inl ⟨by rfl, by intro w'; go_simp; first | done | rfl⟩
                  case rm15 =>
                  simp only [Act.put, List.setIfInBounds_toArray, List.set_cons_zero, List.set_cons_succ]
                  refine anyT_put 16 60 ?rv16 #[true, true, true, true, true, true, true, true, true, true, true, true, true, true, true, true, true, false, false, false, false, false, false, false] rfl rfl rfl (by kernel_rfl) (by kernel_rfl) (by kernel_rfl) (fun _ _ _ h => h) (by decide) ?ry16 (fun _ => p2) ?rm16
                  case ry16 => first | exact Or.inl ⟨by rfl, by intro w'; go_simp; first | done | rfl⟩
                  case rm16 =>
                  simp only [Act.put, List.setIfInBounds_toArray, List.set_cons_zero, List.set_cons_succ]
                  refine anyT_put 17 61 ?rv17 #[true, true, true, true, true, true, true, true, true, true, true, true, true, true, true, true, true, true, false, false, false, false, false, false] rfl rfl rfl (by kernel_rfl) (by kernel_rfl) (by kernel_rfl) (fun _ _ _ h => h) (by decide) ?ry17 (fun _ => p2) ?rm17
                  case ry17 => first | exact Or.inl ⟨by rfl, by intro w'; go_simp; first | done | rfl⟩
                  case rm17 =>
                  simp only [Act.put, List.setIfInBounds_toArray, List.set_cons_zero, List.set_cons_succ]
                  refine anyT_put 18 62 ?rv18 #[true, true, true, true, true, true, true, true, true, true, true, true, true, true, true, true, true, true, true, false, false, false, false, false] rfl rfl rfl (by kernel_rfl) (by kernel_rfl) (by kernel_rfl) (fun _ _ _ h => h) (by decide) ?ry18 (fun _ => p2) ?rm18
                  case ry18 => first | exact Or.inl ⟨by rfl, by intro w'; go_simp; first | done | rfl⟩
                  case rm18 =>
                  simp only [Act.put, List.setIfInBounds_toArray, List.set_cons_zero, List.set_cons_succ]
                  refine anyT_put 19 63 ?rv19 #[true, true, true, true, true, true, true, true, true, true, true, true, true, true, true, true, true, true, true, true, false, false, false, false] rfl rfl rfl (by kernel_rfl) (by kernel_rfl) (by kernel_rfl) (fun _ _ _ h => h) (by decide) ?ry19 (fun _ => p2) ?rm19
                  case ry19 => first | exact Or.inl ⟨by rfl, by intro w'; go_simp; first | done | rfl⟩
                  case rm19 =>
                  simp only [Act.put, List.setIfInBounds_toArray, List.set_cons_zero, List.set_cons_succ]
                  refine anyT_put 20 64 ?rv20 #[true, true, true, true, true, true, true, true, true, true, true, true, true, true, true, true, true, true, true, true, true, false, false, false] rfl rfl rfl (by kernel_rfl) (by kernel_rfl) (by kernel_rfl) (fun _ _ _ h => h) (by decide) ?ry20 (fun _ => p2) ?rm20
                  case ry20 => first | exact Or.inl ⟨by rfl, by intro w'; go_simp; first | done | rfl⟩
                  case rm20 =>
                  simp only [Act.put, List.setIfInBounds_toArray, List.set_cons_zero, List.set_cons_succ]
                  refine anyT_put 21 65 ?rv21 #[true, true, true, true, true, true, true, true, true, true, true, true, true, true, true, true, true, true, true, true, true, true, false, false] rfl rfl rfl (by kernel_rfl) (by kernel_rfl) (by kernel_rfl) (fun _ _ _ h => h) (by decide) ?ry21 (fun _ => p2) ?rm21
                  case ry21 => first | exact Or.inl ⟨by rfl, by intro w'; go_simp; first | done | rfl⟩
                  case rm21 =>
                  simp only [Act.put, List.setIfInBounds_toArray, List.set_cons_zero, List.set_cons_succ]
                  refine anyT_one 22 #[true, true, true, true, true, true, true, true, true, true, true, true, true, true, true, true, true, true, true, true, true, true, true, false] (by kernel_rfl) rfl rfl (fun K hK => ?_)
                  go_simp
                  go_wp2_with fail
                  refine (cmp_l10 AX (dc - K0) (rwL dz lo j) lo HLL.out.1 AY (dc - J0) (rwL dz lo k) lo HLL.out.2 C HCC.out rfl (by omega) w.heap.size wr.drew HIX.out.1 HIX.out.2).mono ?_
                  rintro e v9 ⟨rfl, hB9⟩
                  have HB9 : Hid (Below wr.heap.size wr v9) := (Below.refl _ wr).drew.trans hB9
                  have q2 : v9.cell? ⟨w.heap.size, 2, none⟩ = some (.slice da D dc) := (HB9.out.cell (p := ⟨w.heap.size, 2, none⟩) HA.out.lt).trans p2
                  clear hB9
                  refine hK.out _ _ (fun _ => q2) ?_
                  clear hK K
                  refine anyT_one 23 #[true, true, true, true, true, true, true, true, true, true, true, true, true, true, true, true, true, true, true, true, true, true, true, true] (by kernel_rfl) rfl rfl (fun K hK => ?_)
                  go_simp
                  refine hK.out _ _ (fun h => absurd h (by decide)) ?_
                  clear hK K
                  refine anyT_done (by kernel_rfl) ?_
                  go_wp2_with fail
                  exact ⟨⟨j + 1, by omega, by go_num, by rw [ahT_yes HLt.out, ← HM.out]; go_num, HBj.out.trans (HB9.out.mono HBj.out.size)⟩, by simp [intOf]; omega⟩
                · by_cases hc2 : C = 0
                  · by_cases hjk : j < k
                    · have t1 : decide (C < 0) = false := decide_eq_false hc1
                      have t2 : (C == 0) = true := by rw [hc2]; rfl
                      have t3 : decide (j < k) = true := decide_eq_true hjk
                      have HLt : Hid (ltR false dz lo j k = true) := by
                        show _ = _
                        have hcm := HCM.out
                        simp only [Bool.false_eq_true, if_false] at hcm
                        rw [ltR_iff, hcm]; omega
                      clear hc1 hc2
                      go_wp2_with fail
                      refine anyT_begin 23 (fun w' => w'.cell? ⟨w.heap.size, 2, none⟩ = some (.slice da D dc)) 24 #[false, false, false, false, false, false, false, false, false, false, false, false, false, false, false, false, false, false, false, false, false, false, false, false] (by kernel_rfl) rfl rfl ?_
                      refine anyT_put 0 44 ?rv24 #[true, false, false, false, false, false, false, false, false, false, false, false, false, false, false, false, false, false, false, false, false, false, false, false] rfl rfl rfl (by kernel_rfl) (by kernel_rfl) (by kernel_rfl) (fun _ _ _ h => h) (by decide) ?ry24 (fun _ => p2) ?rm24
                      case ry24 => first | exact Or.inl ⟨by rfl, by intro w'; go_simp; first | done | rfl⟩
                      case rm24 =>
                      simp only [Act.put, List.setIfInBounds_toArray, List.set_cons_zero, List.set_cons_succ]
                      refine anyT_take 1 45 ?rv25 #[true, true, false, false, false, false, false, false, false, false, false, false, false, false, false, false, false, false, false, false, false, false, false, false] rfl rfl rfl (by kernel_rfl) (by kernel_rfl) (by kernel_rfl) (fun _ _ _ h => h) (by kernel_rfl) (by decide) (by kernel_rfl) ?ry25 (p2) ?rm25
                      case ry25 => first | exact Or.inl ⟨by rfl, by intro w' hw'; (try dsimp only at hw'); go_simp; first | done | rfl⟩
                      case rm25 =>
                      simp only [Act.put, List.setIfInBounds_toArray, List.set_cons_zero, List.set_cons_succ]
                      refine anyT_put 2 46 ?rv26 #[true, true, true, false, false, false, false, false, false, false, false, false, false, false, false, false, false, false, false, false, false, false, false, false] rfl rfl rfl (by kernel_rfl) (by kernel_rfl) (by kernel_rfl) (fun _ _ _ h => h) (by decide) ?ry26 (fun _ => p2) ?rm26
                      case ry26 => first | exact Or.inl ⟨by rfl, by intro w'; go_simp; first | done | rfl⟩
                      case rm26 =>
                      simp only [Act.put, List.setIfInBounds_toArray, List.set_cons_zero, List.set_cons_succ]
                      refine anyT_put 3 47 ?rv27 #[true, true, true, true, false, false, false, false, false, false, false, false, false, false, false, false, false, false, false, false, false, false, false, false] rfl rfl rfl (by kernel_rfl) (by kernel_rfl) (by kernel_rfl) (fun _ _ _ h => h) (by decide) ?ry27 (fun _ => p2) ?rm27
                      case ry27 => first | exact Or.inl ⟨by rfl, by intro w'; go_simp; first | done | rfl⟩
                      case rm27 =>
                      simp only [Act.put, List.setIfInBounds_toArray, List.set_cons_zero, List.set_cons_succ]
                      refine anyT_put 4 48 ?rv28 #[true, true, true, true, true, false, false, false, false, false, false, false, false, false, false, false, false, false, false, false, false, false, false, false] rfl rfl rfl (by kernel_rfl) (by kernel_rfl) (by kernel_rfl) (fun _ _ _ h => h) (by decide) ?ry28 (fun _ => p2) ?rm28
                      case ry28 => first | exact Or.inl ⟨by rfl, by intro w'; go_simp; first | done | rfl⟩
                      case rm28 =>
                      simp only [Act.put, List.setIfInBounds_toArray, List.set_cons_zero, List.set_cons_succ]
                      refine anyT_put 5 49 ?rv29 #[true, true, true, true, true, true, false, false, false, false, false, false, false, false, false, false, false, false, false, false, false, false, false, false] rfl rfl rfl (by kernel_rfl) (by kernel_rfl) (by kernel_rfl) (fun _ _ _ h => h) (by decide) ?ry29 (fun _ => p2) ?rm29
                      case ry29 => first | exact Or.inl ⟨by rfl, by intro w'; go_simp; first | done | rfl⟩
                      case rm29 =>
                      simp only [Act.put, List.setIfInBounds_toArray, List.set_cons_zero, List.set_cons_succ]
                      refine anyT_put 6 50 ?rv30 #[true, true, true, true, true, true, true, false, false, false, false, false, false, false, false, false, false, false, false, false, false, false, false, false] rfl rfl rfl (by kernel_rfl) (by kernel_rfl) (by kernel_rfl) (fun _ _ _ h => h) (by decide) ?ry30 (fun _ => p2) ?rm30
                      case ry30 => first | exact Or.inl ⟨by rfl, by intro w'; go_simp; first | done | rfl⟩
                      case rm30 =>
                      simp only [Act.put, List.setIfInBounds_toArray, List.set_cons_zero, List.set_cons_succ]
                      refine anyT_put 7 51 ?rv31 #[true, true, true, true, true, true, true, true, false, false, false, false, false, false, false, false, false, false, false, false, false, false, false, false] rfl rfl rfl (by kernel_rfl) (by kernel_rfl) (by kernel_rfl) (fun _ _ _ h => h) (by decide) ?ry31 (fun _ => p2) ?rm31
                      case ry31 => first | exact Or.inl ⟨by rfl, by intro w'; go_simp; first | done | rfl⟩
                      case rm31 =>
                      simp only [Act.put, List.setIfInBounds_toArray, List.set_cons_zero, List.set_cons_succ]
                      refine anyT_put 8 52 ?rv32 #[true, true, true, true, true, true, true, true, true, false, false, false, false, false, false, false, false, false, false, false, false, false, false, false] rfl rfl rfl (by kernel_rfl) (by kernel_rfl) (by kernel_rfl) (fun _ _ _ h => h) (by decide) ?ry32 (fun _ => p2) ?rm32
                      case ry32 => first | exact Or.inl ⟨by rfl, by intro w'; go_simp; first | done | rfl⟩
                      case rm32 =>
                      simp only [Act.put, List.setIfInBounds_toArray, List.set_cons_zero, List.set_cons_succ]
                      refine anyT_put 9 53 ?rv33 #[true, true, true, true, true, true, true, true, true, true, false, false, false, false, false, false, false, false, false, false, false, false, false, false] rfl rfl rfl (by kernel_rfl) (by kernel_rfl) (by kernel_rfl) (fun _ _ _ h => h) (by decide) ?ry33 (fun _ => p2) ?rm33
                      case ry33 => first | exact Or.inl ⟨by rfl, by intro w'; go_simp; first | done | rfl⟩
                      case rm33 =>
                      simp only [Act.put, List.setIfInBounds_toArray, List.set_cons_zero, List.set_cons_succ]
                      refine anyT_put 10 54 ?rv34 #[true, true, true, true, true, true, true, true, true, true, true, false, false, false, false, false, false, false, false, false, false, false, false, false] rfl rfl rfl (by kernel_rfl) (by kernel_rfl) (by kernel_rfl) (fun _ _ _ h => h) (by decide) ?ry34 (fun _ => p2) ?rm34
                      case ry34 => first | exact Or.inl ⟨by rfl, by intro w'; go_simp; first | done | rfl⟩
                      case rm34 =>
                      simp only [Act.put, List.setIfInBounds_toArray, List.set_cons_zero, List.set_cons_succ]
                      refine anyT_put 11 55 ?rv35 #[true, true, true, true, true, true, true, true, true, true, true, true, false, false, false, false, false, false, false, false, false, false, false, false] rfl rfl rfl (by kernel_rfl) (by kernel_rfl) (by kernel_rfl) (fun _ _ _ h => h) (by decide) ?ry35 (fun _ => p2) ?rm35
                      case ry35 => first | exact Or.inl ⟨by rfl, by intro w'; go_simp; first | done | rfl⟩
                      case rm35 =>
                      simp only [Act.put, List.setIfInBounds_toArray, List.set_cons_zero, List.set_cons_succ]
                      refine anyT_take 12 56 ?rv36 #[true, true, true, true, true, true, true, true, true, true, true, true, true, false, false, false, false, false, false, false, false, false, false, false] rfl rfl rfl (by kernel_rfl) (by kernel_rfl) (by kernel_rfl) (fun _ _ _ h => h) (by kernel_rfl) (by decide) (by kernel_rfl) ?ry36 (p2) ?rm36
                      case ry36 => first | exact Or.inl ⟨by rfl, by intro w' hw'; (try dsimp only at hw'); go_simp; first | done | rfl⟩
                      case rm36 =>
                      simp only [Act.put, List.setIfInBounds_toArray, List.set_cons_zero, List.set_cons_succ]
                      refine anyT_put 13 57 ?rv37 #[true, true, true, true, true, true, true, true, true, true, true, true, true, true, false, false, false, false, false, false, false, false, false, false] rfl rfl rfl (by kernel_rfl) (by kernel_rfl) (by kernel_rfl) (fun _ _ _ h => h) (by decide) ?ry37 (fun _ => p2) ?rm37
                      case ry37 => first | exact Or.inl ⟨by rfl, by intro w'; go_simp; first | done | rfl⟩
                      case rm37 =>
                      simp only [Act.put, List.setIfInBounds_toArray, List.set_cons_zero, List.set_cons_succ]
                      refine anyT_put 14 58 ?rv38 #[true, true, true, true, true, true, true, true, true, true, true, true, true, true, true, false, false, false, false, false, false, false, false, false] rfl rfl rfl (by kernel_rfl) (by kernel_rfl) (by kernel_rfl) (fun _ _ _ h => h) (by decide) ?ry38 (fun _ => p2) ?rm38
                      case ry38 => first | exact Or.inl ⟨by rfl, by intro w'; go_simp; first | done | rfl⟩
                      case rm38 =>
                      simp only [Act.put, List.setIfInBounds_toArray, List.set_cons_zero, List.set_cons_succ]
                      refine anyT_put 15 59 ?rv39 #[true, true, true, true, true, true, true, true, true, true, true, true, true, true, true, true, false, false, false, false, false, false, false, false] rfl rfl rfl (by kernel_rfl) (by kernel_rfl) (by kernel_rfl) (fun _ _ _ h => h) (by decide) ?ry39 (fun _ => p2) ?rm39
                      case ry39 => first | exact Or.inl ⟨by rfl, by intro w'; go_simp; first | done | rfl⟩
                      case rm39 =>
                      simp only [Act.put, List.setIfInBounds_toArray, List.set_cons_zero, List.set_cons_succ]
                      refine anyT_put 16 60 ?rv40 #[true, true, true, true, true, true, true, true, true, true, true, true, true, true, true, true, true, false, false, false, false, false, false, false] rfl rfl rfl (by kernel_rfl) (by kernel_rfl) (by kernel_rfl) (fun _ _ _ h => h) (by decide) ?ry40 (fun _ => p2) ?rm40
                      case ry40 => first | exact Or.inl ⟨by rfl, by intro w'; go_simp; first | done | rfl⟩
                      case rm40 =>
                      simp only [Act.put, List.setIfInBounds_toArray, List.set_cons_zero, List.set_cons_succ]
                      refine anyT_put 17 61 ?rv41 #[true, true, true, true, true, true, true, true, true, true, true, true, true, true, true, true, true, true, false, false, false, false, false, false] rfl rfl rfl (by kernel_rfl) (by kernel_rfl) (by kernel_rfl) (fun _ _ _ h => h) (by decide) ?ry41 (fun _ => p2) ?rm41
                      case ry41 => first | exact Or.inl ⟨by rfl, by intro w'; go_simp; first | done | rfl⟩
                      case rm41 =>
                      simp only [Act.put, List.setIfInBounds_toArray, List.set_cons_zero, List.set_cons_succ]
                      refine anyT_put 18 62 ?rv42 #[true, true, true, true, true, true, true, true, true, true, true, true, true, true, true, true, true, true, true, false, false, false, false, false] rfl rfl rfl (by kernel_rfl) (by kernel_rfl) (by kernel_rfl) (fun _ _ _ h => h) (by decide) ?ry42 (fun _ => p2) ?rm42
                      case ry42 => first | exact Or.inl ⟨by rfl, by intro w'; go_simp; first | done | rfl⟩
                      case rm42 =>
                      simp only [Act.put, List.setIfInBounds_toArray, List.set_cons_zero, List.set_cons_succ]
                      refine anyT_put 19 63 ?rv43 #[true, true, true, true, true, true, true, true, true, true, true, true, true, true, true, true, true, true, true, true, false, false, false, false] rfl rfl rfl (by kernel_rfl) (by kernel_rfl) (by kernel_rfl) (fun _ _ _ h => h) (by decide) ?ry43 (fun _ => p2) ?rm43
                      case ry43 => first | exact Or.inl ⟨by rfl, by intro w'; go_simp; first | done | rfl⟩
                      case rm43 =>
                      simp only [Act.put, List.setIfInBounds_toArray, List.set_cons_zero, List.set_cons_succ]
                      refine anyT_put 20 64 ?rv44 #[true, true, true, true, true, true, true, true, true, true, true, true, true, true, true, true, true, true, true, true, true, false, false, false] rfl rfl rfl (by kernel_rfl) (by kernel_rfl) (by kernel_rfl) (fun _ _ _ h => h) (by decide) ?ry44 (fun _ => p2) ?rm44
                      case ry44 => first | exact Or.inl ⟨by rfl, by intro w'; go_simp; first | done | rfl⟩
                      case rm44 =>
                      simp only [Act.put, List.setIfInBounds_toArray, List.set_cons_zero, List.set_cons_succ]
                      refine anyT_put 21 65 ?rv45 #[true, true, true, true, true, true, true, true, true, true, true, true, true, true, true, true, true, true, true, true, true, true, false, false] rfl rfl rfl (by kernel_rfl) (by kernel_rfl) (by kernel_rfl) (fun _ _ _ h => h) (by decide) ?ry45 (fun _ => p2) ?rm45
                      case ry45 => first | exact Or.inl ⟨by rfl, by intro w'; go_simp; first | done | rfl⟩
                      case rm45 =>
                      simp only [Act.put, List.setIfInBounds_toArray, List.set_cons_zero, List.set_cons_succ]
                      refine anyT_one 22 #[true, true, true, true, true, true, true, true, true, true, true, true, true, true, true, true, true, true, true, true, true, true, true, false] (by kernel_rfl) rfl rfl (fun K hK => ?_)
                      go_simp
                      go_wp2_with fail
                      refine (cmp_l10 AX (dc - K0) (rwL dz lo j) lo HLL.out.1 AY (dc - J0) (rwL dz lo k) lo HLL.out.2 C HCC.out rfl (by omega) w.heap.size wr.drew HIX.out.1 HIX.out.2).mono ?_
                      rintro e v9 ⟨rfl, hB9⟩
                      have HB9 : Hid (Below wr.heap.size wr v9) := (Below.refl _ wr).drew.trans hB9
                      have q2 : v9.cell? ⟨w.heap.size, 2, none⟩ = some (.slice da D dc) := (HB9.out.cell (p := ⟨w.heap.size, 2, none⟩) HA.out.lt).trans p2
                      clear hB9
                      refine hK.out _ _ (fun _ => q2) ?_
                      clear hK K
                      refine anyT_one 23 #[true, true, true, true, true, true, true, true, true, true, true, true, true, true, true, true, true, true, true, true, true, true, true, true] (by kernel_rfl) rfl rfl (fun K hK => ?_)
                      go_simp
                      refine hK.out _ _ (fun h => absurd h (by decide)) ?_
                      clear hK K
                      refine anyT_done (by kernel_rfl) ?_
                      go_wp2_with fail
                      exact ⟨⟨j + 1, by omega, by go_num, by rw [ahT_yes HLt.out, ← HM.out]; go_num, HBj.out.trans (HB9.out.mono HBj.out.size)⟩, by simp [intOf]; omega⟩
                    · have t1 : decide (C < 0) = false := decide_eq_false hc1
                      have t2 : (C == 0) = true := by rw [hc2]; rfl
                      have t3 : decide (j < k) = false := decide_eq_false hjk
                      have HLt : Hid (ltR false dz lo j k = false) := by
                        show _ = _
                        have hcm := HCM.out
                        simp only [Bool.false_eq_true, if_false] at hcm
                        rw [← Bool.not_eq_true, ltR_iff, hcm]; omega
                      clear hc1 hc2
                      go_wp2_with fail
                      refine anyT_begin 23 (fun w' => w'.cell? ⟨w.heap.size, 2, none⟩ = some (.slice da D dc)) 24 #[false, false, false, false, false, false, false, false, false, false, false, false, false, false, false, false, false, false, false, false, false, false, false, false] (by kernel_rfl) rfl rfl ?_
                      refine anyT_put 0 44 ?rv48 #[true, false, false, false, false, false, false, false, false, false, false, false, false, false, false, false, false, false, false, false, false, false, false, false] rfl rfl rfl (by kernel_rfl) (by kernel_rfl) (by kernel_rfl) (fun _ _ _ h => h) (by decide) ?ry48 (fun _ => p2) ?rm48
                      case ry48 => first | exact Or.inl ⟨by rfl, by intro w'; go_simp; first | done | rfl⟩
                      case rm48 =>
                      simp only [Act.put, List.setIfInBounds_toArray, List.set_cons_zero, List.set_cons_succ]
                      refine anyT_take 1 45 ?rv49 #[true, true, false, false, false, false, false, false, false, false, false, false, false, false, false, false, false, false, false, false, false, false, false, false] rfl rfl rfl (by kernel_rfl) (by kernel_rfl) (by kernel_rfl) (fun _ _ _ h => h) (by kernel_rfl) (by decide) (by kernel_rfl) ?ry49 (p2) ?rm49
                      case ry49 => first | exact Or.inl ⟨by rfl, by intro w' hw'; (try dsimp only at hw'); go_simp; first | done | rfl⟩
                      case rm49 =>
                      simp only [Act.put, List.setIfInBounds_toArray, List.set_cons_zero, List.set_cons_succ]
                      refine anyT_put 2 46 ?rv50 #[true, true, true, false, false, false, false, false, false, false, false, false, false, false, false, false, false, false, false, false, false, false, false, false] rfl rfl rfl (by kernel_rfl) (by kernel_rfl) (by kernel_rfl) (fun _ _ _ h => h) (by decide) ?ry50 (fun _ => p2) ?rm50
                      case ry50 => first | exact Or.inl ⟨by rfl, by intro w'; go_simp; first | done | rfl⟩
                      case rm50 =>
                      simp only [Act.put, List.setIfInBounds_toArray, List.set_cons_zero, List.set_cons_succ]
                      refine anyT_put 3 47 ?rv51 #[true, true, true, true, false, false, false, false, false, false, false, false, false, false, false, false, false, false, false, false, false, false, false, false] rfl rfl rfl (by kernel_rfl) (by kernel_rfl) (by kernel_rfl) (fun _ _ _ h => h) (by decide) ?ry51 (fun _ => p2) ?rm51
                      case ry51 => first | exact Or.inl ⟨by rfl, by intro w'; go_simp; first | done | rfl⟩
                      case rm51 =>
                      simp only [Act.put, List.setIfInBounds_toArray, List.set_cons_zero, List.set_cons_succ]
                      refine anyT_put 4 48 ?rv52 #[true, true, true, true, true, false, false, false, false, false, false, false, false, false, false, false, false, false, false, false, false, false, false, false] rfl rfl rfl (by kernel_rfl) (by kernel_rfl) (by kernel_rfl) (fun _ _ _ h => h) (by decide) ?ry52 (fun _ => p2) ?rm52
                      case ry52 => first | exact Or.inl ⟨by rfl, by intro w'; go_simp; first | done | rfl⟩
                      case rm52 =>
                      simp only [Act.put, List.setIfInBounds_toArray, List.set_cons_zero, List.set_cons_succ]
                      refine anyT_put 5 49 ?rv53 #[true, true, true, true, true, true, false, false, false, false, false, false, false, false, false, false, false, false, false, false, false, false, false, false] rfl rfl rfl (by kernel_rfl) (by kernel_rfl) (by kernel_rfl) (fun _ _ _ h => h) (by decide) ?ry53 (fun _ => p2) ?rm53
                      case ry53 => first | exact Or.inl ⟨by rfl, by intro w'; go_simp; first | done | rfl⟩
                      case rm53 =>
                      simp only [Act.put, List.setIfInBounds_toArray, List.set_cons_zero, List.set_cons_succ]
                      refine anyT_put 6 50 ?rv54 #[true, true, true, true, true, true, true, false, false, false, false, false, false, false, false, false, false, false, false, false, false, false, false, false] rfl rfl rfl (by kernel_rfl) (by kernel_rfl) (by kernel_rfl) (fun _ _ _ h => h) (by decide) ?ry54 (fun _ => p2) ?rm54
                      case ry54 => first | exact Or.inl ⟨by rfl, by intro w'; go_simp; first | done | rfl⟩
                      case rm54 =>
                      simp only [Act.put, List.setIfInBounds_toArray, List.set_cons_zero, List.set_cons_succ]
                      refine anyT_put 7 51 ?rv55 #[true, true, true, true, true, true, true, true, false, false, false, false, false, false, false, false, false, false, false, false, false, false, false, false] rfl rfl rfl (by kernel_rfl) (by kernel_rfl) (by kernel_rfl) (fun _ _ _ h => h) (by decide) ?ry55 (fun _ => p2) ?rm55
                      case ry55 => first | exact Or.inl ⟨by rfl, by intro w'; go_simp; first | done | rfl⟩
                      case rm55 =>
                      simp only [Act.put, List.setIfInBounds_toArray, List.set_cons_zero, List.set_cons_succ]
                      refine anyT_put 8 52 ?rv56 #[true, true, true, true, true, true, true, true, true, false, false, false, false, false, false, false, false, false, false, false, false, false, false, false] rfl rfl rfl (by kernel_rfl) (by kernel_rfl) (by kernel_rfl) (fun _ _ _ h => h) (by decide) ?ry56 (fun _ => p2) ?rm56
                      case ry56 => first | exact Or.inl ⟨by rfl, by intro w'; go_simp; first | done | rfl⟩
                      case rm56 =>
                      simp only [Act.put, List.setIfInBounds_toArray, List.set_cons_zero, List.set_cons_succ]
                      refine anyT_put 9 53 ?rv57 #[true, true, true, true, true, true, true, true, true, true, false, false, false, false, false, false, false, false, false, false, false, false, false, false] rfl rfl rfl (by kernel_rfl) (by kernel_rfl) (by kernel_rfl) (fun _ _ _ h => h) (by decide) ?ry57 (fun _ => p2) ?rm57
                      case ry57 => first | exact Or.inl ⟨by rfl, by intro w'; go_simp; first | done | rfl⟩
                      case rm57 =>
                      simp only [Act.put, List.setIfInBounds_toArray, List.set_cons_zero, List.set_cons_succ]
                      refine anyT_put 10 54 ?rv58 #[true, true, true, true, true, true, true, true, true, true, true, false, false, false, false, false, false, false, false, false, false, false, false, false] rfl rfl rfl (by kernel_rfl) (by kernel_rfl) (by kernel_rfl) (fun _ _ _ h => h) (by decide) ?ry58 (fun _ => p2) ?rm58
                      case ry58 => first | exact Or.inl ⟨by rfl, by intro w'; go_simp; first | done | rfl⟩
                      case rm58 =>
                      simp only [Act.put, List.setIfInBounds_toArray, List.set_cons_zero, List.set_cons_succ]
                      refine anyT_put 11 55 ?rv59 #[true, true, true, true, true, true, true, true, true, true, true, true, false, false, false, false, false, false, false, false, false, false, false, false] rfl rfl rfl (by kernel_rfl) (by kernel_rfl) (by kernel_rfl) (fun _ _ _ h => h) (by decide) ?ry59 (fun _ => p2) ?rm59
                      case ry59 => first | exact Or.inl ⟨by rfl, by intro w'; go_simp; first | done | rfl⟩
                      case rm59 =>
                      simp only [Act.put, List.setIfInBounds_toArray, List.set_cons_zero, List.set_cons_succ]
                      refine anyT_take 12 56 ?rv60 #[true, true, true, true, true, true, true, true, true, true, true, true, true, false, false, false, false, false, false, false, false, false, false, false] rfl rfl rfl (by kernel_rfl) (by kernel_rfl) (by kernel_rfl) (fun _ _ _ h => h) (by kernel_rfl) (by decide) (by kernel_rfl) ?ry60 (p2) ?rm60
                      case ry60 => first | exact Or.inl ⟨by rfl, by intro w' hw'; (try dsimp only at hw'); go_simp; first | done | rfl⟩
                      case rm60 =>
                      simp only [Act.put, List.setIfInBounds_toArray, List.set_cons_zero, List.set_cons_succ]
                      refine anyT_put 13 57 ?rv61 #[true, true, true, true, true, true, true, true, true, true, true, true, true, true, false, false, false, false, false, false, false, false, false, false] rfl rfl rfl (by kernel_rfl) (by kernel_rfl) (by kernel_rfl) (fun _ _ _ h => h) (by decide) ?ry61 (fun _ => p2) ?rm61
                      case ry61 => first | exact Or.inl ⟨by rfl, by intro w'; go_simp; first | done | rfl⟩
                      case rm61 =>
                      simp only [Act.put, List.setIfInBounds_toArray, List.set_cons_zero, List.set_cons_succ]
                      refine anyT_put 14 58 ?rv62 #[true, true, true, true, true, true, true, true, true, true, true, true, true, true, true, false, false, false, false, false, false, false, false, false] rfl rfl rfl (by kernel_rfl) (by kernel_rfl) (by kernel_rfl) (fun _ _ _ h => h) (by decide) ?ry62 (fun _ => p2) ?rm62
                      case ry62 => first | exact Or.inl ⟨by rfl, by intro w'; go_simp; first | done | rfl⟩
                      case rm62 =>
                      simp only [Act.put, List.setIfInBounds_toArray, List.set_cons_zero, List.set_cons_succ]
                      refine anyT_put 15 59 ?rv63 #[true, true, true, true, true, true, true, true, true, true, true, true, true, true, true, true, false, false, false, false, false, false, false, false] rfl rfl rfl (by kernel_rfl) (by kernel_rfl) (by kernel_rfl) (fun _ _ _ h => h) (by decide) ?ry63 (fun _ => p2) ?rm63
                      case ry63 => first | exact Or.inl ⟨by rfl, by intro w'; go_simp; first | done | rfl⟩
                      case rm63 =>
                      simp only [Act.put, List.setIfInBounds_toArray, List.set_cons_zero, List.set_cons_succ]
                      refine anyT_put 16 60 ?rv64 #[true, true, true, true, true, true, true, true, true, true, true, true, true, true, true, true, true, false, false, false, false, false, false, false] rfl rfl rfl (by kernel_rfl) (by kernel_rfl) (by kernel_rfl) (fun _ _ _ h => h) (by decide) ?ry64 (fun _ => p2) ?rm64
                      case ry64 => first | exact Or.inl ⟨by rfl, by intro w'; go_simp; first | done | rfl⟩
                      case rm64 =>
                      simp only [Act.put, List.setIfInBounds_toArray, List.set_cons_zero, List.set_cons_succ]
                      refine anyT_put 17 61 ?rv65 #[true, true, true, true, true, true, true, true, true, true, true, true, true, true, true, true, true, true, false, false, false, false, false, false] rfl rfl rfl (by kernel_rfl) (by kernel_rfl) (by kernel_rfl) (fun _ _ _ h => h) (by decide) ?ry65 (fun _ => p2) ?rm65
                      case ry65 => first | exact Or.inl ⟨by rfl, by intro w'; go_simp; first | done | rfl⟩
                      case rm65 =>
                      simp only [Act.put, List.setIfInBounds_toArray, List.set_cons_zero, List.set_cons_succ]
                      refine anyT_put 18 62 ?rv66 #[true, true, true, true, true, true, true, true, true, true, true, true, true, true, true, true, true, true, true, false, false, false, false, false] rfl rfl rfl (by kernel_rfl) (by kernel_rfl) (by kernel_rfl) (fun _ _ _ h => h) (by decide) ?ry66 (fun _ => p2) ?rm66
                      case ry66 => first | exact Or.inl ⟨by rfl, by intro w'; go_simp; first | done | rfl⟩
                      case rm66 =>
                      simp only [Act.put, List.setIfInBounds_toArray, List.set_cons_zero, List.set_cons_succ]
                      refine anyT_put 19 63 ?rv67 #[true, true, true, true, true, true, true, true, true, true, true, true, true, true, true, true, true, true, true, true, false, false, false, false] rfl rfl rfl (by kernel_rfl) (by kernel_rfl) (by kernel_rfl) (fun _ _ _ h => h) (by decide) ?ry67 (fun _ => p2) ?rm67
                      case ry67 => first | exact Or.inl ⟨by rfl, by intro w'; go_simp; first | done | rfl⟩
                      case rm67 =>
                      simp only [Act.put, List.setIfInBounds_toArray, List.set_cons_zero, List.set_cons_succ]
                      refine anyT_put 20 64 ?rv68 #[true, true, true, true, true, true, true, true, true, true, true, true, true, true, true, true, true, true, true, true, true, false, false, false] rfl rfl rfl (by kernel_rfl) (by kernel_rfl) (by kernel_rfl) (fun _ _ _ h => h) (by decide) ?ry68 (fun _ => p2) ?rm68
                      case ry68 => first | exact Or.inl ⟨by rfl, by intro w'; go_simp; first | done | rfl⟩
                      case rm68 =>
                      simp only [Act.put, List.setIfInBounds_toArray, List.set_cons_zero, List.set_cons_succ]
                      refine anyT_put 21 65 ?rv69 #[true, true, true, true, true, true, true, true, true, true, true, true, true, true, true, true, true, true, true, true, true, true, false, false] rfl rfl rfl (by kernel_rfl) (by kernel_rfl) (by kernel_rfl) (fun _ _ _ h => h) (by decide) ?ry69 (fun _ => p2) ?rm69
                      case ry69 => first | exact Or.inl ⟨by rfl, by intro w'; go_simp; first | done | rfl⟩
                      case rm69 =>
                      simp only [Act.put, List.setIfInBounds_toArray, List.set_cons_zero, List.set_cons_succ]
                      refine anyT_one 22 #[true, true, true, true, true, true, true, true, true, true, true, true, true, true, true, true, true, true, true, true, true, true, true, false] (by kernel_rfl) rfl rfl (fun K hK => ?_)
                      go_simp
                      go_wp2_with fail
                      refine (cmp_l10 AX (dc - K0) (rwL dz lo j) lo HLL.out.1 AY (dc - J0) (rwL dz lo k) lo HLL.out.2 C HCC.out rfl (by omega) w.heap.size wr.drew HIX.out.1 HIX.out.2).mono ?_
                      rintro e v9 ⟨rfl, hB9⟩
                      have HB9 : Hid (Below wr.heap.size wr v9) := (Below.refl _ wr).drew.trans hB9
                      have q2 : v9.cell? ⟨w.heap.size, 2, none⟩ = some (.slice da D dc) := (HB9.out.cell (p := ⟨w.heap.size, 2, none⟩) HA.out.lt).trans p2
                      clear hB9
                      refine hK.out _ _ (fun _ => q2) ?_
                      clear hK K
                      refine anyT_one 23 #[true, true, true, true, true, true, true, true, true, true, true, true, true, true, true, true, true, true, true, true, true, true, true, true] (by kernel_rfl) rfl rfl (fun K hK => ?_)
                      go_simp
                      refine hK.out _ _ (fun h => absurd h (by decide)) ?_
                      clear hK K
                      refine anyT_done (by kernel_rfl) ?_
                      go_wp2_with fail
                      exact ⟨⟨j + 1, by omega, by go_num, by rw [ahT_no HLt.out, HM.out], HBj.out.trans (HB9.out.mono HBj.out.size)⟩, by simp [intOf]; omega⟩
                  · have t1 : decide (C < 0) = false := decide_eq_false hc1
                    have t2 : (C == 0) = false := by rw [beq_eq_false_iff_ne]; exact hc2
                    have HLt : Hid (ltR false dz lo j k = false) := by
                      show _ = _
                      have hcm := HCM.out
                      simp only [Bool.false_eq_true, if_false] at hcm
                      rw [← Bool.not_eq_true, ltR_iff, hcm]; omega
                    clear hc1 hc2
                    go_wp2_with fail
                    refine anyT_begin 23 (fun w' => w'.cell? ⟨w.heap.size, 2, none⟩ = some (.slice da D dc)) 24 #[false, false, false, false, false, false, false, false, false, false, false, false, false, false, false, false, false, false, false, false, false, false, false, false] (by kernel_rfl) rfl rfl ?_
                    refine anyT_put 0 44 ?rv72 #[true, false, false, false, false, false, false, false, false, false, false, false, false, false, false, false, false, false, false, false, false, false, false, false] rfl rfl rfl (by kernel_rfl) (by kernel_rfl) (by kernel_rfl) (fun _ _ _ h => h) (by decide) ?ry72 (fun _ => p2) ?rm72
                    case ry72 => first | exact Or.inl ⟨by rfl, by intro w'; go_simp; first | done | rfl⟩
                    case rm72 =>
                    simp only [Act.put, List.setIfInBounds_toArray, List.set_cons_zero, List.set_cons_succ]
                    refine anyT_take 1 45 ?rv73 #[true, true, false, false, false, false, false, false, false, false, false, false, false, false, false, false, false, false, false, false, false, false, false, false] rfl rfl rfl (by kernel_rfl) (by kernel_rfl) (by kernel_rfl) (fun _ _ _ h => h) (by kernel_rfl) (by decide) (by kernel_rfl) ?ry73 (p2) ?rm73
                    case ry73 => first | exact Or.inl ⟨by rfl, by intro w' hw'; (try dsimp only at hw'); go_simp; first | done | rfl⟩
                    case rm73 =>
                    simp only [Act.put, List.setIfInBounds_toArray, List.set_cons_zero, List.set_cons_succ]
                    refine anyT_put 2 46 ?rv74 #[true, true, true, false, false, false, false, false, false, false, false, false, false, false, false, false, false, false, false, false, false, false, false, false] rfl rfl rfl (by kernel_rfl) (by kernel_rfl) (by kernel_rfl) (fun _ _ _ h => h) (by decide) ?ry74 (fun _ => p2) ?rm74
                    case ry74 => first | exact Or.inl ⟨by rfl, by intro w'; go_simp; first | done | rfl⟩
                    case rm74 =>
                    simp only [Act.put, List.setIfInBounds_toArray, List.set_cons_zero, List.set_cons_succ]
                    refine anyT_put 3 47 ?rv75 #[true, true, true, true, false, false, false, false, false, false, false, false, false, false, false, false, false, false, false, false, false, false, false, false] rfl rfl rfl (by kernel_rfl) (by kernel_rfl) (by kernel_rfl) (fun _ _ _ h => h) (by decide) ?ry75 (fun _ => p2) ?rm75
                    case ry75 => first | exact Or.inl ⟨by rfl, by intro w'; go_simp; first | done | rfl⟩
                    case rm75 =>
                    simp only [Act.put, List.setIfInBounds_toArray, List.set_cons_zero, List.set_cons_succ]
                    refine anyT_put 4 48 ?rv76 #[true, true, true, true, true, false, false, false, false, false, false, false, false, false, false, false, false, false, false, false, false, false, false, false] rfl rfl rfl (by kernel_rfl) (by kernel_rfl) (by kernel_rfl) (fun _ _ _ h => h) (by decide) ?ry76 (fun _ => p2) ?rm76
                    case ry76 => first | exact Or.inl ⟨by rfl, by intro w'; go_simp; first | done | rfl⟩
                    case rm76 =>
                    simp only [Act.put, List.setIfInBounds_toArray, List.set_cons_zero, List.set_cons_succ]
                    refine anyT_put 5 49 ?rv77 #[true, true, true, true, true, true, false, false, false, false, false, false, false, false, false, false, false, false, false, false, false, false, false, false] rfl rfl rfl (by kernel_rfl) (by kernel_rfl) (by kernel_rfl) (fun _ _ _ h => h) (by decide) ?ry77 (fun _ => p2) ?rm77
                    case ry77 => first | exact Or.inl ⟨by rfl, by intro w'; go_simp; first | done | rfl⟩
                    case rm77 =>
                    simp only [Act.put, List.setIfInBounds_toArray, List.set_cons_zero, List.set_cons_succ]
                    refine anyT_put 6 50 ?rv78 #[true, true, true, true, true, true, true, false, false, false, false, false, false, false, false, false, false, false, false, false, false, false, false, false] rfl rfl rfl (by kernel_rfl) (by kernel_rfl) (by kernel_rfl) (fun _ _ _ h => h) (by decide) ?ry78 (fun _ => p2) ?rm78
                    case ry78 => first | exact Or.inl ⟨by rfl, by intro w'; go_simp; first | done | rfl⟩
                    case rm78 =>
                    simp only [Act.put, List.setIfInBounds_toArray, List.set_cons_zero, List.set_cons_succ]
                    refine anyT_put 7 51 ?rv79 #[true, true, true, true, true, true, true, true, false, false, false, false, false, false, false, false, false, false, false, false, false, false, false, false] rfl rfl rfl (by kernel_rfl) (by kernel_rfl) (by kernel_rfl) (fun _ _ _ h => h) (by decide) ?ry79 (fun _ => p2) ?rm79
                    case ry79 => first | exact Or.inl ⟨by rfl, by intro w'; go_simp; first | done | rfl⟩
                    case rm79 =>
                    simp only [Act.put, List.setIfInBounds_toArray, List.set_cons_zero, List.set_cons_succ]
                    refine anyT_put 8 52 ?rv80 #[true, true, true, true, true, true, true, true, true, false, false, false, false, false, false, false, false, false, false, false, false, false, false, false] rfl rfl rfl (by kernel_rfl) (by kernel_rfl) (by kernel_rfl) (fun _ _ _ h => h) (by decide) ?ry80 (fun _ => p2) ?rm80
                    case ry80 => first | exact Or.inl ⟨by rfl, by intro w'; go_simp; first | done | rfl⟩
                    case rm80 =>
                    simp only [Act.put, List.setIfInBounds_toArray, List.set_cons_zero, List.set_cons_succ]
                    refine anyT_put 9 53 ?rv81 #[true, true, true, true, true, true, true, true, true, true, false, false, false, false, false, false, false, false, false, false, false, false, false, false] rfl rfl rfl (by kernel_rfl) (by kernel_rfl) (by kernel_rfl) (fun _ _ _ h => h) (by decide) ?ry81 (fun _ => p2) ?rm81
                    case ry81 => first | exact Or.inl ⟨by rfl, by intro w'; go_simp; first | done | rfl⟩
                    case rm81 =>
                    simp only [Act.put, List.setIfInBounds_toArray, List.set_cons_zero, List.set_cons_succ]
                    refine anyT_put 10 54 ?rv82 #[true, true, true, true, true, true, true, true, true, true, true, false, false, false, false, false, false, false, false, false, false, false, false, false] rfl rfl rfl (by kernel_rfl) (by kernel_rfl) (by kernel_rfl) (fun _ _ _ h => h) (by decide) ?ry82 (fun _ => p2) ?rm82
                    case ry82 => first | exact Or.inl ⟨by rfl, by intro w'; go_simp; first | done | rfl⟩
                    case rm82 =>
                    simp only [Act.put, List.setIfInBounds_toArray, List.set_cons_zero, List.set_cons_succ]
                    refine anyT_put 11 55 ?rv83 #[true, true, true, true, true, true, true, true, true, true, true, true, false, false, false, false, false, false, false, false, false, false, false, false] rfl rfl rfl (by kernel_rfl) (by kernel_rfl) (by kernel_rfl) (fun _ _ _ h => h) (by decide) ?ry83 (fun _ => p2) ?rm83
                    case ry83 => first | exact Or.inl ⟨by rfl, by intro w'; go_simp; first | done | rfl⟩
                    case rm83 =>
                    simp only [Act.put, List.setIfInBounds_toArray, List.set_cons_zero, List.set_cons_succ]
                    refine anyT_take 12 56 ?rv84 #[true, true, true, true, true, true, true, true, true, true, true, true, true, false, false, false, false, false, false, false, false, false, false, false] rfl rfl rfl (by kernel_rfl) (by kernel_rfl) (by kernel_rfl) (fun _ _ _ h => h) (by kernel_rfl) (by decide) (by kernel_rfl) ?ry84 (p2) ?rm84
                    case ry84 => first | exact Or.inl ⟨by rfl, by intro w' hw'; (try dsimp only at hw'); go_simp; first | done | rfl⟩
                    case rm84 =>
                    simp only [Act.put, List.setIfInBounds_toArray, List.set_cons_zero, List.set_cons_succ]
                    refine anyT_put 13 57 ?rv85 #[true, true, true, true, true, true, true, true, true, true, true, true, true, true, false, false, false, false, false, false, false, false, false, false] rfl rfl rfl (by kernel_rfl) (by kernel_rfl) (by kernel_rfl) (fun _ _ _ h => h) (by decide) ?ry85 (fun _ => p2) ?rm85
                    case ry85 => first | exact Or.inl ⟨by rfl, by intro w'; go_simp; first | done | rfl⟩
                    case rm85 =>
                    simp only [Act.put, List.setIfInBounds_toArray, List.set_cons_zero, List.set_cons_succ]
                    refine anyT_put 14 58 ?rv86 #[true, true, true, true, true, true, true, true, true, true, true, true, true, true, true, false, false, false, false, false, false, false, false, false] rfl rfl rfl (by kernel_rfl) (by kernel_rfl) (by kernel_rfl) (fun _ _ _ h => h) (by decide) ?ry86 (fun _ => p2) ?rm86
                    case ry86 => first | exact Or.inl ⟨by rfl, by intro w'; go_simp; first | done | rfl⟩
                    case rm86 =>
                    simp only [Act.put, List.setIfInBounds_toArray, List.set_cons_zero, List.set_cons_succ]
                    refine anyT_put 15 59 ?rv87 #[true, true, true, true, true, true, true, true, true, true, true, true, true, true, true, true, false, false, false, false, false, false, false, false] rfl rfl rfl (by kernel_rfl) (by kernel_rfl) (by kernel_rfl) (fun _ _ _ h => h) (by decide) ?ry87 (fun _ => p2) ?rm87
                    case ry87 => first | exact Or.inl ⟨by rfl, by intro w'; go_simp; first | done | rfl⟩
                    case rm87 =>
                    simp only [Act.put, List.setIfInBounds_toArray, List.set_cons_zero, List.set_cons_succ]
                    refine anyT_put 16 60 ?rv88 #[true, true, true, true, true, true, true, true, true, true, true, true, true, true, true, true, true, false, false, false, false, false, false, false] rfl rfl rfl (by kernel_rfl) (by kernel_rfl) (by kernel_rfl) (fun _ _ _ h => h) (by decide) ?ry88 (fun _ => p2) ?rm88
                    case ry88 => first | exact Or.inl ⟨by rfl, by intro w'; go_simp; first | done | rfl⟩
                    case rm88 =>
                    simp only [Act.put, List.setIfInBounds_toArray, List.set_cons_zero, List.set_cons_succ]
                    refine anyT_put 17 61 ?rv89 #[true, true, true, true, true, true, true, true, true, true, true, true, true, true, true, true, true, true, false, false, false, false, false, false] rfl rfl rfl (by kernel_rfl) (by kernel_rfl) (by kernel_rfl) (fun _ _ _ h => h) (by decide) ?ry89 (fun _ => p2) ?rm89
                    case ry89 => first | exact Or.inl ⟨by rfl, by intro w'; go_simp; first | done | rfl⟩
                    case rm89 =>
                    simp only [Act.put, List.setIfInBounds_toArray, List.set_cons_zero, List.set_cons_succ]
                    refine anyT_put 18 62 ?rv90 #[true, true, true, true, true, true, true, true, true, true, true, true, true, true, true, true, true, true, true, false, false, false, false, false] rfl rfl rfl (by kernel_rfl) (by kernel_rfl) (by kernel_rfl) (fun _ _ _ h => h) (by decide) ?ry90 (fun _ => p2) ?rm90
                    case ry90 => first | exact Or.inl ⟨by rfl, by intro w'; go_simp; first | done | rfl⟩
                    case rm90 =>
                    simp only [Act.put, List.setIfInBounds_toArray, List.set_cons_zero, List.set_cons_succ]
                    refine anyT_put 19 63 ?rv91 #[true, true, true, true, true, true, true, true, true, true, true, true, true, true, true, true, true, true, true, true, false, false, false, false] rfl rfl rfl (by kernel_rfl) (by kernel_rfl) (by kernel_rfl) (fun _ _ _ h => h) (by decide) ?ry91 (fun _ => p2) ?rm91
                    case ry91 => first | exact Or.inl ⟨by rfl, by intro w'; go_simp; first | done | rfl⟩
                    case rm91 =>
                    simp only [Act.put, List.setIfInBounds_toArray, List.set_cons_zero, List.set_cons_succ]
                    refine anyT_put 20 64 ?rv92 #[true, true, true, true, true, true, true, true, true, true, true, true, true, true, true, true, true, true, true, true, true, false, false, false] rfl rfl rfl (by kernel_rfl) (by kernel_rfl) (by kernel_rfl) (fun _ _ _ h => h) (by decide) ?ry92 (fun _ => p2) ?rm92
                    case ry92 => first | exact Or.inl ⟨by rfl, by intro w'; go_simp; first | done | rfl⟩
                    case rm92 =>
                    simp only [Act.put, List.setIfInBounds_toArray, List.set_cons_zero, List.set_cons_succ]
                    refine anyT_put 21 65 ?rv93 #[true, true, true, true, true, true, true, true, true, true, true, true, true, true, true, true, true, true, true, true, true, true, false, false] rfl rfl rfl (by kernel_rfl) (by kernel_rfl) (by kernel_rfl) (fun _ _ _ h => h) (by decide) ?ry93 (fun _ => p2) ?rm93
                    case ry93 => first | exact Or.inl ⟨by rfl, by intro w'; go_simp; first | done | rfl⟩
                    case rm93 =>
                    simp only [Act.put, List.setIfInBounds_toArray, List.set_cons_zero, List.set_cons_succ]
                    refine anyT_one 22 #[true, true, true, true, true, true, true, true, true, true, true, true, true, true, true, true, true, true, true, true, true, true, true, false] (by kernel_rfl) rfl rfl (fun K hK => ?_)
                    go_simp
                    go_wp2_with fail
                    refine (cmp_l10 AX (dc - K0) (rwL dz lo j) lo HLL.out.1 AY (dc - J0) (rwL dz lo k) lo HLL.out.2 C HCC.out rfl (by omega) w.heap.size wr.drew HIX.out.1 HIX.out.2).mono ?_
                    rintro e v9 ⟨rfl, hB9⟩
                    have HB9 : Hid (Below wr.heap.size wr v9) := (Below.refl _ wr).drew.trans hB9
                    have q2 : v9.cell? ⟨w.heap.size, 2, none⟩ = some (.slice da D dc) := (HB9.out.cell (p := ⟨w.heap.size, 2, none⟩) HA.out.lt).trans p2
                    clear hB9
                    refine hK.out _ _ (fun _ => q2) ?_
                    clear hK K
                    refine anyT_one 23 #[true, true, true, true, true, true, true, true, true, true, true, true, true, true, true, true, true, true, true, true, true, true, true, true] (by kernel_rfl) rfl rfl (fun K hK => ?_)
                    go_simp
                    refine hK.out _ _ (fun h => absurd h (by decide)) ?_
                    clear hK K
                    refine anyT_done (by kernel_rfl) ?_
                    go_wp2_with fail
                    exact ⟨⟨j + 1, by omega, by go_num, by rw [ahT_no HLt.out, HM.out], HBj.out.trans (HB9.out.mono HBj.out.size)⟩, by simp [intOf]; omega⟩
              | true =>
                have wn : IntKind.i64.wrap (-C) = -C := IntWalk.i64_in _ (by omega)
                by_cases hc1 : 0 < C
                · have t1 : ¬ C ≤ 0 := by omega
                  have HLt : Hid (ltR true dz lo j k = true) := by
                    show _ = _
                    have hcm := HCM.out
                    simp only [if_true] at hcm
                    rw [ltR_iff, hcm]; omega
                  go_wp2_with fail
                  refine anyT_begin 23 (fun w' => w'.cell? ⟨w.heap.size, 2, none⟩ = some (.slice da D dc)) 24 #[false, false, false, false, false, false, false, false, false, false, false, false, false, false, false, false, false, false, false, false, false, false, false, false] (by kernel_rfl) rfl rfl ?_
                  refine anyT_put 0 44 ?rv96 #[true, false, false, false, false, false, false, false, false, false, false, false, false, false, false, false, false, false, false, false, false, false, false, false] rfl rfl rfl (by kernel_rfl) (by kernel_rfl) (by kernel_rfl) (fun _ _ _ h => h) (by decide) ?ry96 (fun _ => p2) ?rm96
                  case ry96 => first | exact Or.inl ⟨by rfl, by intro w'; go_simp; first | done | rfl⟩
                  case rm96 =>
                  simp only [Act.put, List.setIfInBounds_toArray, List.set_cons_zero, List.set_cons_succ]
                  refine anyT_take 1 45 ?rv97 #[true, true, false, false, false, false, false, false, false, false, false, false, false, false, false, false, false, false, false, false, false, false, false, false] rfl rfl rfl (by kernel_rfl) (by kernel_rfl) (by kernel_rfl) (fun _ _ _ h => h) (by kernel_rfl) (by decide) (by kernel_rfl) ?ry97 (p2) ?rm97
                  case ry97 => first | exact Or.inl ⟨by rfl, by intro w' hw'; (try dsimp only at hw'); go_simp; first | done | rfl⟩
                  case rm97 =>
                  simp only [Act.put, List.setIfInBounds_toArray, List.set_cons_zero, List.set_cons_succ]
                  refine anyT_put 2 46 ?rv98 #[true, true, true, false, false, false, false, false, false, false, false, false, false, false, false, false, false, false, false, false, false, false, false, false] rfl rfl rfl (by kernel_rfl) (by kernel_rfl) (by kernel_rfl) (fun _ _ _ h => h) (by decide) ?ry98 (fun _ => p2) ?rm98
                  case ry98 => first | exact Or.inl ⟨by rfl, by intro w'; go_simp; first | done | rfl⟩
                  case rm98 =>
                  simp only [Act.put, List.setIfInBounds_toArray, List.set_cons_zero, List.set_cons_succ]
                  refine anyT_put 3 47 ?rv99 #[true, true, true, true, false, false, false, false, false, false, false, false, false, false, false, false, false, false, false, false, false, false, false, false] rfl rfl rfl (by kernel_rfl) (by kernel_rfl) (by kernel_rfl) (fun _ _ _ h => h) (by decide) ?ry99 (fun _ => p2) ?rm99
                  case ry99 => first | exact Or.inl ⟨by rfl, by intro w'; go_simp; first | done | rfl⟩
                  case rm99 =>
                  simp only [Act.put, List.setIfInBounds_toArray, List.set_cons_zero, List.set_cons_succ]
                  refine anyT_put 4 48 ?rv100 #[true, true, true, true, true, false, false, false, false, false, false, false, false, false, false, false, false, false, false, false, false, false, false, false] rfl rfl rfl (by kernel_rfl) (by kernel_rfl) (by kernel_rfl) (fun _ _ _ h => h) (by decide) ?ry100 (fun _ => p2) ?rm100
                  case ry100 => first | exact Or.inl ⟨by rfl, by intro w'; go_simp; first | done | rfl⟩
                  case rm100 =>
                  simp only [Act.put, List.setIfInBounds_toArray, List.set_cons_zero, List.set_cons_succ]
                  refine anyT_put 5 49 ?rv101 #[true, true, true, true, true, true, false, false, false, false, false, false, false, false, false, false, false, false, false, false, false, false, false, false] rfl rfl rfl (by kernel_rfl) (by kernel_rfl) (by kernel_rfl) (fun _ _ _ h => h) (by decide) ?ry101 (fun _ => p2) ?rm101
                  case ry101 => first | exact Or.inl ⟨by rfl, by intro w'; go_simp; first | done | rfl⟩
                  case rm101 =>
                  simp only [Act.put, List.setIfInBounds_toArray, List.set_cons_zero, List.set_cons_succ]
                  refine anyT_put 6 50 ?rv102 #[true, true, true, true, true, true, true, false, false, false, false, false, false, false, false, false, false, false, false, false, false, false, false, false] rfl rfl rfl (by kernel_rfl) (by kernel_rfl) (by kernel_rfl) (fun _ _ _ h => h) (by decide) ?ry102 (fun _ => p2) ?rm102
                  case ry102 => first | exact Or.inl ⟨by rfl, by intro w'; go_simp; first | done | rfl⟩
                  case rm102 =>
                  simp only [Act.put, List.setIfInBounds_toArray, List.set_cons_zero, List.set_cons_succ]
                  refine anyT_put 7 51 ?rv103 #[true, true, true, true, true, true, true, true, false, false, false, false, false, false, false, false, false, false, false, false, false, false, false, false] rfl rfl rfl (by kernel_rfl) (by kernel_rfl) (by kernel_rfl) (fun _ _ _ h => h) (by decide) ?ry103 (fun _ => p2) ?rm103
                  case ry103 => first | exact Or.inl ⟨by rfl, by intro w'; go_simp; first | done | rfl⟩
                  case rm103 =>
                  simp only [Act.put, List.setIfInBounds_toArray, List.set_cons_zero, List.set_cons_succ]
                  refine anyT_put 8 52 ?rv104 #[true, true, true, true, true, true, true, true, true, false, false, false, false, false, false, false, false, false, false, false, false, false, false, false] rfl rfl rfl (by kernel_rfl) (by kernel_rfl) (by kernel_rfl) (fun _ _ _ h => h) (by decide) ?ry104 (fun _ => p2) ?rm104
                  case ry104 => first | exact Or.inl ⟨by rfl, by intro w'; go_simp; first | done | rfl⟩
                  case rm104 =>
                  simp only [Act.put, List.setIfInBounds_toArray, List.set_cons_zero, List.set_cons_succ]
                  refine anyT_put 9 53 ?rv105 #[true, true, true, true, true, true, true, true, true, true, false, false, false, false, false, false, false, false, false, false, false, false, false, false] rfl rfl rfl (by kernel_rfl) (by kernel_rfl) (by kernel_rfl) (fun _ _ _ h => h) (by decide) ?ry105 (fun _ => p2) ?rm105
                  case ry105 => first | exact Or.inl ⟨by rfl, by intro w'; go_simp; first | done | rfl⟩
                  case rm105 =>
                  simp only [Act.put, List.setIfInBounds_toArray, List.set_cons_zero, List.set_cons_succ]
                  refine anyT_put 10 54 ?rv106 #[true, true, true, true, true, true, true, true, true, true, true, false, false, false, false, false, false, false, false, false, false, false, false, false] rfl rfl rfl (by kernel_rfl) (by kernel_rfl) (by kernel_rfl) (fun _ _ _ h => h) (by decide) ?ry106 (fun _ => p2) ?rm106
                  case ry106 => first | exact Or.inl ⟨by rfl, by intro w'; go_simp; first | done | rfl⟩
                  case rm106 =>
                  simp only [Act.put, List.setIfInBounds_toArray, List.set_cons_zero, List.set_cons_succ]
                  refine anyT_put 11 55 ?rv107 #[true, true, true, true, true, true, true, true, true, true, true, true, false, false, false, false, false, false, false, false, false, false, false, false] rfl rfl rfl (by kernel_rfl) (by kernel_rfl) (by kernel_rfl) (fun _ _ _ h => h) (by decide) ?ry107 (fun _ => p2) ?rm107
                  case ry107 => first | exact Or.inl ⟨by rfl, by intro w'; go_simp; first | done | rfl⟩
                  case rm107 =>
                  simp only [Act.put, List.setIfInBounds_toArray, List.set_cons_zero, List.set_cons_succ]
                  refine anyT_take 12 56 ?rv108 #[true, true, true, true, true, true, true, true, true, true, true, true, true, false, false, false, false, false, false, false, false, false, false, false] rfl rfl rfl (by kernel_rfl) (by kernel_rfl) (by kernel_rfl) (fun _ _ _ h => h) (by kernel_rfl) (by decide) (by kernel_rfl) ?ry108 (p2) ?rm108
                  case ry108 => first | exact Or.inl ⟨by rfl, by intro w' hw'; (try dsimp only at hw'); go_simp; first | done | rfl⟩
                  case rm108 =>
                  simp only [Act.put, List.setIfInBounds_toArray, List.set_cons_zero, List.set_cons_succ]
                  refine anyT_put 13 57 ?rv109 #[true, true, true, true, true, true, true, true, true, true, true, true, true, true, false, false, false, false, false, false, false, false, false, false] rfl rfl rfl (by kernel_rfl) (by kernel_rfl) (by kernel_rfl) (fun _ _ _ h => h) (by decide) ?ry109 (fun _ => p2) ?rm109
                  case ry109 => first | exact Or.inl ⟨by rfl, by intro w'; go_simp; first | done | rfl⟩
                  case rm109 =>
                  simp only [Act.put, List.setIfInBounds_toArray, List.set_cons_zero, List.set_cons_succ]
                  refine anyT_put 14 58 ?rv110 #[true, true, true, true, true, true, true, true, true, true, true, true, true, true, true, false, false, false, false, false, false, false, false, false] rfl rfl rfl (by kernel_rfl) (by kernel_rfl) (by kernel_rfl) (fun _ _ _ h => h) (by decide) ?ry110 (fun _ => p2) ?rm110
                  case ry110 => first | exact Or.inl ⟨by rfl, by intro w'; go_simp; first | done | rfl⟩
                  case rm110 =>
                  simp only [Act.put, List.setIfInBounds_toArray, List.set_cons_zero, List.set_cons_succ]
                  refine anyT_put 15 59 ?rv111 #[true, true, true, true, true, true, true, true, true, true, true, true, true, true, true, true, false, false, false, false, false, false, false, false] rfl rfl rfl (by kernel_rfl) (by kernel_rfl) (by kernel_rfl) (fun _ _ _ h => h) (by decide) ?ry111 (fun _ => p2) ?rm111
                  case ry111 => first | exact Or.inl ⟨by rfl, by intro w'; go_simp; first | done | rfl⟩
                  case rm111 =>
                  simp only [Act.put, List.setIfInBounds_toArray, List.set_cons_zero, List.set_cons_succ]
                  refine anyT_put 16 60 ?rv112 #[true, true, true, true, true, true, true, true, true, true, true, true, true, true, true, true, true, false, false, false, false, false, false, false] rfl rfl rfl (by kernel_rfl) (by kernel_rfl) (by kernel_rfl) (fun _ _ _ h => h) (by decide) ?ry112 (fun _ => p2) ?rm112
                  case ry112 => first | exact Or.inl ⟨by rfl, by intro w'; go_simp; first | done | rfl⟩
                  case rm112 =>
                  simp only [Act.put, List.setIfInBounds_toArray, List.set_cons_zero, List.set_cons_succ]
                  refine anyT_put 17 61 ?rv113 #[true, true, true, true, true, true, true, true, true, true, true, true, true, true, true, true, true, true, false, false, false, false, false, false] rfl rfl rfl (by kernel_rfl) (by kernel_rfl) (by kernel_rfl) (fun _ _ _ h => h) (by decide) ?ry113 (fun _ => p2) ?rm113
                  case ry113 => first | exact Or.inl ⟨by rfl, by intro w'; go_simp; first | done | rfl⟩
                  case rm113 =>
                  simp only [Act.put, List.setIfInBounds_toArray, List.set_cons_zero, List.set_cons_succ]
                  refine anyT_put 18 62 ?rv114 #[true, true, true, true, true, true, true, true, true, true, true, true, true, true, true, true, true, true, true, false, false, false, false, false] rfl rfl rfl (by kernel_rfl) (by kernel_rfl) (by kernel_rfl) (fun _ _ _ h => h) (by decide) ?ry114 (fun _ => p2) ?rm114
                  case ry114 => first | exact Or.inl ⟨by rfl, by intro w'; go_simp; first | done | rfl⟩
                  case rm114 =>
                  simp only [Act.put, List.setIfInBounds_toArray, List.set_cons_zero, List.set_cons_succ]
                  refine anyT_put 19 63 ?rv115 #[true, true, true, true, true, true, true, true, true, true, true, true, true, true, true, true, true, true, true, true, false, false, false, false] rfl rfl rfl (by kernel_rfl) (by kernel_rfl) (by kernel_rfl) (fun _ _ _ h => h) (by decide) ?ry115 (fun _ => p2) ?rm115
                  case ry115 => first | exact Or.inl ⟨by rfl, by intro w'; go_simp; first | done | rfl⟩
                  case rm115 =>
                  simp only [Act.put, List.setIfInBounds_toArray, List.set_cons_zero, List.set_cons_succ]
                  refine anyT_put 20 64 ?rv116 #[true, true, true, true, true, true, true, true, true, true, true, true, true, true, true, true, true, true, true, true, true, false, false, false] rfl rfl rfl (by kernel_rfl) (by kernel_rfl) (by kernel_rfl) (fun _ _ _ h => h) (by decide) ?ry116 (fun _ => p2) ?rm116
                  case ry116 => first | exact Or.inl ⟨by rfl, by intro w'; go_simp; first | done | rfl⟩
                  case rm116 =>
                  simp only [Act.put, List.setIfInBounds_toArray, List.set_cons_zero, List.set_cons_succ]
                  refine anyT_put 21 65 ?rv117 #[true, true, true, true, true, true, true, true, true, true, true, true, true, true, true, true, true, true, true, true, true, true, false, false] rfl rfl rfl (by kernel_rfl) (by kernel_rfl) (by kernel_rfl) (fun _ _ _ h => h) (by decide) ?ry117 (fun _ => p2) ?rm117
                  case ry117 => first | exact Or.inl ⟨by rfl, by intro w'; go_simp; first | done | rfl⟩
                  case rm117 =>
                  simp only [Act.put, List.setIfInBounds_toArray, List.set_cons_zero, List.set_cons_succ]
                  refine anyT_one 22 #[true, true, true, true, true, true, true, true, true, true, true, true, true, true, true, true, true, true, true, true, true, true, true, false] (by kernel_rfl) rfl rfl (fun K hK => ?_)
                  go_simp
                  go_wp2_with fail
                  refine (cmp_l10 AX (dc - K0) (rwL dz lo j) lo HLL.out.1 AY (dc - J0) (rwL dz lo k) lo HLL.out.2 C HCC.out rfl (by omega) w.heap.size wr.drew HIX.out.1 HIX.out.2).mono ?_
                  rintro e v9 ⟨rfl, hB9⟩
                  have HB9 : Hid (Below wr.heap.size wr v9) := (Below.refl _ wr).drew.trans hB9
                  have q2 : v9.cell? ⟨w.heap.size, 2, none⟩ = some (.slice da D dc) := (HB9.out.cell (p := ⟨w.heap.size, 2, none⟩) HA.out.lt).trans p2
                  clear hB9
                  refine hK.out _ _ (fun _ => q2) ?_
                  clear hK K
                  refine anyT_one 23 #[true, true, true, true, true, true, true, true, true, true, true, true, true, true, true, true, true, true, true, true, true, true, true, true] (by kernel_rfl) rfl rfl (fun K hK => ?_)
                  go_simp
                  refine hK.out _ _ (fun h => absurd h (by decide)) ?_
                  clear hK K
                  refine anyT_done (by kernel_rfl) ?_
                  go_wp2_with fail
                  exact ⟨⟨j + 1, by omega, by go_num, by rw [ahT_yes HLt.out, ← HM.out]; go_num, HBj.out.trans (HB9.out.mono HBj.out.size)⟩, by simp [intOf]; omega⟩
                · by_cases hc2 : C = 0
                  · subst hc2
                    by_cases hjk : j < k
                    · have t3 := hjk
                      have HLt : Hid (ltR true dz lo j k = true) := by
                        show _ = _
                        have hcm := HCM.out
                        simp only [if_true] at hcm
                        rw [ltR_iff, hcm]; omega
                      clear hc1
                      go_wp2_with fail
                      refine anyT_begin 23 (fun w' => w'.cell? ⟨w.heap.size, 2, none⟩ = some (.slice da D dc)) 24 #[false, false, false, false, false, false, false, false, false, false, false, false, false, false, false, false, false, false, false, false, false, false, false, false] (by kernel_rfl) rfl rfl ?_
                      refine anyT_put 0 44 ?rv120 #[true, false, false, false, false, false, false, false, false, false, false, false, false, false, false, false, false, false, false, false, false, false, false, false] rfl rfl rfl (by kernel_rfl) (by kernel_rfl) (by kernel_rfl) (fun _ _ _ h => h) (by decide) ?ry120 (fun _ => p2) ?rm120
                      case ry120 => first | exact Or.inl ⟨by rfl, by intro w'; go_simp; first | done | rfl⟩
                      case rm120 =>
                      simp only [Act.put, List.setIfInBounds_toArray, List.set_cons_zero, List.set_cons_succ]
                      refine anyT_take 1 45 ?rv121 #[true, true, false, false, false, false, false, false, false, false, false, false, false, false, false, false, false, false, false, false, false, false, false, false] rfl rfl rfl (by kernel_rfl) (by kernel_rfl) (by kernel_rfl) (fun _ _ _ h => h) (by kernel_rfl) (by decide) (by kernel_rfl) ?ry121 (p2) ?rm121
                      case ry121 => first | exact Or.inl ⟨by rfl, by intro w' hw'; (try dsimp only at hw'); go_simp; first | done | rfl⟩
                      case rm121 =>
                      simp only [Act.put, List.setIfInBounds_toArray, List.set_cons_zero, List.set_cons_succ]
                      refine anyT_put 2 46 ?rv122 #[true, true, true, false, false, false, false, false, false, false, false, false, false, false, false, false, false, false, false, false, false, false, false, false] rfl rfl rfl (by kernel_rfl) (by kernel_rfl) (by kernel_rfl) (fun _ _ _ h => h) (by decide) ?ry122 (fun _ => p2) ?rm122
                      case ry122 => first | exact Or.inl ⟨by rfl, by intro w'; go_simp; first | done | rfl⟩
                      case rm122 =>
                      simp only [Act.put, List.setIfInBounds_toArray, List.set_cons_zero, List.set_cons_succ]
                      refine anyT_put 3 47 ?rv123 #[true, true, true, true, false, false, false, false, false, false, false, false, false, false, false, false, false, false, false, false, false, false, false, false] rfl rfl rfl (by kernel_rfl) (by kernel_rfl) (by kernel_rfl) (fun _ _ _ h => h) (by decide) ?ry123 (fun _ => p2) ?rm123
                      case ry123 => first | exact Or.inl ⟨by rfl, by intro w'; go_simp; first | done | rfl⟩
                      case rm123 =>
                      simp only [Act.put, List.setIfInBounds_toArray, List.set_cons_zero, List.set_cons_succ]
                      refine anyT_put 4 48 ?rv124 #[true, true, true, true, true, false, false, false, false, false, false, false, false, false, false, false, false, false, false, false, false, false, false, false] rfl rfl rfl (by kernel_rfl) (by kernel_rfl) (by kernel_rfl) (fun _ _ _ h => h) (by decide) ?ry124 (fun _ => p2) ?rm124
                      case ry124 => first | exact Or.inl ⟨by rfl, by intro w'; go_simp; first | done | rfl⟩
                      case rm124 =>
                      simp only [Act.put, List.setIfInBounds_toArray, List.set_cons_zero, List.set_cons_succ]
                      refine anyT_put 5 49 ?rv125 #[true, true, true, true, true, true, false, false, false, false, false, false, false, false, false, false, false, false, false, false, false, false, false, false] rfl rfl rfl (by kernel_rfl) (by kernel_rfl) (by kernel_rfl) (fun _ _ _ h => h) (by decide) ?ry125 (fun _ => p2) ?rm125
                      case ry125 => first | exact Or.inl ⟨by rfl, by intro w'; go_simp; first | done | rfl⟩
                      case rm125 =>
                      simp only [Act.put, List.setIfInBounds_toArray, List.set_cons_zero, List.set_cons_succ]
                      refine anyT_put 6 50 ?rv126 #[true, true, true, true, true, true, true, false, false, false, false, false, false, false, false, false, false, false, false, false, false, false, false, false] rfl rfl rfl (by kernel_rfl) (by kernel_rfl) (by kernel_rfl) (fun _ _ _ h => h) (by decide) ?ry126 (fun _ => p2) ?rm126
                      case ry126 => first | exact Or.inl ⟨by rfl, by intro w'; go_simp; first | done | rfl⟩
                      case rm126 =>
                      simp only [Act.put, List.setIfInBounds_toArray, List.set_cons_zero, List.set_cons_succ]
                      refine anyT_put 7 51 ?rv127 #[true, true, true, true, true, true, true, true, false, false, false, false, false, false, false, false, false, false, false, false, false, false, false, false] rfl rfl rfl (by kernel_rfl) (by kernel_rfl) (by kernel_rfl) (fun _ _ _ h => h) (by decide) ?ry127 (fun _ => p2) ?rm127
                      case ry127 => first | exact Or.inl ⟨by rfl, by intro w'; go_simp; first | done | rfl⟩
                      case rm127 =>
                      simp only [Act.put, List.setIfInBounds_toArray, List.set_cons_zero, List.set_cons_succ]
                      refine anyT_put 8 52 ?rv128 #[true, true, true, true, true, true, true, true, true, false, false, false, false, false, false, false, false, false, false, false, false, false, false, false] rfl rfl rfl (by kernel_rfl) (by kernel_rfl) (by kernel_rfl) (fun _ _ _ h => h) (by decide) ?ry128 (fun _ => p2) ?rm128
                      case ry128 => first | exact Or.inl ⟨by rfl, by intro w'; go_simp; first | done | rfl⟩
                      case rm128 =>
                      simp only [Act.put, List.setIfInBounds_toArray, List.set_cons_zero, List.set_cons_succ]
                      refine anyT_put 9 53 ?rv129 #[true, true, true, true, true, true, true, true, true, true, false, false, false, false, false, false, false, false, false, false, false, false, false, false] rfl rfl rfl (by kernel_rfl) (by kernel_rfl) (by kernel_rfl) (fun _ _ _ h => h) (by decide) ?ry129 (fun _ => p2) ?rm129
                      case ry129 => first | exact Or.inl ⟨by rfl, by intro w'; go_simp; first | done | rfl⟩
                      case rm129 =>
                      simp only [Act.put, List.setIfInBounds_toArray, List.set_cons_zero, List.set_cons_succ]
                      refine anyT_put 10 54 ?rv130 #[true, true, true, true, true, true, true, true, true, true, true, false, false, false, false, false, false, false, false, false, false, false, false, false] rfl rfl rfl (by kernel_rfl) (by kernel_rfl) (by kernel_rfl) (fun _ _ _ h => h) (by decide) ?ry130 (fun _ => p2) ?rm130
                      case ry130 => first | exact Or.inl ⟨by rfl, by intro w'; go_simp; first | done | rfl⟩
                      case rm130 =>
                      simp only [Act.put, List.setIfInBounds_toArray, List.set_cons_zero, List.set_cons_succ]
                      refine anyT_put 11 55 ?rv131 #[true, true, true, true, true, true, true, true, true, true, true, true, false, false, false, false, false, false, false, false, false, false, false, false] rfl rfl rfl (by kernel_rfl) (by kernel_rfl) (by kernel_rfl) (fun _ _ _ h => h) (by decide) ?ry131 (fun _ => p2) ?rm131
                      case ry131 => first | exact Or.inl ⟨by rfl, by intro w'; go_simp; first | done | rfl⟩
                      case rm131 =>
                      simp only [Act.put, List.setIfInBounds_toArray, List.set_cons_zero, List.set_cons_succ]
                      refine anyT_take 12 56 ?rv132 #[true, true, true, true, true, true, true, true, true, true, true, true, true, false, false, false, false, false, false, false, false, false, false, false] rfl rfl rfl (by kernel_rfl) (by kernel_rfl) (by kernel_rfl) (fun _ _ _ h => h) (by kernel_rfl) (by decide) (by kernel_rfl) ?ry132 (p2) ?rm132
                      case ry132 => first | exact Or.inl ⟨by rfl, by intro w' hw'; (try dsimp only at hw'); go_simp; first | done | rfl⟩
                      case rm132 =>
                      simp only [Act.put, List.setIfInBounds_toArray, List.set_cons_zero, List.set_cons_succ]
                      refine anyT_put 13 57 ?rv133 #[true, true, true, true, true, true, true, true, true, true, true, true, true, true, false, false, false, false, false, false, false, false, false, false] rfl rfl rfl (by kernel_rfl) (by kernel_rfl) (by kernel_rfl) (fun _ _ _ h => h) (by decide) ?ry133 (fun _ => p2) ?rm133
                      case ry133 => first | exact Or.inl ⟨by rfl, by intro w'; go_simp; first | done | rfl⟩
                      case rm133 =>
                      simp only [Act.put, List.setIfInBounds_toArray, List.set_cons_zero, List.set_cons_succ]
                      refine anyT_put 14 58 ?rv134 #[true, true, true, true, true, true, true, true, true, true, true, true, true, true, true, false, false, false, false, false, false, false, false, false] rfl rfl rfl (by kernel_rfl) (by kernel_rfl) (by kernel_rfl) (fun _ _ _ h => h) (by decide) ?ry134 (fun _ => p2) ?rm134
                      case ry134 => first | exact Or.inl ⟨by rfl, by intro w'; go_simp; first | done | rfl⟩
                      case rm134 =>
                      simp only [Act.put, List.setIfInBounds_toArray, List.set_cons_zero, List.set_cons_succ]
                      refine anyT_put 15 59 ?rv135 #[true, true, true, true, true, true, true, true, true, true, true, true, true, true, true, true, false, false, false, false, false, false, false, false] rfl rfl rfl (by kernel_rfl) (by kernel_rfl) (by kernel_rfl) (fun _ _ _ h => h) (by decide) ?ry135 (fun _ => p2) ?rm135
                      case ry135 => first | exact Or.inl ⟨by rfl, by intro w'; go_simp; first | done | rfl⟩
                      case rm135 =>
                      simp only [Act.put, List.setIfInBounds_toArray, List.set_cons_zero, List.set_cons_succ]
                      refine anyT_put 16 60 ?rv136 #[true, true, true, true, true, true, true, true, true, true, true, true, true, true, true, true, true, false, false, false, false, false, false, false] rfl rfl rfl (by kernel_rfl) (by kernel_rfl) (by kernel_rfl) (fun _ _ _ h => h) (by decide) ?ry136 (fun _ => p2) ?rm136
                      case ry136 => first | exact Or.inl ⟨by rfl, by intro w'; go_simp; first | done | rfl⟩
                      case rm136 =>
                      simp only [Act.put, List.setIfInBounds_toArray, List.set_cons_zero, List.set_cons_succ]
                      refine anyT_put 17 61 ?rv137 #[true, true, true, true, true, true, true, true, true, true, true, true, true, true, true, true, true, true, false, false, false, false, false, false] rfl rfl rfl (by kernel_rfl) (by kernel_rfl) (by kernel_rfl) (fun _ _ _ h => h) (by decide) ?ry137 (fun _ => p2) ?rm137
                      case ry137 => first | exact Or.inl ⟨by rfl, by intro w'; go_simp; first | done | rfl⟩
                      case rm137 =>
                      simp only [Act.put, List.setIfInBounds_toArray, List.set_cons_zero, List.set_cons_succ]
                      refine anyT_put 18 62 ?rv138 #[true, true, true, true, true, true, true, true, true, true, true, true, true, true, true, true, true, true, true, false, false, false, false, false] rfl rfl rfl (by kernel_rfl) (by kernel_rfl) (by kernel_rfl) (fun _ _ _ h => h) (by decide) ?ry138 (fun _ => p2) ?rm138
                      case ry138 => first | exact Or.inl ⟨by rfl, by intro w'; go_simp; first | done | rfl⟩
                      case rm138 =>
                      simp only [Act.put, List.setIfInBounds_toArray, List.set_cons_zero, List.set_cons_succ]
                      refine anyT_put 19 63 ?rv139 #[true, true, true, true, true, true, true, true, true, true, true, true, true, true, true, true, true, true, true, true, false, false, false, false] rfl rfl rfl (by kernel_rfl) (by kernel_rfl) (by kernel_rfl) (fun _ _ _ h => h) (by decide) ?ry139 (fun _ => p2) ?rm139
                      case ry139 => first | exact Or.inl ⟨by rfl, by intro w'; go_simp; first | done | rfl⟩
                      case rm139 =>
                      simp only [Act.put, List.setIfInBounds_toArray, List.set_cons_zero, List.set_cons_succ]
                      refine anyT_put 20 64 ?rv140 #[true, true, true, true, true, true, true, true, true, true, true, true, true, true, true, true, true, true, true, true, true, false, false, false] rfl rfl rfl (by kernel_rfl) (by kernel_rfl) (by kernel_rfl) (fun _ _ _ h => h) (by decide) ?ry140 (fun _ => p2) ?rm140
                      case ry140 => first | exact Or.inl ⟨by rfl, by intro w'; go_simp; first | done | rfl⟩
                      case rm140 =>
                      simp only [Act.put, List.setIfInBounds_toArray, List.set_cons_zero, List.set_cons_succ]
                      refine anyT_put 21 65 ?rv141 #[true, true, true, true, true, true, true, true, true, true, true, true, true, true, true, true, true, true, true, true, true, true, false, false] rfl rfl rfl (by kernel_rfl) (by kernel_rfl) (by kernel_rfl) (fun _ _ _ h => h) (by decide) ?ry141 (fun _ => p2) ?rm141
                      case ry141 => first | exact Or.inl ⟨by rfl, by intro w'; go_simp; first | done | rfl⟩
                      case rm141 =>
                      simp only [Act.put, List.setIfInBounds_toArray, List.set_cons_zero, List.set_cons_succ]
                      refine anyT_one 22 #[true, true, true, true, true, true, true, true, true, true, true, true, true, true, true, true, true, true, true, true, true, true, true, false] (by kernel_rfl) rfl rfl (fun K hK => ?_)
                      go_simp
                      go_wp2_with fail
                      refine (cmp_l10 AX (dc - K0) (rwL dz lo j) lo HLL.out.1 AY (dc - J0) (rwL dz lo k) lo HLL.out.2 0 HCC.out rfl (by omega) w.heap.size wr.drew HIX.out.1 HIX.out.2).mono ?_
                      rintro e v9 ⟨rfl, hB9⟩
                      have HB9 : Hid (Below wr.heap.size wr v9) := (Below.refl _ wr).drew.trans hB9
                      have q2 : v9.cell? ⟨w.heap.size, 2, none⟩ = some (.slice da D dc) := (HB9.out.cell (p := ⟨w.heap.size, 2, none⟩) HA.out.lt).trans p2
                      clear hB9
                      refine hK.out _ _ (fun _ => q2) ?_
                      clear hK K
                      refine anyT_one 23 #[true, true, true, true, true, true, true, true, true, true, true, true, true, true, true, true, true, true, true, true, true, true, true, true] (by kernel_rfl) rfl rfl (fun K hK => ?_)
                      go_simp
                      refine hK.out _ _ (fun h => absurd h (by decide)) ?_
                      clear hK K
                      refine anyT_done (by kernel_rfl) ?_
                      go_wp2_with fail
                      exact ⟨⟨j + 1, by omega, by go_num, by rw [ahT_yes HLt.out, ← HM.out]; go_num, HBj.out.trans (HB9.out.mono HBj.out.size)⟩, by simp [intOf]; omega⟩
                    · have t3 := hjk
                      have HLt : Hid (ltR true dz lo j k = false) := by
                        show _ = _
                        have hcm := HCM.out
                        simp only [if_true] at hcm
                        rw [← Bool.not_eq_true, ltR_iff, hcm]; omega
                      clear hc1
                      go_wp2_with fail
                      refine anyT_begin 23 (fun w' => w'.cell? ⟨w.heap.size, 2, none⟩ = some (.slice da D dc)) 24 #[false, false, false, false, false, false, false, false, false, false, false, false, false, false, false, false, false, false, false, false, false, false, false, false] (by kernel_rfl) rfl rfl ?_
                      refine anyT_put 0 44 ?rv144 #[true, false, false, false, false, false, false, false, false, false, false, false, false, false, false, false, false, false, false, false, false, false, false, false] rfl rfl rfl (by kernel_rfl) (by kernel_rfl) (by kernel_rfl) (fun _ _ _ h => h) (by decide) ?ry144 (fun _ => p2) ?rm144
                      case ry144 => first | exact Or.inl ⟨by rfl, by intro w'; go_simp; first | done | rfl⟩
                      case rm144 =>
                      simp only [Act.put, List.setIfInBounds_toArray, List.set_cons_zero, List.set_cons_succ]
                      refine anyT_take 1 45 ?rv145 #[true, true, false, false, false, false, false, false, false, false, false, false, false, false, false, false, false, false, false, false, false, false, false, false] rfl rfl rfl (by kernel_rfl) (by kernel_rfl) (by kernel_rfl) (fun _ _ _ h => h) (by kernel_rfl) (by decide) (by kernel_rfl) ?ry145 (p2) ?rm145
                      case ry145 => first | exact Or.inl ⟨by rfl, by intro w' hw'; (try dsimp only at hw'); go_simp; first | done | rfl⟩
                      case rm145 =>
                      simp only [Act.put, List.setIfInBounds_toArray, List.set_cons_zero, List.set_cons_succ]
                      refine anyT_put 2 46 ?rv146 #[true, true, true, false, false, false, false, false, false, false, false, false, false, false, false, false, false, false, false, false, false, false, false, false] rfl rfl rfl (by kernel_rfl) (by kernel_rfl) (by kernel_rfl) (fun _ _ _ h => h) (by decide) ?ry146 (fun _ => p2) ?rm146
                      case ry146 => first | exact Or.inl ⟨by rfl, by intro w'; go_simp; first | done | rfl⟩
                      case rm146 =>
                      simp only [Act.put, List.setIfInBounds_toArray, List.set_cons_zero, List.set_cons_succ]
                      refine anyT_put 3 47 ?rv147 #[true, true, true, true, false, false, false, false, false, false, false, false, false, false, false, false, false, false, false, false, false, false, false, false] rfl rfl rfl (by kernel_rfl) (by kernel_rfl) (by kernel_rfl) (fun _ _ _ h => h) (by decide) ?ry147 (fun _ => p2) ?rm147
                      case ry147 => first | exact Or.inl ⟨by rfl, by intro w'; go_simp; first | done | rfl⟩
                      case rm147 =>
                      simp only [Act.put, List.setIfInBounds_toArray, List.set_cons_zero, List.set_cons_succ]
                      refine anyT_put 4 48 ?rv148 #[true, true, true, true, true, false, false, false, false, false, false, false, false, false, false, false, false, false, false, false, false, false, false, false] rfl rfl rfl (by kernel_rfl) (by kernel_rfl) (by kernel_rfl) (fun _ _ _ h => h) (by decide) ?ry148 (fun _ => p2) ?rm148
                      case ry148 => first | exact Or.inl ⟨by rfl, by intro w'; go_simp; first | done | rfl⟩
                      case rm148 =>
                      simp only [Act.put, List.setIfInBounds_toArray, List.set_cons_zero, List.set_cons_succ]
                      refine anyT_put 5 49 ?rv149 #[true, true, true, true, true, true, false, false, false, false, false, false, false, false, false, false, false, false, false, false, false, false, false, false] rfl rfl rfl (by kernel_rfl) (by kernel_rfl) (by kernel_rfl) (fun _ _ _ h => h) (by decide) ?ry149 (fun _ => p2) ?rm149
                      case ry149 => first | exact Or.inl ⟨by rfl, by intro w'; go_simp; first | done | rfl⟩
                      case rm149 =>
                      simp only [Act.put, List.setIfInBounds_toArray, List.set_cons_zero, List.set_cons_succ]
                      refine anyT_put 6 50 ?rv150 #[true, true, true, true, true, true, true, false, false, false, false, false, false, false, false, false, false, false, false, false, false, false, false, false] rfl rfl rfl (by kernel_rfl) (by kernel_rfl) (by kernel_rfl) (fun _ _ _ h => h) (by decide) ?ry150 (fun _ => p2) ?rm150
                      case ry150 => first | exact Or.inl ⟨by rfl, by intro w'; go_simp; first | done | rfl⟩
                      case rm150 =>
                      simp only [Act.put, List.setIfInBounds_toArray, List.set_cons_zero, List.set_cons_succ]
                      refine anyT_put 7 51 ?rv151 #[true, true, true, true, true, true, true, true, false, false, false, false, false, false, false, false, false, false, false, false, false, false, false, false] rfl rfl rfl (by kernel_rfl) (by kernel_rfl) (by kernel_rfl) (fun _ _ _ h => h) (by decide) ?ry151 (fun _ => p2) ?rm151
                      case ry151 => first | exact Or.inl ⟨by rfl, by intro w'; go_simp; first | done | rfl⟩
                      case rm151 =>
                      simp only [Act.put, List.setIfInBounds_toArray, List.set_cons_zero, List.set_cons_succ]
                      refine anyT_put 8 52 ?rv152 #[true, true, true, true, true, true, true, true, true, false, false, false, false, false, false, false, false, false, false, false, false, false, false, false] rfl rfl rfl (by kernel_rfl) (by kernel_rfl) (by kernel_rfl) (fun _ _ _ h => h) (by decide) ?ry152 (fun _ => p2) ?rm152
                      case ry152 => first | exact Or.inl ⟨by rfl, by intro w'; go_simp; first | done | rfl⟩
                      case rm152 =>
                      simp only [Act.put, List.setIfInBounds_toArray, List.set_cons_zero, List.set_cons_succ]
                      refine anyT_put 9 53 ?rv153 #[true, true, true, true, true, true, true, true, true, true, false, false, false, false, false, false, false, false, false, false, false, false, false, false] rfl rfl rfl (by kernel_rfl) (by kernel_rfl) (by kernel_rfl) (fun _ _ _ h => h) (by decide) ?ry153 (fun _ => p2) ?rm153
                      case ry153 => first | exact Or.inl ⟨by rfl, by intro w'; go_simp; first | done | rfl⟩
                      case rm153 =>
                      simp only [Act.put, List.setIfInBounds_toArray, List.set_cons_zero, List.set_cons_succ]
                      refine anyT_put 10 54 ?rv154 #[true, true, true, true, true, true, true, true, true, true, true, false, false, false, false, false, false, false, false, false, false, false, false, false] rfl rfl rfl (by kernel_rfl) (by kernel_rfl) (by kernel_rfl) (fun _ _ _ h => h) (by decide) ?ry154 (fun _ => p2) ?rm154
                      case ry154 => first | exact Or.inl ⟨by rfl, by intro w'; go_simp; first | done | rfl⟩
                      case rm154 =>
                      simp only [Act.put, List.setIfInBounds_toArray, List.set_cons_zero, List.set_cons_succ]
                      refine anyT_put 11 55 ?rv155 #[true, true, true, true, true, true, true, true, true, true, true, true, false, false, false, false, false, false, false, false, false, false, false, false] rfl rfl rfl (by kernel_rfl) (by kernel_rfl) (by kernel_rfl) (fun _ _ _ h => h) (by decide) ?ry155 (fun _ => p2) ?rm155
                      case ry155 => first | exact Or.inl ⟨by rfl, by intro w'; go_simp; first | done | rfl⟩
                      case rm155 =>
                      simp only [Act.put, List.setIfInBounds_toArray, List.set_cons_zero, List.set_cons_succ]
                      refine anyT_take 12 56 ?rv156 #[true, true, true, true, true, true, true, true, true, true, true, true, true, false, false, false, false, false, false, false, false, false, false, false] rfl rfl rfl (by kernel_rfl) (by kernel_rfl) (by kernel_rfl) (fun _ _ _ h => h) (by kernel_rfl) (by decide) (by kernel_rfl) ?ry156 (p2) ?rm156
                      case ry156 => first | exact Or.inl ⟨by rfl, by intro w' hw'; (try dsimp only at hw'); go_simp; first | done | rfl⟩
                      case rm156 =>
                      simp only [Act.put, List.setIfInBounds_toArray, List.set_cons_zero, List.set_cons_succ]
                      refine anyT_put 13 57 ?rv157 #[true, true, true, true, true, true, true, true, true, true, true, true, true, true, false, false, false, false, false, false, false, false, false, false] rfl rfl rfl (by kernel_rfl) (by kernel_rfl) (by kernel_rfl) (fun _ _ _ h => h) (by decide) ?ry157 (fun _ => p2) ?rm157
                      case ry157 => first | exact Or.inl ⟨by rfl, by intro w'; go_simp; first | done | rfl⟩
                      case rm157 =>
                      simp only [Act.put, List.setIfInBounds_toArray, List.set_cons_zero, List.set_cons_succ]
                      refine anyT_put 14 58 ?rv158 #[true, true, true, true, true, true, true, true, true, true, true, true, true, true, true, false, false, false, false, false, false, false, false, false] rfl rfl rfl (by kernel_rfl) (by kernel_rfl) (by kernel_rfl) (fun _ _ _ h => h) (by decide) ?ry158 (fun _ => p2) ?rm158
                      case ry158 => first | exact Or.inl ⟨by rfl, by intro w'; go_simp; first | done | rfl⟩
                      case rm158 =>
                      simp only [Act.put, List.setIfInBounds_toArray, List.set_cons_zero, List.set_cons_succ]
                      refine anyT_put 15 59 ?rv159 #[true, true, true, true, true, true, true, true, true, true, true, true, true, true, true, true, false, false, false, false, false, false, false, false] rfl rfl rfl (by kernel_rfl) (by kernel_rfl) (by kernel_rfl) (fun _ _ _ h => h) (by decide) ?ry159 (fun _ => p2) ?rm159
                      case ry159 => first | exact Or.inl ⟨by rfl, by intro w'; go_simp; first | done | rfl⟩
                      case rm159 =>
                      simp only [Act.put, List.setIfInBounds_toArray, List.set_cons_zero, List.set_cons_succ]
                      refine anyT_put 16 60 ?rv160 #[true, true, true, true, true, true, true, true, true, true, true, true, true, true, true, true, true, false, false, false, false, false, false, false] rfl rfl rfl (by kernel_rfl) (by kernel_rfl) (by kernel_rfl) (fun _ _ _ h => h) (by decide) ?ry160 (fun _ => p2) ?rm160
                      case ry160 => first | exact Or.inl ⟨by rfl, by intro w'; go_simp; first | done | rfl⟩
                      case rm160 =>
                      simp only [Act.put, List.setIfInBounds_toArray, List.set_cons_zero, List.set_cons_succ]
                      refine anyT_put 17 61 ?rv161 #[true, true, true, true, true, true, true, true, true, true, true, true, true, true, true, true, true, true, false, false, false, false, false, false] rfl rfl rfl (by kernel_rfl) (by kernel_rfl) (by kernel_rfl) (fun _ _ _ h => h) (by decide) ?ry161 (fun _ => p2) ?rm161
                      case ry161 => first | exact Or.inl ⟨by rfl, by intro w'; go_simp; first | done | rfl⟩
                      case rm161 =>
                      simp only [Act.put, List.setIfInBounds_toArray, List.set_cons_zero, List.set_cons_succ]
                      refine anyT_put 18 62 ?rv162 #[true, true, true, true, true, true, true, true, true, true, true, true, true, true, true, true, true, true, true, false, false, false, false, false] rfl rfl rfl (by kernel_rfl) (by kernel_rfl) (by kernel_rfl) (fun _ _ _ h => h) (by decide) ?ry162 (fun _ => p2) ?rm162
                      case ry162 => first | exact Or.inl ⟨by rfl, by intro w'; go_simp; first | done | rfl⟩
                      case rm162 =>
                      simp only [Act.put, List.setIfInBounds_toArray, List.set_cons_zero, List.set_cons_succ]
                      refine anyT_put 19 63 ?rv163 #[true, true, true, true, true, true, true, true, true, true, true, true, true, true, true, true, true, true, true, true, false, false, false, false] rfl rfl rfl (by kernel_rfl) (by kernel_rfl) (by kernel_rfl) (fun _ _ _ h => h) (by decide) ?ry163 (fun _ => p2) ?rm163
                      case ry163 => first | exact Or.inl ⟨by rfl, by intro w'; go_simp; first | done | rfl⟩
                      case rm163 =>
                      simp only [Act.put, List.setIfInBounds_toArray, List.set_cons_zero, List.set_cons_succ]
                      refine anyT_put 20 64 ?rv164 #[true, true, true, true, true, true, true, true, true, true, true, true, true, true, true, true, true, true, true, true, true, false, false, false] rfl rfl rfl (by kernel_rfl) (by kernel_rfl) (by kernel_rfl) (fun _ _ _ h => h) (by decide) ?ry164 (fun _ => p2) ?rm164
                      case ry164 => first | exact Or.inl ⟨by rfl, by intro w'; go_simp; first | done | rfl⟩
                      case rm164 =>
                      simp only [Act.put, List.setIfInBounds_toArray, List.set_cons_zero, List.set_cons_succ]
                      refine anyT_put 21 65 ?rv165 #[true, true, true, true, true, true, true, true, true, true, true, true, true, true, true, true, true, true, true, true, true, true, false, false] rfl rfl rfl (by kernel_rfl) (by kernel_rfl) (by kernel_rfl) (fun _ _ _ h => h) (by decide) ?ry165 (fun _ => p2) ?rm165
                      case ry165 => first | exact Or.inl ⟨by rfl, by intro w'; go_simp; first | done | rfl⟩
                      case rm165 =>
                      simp only [Act.put, List.setIfInBounds_toArray, List.set_cons_zero, List.set_cons_succ]
                      refine anyT_one 22 #[true, true, true, true, true, true, true, true, true, true, true, true, true, true, true, true, true, true, true, true, true, true, true, false] (by kernel_rfl) rfl rfl (fun K hK => ?_)
                      go_simp
                      go_wp2_with fail
                      refine (cmp_l10 AX (dc - K0) (rwL dz lo j) lo HLL.out.1 AY (dc - J0) (rwL dz lo k) lo HLL.out.2 0 HCC.out rfl (by omega) w.heap.size wr.drew HIX.out.1 HIX.out.2).mono ?_
                      rintro e v9 ⟨rfl, hB9⟩
                      have HB9 : Hid (Below wr.heap.size wr v9) := (Below.refl _ wr).drew.trans hB9
                      have q2 : v9.cell? ⟨w.heap.size, 2, none⟩ = some (.slice da D dc) := (HB9.out.cell (p := ⟨w.heap.size, 2, none⟩) HA.out.lt).trans p2
                      clear hB9
                      refine hK.out _ _ (fun _ => q2) ?_
                      clear hK K
                      refine anyT_one 23 #[true, true, true, true, true, true, true, true, true, true, true, true, true, true, true, true, true, true, true, true, true, true, true, true] (by kernel_rfl) rfl rfl (fun K hK => ?_)
                      go_simp
                      refine hK.out _ _ (fun h => absurd h (by decide)) ?_
                      clear hK K
                      refine anyT_done (by kernel_rfl) ?_
                      go_wp2_with fail
                      exact ⟨⟨j + 1, by omega, by go_num, by rw [ahT_no HLt.out, HM.out], HBj.out.trans (HB9.out.mono HBj.out.size)⟩, by simp [intOf]; omega⟩
                  · have t1 : C ≤ 0 := by omega
                    have HLt : Hid (ltR true dz lo j k = false) := by
                      show _ = _
                      have hcm := HCM.out
                      simp only [if_true] at hcm
                      rw [← Bool.not_eq_true, ltR_iff, hcm]; omega
                    clear hc1
                    go_wp2_with fail
                    refine anyT_begin 23 (fun w' => w'.cell? ⟨w.heap.size, 2, none⟩ = some (.slice da D dc)) 24 #[false, false, false, false, false, false, false, false, false, false, false, false, false, false, false, false, false, false, false, false, false, false, false, false] (by kernel_rfl) rfl rfl ?_
                    refine anyT_put 0 44 ?rv168 #[true, false, false, false, false, false, false, false, false, false, false, false, false, false, false, false, false, false, false, false, false, false, false, false] rfl rfl rfl (by kernel_rfl) (by kernel_rfl) (by kernel_rfl) (fun _ _ _ h => h) (by decide) ?ry168 (fun _ => p2) ?rm168
                    case ry168 => first | exact Or.inl ⟨by rfl, by intro w'; go_simp; first | done | rfl⟩
                    case rm168 =>
                    simp only [Act.put, List.setIfInBounds_toArray, List.set_cons_zero, List.set_cons_succ]
                    refine anyT_take 1 45 ?rv169 #[true, true, false, false, false, false, false, false, false, false, false, false, false, false, false, false, false, false, false, false, false, false, false, false] rfl rfl rfl (by kernel_rfl) (by kernel_rfl) (by kernel_rfl) (fun _ _ _ h => h) (by kernel_rfl) (by decide) (by kernel_rfl) ?ry169 (p2) ?rm169
                    case ry169 => first | exact Or.inl ⟨by rfl, by intro w' hw'; (try dsimp only at hw'); go_simp; first | done | rfl⟩
                    case rm169 =>
                    simp only [Act.put, List.setIfInBounds_toArray, List.set_cons_zero, List.set_cons_succ]
                    refine anyT_put 2 46 ?rv170 #[true, true, true, false, false, false, false, false, false, false, false, false, false, false, false, false, false, false, false, false, false, false, false, false] rfl rfl rfl (by kernel_rfl) (by kernel_rfl) (by kernel_rfl) (fun _ _ _ h => h) (by decide) ?ry170 (fun _ => p2) ?rm170
                    case ry170 => first | exact Or.inl ⟨by rfl, by intro w'; go_simp; first | done | rfl⟩
                    case rm170 =>
                    simp only [Act.put, List.setIfInBounds_toArray, List.set_cons_zero, List.set_cons_succ]
                    refine anyT_put 3 47 ?rv171 #[true, true, true, true, false, false, false, false, false, false, false, false, false, false, false, false, false, false, false, false, false, false, false, false] rfl rfl rfl (by kernel_rfl) (by kernel_rfl) (by kernel_rfl) (fun _ _ _ h => h) (by decide) ?ry171 (fun _ => p2) ?rm171
                    case ry171 => first | exact Or.inl ⟨by rfl, by intro w'; go_simp; first | done | rfl⟩
                    case rm171 =>
                    simp only [Act.put, List.setIfInBounds_toArray, List.set_cons_zero, List.set_cons_succ]
                    refine anyT_put 4 48 ?rv172 #[true, true, true, true, true, false, false, false, false, false, false, false, false, false, false, false, false, false, false, false, false, false, false, false] rfl rfl rfl (by kernel_rfl) (by kernel_rfl) (by kernel_rfl) (fun _ _ _ h => h) (by decide) ?ry172 (fun _ => p2) ?rm172
                    case ry172 => first | exact Or.inl ⟨by rfl, by intro w'; go_simp; first | done | rfl⟩
                    case rm172 =>
                    simp only [Act.put, List.setIfInBounds_toArray, List.set_cons_zero, List.set_cons_succ]
                    refine anyT_put 5 49 ?rv173 #[true, true, true, true, true, true, false, false, false, false, false, false, false, false, false, false, false, false, false, false, false, false, false, false] rfl rfl rfl (by kernel_rfl) (by kernel_rfl) (by kernel_rfl) (fun _ _ _ h => h) (by decide) ?ry173 (fun _ => p2) ?rm173
                    case ry173 => first | exact Or.inl ⟨by rfl, by intro w'; go_simp; first | done | rfl⟩
                    case rm173 =>
                    simp only [Act.put, List.setIfInBounds_toArray, List.set_cons_zero, List.set_cons_succ]
                    refine anyT_put 6 50 ?rv174 #[true, true, true, true, true, true, true, false, false, false, false, false, false, false, false, false, false, false, false, false, false, false, false, false] rfl rfl rfl (by kernel_rfl) (by kernel_rfl) (by kernel_rfl) (fun _ _ _ h => h) (by decide) ?ry174 (fun _ => p2) ?rm174
                    case ry174 => first | exact Or.inl ⟨by rfl, by intro w'; go_simp; first | done | rfl⟩
                    case rm174 =>
                    simp only [Act.put, List.setIfInBounds_toArray, List.set_cons_zero, List.set_cons_succ]
                    refine anyT_put 7 51 ?rv175 #[true, true, true, true, true, true, true, true, false, false, false, false, false, false, false, false, false, false, false, false, false, false, false, false] rfl rfl rfl (by kernel_rfl) (by kernel_rfl) (by kernel_rfl) (fun _ _ _ h => h) (by decide) ?ry175 (fun _ => p2) ?rm175
                    case ry175 => first | exact Or.inl ⟨by rfl, by intro w'; go_simp; first | done | rfl⟩
                    case rm175 =>
                    simp only [Act.put, List.setIfInBounds_toArray, List.set_cons_zero, List.set_cons_succ]
                    refine anyT_put 8 52 ?rv176 #[true, true, true, true, true, true, true, true, true, false, false, false, false, false, false, false, false, false, false, false, false, false, false, false] rfl rfl rfl (by kernel_rfl) (by kernel_rfl) (by kernel_rfl) (fun _ _ _ h => h) (by decide) ?ry176 (fun _ => p2) ?rm176
                    case ry176 => first | exact Or.inl ⟨by rfl, by intro w'; go_simp; first | done | rfl⟩
                    case rm176 =>
                    simp only [Act.put, List.setIfInBounds_toArray, List.set_cons_zero, List.set_cons_succ]
                    refine anyT_put 9 53 ?rv177 #[true, true, true, true, true, true, true, true, true, true, false, false, false, false, false, false, false, false, false, false, false, false, false, false] rfl rfl rfl (by kernel_rfl) (by kernel_rfl) (by kernel_rfl) (fun _ _ _ h => h) (by decide) ?ry177 (fun _ => p2) ?rm177
                    case ry177 => first | exact Or.inl ⟨by rfl, by intro w'; go_simp; first | done | rfl⟩
                    case rm177 =>
                    simp only [Act.put, List.setIfInBounds_toArray, List.set_cons_zero, List.set_cons_succ]
                    refine anyT_put 10 54 ?rv178 #[true, true, true, true, true, true, true, true, true, true, true, false, false, false, false, false, false, false, false, false, false, false, false, false] rfl rfl rfl (by kernel_rfl) (by kernel_rfl) (by kernel_rfl) (fun _ _ _ h => h) (by decide) ?ry178 (fun _ => p2) ?rm178
                    case ry178 => first | exact Or.inl ⟨by rfl, by intro w'; go_simp; first | done | rfl⟩
                    case rm178 =>
                    simp only [Act.put, List.setIfInBounds_toArray, List.set_cons_zero, List.set_cons_succ]
                    refine anyT_put 11 55 ?rv179 #[true, true, true, true, true, true, true, true, true, true, true, true, false, false, false, false, false, false, false, false, false, false, false, false] rfl rfl rfl (by kernel_rfl) (by kernel_rfl) (by kernel_rfl) (fun _ _ _ h => h) (by decide) ?ry179 (fun _ => p2) ?rm179
                    case ry179 => first | exact Or.inl ⟨by rfl, by intro w'; go_simp; first | done | rfl⟩
                    case rm179 =>
                    simp only [Act.put, List.setIfInBounds_toArray, List.set_cons_zero, List.set_cons_succ]
                    refine anyT_take 12 56 ?rv180 #[true, true, true, true, true, true, true, true, true, true, true, true, true, false, false, false, false, false, false, false, false, false, false, false] rfl rfl rfl (by kernel_rfl) (by kernel_rfl) (by kernel_rfl) (fun _ _ _ h => h) (by kernel_rfl) (by decide) (by kernel_rfl) ?ry180 (p2) ?rm180
                    case ry180 => first | exact Or.inl ⟨by rfl, by intro w' hw'; (try dsimp only at hw'); go_simp; first | done | rfl⟩
                    case rm180 =>
                    simp only [Act.put, List.setIfInBounds_toArray, List.set_cons_zero, List.set_cons_succ]
                    refine anyT_put 13 57 ?rv181 #[true, true, true, true, true, true, true, true, true, true, true, true, true, true, false, false, false, false, false, false, false, false, false, false] rfl rfl rfl (by kernel_rfl) (by kernel_rfl) (by kernel_rfl) (fun _ _ _ h => h) (by decide) ?ry181 (fun _ => p2) ?rm181
                    case ry181 => first | exact Or.inl ⟨by rfl, by intro w'; go_simp; first | done | rfl⟩
                    case rm181 =>
                    simp only [Act.put, List.setIfInBounds_toArray, List.set_cons_zero, List.set_cons_succ]
                    refine anyT_put 14 58 ?rv182 #[true, true, true, true, true, true, true, true, true, true, true, true, true, true, true, false, false, false, false, false, false, false, false, false] rfl rfl rfl (by kernel_rfl) (by kernel_rfl) (by kernel_rfl) (fun _ _ _ h => h) (by decide) ?ry182 (fun _ => p2) ?rm182
                    case ry182 => first | exact Or.inl ⟨by rfl, by intro w'; go_simp; first | done | rfl⟩
                    case rm182 =>
                    simp only [Act.put, List.setIfInBounds_toArray, List.set_cons_zero, List.set_cons_succ]
                    refine anyT_put 15 59 ?rv183 #[true, true, true, true, true, true, true, true, true, true, true, true, true, true, true, true, false, false, false, false, false, false, false, false] rfl rfl rfl (by kernel_rfl) (by kernel_rfl) (by kernel_rfl) (fun _ _ _ h => h) (by decide) ?ry183 (fun _ => p2) ?rm183
                    case ry183 => first | exact Or.inl ⟨by rfl, by intro w'; go_simp; first | done | rfl⟩
                    case rm183 =>
                    simp only [Act.put, List.setIfInBounds_toArray, List.set_cons_zero, List.set_cons_succ]
                    refine anyT_put 16 60 ?rv184 #[true, true, true, true, true, true, true, true, true, true, true, true, true, true, true, true, true, false, false, false, false, false, false, false] rfl rfl rfl (by kernel_rfl) (by kernel_rfl) (by kernel_rfl) (fun _ _ _ h => h) (by decide) ?ry184 (fun _ => p2) ?rm184
                    case ry184 => first | exact Or.inl ⟨by rfl, by intro w'; go_simp; first | done | rfl⟩
                    case rm184 =>
                    simp only [Act.put, List.setIfInBounds_toArray, List.set_cons_zero, List.set_cons_succ]
                    refine anyT_put 17 61 ?rv185 #[true, true, true, true, true, true, true, true, true, true, true, true, true, true, true, true, true, true, false, false, false, false, false, false] rfl rfl rfl (by kernel_rfl) (by kernel_rfl) (by kernel_rfl) (fun _ _ _ h => h) (by decide) ?ry185 (fun _ => p2) ?rm185
                    case ry185 => first | exact Or.inl ⟨by rfl, by intro w'; go_simp; first | done | rfl⟩
                    case rm185 =>
                    simp only [Act.put, List.setIfInBounds_toArray, List.set_cons_zero, List.set_cons_succ]
                    refine anyT_put 18 62 ?rv186 #[true, true, true, true, true, true, true, true, true, true, true, true, true, true, true, true, true, true, true, false, false, false, false, false] rfl rfl rfl (by kernel_rfl) (by kernel_rfl) (by kernel_rfl) (fun _ _ _ h => h) (by decide) ?ry186 (fun _ => p2) ?rm186
                    case ry186 => first | exact Or.inl ⟨by rfl, by intro w'; go_simp; first | done | rfl⟩
                    case rm186 =>
                    simp only [Act.put, List.setIfInBounds_toArray, List.set_cons_zero, List.set_cons_succ]
                    refine anyT_put 19 63 ?rv187 #[true, true, true, true, true, true, true, true, true, true, true, true, true, true, true, true, true, true, true, true, false, false, false, false] rfl rfl rfl (by kernel_rfl) (by kernel_rfl) (by kernel_rfl) (fun _ _ _ h => h) (by decide) ?ry187 (fun _ => p2) ?rm187
                    case ry187 => first | exact Or.inl ⟨by rfl, by intro w'; go_simp; first | done | rfl⟩
                    case rm187 =>
                    simp only [Act.put, List.setIfInBounds_toArray, List.set_cons_zero, List.set_cons_succ]
                    refine anyT_put 20 64 ?rv188 #[true, true, true, true, true, true, true, true, true, true, true, true, true, true, true, true, true, true, true, true, true, false, false, false] rfl rfl rfl (by kernel_rfl) (by kernel_rfl) (by kernel_rfl) (fun _ _ _ h => h) (by decide) ?ry188 (fun _ => p2) ?rm188
                    case ry188 => first | exact Or.inl ⟨by rfl, by intro w'; go_simp; first | done | rfl⟩
                    case rm188 =>
                    simp only [Act.put, List.setIfInBounds_toArray, List.set_cons_zero, List.set_cons_succ]
                    refine anyT_put 21 65 ?rv189 #[true, true, true, true, true, true, true, true, true, true, true, true, true, true, true, true, true, true, true, true, true, true, false, false] rfl rfl rfl (by kernel_rfl) (by kernel_rfl) (by kernel_rfl) (fun _ _ _ h => h) (by decide) ?ry189 (fun _ => p2) ?rm189
                    case ry189 => first | exact Or.inl ⟨by rfl, by intro w'; go_simp; first | done | rfl⟩
                    case rm189 =>
                    simp only [Act.put, List.setIfInBounds_toArray, List.set_cons_zero, List.set_cons_succ]
                    refine anyT_one 22 #[true, true, true, true, true, true, true, true, true, true, true, true, true, true, true, true, true, true, true, true, true, true, true, false] (by kernel_rfl) rfl rfl (fun K hK => ?_)
                    go_simp
                    go_wp2_with fail
                    refine (cmp_l10 AX (dc - K0) (rwL dz lo j) lo HLL.out.1 AY (dc - J0) (rwL dz lo k) lo HLL.out.2 C HCC.out rfl (by omega) w.heap.size wr.drew HIX.out.1 HIX.out.2).mono ?_
                    rintro e v9 ⟨rfl, hB9⟩
                    have HB9 : Hid (Below wr.heap.size wr v9) := (Below.refl _ wr).drew.trans hB9
                    have q2 : v9.cell? ⟨w.heap.size, 2, none⟩ = some (.slice da D dc) := (HB9.out.cell (p := ⟨w.heap.size, 2, none⟩) HA.out.lt).trans p2
                    clear hB9
                    refine hK.out _ _ (fun _ => q2) ?_
                    clear hK K
                    refine anyT_one 23 #[true, true, true, true, true, true, true, true, true, true, true, true, true, true, true, true, true, true, true, true, true, true, true, true] (by kernel_rfl) rfl rfl (fun K hK => ?_)
                    go_simp
                    refine hK.out _ _ (fun h => absurd h (by decide)) ?_
                    clear hK K
                    refine anyT_done (by kernel_rfl) ?_
                    go_wp2_with fail
                    exact ⟨⟨j + 1, by omega, by go_num, by rw [ahT_no HLt.out, HM.out], HBj.out.trans (HB9.out.mono HBj.out.size)⟩, by simp [intOf]; omega⟩
            · obtain rfl : j = n := by omega
              have HAh : Hid (ahT (ltR dn dz lo) k j = ahd (ltR dn dz lo) j k) := rfl
              have hAn := ahd_lt HT.out hkn
              have hrow : wr.rowIs u.heap.size 3 j (zc (gdU (ltR dn dz lo) j k)) := HRk.out.of_block (hBj.block u.heap.size hSz)
              have HRN : Hid ((wr.setCell ⟨u.heap.size, ahd (ltR dn dz lo) j k, none⟩ (.int .i64 (k : Int))).rowIs u.heap.size 3 j (zc (gdU (ltR dn dz lo) j (k + 1)))) := by rw [← gdU_next HT.out hkn]; exact zc_put hrow (gdU_length _) hAn _
              rw [HAh.out]
              generalize ahd (ltR dn dz lo) j k = Ah at *
              have cA := hrow.cell hAn
              have fA := hrow.frozen Ah
              unfold zc at cA
              clear hrow hBj hal
              go_wp2_with fail
              exact ⟨⟨k + 1, by omega, by go_num, HRN.out, HBu.out.setCell (p := ⟨u.heap.size, Ah, none⟩) (Nat.le_refl _) _⟩, by simp [intOf]; omega⟩
        · obtain rfl : k = n := by omega
          have HN : Hid (NewC w.heap.size wo (some ⟨u.heap.size, 0, none⟩) (grd (ltR dn dz lo) k) k) := by
            have h := HRk.out
            rw [gdU_all HT.out] at h
            exact ⟨.inr ⟨u.heap.size, 0, rfl, HB2.out.size, h.lt, fun j hj => by rw [Nat.zero_add]; rw [grd_length] at hj; exact h.cell hj, fun j => h.frozen _⟩, by rw [grd_length]; exact Nat.le_refl _⟩
          have HBw : Hid (Below w.heap.size w wo) := HB2.out.trans (HBk.out.mono HB2.out.size)
          go_wp2_with fail
          go_ret2
          rw [HG.out, H3.out, onL_ok rfl]
          exact ⟨_, k, by rw [grd_length]; rfl, HN.out, HBw.out⟩
  · have HE : Hid (gdE c sz dz = flawE c sz dz) := gdE_flaw h3
    have H3 : Hid (flawE c sz dz ≠ 0) := h3
    have hb : (flawE c sz dz == 0) = false := by rw [beq_eq_false_iff_ne]; exact h3
    clear h3
    generalize flawE c sz dz = E at *
    go_wp2_with fail
    go_ret2
    rw [HE.out]
    exact UG.no H3.out HB1.out
end Go.Proofs.YteddkfeiikdekaaDoor
