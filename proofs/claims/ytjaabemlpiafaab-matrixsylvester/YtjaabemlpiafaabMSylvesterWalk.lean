/-
  The walk of the statement MatrixSylvester, given what the program tells.
-/
import Derived.Test.YtjaabemlpiafaabMtb
import Derived.Test.YtjaabemlpiafaabMgu
import Derived.Test.YtjaabemlpiafaabMidc
namespace Go.Proofs.Ytjaabemlpiafaab
open Go.RowKit
set_option linter.unusedVariables false

theorem ints14 (n : Nat) (a b : Option Addr) (zs us : List Int) (h : zs = us) (hl : zs.length = n + 1) (hn : n ≤ 6) (w : World) (hI : IsInts w.heap.size w a zs) (hI' : IsInts w.heap.size w b us) :
    Calls Try.prog 14 #[.slice a (n + 1) (n + 1), .slice b (n + 1) (n + 1)] w fun e w' => e = .returned (.bool true) ∧ Below w.heap.size w w' := by
  subst h
  have := ints_any a (n + 1) zs b (n + 1) zs (by omega) w.heap.size w hI hI'
  rwa [eqB_true rfl, hl] at this
theorem ch_syl (n : Nat) (dz dz' : List Int) : chR n (rdg n (mmL n dz dz')) = chR n (rdg n (mmL n dz' dz)) := by
  unfold chR
  refine List.map_congr_left fun t _ => ?_
  have h1 : cg (chc n (rdg n (mmL n dz dz')) (n - t)) (chc n (mm n (rdg n dz) (rdg n dz')) (n - t)) := cg.chc (fun i hi j hj => by unfold mmL; rw [rdg_cls hi hj]; exact cg_w _) _
  have h2 : cg (chc n (rdg n (mmL n dz' dz)) (n - t)) (chc n (mm n (rdg n dz') (rdg n dz)) (n - t)) := cg.chc (fun i hi j hj => by unfold mmL; rw [rdg_cls hi hj]; exact cg_w _) _
  rw [sylvester n _ _ (by omega)] at h1
  exact h1.trans h2.symm
theorem shp14 {w v : World} {b o n sc : Nat} (h : IsC w.heap.size w (some ⟨b, o, none⟩) [(n : Int), (n : Int)] sc) (hB : Below w.heap.size w v) : b < w.heap.size ∧ v.cell? ⟨b, o, none⟩ = some (.int .i64 (n : Int)) := by
  obtain ⟨b', o', e, hb, hc⟩ := (h.1.below hB).at (q := 0) (by simp)
  cases e
  have h0 := hc 0 (by simp)
  rw [Nat.add_zero] at h0
  exact ⟨hb, h0⟩
theorem opn14 {w : World} {sa : Option Addr} {n sc : Nat} (h : IsC w.heap.size w sa [(n : Int), (n : Int)] sc) : ∃ b o, sa = some ⟨b, o, none⟩ := by
  obtain ⟨b, o, e, _, _⟩ := h.1.at (q := 0) (by simp)
  exact ⟨b, o, e⟩
set_option maxRecDepth 100000 in
set_option maxHeartbeats 2000000 in
theorem sylv_a (HNi : CNi) (c1 : Bool) (sa1 : Option Addr) (sc1 : Nat) (sz1 : List Int) (da1 : Option Addr) (dc1 : Nat) (dz1 : List Int) (c2 : Bool) (sa2 : Option Addr) (sc2 : Nat) (sz2 : List Int) (da2 : Option Addr) (dc2 : Nat) (dz2 : List Int) (w : World) (w8 : IsArrD w sa1 sz1 sc1 da1 dz1 dc1) (w9 : IsArrD w sa2 sz2 sc2 da2 dz2 dc2) (G1 : Hid (¬ SqP c1 sz1 dz1)) :
    Calls Try.prog 7 #[.agg #[.bool c1, .slice sa1 sz1.length sc1, .slice da1 dz1.length dc1], .agg #[.bool c2, .slice sa2 sz2.length sc2, .slice da2 dz2.length dc2]] w fun e w' => e = .returned (.bool true) ∧ Below w.heap.size w w' := by
  have HI1 : Hid (IsC w.heap.size w sa1 sz1 sc1 ∧ IsC w.heap.size w da1 dz1 dc1) := ⟨w8.2.2.1, w8.2.2.2.1⟩
  have HI2 : Hid (IsC w.heap.size w sa2 sz2 sc2 ∧ IsC w.heap.size w da2 dz2 dc2) := ⟨w9.2.2.1, w9.2.2.2.1⟩
  have n1 := Abx.new w (.bool c1) (.slice sa1 sz1.length sc1) (.slice da1 dz1.length dc1)
  have n2 := Abx.new (w.alloc (.cells #[.bool c1, .slice sa1 sz1.length sc1, .slice da1 dz1.length dc1] 24)) (.bool c2) (.slice sa2 sz2.length sc2) (.slice da2 dz2.length dc2)
  simp only [World.size_alloc] at n2
  go_enter Try.func7, Try.ntmps7
  go_wp2_with fail
  obtain ⟨wo3, hwo3⟩ : ∃ wo3, wo3 = ((w.alloc (.cells #[.bool c1, .slice sa1 sz1.length sc1, .slice da1 dz1.length dc1] 24)).alloc (.cells #[.bool c2, .slice sa2 sz2.length sc2, .slice da2 dz2.length dc2] 24)) := ⟨_, rfl⟩
  rw [← hwo3]
  have z4 : w.heap.size + 1 + 1 ≤ wo3.heap.size := by rw [hwo3]; simp only [World.size_alloc]; omega
  have B5 : Hid (Abx wo3 (w.heap.size) (.bool c1) (.slice sa1 sz1.length sc1) (.slice da1 dz1.length dc1)) := by rw [hwo3]; exact (n1.al (.cells #[.bool c2, .slice sa2 sz2.length sc2, .slice da2 dz2.length dc2] 24))
  have B6 : Hid (Abx wo3 (w.heap.size + 1) (.bool c2) (.slice sa2 sz2.length sc2) (.slice da2 dz2.length dc2)) := by rw [hwo3]; exact n2
  have hb7 : Hid (Below w.heap.size w wo3) := by rw [hwo3]; exact (((Below.refl w.heap.size w).alloc (by omega) (.cells #[.bool c1, .slice sa1 sz1.length sc1, .slice da1 dz1.length dc1] 24)).alloc (by simp only [World.size_alloc]; omega) (.cells #[.bool c2, .slice sa2 sz2.length sc2, .slice da2 dz2.length dc2] 24))
  have zwo3 : w.heap.size ≤ wo3.heap.size := hb7.out.size
  clear hwo3 n1 n2
  refine (fact14_any _).mono ?_
  rintro e v1 ⟨rfl, hB⟩
  have z8 : wo3.heap.size ≤ v1.heap.size := hB.size
  have B9 : Hid (Abx v1 (w.heap.size) (.bool c1) (.slice sa1 sz1.length sc1) (.slice da1 dz1.length dc1)) := B5.out.go hB
  have B10 : Hid (Abx v1 (w.heap.size + 1) (.bool c2) (.slice sa2 sz2.length sc2) (.slice da2 dz2.length dc2)) := B6.out.go hB
  have hb11 : Hid (Below w.heap.size w v1) := hb7.out.trans (hB.mono hb7.out.size)
  clear hB hb7 B5 B6
  have l12 := (B9.out).c0
  have l13 := (B9.out).c1
  have l14 := (B9.out).c2
  go_wp2_with fail
  clear l12 l13 l14
  refine (square_no c1 sa1 sc1 sz1 da1 dc1 dz1 _ ((HI1.out.1.below hb11.out).mono hb11.out.size).1 G1.out).mono ?_
  rintro e v2 ⟨rfl, hB⟩
  have z15 : v1.heap.size ≤ v2.heap.size := hB.size
  have B16 : Hid (Abx v2 (w.heap.size) (.bool c1) (.slice sa1 sz1.length sc1) (.slice da1 dz1.length dc1)) := B9.out.go hB
  have B17 : Hid (Abx v2 (w.heap.size + 1) (.bool c2) (.slice sa2 sz2.length sc2) (.slice da2 dz2.length dc2)) := B10.out.go hB
  have hb18 : Hid (Below w.heap.size w v2) := hb11.out.trans (hB.mono hb11.out.size)
  clear hB hb11 B9 B10
  have l19 := (B17.out).c0
  have l20 := (B17.out).c1
  have l21 := (B17.out).c2
  go_wp2_with fail
  clear l19 l20 l21
  by_cases h2 : SqP c2 sz2 dz2
  · refine (sqy_any c2 sa2 sc2 sz2 da2 dc2 dz2 _ ((HI2.out.1.below hb18.out).mono hb18.out.size).1 h2).mono ?_
    rintro e v3 ⟨rfl, hB⟩
    have z22 : v2.heap.size ≤ v3.heap.size := hB.size
    have B23 : Hid (Abx v3 (w.heap.size) (.bool c1) (.slice sa1 sz1.length sc1) (.slice da1 dz1.length dc1)) := B16.out.go hB
    have B24 : Hid (Abx v3 (w.heap.size + 1) (.bool c2) (.slice sa2 sz2.length sc2) (.slice da2 dz2.length dc2)) := B17.out.go hB
    have hb25 : Hid (Below w.heap.size w v3) := hb18.out.trans (hB.mono hb18.out.size)
    clear hB hb18 B16 B17
    go_wp2_with fail
    have hb0r1 : Below v3.heap.size v3 v3.drew := (Below.refl _ v3).drew
    refine anyC_begin (fun w' => True) 17 #[false, false, false, false, false, false, false, false, false, false, false, false, false, false, false, false, false] (by kernel_rfl) rfl rfl ?_
    refine anyC_put 0 28 ?rv0 #[true, false, false, false, false, false, false, false, false, false, false, false, false, false, false, false, false] rfl rfl rfl (by kernel_rfl) (by kernel_rfl) (by kernel_rfl) (fun _ _ _ h => h) ?ry0 (trivial) ?rm0
    case ry0 => first | exact Or.inl ⟨by rfl, by intro w'; go_simp; first | done | rfl⟩
    case rm0 =>
    simp only [Act.put, List.setIfInBounds_toArray, List.set_cons_zero, List.set_cons_succ]
    refine anyC_put 1 29 ?rv1 #[true, true, false, false, false, false, false, false, false, false, false, false, false, false, false, false, false] rfl rfl rfl (by kernel_rfl) (by kernel_rfl) (by kernel_rfl) (fun _ _ _ h => h) ?ry1 (trivial) ?rm1
    case ry1 => first | exact Or.inl ⟨by rfl, by intro w'; go_simp; first | done | rfl⟩
    case rm1 =>
    simp only [Act.put, List.setIfInBounds_toArray, List.set_cons_zero, List.set_cons_succ]
    refine anyC_put 2 30 ?rv2 #[true, true, true, false, false, false, false, false, false, false, false, false, false, false, false, false, false] rfl rfl rfl (by kernel_rfl) (by kernel_rfl) (by kernel_rfl) (fun _ _ _ h => h) ?ry2 (trivial) ?rm2
    case ry2 => first | exact Or.inl ⟨by rfl, by intro w'; go_simp; first | done | rfl⟩
    case rm2 =>
    simp only [Act.put, List.setIfInBounds_toArray, List.set_cons_zero, List.set_cons_succ]
    refine anyC_put 3 31 ?rv3 #[true, true, true, true, false, false, false, false, false, false, false, false, false, false, false, false, false] rfl rfl rfl (by kernel_rfl) (by kernel_rfl) (by kernel_rfl) (fun _ _ _ h => h) ?ry3 (trivial) ?rm3
    case ry3 => first | exact Or.inl ⟨by rfl, by intro w'; go_simp; first | done | rfl⟩ | exact Or.inr ⟨by rfl, rfl⟩ | exact Or.inr ⟨by rfl, by rfl⟩
    case rm3 =>
    simp only [Act.put, List.setIfInBounds_toArray, List.set_cons_zero, List.set_cons_succ]
    refine anyC_put 4 32 ?rv4 #[true, true, true, true, true, false, false, false, false, false, false, false, false, false, false, false, false] rfl rfl rfl (by kernel_rfl) (by kernel_rfl) (by kernel_rfl) (fun _ _ _ h => h) ?ry4 (trivial) ?rm4
    case ry4 => first | exact Or.inl ⟨by rfl, by intro w'; go_simp; first | done | rfl⟩ | exact Or.inr ⟨by rfl, rfl⟩ | exact Or.inr ⟨by rfl, by rfl⟩
    case rm4 =>
    simp only [Act.put, List.setIfInBounds_toArray, List.set_cons_zero, List.set_cons_succ]
    refine anyC_put 5 33 ?rv5 #[true, true, true, true, true, true, false, false, false, false, false, false, false, false, false, false, false] rfl rfl rfl (by kernel_rfl) (by kernel_rfl) (by kernel_rfl) (fun _ _ _ h => h) ?ry5 (trivial) ?rm5
    case ry5 => first | exact Or.inl ⟨by rfl, by intro w'; go_simp; first | done | rfl⟩
    case rm5 =>
    simp only [Act.put, List.setIfInBounds_toArray, List.set_cons_zero, List.set_cons_succ]
    refine anyC_put 6 34 ?rv6 #[true, true, true, true, true, true, true, false, false, false, false, false, false, false, false, false, false] rfl rfl rfl (by kernel_rfl) (by kernel_rfl) (by kernel_rfl) (fun _ _ _ h => h) ?ry6 (trivial) ?rm6
    case ry6 => first | exact Or.inl ⟨by rfl, by intro w'; go_simp; first | done | rfl⟩
    case rm6 =>
    simp only [Act.put, List.setIfInBounds_toArray, List.set_cons_zero, List.set_cons_succ]
    refine anyC_put 7 35 ?rv7 #[true, true, true, true, true, true, true, true, false, false, false, false, false, false, false, false, false] rfl rfl rfl (by kernel_rfl) (by kernel_rfl) (by kernel_rfl) (fun _ _ _ h => h) ?ry7 (trivial) ?rm7
    case ry7 => first | exact Or.inl ⟨by rfl, by intro w'; go_simp; first | done | rfl⟩ | exact Or.inr ⟨by rfl, rfl⟩ | exact Or.inr ⟨by rfl, by rfl⟩
    case rm7 =>
    simp only [Act.put, List.setIfInBounds_toArray, List.set_cons_zero, List.set_cons_succ]
    refine anyC_take 8 36 ?rv8 #[true, true, true, true, true, true, true, true, true, false, false, false, false, false, false, false, false] rfl rfl rfl (by kernel_rfl) (by kernel_rfl) (by kernel_rfl) (fun _ _ _ h => h) ?ry8 (trivial) ?rm8
    case ry8 => first | exact Or.inl ⟨by rfl, by intro w' hw'; (try dsimp only at hw'); go_simp; first | done | rfl⟩ | exact Or.inr ⟨by rfl, rfl⟩ | exact Or.inr ⟨by rfl, by rfl⟩
    case rm8 =>
    simp only [Act.put, List.setIfInBounds_toArray, List.set_cons_zero, List.set_cons_succ]
    refine anyC_put 9 37 ?rv9 #[true, true, true, true, true, true, true, true, true, true, false, false, false, false, false, false, false] rfl rfl rfl (by kernel_rfl) (by kernel_rfl) (by kernel_rfl) (fun _ _ _ h => h) ?ry9 (trivial) ?rm9
    case ry9 => first | exact Or.inl ⟨by rfl, by intro w'; go_simp; first | done | rfl⟩ | exact Or.inr ⟨by rfl, rfl⟩ | exact Or.inr ⟨by rfl, by rfl⟩
    case rm9 =>
    simp only [Act.put, List.setIfInBounds_toArray, List.set_cons_zero, List.set_cons_succ]
    refine anyC_take 10 38 ?rv10 #[true, true, true, true, true, true, true, true, true, true, true, false, false, false, false, false, false] rfl rfl rfl (by kernel_rfl) (by kernel_rfl) (by kernel_rfl) (fun _ _ _ h => h) ?ry10 (trivial) ?rm10
    case ry10 => first | exact Or.inl ⟨by rfl, by intro w' hw'; (try dsimp only at hw'); go_simp; first | done | rfl⟩ | exact Or.inr ⟨by rfl, rfl⟩ | exact Or.inr ⟨by rfl, by rfl⟩
    case rm10 =>
    simp only [Act.put, List.setIfInBounds_toArray, List.set_cons_zero, List.set_cons_succ]
    refine anyC_put 11 39 ?rv11 #[true, true, true, true, true, true, true, true, true, true, true, true, false, false, false, false, false] rfl rfl rfl (by kernel_rfl) (by kernel_rfl) (by kernel_rfl) (fun _ _ _ h => h) ?ry11 (trivial) ?rm11
    case ry11 => first | exact Or.inl ⟨by rfl, by intro w'; go_simp; first | done | rfl⟩ | exact Or.inr ⟨by rfl, rfl⟩ | exact Or.inr ⟨by rfl, by rfl⟩
    case rm11 =>
    simp only [Act.put, List.setIfInBounds_toArray, List.set_cons_zero, List.set_cons_succ]
    refine anyC_take 12 40 ?rv12 #[true, true, true, true, true, true, true, true, true, true, true, true, true, false, false, false, false] rfl rfl rfl (by kernel_rfl) (by kernel_rfl) (by kernel_rfl) (fun _ _ _ h => h) ?ry12 (trivial) ?rm12
    case ry12 => first | exact Or.inl ⟨by rfl, by intro w' hw'; (try dsimp only at hw'); go_simp; first | done | rfl⟩ | exact Or.inr ⟨by rfl, rfl⟩ | exact Or.inr ⟨by rfl, by rfl⟩
    case rm12 =>
    simp only [Act.put, List.setIfInBounds_toArray, List.set_cons_zero, List.set_cons_succ]
    refine anyC_put 13 41 ?rv13 #[true, true, true, true, true, true, true, true, true, true, true, true, true, true, false, false, false] rfl rfl rfl (by kernel_rfl) (by kernel_rfl) (by kernel_rfl) (fun _ _ _ h => h) ?ry13 (trivial) ?rm13
    case ry13 => first | exact Or.inl ⟨by rfl, by intro w'; go_simp; first | done | rfl⟩ | exact Or.inr ⟨by rfl, rfl⟩ | exact Or.inr ⟨by rfl, by rfl⟩
    case rm13 =>
    simp only [Act.put, List.setIfInBounds_toArray, List.set_cons_zero, List.set_cons_succ]
    refine anyC_take 14 42 ?rv14 #[true, true, true, true, true, true, true, true, true, true, true, true, true, true, true, false, false] rfl rfl rfl (by kernel_rfl) (by kernel_rfl) (by kernel_rfl) (fun _ _ _ h => h) ?ry14 (trivial) ?rm14
    case ry14 => first | exact Or.inl ⟨by rfl, by intro w' hw'; (try dsimp only at hw'); go_simp; first | done | rfl⟩ | exact Or.inr ⟨by rfl, rfl⟩ | exact Or.inr ⟨by rfl, by rfl⟩
    case rm14 =>
    simp only [Act.put, List.setIfInBounds_toArray, List.set_cons_zero, List.set_cons_succ]
    refine anyC_put 15 43 ?rv15 #[true, true, true, true, true, true, true, true, true, true, true, true, true, true, true, true, false] rfl rfl rfl (by kernel_rfl) (by kernel_rfl) (by kernel_rfl) (fun _ _ _ h => h) ?ry15 (trivial) ?rm15
    case ry15 => first | exact Or.inl ⟨by rfl, by intro w'; go_simp; first | done | rfl⟩ | exact Or.inr ⟨by rfl, rfl⟩ | exact Or.inr ⟨by rfl, by rfl⟩
    case rm15 =>
    simp only [Act.put, List.setIfInBounds_toArray, List.set_cons_zero, List.set_cons_succ]
    refine anyC_put 16 44 ?rv16 #[true, true, true, true, true, true, true, true, true, true, true, true, true, true, true, true, true] rfl rfl rfl (by kernel_rfl) (by kernel_rfl) (by kernel_rfl) (fun _ _ _ h => h) ?ry16 (trivial) ?rm16
    case ry16 => first | exact Or.inl ⟨by rfl, by intro w'; go_simp; first | done | rfl⟩
    case rm16 =>
    simp only [Act.put, List.setIfInBounds_toArray, List.set_cons_zero, List.set_cons_succ]
    refine anyC_done (by kernel_rfl) ?_
    have hB := hb0r1
    have z26 : v3.heap.size ≤ v3.drew.heap.size := hB.size
    have B27 : Hid (Abx v3.drew (w.heap.size) (.bool c1) (.slice sa1 sz1.length sc1) (.slice da1 dz1.length dc1)) := B23.out.go hB
    have B28 : Hid (Abx v3.drew (w.heap.size + 1) (.bool c2) (.slice sa2 sz2.length sc2) (.slice da2 dz2.length dc2)) := B24.out.go hB
    have hb29 : Hid (Below w.heap.size w v3.drew) := hb25.out.trans (hB.mono hb25.out.size)
    clear hB hb25 B23 B24
    go_wp2_with fail
    go_ret
    exact ⟨rfl, hb29.out⟩
  · refine (square_no c2 sa2 sc2 sz2 da2 dc2 dz2 _ ((HI2.out.1.below hb18.out).mono hb18.out.size).1 h2).mono ?_
    rintro e v3 ⟨rfl, hB⟩
    have z22 : v2.heap.size ≤ v3.heap.size := hB.size
    have B23 : Hid (Abx v3 (w.heap.size) (.bool c1) (.slice sa1 sz1.length sc1) (.slice da1 dz1.length dc1)) := B16.out.go hB
    have B24 : Hid (Abx v3 (w.heap.size + 1) (.bool c2) (.slice sa2 sz2.length sc2) (.slice da2 dz2.length dc2)) := B17.out.go hB
    have hb25 : Hid (Below w.heap.size w v3) := hb18.out.trans (hB.mono hb18.out.size)
    clear hB hb18 B16 B17
    go_wp2_with fail
    have hb0r2 : Below v3.heap.size v3 v3.drew := (Below.refl _ v3).drew
    refine anyC_begin (fun w' => True) 17 #[false, false, false, false, false, false, false, false, false, false, false, false, false, false, false, false, false] (by kernel_rfl) rfl rfl ?_
    refine anyC_put 0 28 ?rv17 #[true, false, false, false, false, false, false, false, false, false, false, false, false, false, false, false, false] rfl rfl rfl (by kernel_rfl) (by kernel_rfl) (by kernel_rfl) (fun _ _ _ h => h) ?ry17 (trivial) ?rm17
    case ry17 => first | exact Or.inl ⟨by rfl, by intro w'; go_simp; first | done | rfl⟩
    case rm17 =>
    simp only [Act.put, List.setIfInBounds_toArray, List.set_cons_zero, List.set_cons_succ]
    refine anyC_put 1 29 ?rv18 #[true, true, false, false, false, false, false, false, false, false, false, false, false, false, false, false, false] rfl rfl rfl (by kernel_rfl) (by kernel_rfl) (by kernel_rfl) (fun _ _ _ h => h) ?ry18 (trivial) ?rm18
    case ry18 => first | exact Or.inl ⟨by rfl, by intro w'; go_simp; first | done | rfl⟩
    case rm18 =>
    simp only [Act.put, List.setIfInBounds_toArray, List.set_cons_zero, List.set_cons_succ]
    refine anyC_put 2 30 ?rv19 #[true, true, true, false, false, false, false, false, false, false, false, false, false, false, false, false, false] rfl rfl rfl (by kernel_rfl) (by kernel_rfl) (by kernel_rfl) (fun _ _ _ h => h) ?ry19 (trivial) ?rm19
    case ry19 => first | exact Or.inl ⟨by rfl, by intro w'; go_simp; first | done | rfl⟩
    case rm19 =>
    simp only [Act.put, List.setIfInBounds_toArray, List.set_cons_zero, List.set_cons_succ]
    refine anyC_put 3 31 ?rv20 #[true, true, true, true, false, false, false, false, false, false, false, false, false, false, false, false, false] rfl rfl rfl (by kernel_rfl) (by kernel_rfl) (by kernel_rfl) (fun _ _ _ h => h) ?ry20 (trivial) ?rm20
    case ry20 => first | exact Or.inl ⟨by rfl, by intro w'; go_simp; first | done | rfl⟩ | exact Or.inr ⟨by rfl, rfl⟩ | exact Or.inr ⟨by rfl, by rfl⟩
    case rm20 =>
    simp only [Act.put, List.setIfInBounds_toArray, List.set_cons_zero, List.set_cons_succ]
    refine anyC_put 4 32 ?rv21 #[true, true, true, true, true, false, false, false, false, false, false, false, false, false, false, false, false] rfl rfl rfl (by kernel_rfl) (by kernel_rfl) (by kernel_rfl) (fun _ _ _ h => h) ?ry21 (trivial) ?rm21
    case ry21 => first | exact Or.inl ⟨by rfl, by intro w'; go_simp; first | done | rfl⟩ | exact Or.inr ⟨by rfl, rfl⟩ | exact Or.inr ⟨by rfl, by rfl⟩
    case rm21 =>
    simp only [Act.put, List.setIfInBounds_toArray, List.set_cons_zero, List.set_cons_succ]
    refine anyC_put 5 33 ?rv22 #[true, true, true, true, true, true, false, false, false, false, false, false, false, false, false, false, false] rfl rfl rfl (by kernel_rfl) (by kernel_rfl) (by kernel_rfl) (fun _ _ _ h => h) ?ry22 (trivial) ?rm22
    case ry22 => first | exact Or.inl ⟨by rfl, by intro w'; go_simp; first | done | rfl⟩
    case rm22 =>
    simp only [Act.put, List.setIfInBounds_toArray, List.set_cons_zero, List.set_cons_succ]
    refine anyC_put 6 34 ?rv23 #[true, true, true, true, true, true, true, false, false, false, false, false, false, false, false, false, false] rfl rfl rfl (by kernel_rfl) (by kernel_rfl) (by kernel_rfl) (fun _ _ _ h => h) ?ry23 (trivial) ?rm23
    case ry23 => first | exact Or.inl ⟨by rfl, by intro w'; go_simp; first | done | rfl⟩
    case rm23 =>
    simp only [Act.put, List.setIfInBounds_toArray, List.set_cons_zero, List.set_cons_succ]
    refine anyC_put 7 35 ?rv24 #[true, true, true, true, true, true, true, true, false, false, false, false, false, false, false, false, false] rfl rfl rfl (by kernel_rfl) (by kernel_rfl) (by kernel_rfl) (fun _ _ _ h => h) ?ry24 (trivial) ?rm24
    case ry24 => first | exact Or.inl ⟨by rfl, by intro w'; go_simp; first | done | rfl⟩ | exact Or.inr ⟨by rfl, rfl⟩ | exact Or.inr ⟨by rfl, by rfl⟩
    case rm24 =>
    simp only [Act.put, List.setIfInBounds_toArray, List.set_cons_zero, List.set_cons_succ]
    refine anyC_take 8 36 ?rv25 #[true, true, true, true, true, true, true, true, true, false, false, false, false, false, false, false, false] rfl rfl rfl (by kernel_rfl) (by kernel_rfl) (by kernel_rfl) (fun _ _ _ h => h) ?ry25 (trivial) ?rm25
    case ry25 => first | exact Or.inl ⟨by rfl, by intro w' hw'; (try dsimp only at hw'); go_simp; first | done | rfl⟩ | exact Or.inr ⟨by rfl, rfl⟩ | exact Or.inr ⟨by rfl, by rfl⟩
    case rm25 =>
    simp only [Act.put, List.setIfInBounds_toArray, List.set_cons_zero, List.set_cons_succ]
    refine anyC_put 9 37 ?rv26 #[true, true, true, true, true, true, true, true, true, true, false, false, false, false, false, false, false] rfl rfl rfl (by kernel_rfl) (by kernel_rfl) (by kernel_rfl) (fun _ _ _ h => h) ?ry26 (trivial) ?rm26
    case ry26 => first | exact Or.inl ⟨by rfl, by intro w'; go_simp; first | done | rfl⟩ | exact Or.inr ⟨by rfl, rfl⟩ | exact Or.inr ⟨by rfl, by rfl⟩
    case rm26 =>
    simp only [Act.put, List.setIfInBounds_toArray, List.set_cons_zero, List.set_cons_succ]
    refine anyC_take 10 38 ?rv27 #[true, true, true, true, true, true, true, true, true, true, true, false, false, false, false, false, false] rfl rfl rfl (by kernel_rfl) (by kernel_rfl) (by kernel_rfl) (fun _ _ _ h => h) ?ry27 (trivial) ?rm27
    case ry27 => first | exact Or.inl ⟨by rfl, by intro w' hw'; (try dsimp only at hw'); go_simp; first | done | rfl⟩ | exact Or.inr ⟨by rfl, rfl⟩ | exact Or.inr ⟨by rfl, by rfl⟩
    case rm27 =>
    simp only [Act.put, List.setIfInBounds_toArray, List.set_cons_zero, List.set_cons_succ]
    refine anyC_put 11 39 ?rv28 #[true, true, true, true, true, true, true, true, true, true, true, true, false, false, false, false, false] rfl rfl rfl (by kernel_rfl) (by kernel_rfl) (by kernel_rfl) (fun _ _ _ h => h) ?ry28 (trivial) ?rm28
    case ry28 => first | exact Or.inl ⟨by rfl, by intro w'; go_simp; first | done | rfl⟩ | exact Or.inr ⟨by rfl, rfl⟩ | exact Or.inr ⟨by rfl, by rfl⟩
    case rm28 =>
    simp only [Act.put, List.setIfInBounds_toArray, List.set_cons_zero, List.set_cons_succ]
    refine anyC_take 12 40 ?rv29 #[true, true, true, true, true, true, true, true, true, true, true, true, true, false, false, false, false] rfl rfl rfl (by kernel_rfl) (by kernel_rfl) (by kernel_rfl) (fun _ _ _ h => h) ?ry29 (trivial) ?rm29
    case ry29 => first | exact Or.inl ⟨by rfl, by intro w' hw'; (try dsimp only at hw'); go_simp; first | done | rfl⟩ | exact Or.inr ⟨by rfl, rfl⟩ | exact Or.inr ⟨by rfl, by rfl⟩
    case rm29 =>
    simp only [Act.put, List.setIfInBounds_toArray, List.set_cons_zero, List.set_cons_succ]
    refine anyC_put 13 41 ?rv30 #[true, true, true, true, true, true, true, true, true, true, true, true, true, true, false, false, false] rfl rfl rfl (by kernel_rfl) (by kernel_rfl) (by kernel_rfl) (fun _ _ _ h => h) ?ry30 (trivial) ?rm30
    case ry30 => first | exact Or.inl ⟨by rfl, by intro w'; go_simp; first | done | rfl⟩ | exact Or.inr ⟨by rfl, rfl⟩ | exact Or.inr ⟨by rfl, by rfl⟩
    case rm30 =>
    simp only [Act.put, List.setIfInBounds_toArray, List.set_cons_zero, List.set_cons_succ]
    refine anyC_take 14 42 ?rv31 #[true, true, true, true, true, true, true, true, true, true, true, true, true, true, true, false, false] rfl rfl rfl (by kernel_rfl) (by kernel_rfl) (by kernel_rfl) (fun _ _ _ h => h) ?ry31 (trivial) ?rm31
    case ry31 => first | exact Or.inl ⟨by rfl, by intro w' hw'; (try dsimp only at hw'); go_simp; first | done | rfl⟩ | exact Or.inr ⟨by rfl, rfl⟩ | exact Or.inr ⟨by rfl, by rfl⟩
    case rm31 =>
    simp only [Act.put, List.setIfInBounds_toArray, List.set_cons_zero, List.set_cons_succ]
    refine anyC_put 15 43 ?rv32 #[true, true, true, true, true, true, true, true, true, true, true, true, true, true, true, true, false] rfl rfl rfl (by kernel_rfl) (by kernel_rfl) (by kernel_rfl) (fun _ _ _ h => h) ?ry32 (trivial) ?rm32
    case ry32 => first | exact Or.inl ⟨by rfl, by intro w'; go_simp; first | done | rfl⟩ | exact Or.inr ⟨by rfl, rfl⟩ | exact Or.inr ⟨by rfl, by rfl⟩
    case rm32 =>
    simp only [Act.put, List.setIfInBounds_toArray, List.set_cons_zero, List.set_cons_succ]
    refine anyC_put 16 44 ?rv33 #[true, true, true, true, true, true, true, true, true, true, true, true, true, true, true, true, true] rfl rfl rfl (by kernel_rfl) (by kernel_rfl) (by kernel_rfl) (fun _ _ _ h => h) ?ry33 (trivial) ?rm33
    case ry33 => first | exact Or.inl ⟨by rfl, by intro w'; go_simp; first | done | rfl⟩
    case rm33 =>
    simp only [Act.put, List.setIfInBounds_toArray, List.set_cons_zero, List.set_cons_succ]
    refine anyC_done (by kernel_rfl) ?_
    have hB := hb0r2
    have z26 : v3.heap.size ≤ v3.drew.heap.size := hB.size
    have B27 : Hid (Abx v3.drew (w.heap.size) (.bool c1) (.slice sa1 sz1.length sc1) (.slice da1 dz1.length dc1)) := B23.out.go hB
    have B28 : Hid (Abx v3.drew (w.heap.size + 1) (.bool c2) (.slice sa2 sz2.length sc2) (.slice da2 dz2.length dc2)) := B24.out.go hB
    have hb29 : Hid (Below w.heap.size w v3.drew) := hb25.out.trans (hB.mono hb25.out.size)
    clear hB hb25 B23 B24
    go_wp2_with fail
    go_ret
    exact ⟨rfl, hb29.out⟩
set_option maxRecDepth 100000 in
set_option maxHeartbeats 2000000 in
theorem sylv_b (HNi : CNi) (c1 : Bool) (sa1 : Option Addr) (sc1 : Nat) (sz1 : List Int) (da1 : Option Addr) (dc1 : Nat) (dz1 : List Int) (c2 : Bool) (sa2 : Option Addr) (sc2 : Nat) (sz2 : List Int) (da2 : Option Addr) (dc2 : Nat) (dz2 : List Int) (w : World) (w8 : IsArrD w sa1 sz1 sc1 da1 dz1 dc1) (w9 : IsArrD w sa2 sz2 sc2 da2 dz2 dc2) (G1 : Hid (SqP c1 sz1 dz1)) (G2 : Hid (¬ SqP c2 sz2 dz2)) :
    Calls Try.prog 7 #[.agg #[.bool c1, .slice sa1 sz1.length sc1, .slice da1 dz1.length dc1], .agg #[.bool c2, .slice sa2 sz2.length sc2, .slice da2 dz2.length dc2]] w fun e w' => e = .returned (.bool true) ∧ Below w.heap.size w w' := by
  have HI1 : Hid (IsC w.heap.size w sa1 sz1 sc1 ∧ IsC w.heap.size w da1 dz1 dc1) := ⟨w8.2.2.1, w8.2.2.2.1⟩
  have HI2 : Hid (IsC w.heap.size w sa2 sz2 sc2 ∧ IsC w.heap.size w da2 dz2 dc2) := ⟨w9.2.2.1, w9.2.2.2.1⟩
  have n1 := Abx.new w (.bool c1) (.slice sa1 sz1.length sc1) (.slice da1 dz1.length dc1)
  have n2 := Abx.new (w.alloc (.cells #[.bool c1, .slice sa1 sz1.length sc1, .slice da1 dz1.length dc1] 24)) (.bool c2) (.slice sa2 sz2.length sc2) (.slice da2 dz2.length dc2)
  simp only [World.size_alloc] at n2
  go_enter Try.func7, Try.ntmps7
  go_wp2_with fail
  obtain ⟨wo3, hwo3⟩ : ∃ wo3, wo3 = ((w.alloc (.cells #[.bool c1, .slice sa1 sz1.length sc1, .slice da1 dz1.length dc1] 24)).alloc (.cells #[.bool c2, .slice sa2 sz2.length sc2, .slice da2 dz2.length dc2] 24)) := ⟨_, rfl⟩
  rw [← hwo3]
  have z4 : w.heap.size + 1 + 1 ≤ wo3.heap.size := by rw [hwo3]; simp only [World.size_alloc]; omega
  have B5 : Hid (Abx wo3 (w.heap.size) (.bool c1) (.slice sa1 sz1.length sc1) (.slice da1 dz1.length dc1)) := by rw [hwo3]; exact (n1.al (.cells #[.bool c2, .slice sa2 sz2.length sc2, .slice da2 dz2.length dc2] 24))
  have B6 : Hid (Abx wo3 (w.heap.size + 1) (.bool c2) (.slice sa2 sz2.length sc2) (.slice da2 dz2.length dc2)) := by rw [hwo3]; exact n2
  have hb7 : Hid (Below w.heap.size w wo3) := by rw [hwo3]; exact (((Below.refl w.heap.size w).alloc (by omega) (.cells #[.bool c1, .slice sa1 sz1.length sc1, .slice da1 dz1.length dc1] 24)).alloc (by simp only [World.size_alloc]; omega) (.cells #[.bool c2, .slice sa2 sz2.length sc2, .slice da2 dz2.length dc2] 24))
  have zwo3 : w.heap.size ≤ wo3.heap.size := hb7.out.size
  clear hwo3 n1 n2
  refine (fact14_any _).mono ?_
  rintro e v1 ⟨rfl, hB⟩
  have z8 : wo3.heap.size ≤ v1.heap.size := hB.size
  have B9 : Hid (Abx v1 (w.heap.size) (.bool c1) (.slice sa1 sz1.length sc1) (.slice da1 dz1.length dc1)) := B5.out.go hB
  have B10 : Hid (Abx v1 (w.heap.size + 1) (.bool c2) (.slice sa2 sz2.length sc2) (.slice da2 dz2.length dc2)) := B6.out.go hB
  have hb11 : Hid (Below w.heap.size w v1) := hb7.out.trans (hB.mono hb7.out.size)
  clear hB hb7 B5 B6
  have l12 := (B9.out).c0
  have l13 := (B9.out).c1
  have l14 := (B9.out).c2
  go_wp2_with fail
  clear l12 l13 l14
  refine (sqy_any c1 sa1 sc1 sz1 da1 dc1 dz1 _ ((HI1.out.1.below hb11.out).mono hb11.out.size).1 G1.out).mono ?_
  rintro e v2 ⟨rfl, hB⟩
  have z15 : v1.heap.size ≤ v2.heap.size := hB.size
  have B16 : Hid (Abx v2 (w.heap.size) (.bool c1) (.slice sa1 sz1.length sc1) (.slice da1 dz1.length dc1)) := B9.out.go hB
  have B17 : Hid (Abx v2 (w.heap.size + 1) (.bool c2) (.slice sa2 sz2.length sc2) (.slice da2 dz2.length dc2)) := B10.out.go hB
  have hb18 : Hid (Below w.heap.size w v2) := hb11.out.trans (hB.mono hb11.out.size)
  clear hB hb11 B9 B10
  have l19 := (B17.out).c0
  have l20 := (B17.out).c1
  have l21 := (B17.out).c2
  go_wp2_with fail
  clear l19 l20 l21
  refine (square_no c2 sa2 sc2 sz2 da2 dc2 dz2 _ ((HI2.out.1.below hb18.out).mono hb18.out.size).1 G2.out).mono ?_
  rintro e v3 ⟨rfl, hB⟩
  have z22 : v2.heap.size ≤ v3.heap.size := hB.size
  have B23 : Hid (Abx v3 (w.heap.size) (.bool c1) (.slice sa1 sz1.length sc1) (.slice da1 dz1.length dc1)) := B16.out.go hB
  have B24 : Hid (Abx v3 (w.heap.size + 1) (.bool c2) (.slice sa2 sz2.length sc2) (.slice da2 dz2.length dc2)) := B17.out.go hB
  have hb25 : Hid (Below w.heap.size w v3) := hb18.out.trans (hB.mono hb18.out.size)
  clear hB hb18 B16 B17
  go_wp2_with fail
  have hb0r3 : Below v3.heap.size v3 v3.drew := (Below.refl _ v3).drew
  refine anyC_begin (fun w' => True) 17 #[false, false, false, false, false, false, false, false, false, false, false, false, false, false, false, false, false] (by kernel_rfl) rfl rfl ?_
  refine anyC_put 0 28 ?rv34 #[true, false, false, false, false, false, false, false, false, false, false, false, false, false, false, false, false] rfl rfl rfl (by kernel_rfl) (by kernel_rfl) (by kernel_rfl) (fun _ _ _ h => h) ?ry34 (trivial) ?rm34
  case ry34 => first | exact Or.inl ⟨by rfl, by intro w'; go_simp; first | done | rfl⟩
  case rm34 =>
  simp only [Act.put, List.setIfInBounds_toArray, List.set_cons_zero, List.set_cons_succ]
  refine anyC_put 1 29 ?rv35 #[true, true, false, false, false, false, false, false, false, false, false, false, false, false, false, false, false] rfl rfl rfl (by kernel_rfl) (by kernel_rfl) (by kernel_rfl) (fun _ _ _ h => h) ?ry35 (trivial) ?rm35
  case ry35 => first | exact Or.inl ⟨by rfl, by intro w'; go_simp; first | done | rfl⟩
  case rm35 =>
  simp only [Act.put, List.setIfInBounds_toArray, List.set_cons_zero, List.set_cons_succ]
  refine anyC_put 2 30 ?rv36 #[true, true, true, false, false, false, false, false, false, false, false, false, false, false, false, false, false] rfl rfl rfl (by kernel_rfl) (by kernel_rfl) (by kernel_rfl) (fun _ _ _ h => h) ?ry36 (trivial) ?rm36
  case ry36 => first | exact Or.inl ⟨by rfl, by intro w'; go_simp; first | done | rfl⟩
  case rm36 =>
  simp only [Act.put, List.setIfInBounds_toArray, List.set_cons_zero, List.set_cons_succ]
  refine anyC_put 3 31 ?rv37 #[true, true, true, true, false, false, false, false, false, false, false, false, false, false, false, false, false] rfl rfl rfl (by kernel_rfl) (by kernel_rfl) (by kernel_rfl) (fun _ _ _ h => h) ?ry37 (trivial) ?rm37
  case ry37 => first | exact Or.inl ⟨by rfl, by intro w'; go_simp; first | done | rfl⟩ | exact Or.inr ⟨by rfl, rfl⟩ | exact Or.inr ⟨by rfl, by rfl⟩
  case rm37 =>
  simp only [Act.put, List.setIfInBounds_toArray, List.set_cons_zero, List.set_cons_succ]
  refine anyC_put 4 32 ?rv38 #[true, true, true, true, true, false, false, false, false, false, false, false, false, false, false, false, false] rfl rfl rfl (by kernel_rfl) (by kernel_rfl) (by kernel_rfl) (fun _ _ _ h => h) ?ry38 (trivial) ?rm38
  case ry38 => first | exact Or.inl ⟨by rfl, by intro w'; go_simp; first | done | rfl⟩ | exact Or.inr ⟨by rfl, rfl⟩ | exact Or.inr ⟨by rfl, by rfl⟩
  case rm38 =>
  simp only [Act.put, List.setIfInBounds_toArray, List.set_cons_zero, List.set_cons_succ]
  refine anyC_put 5 33 ?rv39 #[true, true, true, true, true, true, false, false, false, false, false, false, false, false, false, false, false] rfl rfl rfl (by kernel_rfl) (by kernel_rfl) (by kernel_rfl) (fun _ _ _ h => h) ?ry39 (trivial) ?rm39
  case ry39 => first | exact Or.inl ⟨by rfl, by intro w'; go_simp; first | done | rfl⟩
  case rm39 =>
  simp only [Act.put, List.setIfInBounds_toArray, List.set_cons_zero, List.set_cons_succ]
  refine anyC_put 6 34 ?rv40 #[true, true, true, true, true, true, true, false, false, false, false, false, false, false, false, false, false] rfl rfl rfl (by kernel_rfl) (by kernel_rfl) (by kernel_rfl) (fun _ _ _ h => h) ?ry40 (trivial) ?rm40
  case ry40 => first | exact Or.inl ⟨by rfl, by intro w'; go_simp; first | done | rfl⟩
  case rm40 =>
  simp only [Act.put, List.setIfInBounds_toArray, List.set_cons_zero, List.set_cons_succ]
  refine anyC_put 7 35 ?rv41 #[true, true, true, true, true, true, true, true, false, false, false, false, false, false, false, false, false] rfl rfl rfl (by kernel_rfl) (by kernel_rfl) (by kernel_rfl) (fun _ _ _ h => h) ?ry41 (trivial) ?rm41
  case ry41 => first | exact Or.inl ⟨by rfl, by intro w'; go_simp; first | done | rfl⟩ | exact Or.inr ⟨by rfl, rfl⟩ | exact Or.inr ⟨by rfl, by rfl⟩
  case rm41 =>
  simp only [Act.put, List.setIfInBounds_toArray, List.set_cons_zero, List.set_cons_succ]
  refine anyC_take 8 36 ?rv42 #[true, true, true, true, true, true, true, true, true, false, false, false, false, false, false, false, false] rfl rfl rfl (by kernel_rfl) (by kernel_rfl) (by kernel_rfl) (fun _ _ _ h => h) ?ry42 (trivial) ?rm42
  case ry42 => first | exact Or.inl ⟨by rfl, by intro w' hw'; (try dsimp only at hw'); go_simp; first | done | rfl⟩ | exact Or.inr ⟨by rfl, rfl⟩ | exact Or.inr ⟨by rfl, by rfl⟩
  case rm42 =>
  simp only [Act.put, List.setIfInBounds_toArray, List.set_cons_zero, List.set_cons_succ]
  refine anyC_put 9 37 ?rv43 #[true, true, true, true, true, true, true, true, true, true, false, false, false, false, false, false, false] rfl rfl rfl (by kernel_rfl) (by kernel_rfl) (by kernel_rfl) (fun _ _ _ h => h) ?ry43 (trivial) ?rm43
  case ry43 => first | exact Or.inl ⟨by rfl, by intro w'; go_simp; first | done | rfl⟩ | exact Or.inr ⟨by rfl, rfl⟩ | exact Or.inr ⟨by rfl, by rfl⟩
  case rm43 =>
  simp only [Act.put, List.setIfInBounds_toArray, List.set_cons_zero, List.set_cons_succ]
  refine anyC_take 10 38 ?rv44 #[true, true, true, true, true, true, true, true, true, true, true, false, false, false, false, false, false] rfl rfl rfl (by kernel_rfl) (by kernel_rfl) (by kernel_rfl) (fun _ _ _ h => h) ?ry44 (trivial) ?rm44
  case ry44 => first | exact Or.inl ⟨by rfl, by intro w' hw'; (try dsimp only at hw'); go_simp; first | done | rfl⟩ | exact Or.inr ⟨by rfl, rfl⟩ | exact Or.inr ⟨by rfl, by rfl⟩
  case rm44 =>
  simp only [Act.put, List.setIfInBounds_toArray, List.set_cons_zero, List.set_cons_succ]
  refine anyC_put 11 39 ?rv45 #[true, true, true, true, true, true, true, true, true, true, true, true, false, false, false, false, false] rfl rfl rfl (by kernel_rfl) (by kernel_rfl) (by kernel_rfl) (fun _ _ _ h => h) ?ry45 (trivial) ?rm45
  case ry45 => first | exact Or.inl ⟨by rfl, by intro w'; go_simp; first | done | rfl⟩ | exact Or.inr ⟨by rfl, rfl⟩ | exact Or.inr ⟨by rfl, by rfl⟩
  case rm45 =>
  simp only [Act.put, List.setIfInBounds_toArray, List.set_cons_zero, List.set_cons_succ]
  refine anyC_take 12 40 ?rv46 #[true, true, true, true, true, true, true, true, true, true, true, true, true, false, false, false, false] rfl rfl rfl (by kernel_rfl) (by kernel_rfl) (by kernel_rfl) (fun _ _ _ h => h) ?ry46 (trivial) ?rm46
  case ry46 => first | exact Or.inl ⟨by rfl, by intro w' hw'; (try dsimp only at hw'); go_simp; first | done | rfl⟩ | exact Or.inr ⟨by rfl, rfl⟩ | exact Or.inr ⟨by rfl, by rfl⟩
  case rm46 =>
  simp only [Act.put, List.setIfInBounds_toArray, List.set_cons_zero, List.set_cons_succ]
  refine anyC_put 13 41 ?rv47 #[true, true, true, true, true, true, true, true, true, true, true, true, true, true, false, false, false] rfl rfl rfl (by kernel_rfl) (by kernel_rfl) (by kernel_rfl) (fun _ _ _ h => h) ?ry47 (trivial) ?rm47
  case ry47 => first | exact Or.inl ⟨by rfl, by intro w'; go_simp; first | done | rfl⟩ | exact Or.inr ⟨by rfl, rfl⟩ | exact Or.inr ⟨by rfl, by rfl⟩
  case rm47 =>
  simp only [Act.put, List.setIfInBounds_toArray, List.set_cons_zero, List.set_cons_succ]
  refine anyC_take 14 42 ?rv48 #[true, true, true, true, true, true, true, true, true, true, true, true, true, true, true, false, false] rfl rfl rfl (by kernel_rfl) (by kernel_rfl) (by kernel_rfl) (fun _ _ _ h => h) ?ry48 (trivial) ?rm48
  case ry48 => first | exact Or.inl ⟨by rfl, by intro w' hw'; (try dsimp only at hw'); go_simp; first | done | rfl⟩ | exact Or.inr ⟨by rfl, rfl⟩ | exact Or.inr ⟨by rfl, by rfl⟩
  case rm48 =>
  simp only [Act.put, List.setIfInBounds_toArray, List.set_cons_zero, List.set_cons_succ]
  refine anyC_put 15 43 ?rv49 #[true, true, true, true, true, true, true, true, true, true, true, true, true, true, true, true, false] rfl rfl rfl (by kernel_rfl) (by kernel_rfl) (by kernel_rfl) (fun _ _ _ h => h) ?ry49 (trivial) ?rm49
  case ry49 => first | exact Or.inl ⟨by rfl, by intro w'; go_simp; first | done | rfl⟩ | exact Or.inr ⟨by rfl, rfl⟩ | exact Or.inr ⟨by rfl, by rfl⟩
  case rm49 =>
  simp only [Act.put, List.setIfInBounds_toArray, List.set_cons_zero, List.set_cons_succ]
  refine anyC_put 16 44 ?rv50 #[true, true, true, true, true, true, true, true, true, true, true, true, true, true, true, true, true] rfl rfl rfl (by kernel_rfl) (by kernel_rfl) (by kernel_rfl) (fun _ _ _ h => h) ?ry50 (trivial) ?rm50
  case ry50 => first | exact Or.inl ⟨by rfl, by intro w'; go_simp; first | done | rfl⟩
  case rm50 =>
  simp only [Act.put, List.setIfInBounds_toArray, List.set_cons_zero, List.set_cons_succ]
  refine anyC_done (by kernel_rfl) ?_
  have hB := hb0r3
  have z26 : v3.heap.size ≤ v3.drew.heap.size := hB.size
  have B27 : Hid (Abx v3.drew (w.heap.size) (.bool c1) (.slice sa1 sz1.length sc1) (.slice da1 dz1.length dc1)) := B23.out.go hB
  have B28 : Hid (Abx v3.drew (w.heap.size + 1) (.bool c2) (.slice sa2 sz2.length sc2) (.slice da2 dz2.length dc2)) := B24.out.go hB
  have hb29 : Hid (Below w.heap.size w v3.drew) := hb25.out.trans (hB.mono hb25.out.size)
  clear hB hb25 B23 B24
  go_wp2_with fail
  go_ret
  exact ⟨rfl, hb29.out⟩
set_option maxRecDepth 100000 in
set_option maxHeartbeats 2000000 in
theorem sylv_ne (n2 : Nat) (hn2 : n2 ≤ 6) (n : Nat) (hn : n ≤ 6) (b1 o1 sc1 : Nat) (da1 : Option Addr) (dc1 : Nat) (dz1 : List Int) (HL1 : Hid (dz1.length = n * n)) (b2 o2 sc2 : Nat) (da2 : Option Addr) (dc2 : Nat) (dz2 : List Int) (HL2 : Hid (dz2.length = n2 * n2)) (w : World) (HI1 : Hid (IsC w.heap.size w (some ⟨b1, o1, none⟩) [(n : Int), (n : Int)] sc1 ∧ IsC w.heap.size w da1 dz1 dc1 ∧ ∀ j, In64 (nth dz1 j))) (HI2 : Hid (IsC w.heap.size w (some ⟨b2, o2, none⟩) [(n2 : Int), (n2 : Int)] sc2 ∧ IsC w.heap.size w da2 dz2 dc2 ∧ ∀ j, In64 (nth dz2 j))) (hne : ¬ n = n2) :
    Calls Try.prog 7 #[.agg #[.bool false, .slice (some ⟨b1, o1, none⟩) 2 sc1, .slice da1 dz1.length dc1], .agg #[.bool false, .slice (some ⟨b2, o2, none⟩) 2 sc2, .slice da2 dz2.length dc2]] w fun e w' => e = .returned (.bool true) ∧ Below w.heap.size w w' := by
  have t1 : ((n : Int) != (n2 : Int)) = true := by have := hne; simp; omega
  have n1 := Abx.new w (.bool false) (.slice (some ⟨b1, o1, none⟩) 2 sc1) (.slice da1 dz1.length dc1)
  have n2 := Abx.new (w.alloc (.cells #[.bool false, .slice (some ⟨b1, o1, none⟩) 2 sc1, .slice da1 dz1.length dc1] 24)) (.bool false) (.slice (some ⟨b2, o2, none⟩) 2 sc2) (.slice da2 dz2.length dc2)
  simp only [World.size_alloc] at n2
  go_enter Try.func7, Try.ntmps7
  go_wp2_with fail
  obtain ⟨wo3, hwo3⟩ : ∃ wo3, wo3 = ((w.alloc (.cells #[.bool false, .slice (some ⟨b1, o1, none⟩) 2 sc1, .slice da1 dz1.length dc1] 24)).alloc (.cells #[.bool false, .slice (some ⟨b2, o2, none⟩) 2 sc2, .slice da2 dz2.length dc2] 24)) := ⟨_, rfl⟩
  rw [← hwo3]
  have z4 : w.heap.size + 1 + 1 ≤ wo3.heap.size := by rw [hwo3]; simp only [World.size_alloc]; omega
  have B5 : Hid (Abx wo3 (w.heap.size) (.bool false) (.slice (some ⟨b1, o1, none⟩) 2 sc1) (.slice da1 dz1.length dc1)) := by rw [hwo3]; exact (n1.al (.cells #[.bool false, .slice (some ⟨b2, o2, none⟩) 2 sc2, .slice da2 dz2.length dc2] 24))
  have B6 : Hid (Abx wo3 (w.heap.size + 1) (.bool false) (.slice (some ⟨b2, o2, none⟩) 2 sc2) (.slice da2 dz2.length dc2)) := by rw [hwo3]; exact n2
  have hb7 : Hid (Below w.heap.size w wo3) := by rw [hwo3]; exact (((Below.refl w.heap.size w).alloc (by omega) (.cells #[.bool false, .slice (some ⟨b1, o1, none⟩) 2 sc1, .slice da1 dz1.length dc1] 24)).alloc (by simp only [World.size_alloc]; omega) (.cells #[.bool false, .slice (some ⟨b2, o2, none⟩) 2 sc2, .slice da2 dz2.length dc2] 24))
  have zwo3 : w.heap.size ≤ wo3.heap.size := hb7.out.size
  clear hwo3 n1 n2
  refine (fact14_any _).mono ?_
  rintro e v1 ⟨rfl, hB⟩
  have z8 : wo3.heap.size ≤ v1.heap.size := hB.size
  have B9 : Hid (Abx v1 (w.heap.size) (.bool false) (.slice (some ⟨b1, o1, none⟩) 2 sc1) (.slice da1 dz1.length dc1)) := B5.out.go hB
  have B10 : Hid (Abx v1 (w.heap.size + 1) (.bool false) (.slice (some ⟨b2, o2, none⟩) 2 sc2) (.slice da2 dz2.length dc2)) := B6.out.go hB
  have hb11 : Hid (Below w.heap.size w v1) := hb7.out.trans (hB.mono hb7.out.size)
  clear hB hb7 B5 B6
  have l12 := (B9.out).c0
  have l13 := (B9.out).c1
  have l14 := (B9.out).c2
  go_wp2_with fail
  clear l12 l13 l14
  refine (square_yes n hn (some ⟨b1, o1, none⟩) sc1 da1 dc1 dz1 dz1.length rfl HL1.out _ ((HI1.out.1.below hb11.out).mono hb11.out.size).1).mono ?_
  rintro e v2 ⟨rfl, hB⟩
  have z15 : v1.heap.size ≤ v2.heap.size := hB.size
  have B16 : Hid (Abx v2 (w.heap.size) (.bool false) (.slice (some ⟨b1, o1, none⟩) 2 sc1) (.slice da1 dz1.length dc1)) := B9.out.go hB
  have B17 : Hid (Abx v2 (w.heap.size + 1) (.bool false) (.slice (some ⟨b2, o2, none⟩) 2 sc2) (.slice da2 dz2.length dc2)) := B10.out.go hB
  have hb18 : Hid (Below w.heap.size w v2) := hb11.out.trans (hB.mono hb11.out.size)
  clear hB hb11 B9 B10
  have l19 := (B17.out).c0
  have l20 := (B17.out).c1
  have l21 := (B17.out).c2
  go_wp2_with fail
  clear l19 l20 l21
  refine (square_yes n2 hn2 (some ⟨b2, o2, none⟩) sc2 da2 dc2 dz2 dz2.length rfl HL2.out _ ((HI2.out.1.below hb18.out).mono hb18.out.size).1).mono ?_
  rintro e v3 ⟨rfl, hB⟩
  have z22 : v2.heap.size ≤ v3.heap.size := hB.size
  have B23 : Hid (Abx v3 (w.heap.size) (.bool false) (.slice (some ⟨b1, o1, none⟩) 2 sc1) (.slice da1 dz1.length dc1)) := B16.out.go hB
  have B24 : Hid (Abx v3 (w.heap.size + 1) (.bool false) (.slice (some ⟨b2, o2, none⟩) 2 sc2) (.slice da2 dz2.length dc2)) := B17.out.go hB
  have hb25 : Hid (Below w.heap.size w v3) := hb18.out.trans (hB.mono hb18.out.size)
  clear hB hb18 B16 B17
  go_wp2_with fail
  obtain ⟨hqr41, hsr41⟩ : b1 < w.heap.size ∧ v3.cell? ⟨b1, o1, none⟩ = some (.int .i64 (n : Int)) := shp14 HI1.out.1 hb25.out
  obtain ⟨hqr42, hsr42⟩ : b2 < w.heap.size ∧ v3.cell? ⟨b2, o2, none⟩ = some (.int .i64 (n2 : Int)) := shp14 HI2.out.1 hb25.out
  have hb0r4 : Below v3.heap.size v3 v3.drew := (Below.refl _ v3).drew
  refine anyC_begin (fun w' => w'.cell? ⟨w.heap.size, 0, none⟩ = some (.bool false) ∧ w'.cell? ⟨w.heap.size, 1, none⟩ = some (.slice (some ⟨b1, o1, none⟩) 2 sc1) ∧ w'.cell? ⟨w.heap.size, 2, none⟩ = some (.slice da1 dz1.length dc1) ∧ w'.cell? ⟨w.heap.size + 1, 0, none⟩ = some (.bool false) ∧ w'.cell? ⟨w.heap.size + 1, 1, none⟩ = some (.slice (some ⟨b2, o2, none⟩) 2 sc2) ∧ w'.cell? ⟨w.heap.size + 1, 2, none⟩ = some (.slice da2 dz2.length dc2) ∧ w'.cell? ⟨b1, o1, none⟩ = some (.int .i64 (n : Int)) ∧ w'.cell? ⟨b2, o2, none⟩ = some (.int .i64 (n2 : Int))) 17 #[false, false, false, false, false, false, false, false, false, false, false, false, false, false, false, false, false] (by kernel_rfl) rfl rfl ?_
  refine anyC_put 0 28 ?rv51 #[true, false, false, false, false, false, false, false, false, false, false, false, false, false, false, false, false] rfl rfl rfl (by kernel_rfl) (by kernel_rfl) (by kernel_rfl) (fun _ _ _ h => h) ?ry51 (⟨(B23.out.go hb0r4).c0, (B23.out.go hb0r4).c1, (B23.out.go hb0r4).c2, (B24.out.go hb0r4).c0, (B24.out.go hb0r4).c1, (B24.out.go hb0r4).c2, (hb0r4.cell (p := ⟨b1, o1, none⟩) (Nat.lt_of_lt_of_le hqr41 hb25.out.size)).trans hsr41, (hb0r4.cell (p := ⟨b2, o2, none⟩) (Nat.lt_of_lt_of_le hqr42 hb25.out.size)).trans hsr42⟩) ?rm51
  case ry51 => first | exact Or.inl ⟨by rfl, by intro w'; go_simp; first | done | rfl⟩
  case rm51 =>
  simp only [Act.put, List.setIfInBounds_toArray, List.set_cons_zero, List.set_cons_succ]
  refine anyC_put 1 29 ?rv52 #[true, true, false, false, false, false, false, false, false, false, false, false, false, false, false, false, false] rfl rfl rfl (by kernel_rfl) (by kernel_rfl) (by kernel_rfl) (fun _ _ _ h => h) ?ry52 (⟨(B23.out.go hb0r4).c0, (B23.out.go hb0r4).c1, (B23.out.go hb0r4).c2, (B24.out.go hb0r4).c0, (B24.out.go hb0r4).c1, (B24.out.go hb0r4).c2, (hb0r4.cell (p := ⟨b1, o1, none⟩) (Nat.lt_of_lt_of_le hqr41 hb25.out.size)).trans hsr41, (hb0r4.cell (p := ⟨b2, o2, none⟩) (Nat.lt_of_lt_of_le hqr42 hb25.out.size)).trans hsr42⟩) ?rm52
  case ry52 => first | exact Or.inl ⟨by rfl, by intro w'; go_simp; first | done | rfl⟩
  case rm52 =>
  simp only [Act.put, List.setIfInBounds_toArray, List.set_cons_zero, List.set_cons_succ]
  refine anyC_put 2 30 ?rv53 #[true, true, true, false, false, false, false, false, false, false, false, false, false, false, false, false, false] rfl rfl rfl (by kernel_rfl) (by kernel_rfl) (by kernel_rfl) (fun _ _ _ h => h) ?ry53 (⟨(B23.out.go hb0r4).c0, (B23.out.go hb0r4).c1, (B23.out.go hb0r4).c2, (B24.out.go hb0r4).c0, (B24.out.go hb0r4).c1, (B24.out.go hb0r4).c2, (hb0r4.cell (p := ⟨b1, o1, none⟩) (Nat.lt_of_lt_of_le hqr41 hb25.out.size)).trans hsr41, (hb0r4.cell (p := ⟨b2, o2, none⟩) (Nat.lt_of_lt_of_le hqr42 hb25.out.size)).trans hsr42⟩) ?rm53
  case ry53 => first | exact Or.inl ⟨by rfl, by intro w'; go_simp; first | done | rfl⟩
  case rm53 =>
  simp only [Act.put, List.setIfInBounds_toArray, List.set_cons_zero, List.set_cons_succ]
  refine anyC_put 3 31 ?rv54 #[true, true, true, true, false, false, false, false, false, false, false, false, false, false, false, false, false] rfl rfl rfl (by kernel_rfl) (by kernel_rfl) (by kernel_rfl) (fun _ _ _ h => h) ?ry54 (⟨(B23.out.go hb0r4).c0, (B23.out.go hb0r4).c1, (B23.out.go hb0r4).c2, (B24.out.go hb0r4).c0, (B24.out.go hb0r4).c1, (B24.out.go hb0r4).c2, (hb0r4.cell (p := ⟨b1, o1, none⟩) (Nat.lt_of_lt_of_le hqr41 hb25.out.size)).trans hsr41, (hb0r4.cell (p := ⟨b2, o2, none⟩) (Nat.lt_of_lt_of_le hqr42 hb25.out.size)).trans hsr42⟩) ?rm54
  case ry54 => first | exact Or.inl ⟨by rfl, by intro w'; go_simp; first | done | rfl⟩ | exact Or.inr ⟨by rfl, rfl⟩ | exact Or.inr ⟨by rfl, by rfl⟩
  case rm54 =>
  simp only [Act.put, List.setIfInBounds_toArray, List.set_cons_zero, List.set_cons_succ]
  refine anyC_put 4 32 ?rv55 #[true, true, true, true, true, false, false, false, false, false, false, false, false, false, false, false, false] rfl rfl rfl (by kernel_rfl) (by kernel_rfl) (by kernel_rfl) (fun _ _ _ h => h) ?ry55 (⟨(B23.out.go hb0r4).c0, (B23.out.go hb0r4).c1, (B23.out.go hb0r4).c2, (B24.out.go hb0r4).c0, (B24.out.go hb0r4).c1, (B24.out.go hb0r4).c2, (hb0r4.cell (p := ⟨b1, o1, none⟩) (Nat.lt_of_lt_of_le hqr41 hb25.out.size)).trans hsr41, (hb0r4.cell (p := ⟨b2, o2, none⟩) (Nat.lt_of_lt_of_le hqr42 hb25.out.size)).trans hsr42⟩) ?rm55
  case ry55 => first | exact Or.inl ⟨by rfl, by intro w'; go_simp; first | done | rfl⟩ | exact Or.inr ⟨by rfl, rfl⟩ | exact Or.inr ⟨by rfl, by rfl⟩
  case rm55 =>
  simp only [Act.put, List.setIfInBounds_toArray, List.set_cons_zero, List.set_cons_succ]
  refine anyC_put 5 33 ?rv56 #[true, true, true, true, true, true, false, false, false, false, false, false, false, false, false, false, false] rfl rfl rfl (by kernel_rfl) (by kernel_rfl) (by kernel_rfl) (fun _ _ _ h => h) ?ry56 (⟨(B23.out.go hb0r4).c0, (B23.out.go hb0r4).c1, (B23.out.go hb0r4).c2, (B24.out.go hb0r4).c0, (B24.out.go hb0r4).c1, (B24.out.go hb0r4).c2, (hb0r4.cell (p := ⟨b1, o1, none⟩) (Nat.lt_of_lt_of_le hqr41 hb25.out.size)).trans hsr41, (hb0r4.cell (p := ⟨b2, o2, none⟩) (Nat.lt_of_lt_of_le hqr42 hb25.out.size)).trans hsr42⟩) ?rm56
  case ry56 => first | exact Or.inl ⟨by rfl, by intro w'; go_simp; first | done | rfl⟩
  case rm56 =>
  simp only [Act.put, List.setIfInBounds_toArray, List.set_cons_zero, List.set_cons_succ]
  refine anyC_put 6 34 ?rv57 #[true, true, true, true, true, true, true, false, false, false, false, false, false, false, false, false, false] rfl rfl rfl (by kernel_rfl) (by kernel_rfl) (by kernel_rfl) (fun _ _ _ h => h) ?ry57 (⟨(B23.out.go hb0r4).c0, (B23.out.go hb0r4).c1, (B23.out.go hb0r4).c2, (B24.out.go hb0r4).c0, (B24.out.go hb0r4).c1, (B24.out.go hb0r4).c2, (hb0r4.cell (p := ⟨b1, o1, none⟩) (Nat.lt_of_lt_of_le hqr41 hb25.out.size)).trans hsr41, (hb0r4.cell (p := ⟨b2, o2, none⟩) (Nat.lt_of_lt_of_le hqr42 hb25.out.size)).trans hsr42⟩) ?rm57
  case ry57 => first | exact Or.inl ⟨by rfl, by intro w'; go_simp; first | done | rfl⟩
  case rm57 =>
  simp only [Act.put, List.setIfInBounds_toArray, List.set_cons_zero, List.set_cons_succ]
  refine anyC_put 7 35 ?rv58 #[true, true, true, true, true, true, true, true, false, false, false, false, false, false, false, false, false] rfl rfl rfl (by kernel_rfl) (by kernel_rfl) (by kernel_rfl) (fun _ _ _ h => h) ?ry58 (⟨(B23.out.go hb0r4).c0, (B23.out.go hb0r4).c1, (B23.out.go hb0r4).c2, (B24.out.go hb0r4).c0, (B24.out.go hb0r4).c1, (B24.out.go hb0r4).c2, (hb0r4.cell (p := ⟨b1, o1, none⟩) (Nat.lt_of_lt_of_le hqr41 hb25.out.size)).trans hsr41, (hb0r4.cell (p := ⟨b2, o2, none⟩) (Nat.lt_of_lt_of_le hqr42 hb25.out.size)).trans hsr42⟩) ?rm58
  case ry58 => first | exact Or.inl ⟨by rfl, by intro w'; go_simp; first | done | rfl⟩ | exact Or.inr ⟨by rfl, rfl⟩ | exact Or.inr ⟨by rfl, by rfl⟩
  case rm58 =>
  simp only [Act.put, List.setIfInBounds_toArray, List.set_cons_zero, List.set_cons_succ]
  refine anyC_take 8 36 ?rv59 #[true, true, true, true, true, true, true, true, true, false, false, false, false, false, false, false, false] rfl rfl rfl (by kernel_rfl) (by kernel_rfl) (by kernel_rfl) (fun _ _ _ h => h) ?ry59 (⟨(B23.out.go hb0r4).c0, (B23.out.go hb0r4).c1, (B23.out.go hb0r4).c2, (B24.out.go hb0r4).c0, (B24.out.go hb0r4).c1, (B24.out.go hb0r4).c2, (hb0r4.cell (p := ⟨b1, o1, none⟩) (Nat.lt_of_lt_of_le hqr41 hb25.out.size)).trans hsr41, (hb0r4.cell (p := ⟨b2, o2, none⟩) (Nat.lt_of_lt_of_le hqr42 hb25.out.size)).trans hsr42⟩) ?rm59
  case ry59 => first | exact Or.inl ⟨by rfl, by intro w' hw'; (try dsimp only at hw'); go_simp; first | done | rfl⟩ | exact Or.inr ⟨by rfl, rfl⟩ | exact Or.inr ⟨by rfl, by rfl⟩
  case rm59 =>
  simp only [Act.put, List.setIfInBounds_toArray, List.set_cons_zero, List.set_cons_succ]
  refine anyC_put 9 37 ?rv60 #[true, true, true, true, true, true, true, true, true, true, false, false, false, false, false, false, false] rfl rfl rfl (by kernel_rfl) (by kernel_rfl) (by kernel_rfl) (fun _ _ _ h => h) ?ry60 (⟨(B23.out.go hb0r4).c0, (B23.out.go hb0r4).c1, (B23.out.go hb0r4).c2, (B24.out.go hb0r4).c0, (B24.out.go hb0r4).c1, (B24.out.go hb0r4).c2, (hb0r4.cell (p := ⟨b1, o1, none⟩) (Nat.lt_of_lt_of_le hqr41 hb25.out.size)).trans hsr41, (hb0r4.cell (p := ⟨b2, o2, none⟩) (Nat.lt_of_lt_of_le hqr42 hb25.out.size)).trans hsr42⟩) ?rm60
  case ry60 => first | exact Or.inl ⟨by rfl, by intro w'; go_simp; first | done | rfl⟩ | exact Or.inr ⟨by rfl, rfl⟩ | exact Or.inr ⟨by rfl, by rfl⟩
  case rm60 =>
  simp only [Act.put, List.setIfInBounds_toArray, List.set_cons_zero, List.set_cons_succ]
  refine anyC_take 10 38 ?rv61 #[true, true, true, true, true, true, true, true, true, true, true, false, false, false, false, false, false] rfl rfl rfl (by kernel_rfl) (by kernel_rfl) (by kernel_rfl) (fun _ _ _ h => h) ?ry61 (⟨(B23.out.go hb0r4).c0, (B23.out.go hb0r4).c1, (B23.out.go hb0r4).c2, (B24.out.go hb0r4).c0, (B24.out.go hb0r4).c1, (B24.out.go hb0r4).c2, (hb0r4.cell (p := ⟨b1, o1, none⟩) (Nat.lt_of_lt_of_le hqr41 hb25.out.size)).trans hsr41, (hb0r4.cell (p := ⟨b2, o2, none⟩) (Nat.lt_of_lt_of_le hqr42 hb25.out.size)).trans hsr42⟩) ?rm61
  case ry61 => first | exact Or.inl ⟨by rfl, by intro w' hw'; (try dsimp only at hw'); go_simp; first | done | rfl⟩ | exact Or.inr ⟨by rfl, rfl⟩ | exact Or.inr ⟨by rfl, by rfl⟩
  case rm61 =>
  simp only [Act.put, List.setIfInBounds_toArray, List.set_cons_zero, List.set_cons_succ]
  refine anyC_put 11 39 ?rv62 #[true, true, true, true, true, true, true, true, true, true, true, true, false, false, false, false, false] rfl rfl rfl (by kernel_rfl) (by kernel_rfl) (by kernel_rfl) (fun _ _ _ h => h) ?ry62 (⟨(B23.out.go hb0r4).c0, (B23.out.go hb0r4).c1, (B23.out.go hb0r4).c2, (B24.out.go hb0r4).c0, (B24.out.go hb0r4).c1, (B24.out.go hb0r4).c2, (hb0r4.cell (p := ⟨b1, o1, none⟩) (Nat.lt_of_lt_of_le hqr41 hb25.out.size)).trans hsr41, (hb0r4.cell (p := ⟨b2, o2, none⟩) (Nat.lt_of_lt_of_le hqr42 hb25.out.size)).trans hsr42⟩) ?rm62
  case ry62 => first | exact Or.inl ⟨by rfl, by intro w'; go_simp; first | done | rfl⟩ | exact Or.inr ⟨by rfl, rfl⟩ | exact Or.inr ⟨by rfl, by rfl⟩
  case rm62 =>
  simp only [Act.put, List.setIfInBounds_toArray, List.set_cons_zero, List.set_cons_succ]
  refine anyC_take 12 40 ?rv63 #[true, true, true, true, true, true, true, true, true, true, true, true, true, false, false, false, false] rfl rfl rfl (by kernel_rfl) (by kernel_rfl) (by kernel_rfl) (fun _ _ _ h => h) ?ry63 (⟨(B23.out.go hb0r4).c0, (B23.out.go hb0r4).c1, (B23.out.go hb0r4).c2, (B24.out.go hb0r4).c0, (B24.out.go hb0r4).c1, (B24.out.go hb0r4).c2, (hb0r4.cell (p := ⟨b1, o1, none⟩) (Nat.lt_of_lt_of_le hqr41 hb25.out.size)).trans hsr41, (hb0r4.cell (p := ⟨b2, o2, none⟩) (Nat.lt_of_lt_of_le hqr42 hb25.out.size)).trans hsr42⟩) ?rm63
  case ry63 => first | exact Or.inl ⟨by rfl, by intro w' hw'; (try dsimp only at hw'); go_simp; first | done | rfl⟩ | exact Or.inr ⟨by rfl, rfl⟩ | exact Or.inr ⟨by rfl, by rfl⟩
  case rm63 =>
  simp only [Act.put, List.setIfInBounds_toArray, List.set_cons_zero, List.set_cons_succ]
  refine anyC_put 13 41 ?rv64 #[true, true, true, true, true, true, true, true, true, true, true, true, true, true, false, false, false] rfl rfl rfl (by kernel_rfl) (by kernel_rfl) (by kernel_rfl) (fun _ _ _ h => h) ?ry64 (⟨(B23.out.go hb0r4).c0, (B23.out.go hb0r4).c1, (B23.out.go hb0r4).c2, (B24.out.go hb0r4).c0, (B24.out.go hb0r4).c1, (B24.out.go hb0r4).c2, (hb0r4.cell (p := ⟨b1, o1, none⟩) (Nat.lt_of_lt_of_le hqr41 hb25.out.size)).trans hsr41, (hb0r4.cell (p := ⟨b2, o2, none⟩) (Nat.lt_of_lt_of_le hqr42 hb25.out.size)).trans hsr42⟩) ?rm64
  case ry64 => first | exact Or.inl ⟨by rfl, by intro w'; go_simp; first | done | rfl⟩ | exact Or.inr ⟨by rfl, rfl⟩ | exact Or.inr ⟨by rfl, by rfl⟩
  case rm64 =>
  simp only [Act.put, List.setIfInBounds_toArray, List.set_cons_zero, List.set_cons_succ]
  refine anyC_take 14 42 ?rv65 #[true, true, true, true, true, true, true, true, true, true, true, true, true, true, true, false, false] rfl rfl rfl (by kernel_rfl) (by kernel_rfl) (by kernel_rfl) (fun _ _ _ h => h) ?ry65 (⟨(B23.out.go hb0r4).c0, (B23.out.go hb0r4).c1, (B23.out.go hb0r4).c2, (B24.out.go hb0r4).c0, (B24.out.go hb0r4).c1, (B24.out.go hb0r4).c2, (hb0r4.cell (p := ⟨b1, o1, none⟩) (Nat.lt_of_lt_of_le hqr41 hb25.out.size)).trans hsr41, (hb0r4.cell (p := ⟨b2, o2, none⟩) (Nat.lt_of_lt_of_le hqr42 hb25.out.size)).trans hsr42⟩) ?rm65
  case ry65 => first | exact Or.inl ⟨by rfl, by intro w' hw'; (try dsimp only at hw'); go_simp; first | done | rfl⟩ | exact Or.inr ⟨by rfl, rfl⟩ | exact Or.inr ⟨by rfl, by rfl⟩
  case rm65 =>
  simp only [Act.put, List.setIfInBounds_toArray, List.set_cons_zero, List.set_cons_succ]
  refine anyC_put 15 43 ?rv66 #[true, true, true, true, true, true, true, true, true, true, true, true, true, true, true, true, false] rfl rfl rfl (by kernel_rfl) (by kernel_rfl) (by kernel_rfl) (fun _ _ _ h => h) ?ry66 (⟨(B23.out.go hb0r4).c0, (B23.out.go hb0r4).c1, (B23.out.go hb0r4).c2, (B24.out.go hb0r4).c0, (B24.out.go hb0r4).c1, (B24.out.go hb0r4).c2, (hb0r4.cell (p := ⟨b1, o1, none⟩) (Nat.lt_of_lt_of_le hqr41 hb25.out.size)).trans hsr41, (hb0r4.cell (p := ⟨b2, o2, none⟩) (Nat.lt_of_lt_of_le hqr42 hb25.out.size)).trans hsr42⟩) ?rm66
  case ry66 => first | exact Or.inl ⟨by rfl, by intro w'; go_simp; first | done | rfl⟩ | exact Or.inr ⟨by rfl, rfl⟩ | exact Or.inr ⟨by rfl, by rfl⟩
  case rm66 =>
  simp only [Act.put, List.setIfInBounds_toArray, List.set_cons_zero, List.set_cons_succ]
  refine anyC_put 16 44 ?rv67 #[true, true, true, true, true, true, true, true, true, true, true, true, true, true, true, true, true] rfl rfl rfl (by kernel_rfl) (by kernel_rfl) (by kernel_rfl) (fun _ _ _ h => h) ?ry67 (⟨(B23.out.go hb0r4).c0, (B23.out.go hb0r4).c1, (B23.out.go hb0r4).c2, (B24.out.go hb0r4).c0, (B24.out.go hb0r4).c1, (B24.out.go hb0r4).c2, (hb0r4.cell (p := ⟨b1, o1, none⟩) (Nat.lt_of_lt_of_le hqr41 hb25.out.size)).trans hsr41, (hb0r4.cell (p := ⟨b2, o2, none⟩) (Nat.lt_of_lt_of_le hqr42 hb25.out.size)).trans hsr42⟩) ?rm67
  case ry67 => first | exact Or.inl ⟨by rfl, by intro w'; go_simp; first | done | rfl⟩
  case rm67 =>
  simp only [Act.put, List.setIfInBounds_toArray, List.set_cons_zero, List.set_cons_succ]
  refine anyC_done (by kernel_rfl) ?_
  have hB := hb0r4
  have z26 : v3.heap.size ≤ v3.drew.heap.size := hB.size
  have B27 : Hid (Abx v3.drew (w.heap.size) (.bool false) (.slice (some ⟨b1, o1, none⟩) 2 sc1) (.slice da1 dz1.length dc1)) := B23.out.go hB
  have B28 : Hid (Abx v3.drew (w.heap.size + 1) (.bool false) (.slice (some ⟨b2, o2, none⟩) 2 sc2) (.slice da2 dz2.length dc2)) := B24.out.go hB
  have hb29 : Hid (Below w.heap.size w v3.drew) := hb25.out.trans (hB.mono hb25.out.size)
  clear hB hb25 B23 B24
  go_wp2_with fail
  go_ret
  exact ⟨rfl, hb29.out⟩
set_option maxRecDepth 100000 in
set_option maxHeartbeats 2000000 in
theorem sylv_z (HNi : CNi) (n : Nat) (hn : n ≤ 6) (b1 o1 sc1 : Nat) (da1 : Option Addr) (dc1 : Nat) (dz1 : List Int) (HL1 : Hid (dz1.length = n * n)) (b2 o2 sc2 : Nat) (da2 : Option Addr) (dc2 : Nat) (dz2 : List Int) (HL2 : Hid (dz2.length = n * n)) (w : World) (HI1 : Hid (IsC w.heap.size w (some ⟨b1, o1, none⟩) [(n : Int), (n : Int)] sc1 ∧ IsC w.heap.size w da1 dz1 dc1 ∧ ∀ j, In64 (nth dz1 j))) (HI2 : Hid (IsC w.heap.size w (some ⟨b2, o2, none⟩) [(n : Int), (n : Int)] sc2 ∧ IsC w.heap.size w da2 dz2 dc2 ∧ ∀ j, In64 (nth dz2 j))) (hz : n = 0) :
    Calls Try.prog 7 #[.agg #[.bool false, .slice (some ⟨b1, o1, none⟩) 2 sc1, .slice da1 dz1.length dc1], .agg #[.bool false, .slice (some ⟨b2, o2, none⟩) 2 sc2, .slice da2 dz2.length dc2]] w fun e w' => e = .returned (.bool true) ∧ Below w.heap.size w w' := by
  have t0 : ((n : Int) == 0) = true := by rw [hz]; rfl
  clear hz
  obtain ⟨N, hN⟩ : ∃ N, N = n * n := ⟨_, rfl⟩
  have N36 : N ≤ 36 := by have : n * n ≤ 6 * 6 := Nat.mul_le_mul hn hn; omega
  have hmul : (n : Int) * (n : Int) = (N : Int) := by rw [hN]; simp
  have HLx : Hid ((mmL n dz1 dz2).length = N) := by show _ = _; rw [mmL_len, hN]
  have HN : Hid (N = n * n) := hN
  clear hN
  have HSh : Hid (∀ v, Below w.heap.size w v → v.cell? ⟨b1, o1, none⟩ = some (.int .i64 (n : Int))) := fun v h => (shp14 HI1.out.1 h).2
  have n1 := Abx.new w (.bool false) (.slice (some ⟨b1, o1, none⟩) 2 sc1) (.slice da1 dz1.length dc1)
  have n2 := Abx.new (w.alloc (.cells #[.bool false, .slice (some ⟨b1, o1, none⟩) 2 sc1, .slice da1 dz1.length dc1] 24)) (.bool false) (.slice (some ⟨b2, o2, none⟩) 2 sc2) (.slice da2 dz2.length dc2)
  simp only [World.size_alloc] at n2
  go_enter Try.func7, Try.ntmps7
  go_wp2_with fail
  obtain ⟨wo3, hwo3⟩ : ∃ wo3, wo3 = ((w.alloc (.cells #[.bool false, .slice (some ⟨b1, o1, none⟩) 2 sc1, .slice da1 dz1.length dc1] 24)).alloc (.cells #[.bool false, .slice (some ⟨b2, o2, none⟩) 2 sc2, .slice da2 dz2.length dc2] 24)) := ⟨_, rfl⟩
  rw [← hwo3]
  have z4 : w.heap.size + 1 + 1 ≤ wo3.heap.size := by rw [hwo3]; simp only [World.size_alloc]; omega
  have B5 : Hid (Abx wo3 (w.heap.size) (.bool false) (.slice (some ⟨b1, o1, none⟩) 2 sc1) (.slice da1 dz1.length dc1)) := by rw [hwo3]; exact (n1.al (.cells #[.bool false, .slice (some ⟨b2, o2, none⟩) 2 sc2, .slice da2 dz2.length dc2] 24))
  have B6 : Hid (Abx wo3 (w.heap.size + 1) (.bool false) (.slice (some ⟨b2, o2, none⟩) 2 sc2) (.slice da2 dz2.length dc2)) := by rw [hwo3]; exact n2
  have hb7 : Hid (Below w.heap.size w wo3) := by rw [hwo3]; exact (((Below.refl w.heap.size w).alloc (by omega) (.cells #[.bool false, .slice (some ⟨b1, o1, none⟩) 2 sc1, .slice da1 dz1.length dc1] 24)).alloc (by simp only [World.size_alloc]; omega) (.cells #[.bool false, .slice (some ⟨b2, o2, none⟩) 2 sc2, .slice da2 dz2.length dc2] 24))
  have zwo3 : w.heap.size ≤ wo3.heap.size := hb7.out.size
  clear hwo3 n1 n2
  refine (fact14_any _).mono ?_
  rintro e v1 ⟨rfl, hB⟩
  have z8 : wo3.heap.size ≤ v1.heap.size := hB.size
  have B9 : Hid (Abx v1 (w.heap.size) (.bool false) (.slice (some ⟨b1, o1, none⟩) 2 sc1) (.slice da1 dz1.length dc1)) := B5.out.go hB
  have B10 : Hid (Abx v1 (w.heap.size + 1) (.bool false) (.slice (some ⟨b2, o2, none⟩) 2 sc2) (.slice da2 dz2.length dc2)) := B6.out.go hB
  have hb11 : Hid (Below w.heap.size w v1) := hb7.out.trans (hB.mono hb7.out.size)
  clear hB hb7 B5 B6
  have l12 := (B9.out).c0
  have l13 := (B9.out).c1
  have l14 := (B9.out).c2
  go_wp2_with fail
  clear l12 l13 l14
  refine (square_yes n hn (some ⟨b1, o1, none⟩) sc1 da1 dc1 dz1 dz1.length rfl HL1.out _ ((HI1.out.1.below hb11.out).mono hb11.out.size).1).mono ?_
  rintro e v2 ⟨rfl, hB⟩
  have z15 : v1.heap.size ≤ v2.heap.size := hB.size
  have B16 : Hid (Abx v2 (w.heap.size) (.bool false) (.slice (some ⟨b1, o1, none⟩) 2 sc1) (.slice da1 dz1.length dc1)) := B9.out.go hB
  have B17 : Hid (Abx v2 (w.heap.size + 1) (.bool false) (.slice (some ⟨b2, o2, none⟩) 2 sc2) (.slice da2 dz2.length dc2)) := B10.out.go hB
  have hb18 : Hid (Below w.heap.size w v2) := hb11.out.trans (hB.mono hb11.out.size)
  clear hB hb11 B9 B10
  have l19 := (B17.out).c0
  have l20 := (B17.out).c1
  have l21 := (B17.out).c2
  go_wp2_with fail
  clear l19 l20 l21
  refine (square_yes n hn (some ⟨b2, o2, none⟩) sc2 da2 dc2 dz2 dz2.length rfl HL2.out _ ((HI2.out.1.below hb18.out).mono hb18.out.size).1).mono ?_
  rintro e v3 ⟨rfl, hB⟩
  have z22 : v2.heap.size ≤ v3.heap.size := hB.size
  have B23 : Hid (Abx v3 (w.heap.size) (.bool false) (.slice (some ⟨b1, o1, none⟩) 2 sc1) (.slice da1 dz1.length dc1)) := B16.out.go hB
  have B24 : Hid (Abx v3 (w.heap.size + 1) (.bool false) (.slice (some ⟨b2, o2, none⟩) 2 sc2) (.slice da2 dz2.length dc2)) := B17.out.go hB
  have hb25 : Hid (Below w.heap.size w v3) := hb18.out.trans (hB.mono hb18.out.size)
  clear hB hb18 B16 B17
  go_wp2_with fail
  obtain ⟨hqr51, hsr51⟩ : b1 < w.heap.size ∧ v3.cell? ⟨b1, o1, none⟩ = some (.int .i64 (n : Int)) := shp14 HI1.out.1 hb25.out
  obtain ⟨hqr52, hsr52⟩ : b2 < w.heap.size ∧ v3.cell? ⟨b2, o2, none⟩ = some (.int .i64 (n : Int)) := shp14 HI2.out.1 hb25.out
  have hb0r5 : Below v3.heap.size v3 v3.drew := (Below.refl _ v3).drew
  refine anyC_begin (fun w' => w'.cell? ⟨w.heap.size, 0, none⟩ = some (.bool false) ∧ w'.cell? ⟨w.heap.size, 1, none⟩ = some (.slice (some ⟨b1, o1, none⟩) 2 sc1) ∧ w'.cell? ⟨w.heap.size, 2, none⟩ = some (.slice da1 dz1.length dc1) ∧ w'.cell? ⟨w.heap.size + 1, 0, none⟩ = some (.bool false) ∧ w'.cell? ⟨w.heap.size + 1, 1, none⟩ = some (.slice (some ⟨b2, o2, none⟩) 2 sc2) ∧ w'.cell? ⟨w.heap.size + 1, 2, none⟩ = some (.slice da2 dz2.length dc2) ∧ w'.cell? ⟨b1, o1, none⟩ = some (.int .i64 (n : Int)) ∧ w'.cell? ⟨b2, o2, none⟩ = some (.int .i64 (n : Int))) 17 #[false, false, false, false, false, false, false, false, false, false, false, false, false, false, false, false, false] (by kernel_rfl) rfl rfl ?_
  refine anyC_put 0 28 ?rv68 #[true, false, false, false, false, false, false, false, false, false, false, false, false, false, false, false, false] rfl rfl rfl (by kernel_rfl) (by kernel_rfl) (by kernel_rfl) (fun _ _ _ h => h) ?ry68 (⟨(B23.out.go hb0r5).c0, (B23.out.go hb0r5).c1, (B23.out.go hb0r5).c2, (B24.out.go hb0r5).c0, (B24.out.go hb0r5).c1, (B24.out.go hb0r5).c2, (hb0r5.cell (p := ⟨b1, o1, none⟩) (Nat.lt_of_lt_of_le hqr51 hb25.out.size)).trans hsr51, (hb0r5.cell (p := ⟨b2, o2, none⟩) (Nat.lt_of_lt_of_le hqr52 hb25.out.size)).trans hsr52⟩) ?rm68
  case ry68 => first | exact Or.inl ⟨by rfl, by intro w'; go_simp; first | done | rfl⟩
  case rm68 =>
  simp only [Act.put, List.setIfInBounds_toArray, List.set_cons_zero, List.set_cons_succ]
  refine anyC_put 1 29 ?rv69 #[true, true, false, false, false, false, false, false, false, false, false, false, false, false, false, false, false] rfl rfl rfl (by kernel_rfl) (by kernel_rfl) (by kernel_rfl) (fun _ _ _ h => h) ?ry69 (⟨(B23.out.go hb0r5).c0, (B23.out.go hb0r5).c1, (B23.out.go hb0r5).c2, (B24.out.go hb0r5).c0, (B24.out.go hb0r5).c1, (B24.out.go hb0r5).c2, (hb0r5.cell (p := ⟨b1, o1, none⟩) (Nat.lt_of_lt_of_le hqr51 hb25.out.size)).trans hsr51, (hb0r5.cell (p := ⟨b2, o2, none⟩) (Nat.lt_of_lt_of_le hqr52 hb25.out.size)).trans hsr52⟩) ?rm69
  case ry69 => first | exact Or.inl ⟨by rfl, by intro w'; go_simp; first | done | rfl⟩
  case rm69 =>
  simp only [Act.put, List.setIfInBounds_toArray, List.set_cons_zero, List.set_cons_succ]
  refine anyC_put 2 30 ?rv70 #[true, true, true, false, false, false, false, false, false, false, false, false, false, false, false, false, false] rfl rfl rfl (by kernel_rfl) (by kernel_rfl) (by kernel_rfl) (fun _ _ _ h => h) ?ry70 (⟨(B23.out.go hb0r5).c0, (B23.out.go hb0r5).c1, (B23.out.go hb0r5).c2, (B24.out.go hb0r5).c0, (B24.out.go hb0r5).c1, (B24.out.go hb0r5).c2, (hb0r5.cell (p := ⟨b1, o1, none⟩) (Nat.lt_of_lt_of_le hqr51 hb25.out.size)).trans hsr51, (hb0r5.cell (p := ⟨b2, o2, none⟩) (Nat.lt_of_lt_of_le hqr52 hb25.out.size)).trans hsr52⟩) ?rm70
  case ry70 => first | exact Or.inl ⟨by rfl, by intro w'; go_simp; first | done | rfl⟩
  case rm70 =>
  simp only [Act.put, List.setIfInBounds_toArray, List.set_cons_zero, List.set_cons_succ]
  refine anyC_put 3 31 ?rv71 #[true, true, true, true, false, false, false, false, false, false, false, false, false, false, false, false, false] rfl rfl rfl (by kernel_rfl) (by kernel_rfl) (by kernel_rfl) (fun _ _ _ h => h) ?ry71 (⟨(B23.out.go hb0r5).c0, (B23.out.go hb0r5).c1, (B23.out.go hb0r5).c2, (B24.out.go hb0r5).c0, (B24.out.go hb0r5).c1, (B24.out.go hb0r5).c2, (hb0r5.cell (p := ⟨b1, o1, none⟩) (Nat.lt_of_lt_of_le hqr51 hb25.out.size)).trans hsr51, (hb0r5.cell (p := ⟨b2, o2, none⟩) (Nat.lt_of_lt_of_le hqr52 hb25.out.size)).trans hsr52⟩) ?rm71
  case ry71 => first | exact Or.inl ⟨by rfl, by intro w'; go_simp; first | done | rfl⟩ | exact Or.inr ⟨by rfl, rfl⟩ | exact Or.inr ⟨by rfl, by rfl⟩
  case rm71 =>
  simp only [Act.put, List.setIfInBounds_toArray, List.set_cons_zero, List.set_cons_succ]
  refine anyC_put 4 32 ?rv72 #[true, true, true, true, true, false, false, false, false, false, false, false, false, false, false, false, false] rfl rfl rfl (by kernel_rfl) (by kernel_rfl) (by kernel_rfl) (fun _ _ _ h => h) ?ry72 (⟨(B23.out.go hb0r5).c0, (B23.out.go hb0r5).c1, (B23.out.go hb0r5).c2, (B24.out.go hb0r5).c0, (B24.out.go hb0r5).c1, (B24.out.go hb0r5).c2, (hb0r5.cell (p := ⟨b1, o1, none⟩) (Nat.lt_of_lt_of_le hqr51 hb25.out.size)).trans hsr51, (hb0r5.cell (p := ⟨b2, o2, none⟩) (Nat.lt_of_lt_of_le hqr52 hb25.out.size)).trans hsr52⟩) ?rm72
  case ry72 => first | exact Or.inl ⟨by rfl, by intro w'; go_simp; first | done | rfl⟩ | exact Or.inr ⟨by rfl, rfl⟩ | exact Or.inr ⟨by rfl, by rfl⟩
  case rm72 =>
  simp only [Act.put, List.setIfInBounds_toArray, List.set_cons_zero, List.set_cons_succ]
  refine anyC_put 5 33 ?rv73 #[true, true, true, true, true, true, false, false, false, false, false, false, false, false, false, false, false] rfl rfl rfl (by kernel_rfl) (by kernel_rfl) (by kernel_rfl) (fun _ _ _ h => h) ?ry73 (⟨(B23.out.go hb0r5).c0, (B23.out.go hb0r5).c1, (B23.out.go hb0r5).c2, (B24.out.go hb0r5).c0, (B24.out.go hb0r5).c1, (B24.out.go hb0r5).c2, (hb0r5.cell (p := ⟨b1, o1, none⟩) (Nat.lt_of_lt_of_le hqr51 hb25.out.size)).trans hsr51, (hb0r5.cell (p := ⟨b2, o2, none⟩) (Nat.lt_of_lt_of_le hqr52 hb25.out.size)).trans hsr52⟩) ?rm73
  case ry73 => first | exact Or.inl ⟨by rfl, by intro w'; go_simp; first | done | rfl⟩
  case rm73 =>
  simp only [Act.put, List.setIfInBounds_toArray, List.set_cons_zero, List.set_cons_succ]
  refine anyC_put 6 34 ?rv74 #[true, true, true, true, true, true, true, false, false, false, false, false, false, false, false, false, false] rfl rfl rfl (by kernel_rfl) (by kernel_rfl) (by kernel_rfl) (fun _ _ _ h => h) ?ry74 (⟨(B23.out.go hb0r5).c0, (B23.out.go hb0r5).c1, (B23.out.go hb0r5).c2, (B24.out.go hb0r5).c0, (B24.out.go hb0r5).c1, (B24.out.go hb0r5).c2, (hb0r5.cell (p := ⟨b1, o1, none⟩) (Nat.lt_of_lt_of_le hqr51 hb25.out.size)).trans hsr51, (hb0r5.cell (p := ⟨b2, o2, none⟩) (Nat.lt_of_lt_of_le hqr52 hb25.out.size)).trans hsr52⟩) ?rm74
  case ry74 => first | exact Or.inl ⟨by rfl, by intro w'; go_simp; first | done | rfl⟩
  case rm74 =>
  simp only [Act.put, List.setIfInBounds_toArray, List.set_cons_zero, List.set_cons_succ]
  refine anyC_put 7 35 ?rv75 #[true, true, true, true, true, true, true, true, false, false, false, false, false, false, false, false, false] rfl rfl rfl (by kernel_rfl) (by kernel_rfl) (by kernel_rfl) (fun _ _ _ h => h) ?ry75 (⟨(B23.out.go hb0r5).c0, (B23.out.go hb0r5).c1, (B23.out.go hb0r5).c2, (B24.out.go hb0r5).c0, (B24.out.go hb0r5).c1, (B24.out.go hb0r5).c2, (hb0r5.cell (p := ⟨b1, o1, none⟩) (Nat.lt_of_lt_of_le hqr51 hb25.out.size)).trans hsr51, (hb0r5.cell (p := ⟨b2, o2, none⟩) (Nat.lt_of_lt_of_le hqr52 hb25.out.size)).trans hsr52⟩) ?rm75
  case ry75 => first | exact Or.inl ⟨by rfl, by intro w'; go_simp; first | done | rfl⟩ | exact Or.inr ⟨by rfl, rfl⟩ | exact Or.inr ⟨by rfl, by rfl⟩
  case rm75 =>
  simp only [Act.put, List.setIfInBounds_toArray, List.set_cons_zero, List.set_cons_succ]
  refine anyC_take 8 36 ?rv76 #[true, true, true, true, true, true, true, true, true, false, false, false, false, false, false, false, false] rfl rfl rfl (by kernel_rfl) (by kernel_rfl) (by kernel_rfl) (fun _ _ _ h => h) ?ry76 (⟨(B23.out.go hb0r5).c0, (B23.out.go hb0r5).c1, (B23.out.go hb0r5).c2, (B24.out.go hb0r5).c0, (B24.out.go hb0r5).c1, (B24.out.go hb0r5).c2, (hb0r5.cell (p := ⟨b1, o1, none⟩) (Nat.lt_of_lt_of_le hqr51 hb25.out.size)).trans hsr51, (hb0r5.cell (p := ⟨b2, o2, none⟩) (Nat.lt_of_lt_of_le hqr52 hb25.out.size)).trans hsr52⟩) ?rm76
  case ry76 => first | exact Or.inl ⟨by rfl, by intro w' hw'; (try dsimp only at hw'); go_simp; first | done | rfl⟩ | exact Or.inr ⟨by rfl, rfl⟩ | exact Or.inr ⟨by rfl, by rfl⟩
  case rm76 =>
  simp only [Act.put, List.setIfInBounds_toArray, List.set_cons_zero, List.set_cons_succ]
  refine anyC_put 9 37 ?rv77 #[true, true, true, true, true, true, true, true, true, true, false, false, false, false, false, false, false] rfl rfl rfl (by kernel_rfl) (by kernel_rfl) (by kernel_rfl) (fun _ _ _ h => h) ?ry77 (⟨(B23.out.go hb0r5).c0, (B23.out.go hb0r5).c1, (B23.out.go hb0r5).c2, (B24.out.go hb0r5).c0, (B24.out.go hb0r5).c1, (B24.out.go hb0r5).c2, (hb0r5.cell (p := ⟨b1, o1, none⟩) (Nat.lt_of_lt_of_le hqr51 hb25.out.size)).trans hsr51, (hb0r5.cell (p := ⟨b2, o2, none⟩) (Nat.lt_of_lt_of_le hqr52 hb25.out.size)).trans hsr52⟩) ?rm77
  case ry77 => first | exact Or.inl ⟨by rfl, by intro w'; go_simp; first | done | rfl⟩ | exact Or.inr ⟨by rfl, rfl⟩ | exact Or.inr ⟨by rfl, by rfl⟩
  case rm77 =>
  simp only [Act.put, List.setIfInBounds_toArray, List.set_cons_zero, List.set_cons_succ]
  refine anyC_take 10 38 ?rv78 #[true, true, true, true, true, true, true, true, true, true, true, false, false, false, false, false, false] rfl rfl rfl (by kernel_rfl) (by kernel_rfl) (by kernel_rfl) (fun _ _ _ h => h) ?ry78 (⟨(B23.out.go hb0r5).c0, (B23.out.go hb0r5).c1, (B23.out.go hb0r5).c2, (B24.out.go hb0r5).c0, (B24.out.go hb0r5).c1, (B24.out.go hb0r5).c2, (hb0r5.cell (p := ⟨b1, o1, none⟩) (Nat.lt_of_lt_of_le hqr51 hb25.out.size)).trans hsr51, (hb0r5.cell (p := ⟨b2, o2, none⟩) (Nat.lt_of_lt_of_le hqr52 hb25.out.size)).trans hsr52⟩) ?rm78
  case ry78 => first | exact Or.inl ⟨by rfl, by intro w' hw'; (try dsimp only at hw'); go_simp; first | done | rfl⟩ | exact Or.inr ⟨by rfl, rfl⟩ | exact Or.inr ⟨by rfl, by rfl⟩
  case rm78 =>
  simp only [Act.put, List.setIfInBounds_toArray, List.set_cons_zero, List.set_cons_succ]
  refine anyC_put 11 39 ?rv79 #[true, true, true, true, true, true, true, true, true, true, true, true, false, false, false, false, false] rfl rfl rfl (by kernel_rfl) (by kernel_rfl) (by kernel_rfl) (fun _ _ _ h => h) ?ry79 (⟨(B23.out.go hb0r5).c0, (B23.out.go hb0r5).c1, (B23.out.go hb0r5).c2, (B24.out.go hb0r5).c0, (B24.out.go hb0r5).c1, (B24.out.go hb0r5).c2, (hb0r5.cell (p := ⟨b1, o1, none⟩) (Nat.lt_of_lt_of_le hqr51 hb25.out.size)).trans hsr51, (hb0r5.cell (p := ⟨b2, o2, none⟩) (Nat.lt_of_lt_of_le hqr52 hb25.out.size)).trans hsr52⟩) ?rm79
  case ry79 => first | exact Or.inl ⟨by rfl, by intro w'; go_simp; first | done | rfl⟩ | exact Or.inr ⟨by rfl, rfl⟩ | exact Or.inr ⟨by rfl, by rfl⟩
  case rm79 =>
  simp only [Act.put, List.setIfInBounds_toArray, List.set_cons_zero, List.set_cons_succ]
  refine anyC_take 12 40 ?rv80 #[true, true, true, true, true, true, true, true, true, true, true, true, true, false, false, false, false] rfl rfl rfl (by kernel_rfl) (by kernel_rfl) (by kernel_rfl) (fun _ _ _ h => h) ?ry80 (⟨(B23.out.go hb0r5).c0, (B23.out.go hb0r5).c1, (B23.out.go hb0r5).c2, (B24.out.go hb0r5).c0, (B24.out.go hb0r5).c1, (B24.out.go hb0r5).c2, (hb0r5.cell (p := ⟨b1, o1, none⟩) (Nat.lt_of_lt_of_le hqr51 hb25.out.size)).trans hsr51, (hb0r5.cell (p := ⟨b2, o2, none⟩) (Nat.lt_of_lt_of_le hqr52 hb25.out.size)).trans hsr52⟩) ?rm80
  case ry80 => first | exact Or.inl ⟨by rfl, by intro w' hw'; (try dsimp only at hw'); go_simp; first | done | rfl⟩ | exact Or.inr ⟨by rfl, rfl⟩ | exact Or.inr ⟨by rfl, by rfl⟩
  case rm80 =>
  simp only [Act.put, List.setIfInBounds_toArray, List.set_cons_zero, List.set_cons_succ]
  refine anyC_put 13 41 ?rv81 #[true, true, true, true, true, true, true, true, true, true, true, true, true, true, false, false, false] rfl rfl rfl (by kernel_rfl) (by kernel_rfl) (by kernel_rfl) (fun _ _ _ h => h) ?ry81 (⟨(B23.out.go hb0r5).c0, (B23.out.go hb0r5).c1, (B23.out.go hb0r5).c2, (B24.out.go hb0r5).c0, (B24.out.go hb0r5).c1, (B24.out.go hb0r5).c2, (hb0r5.cell (p := ⟨b1, o1, none⟩) (Nat.lt_of_lt_of_le hqr51 hb25.out.size)).trans hsr51, (hb0r5.cell (p := ⟨b2, o2, none⟩) (Nat.lt_of_lt_of_le hqr52 hb25.out.size)).trans hsr52⟩) ?rm81
  case ry81 => first | exact Or.inl ⟨by rfl, by intro w'; go_simp; first | done | rfl⟩ | exact Or.inr ⟨by rfl, rfl⟩ | exact Or.inr ⟨by rfl, by rfl⟩
  case rm81 =>
  simp only [Act.put, List.setIfInBounds_toArray, List.set_cons_zero, List.set_cons_succ]
  refine anyC_take 14 42 ?rv82 #[true, true, true, true, true, true, true, true, true, true, true, true, true, true, true, false, false] rfl rfl rfl (by kernel_rfl) (by kernel_rfl) (by kernel_rfl) (fun _ _ _ h => h) ?ry82 (⟨(B23.out.go hb0r5).c0, (B23.out.go hb0r5).c1, (B23.out.go hb0r5).c2, (B24.out.go hb0r5).c0, (B24.out.go hb0r5).c1, (B24.out.go hb0r5).c2, (hb0r5.cell (p := ⟨b1, o1, none⟩) (Nat.lt_of_lt_of_le hqr51 hb25.out.size)).trans hsr51, (hb0r5.cell (p := ⟨b2, o2, none⟩) (Nat.lt_of_lt_of_le hqr52 hb25.out.size)).trans hsr52⟩) ?rm82
  case ry82 => first | exact Or.inl ⟨by rfl, by intro w' hw'; (try dsimp only at hw'); go_simp; first | done | rfl⟩ | exact Or.inr ⟨by rfl, rfl⟩ | exact Or.inr ⟨by rfl, by rfl⟩
  case rm82 =>
  simp only [Act.put, List.setIfInBounds_toArray, List.set_cons_zero, List.set_cons_succ]
  refine anyC_put 15 43 ?rv83 #[true, true, true, true, true, true, true, true, true, true, true, true, true, true, true, true, false] rfl rfl rfl (by kernel_rfl) (by kernel_rfl) (by kernel_rfl) (fun _ _ _ h => h) ?ry83 (⟨(B23.out.go hb0r5).c0, (B23.out.go hb0r5).c1, (B23.out.go hb0r5).c2, (B24.out.go hb0r5).c0, (B24.out.go hb0r5).c1, (B24.out.go hb0r5).c2, (hb0r5.cell (p := ⟨b1, o1, none⟩) (Nat.lt_of_lt_of_le hqr51 hb25.out.size)).trans hsr51, (hb0r5.cell (p := ⟨b2, o2, none⟩) (Nat.lt_of_lt_of_le hqr52 hb25.out.size)).trans hsr52⟩) ?rm83
  case ry83 => first | exact Or.inl ⟨by rfl, by intro w'; go_simp; first | done | rfl⟩ | exact Or.inr ⟨by rfl, rfl⟩ | exact Or.inr ⟨by rfl, by rfl⟩
  case rm83 =>
  simp only [Act.put, List.setIfInBounds_toArray, List.set_cons_zero, List.set_cons_succ]
  refine anyC_put 16 44 ?rv84 #[true, true, true, true, true, true, true, true, true, true, true, true, true, true, true, true, true] rfl rfl rfl (by kernel_rfl) (by kernel_rfl) (by kernel_rfl) (fun _ _ _ h => h) ?ry84 (⟨(B23.out.go hb0r5).c0, (B23.out.go hb0r5).c1, (B23.out.go hb0r5).c2, (B24.out.go hb0r5).c0, (B24.out.go hb0r5).c1, (B24.out.go hb0r5).c2, (hb0r5.cell (p := ⟨b1, o1, none⟩) (Nat.lt_of_lt_of_le hqr51 hb25.out.size)).trans hsr51, (hb0r5.cell (p := ⟨b2, o2, none⟩) (Nat.lt_of_lt_of_le hqr52 hb25.out.size)).trans hsr52⟩) ?rm84
  case ry84 => first | exact Or.inl ⟨by rfl, by intro w'; go_simp; first | done | rfl⟩
  case rm84 =>
  simp only [Act.put, List.setIfInBounds_toArray, List.set_cons_zero, List.set_cons_succ]
  refine anyC_done (by kernel_rfl) ?_
  have hB := hb0r5
  have z26 : v3.heap.size ≤ v3.drew.heap.size := hB.size
  have B27 : Hid (Abx v3.drew (w.heap.size) (.bool false) (.slice (some ⟨b1, o1, none⟩) 2 sc1) (.slice da1 dz1.length dc1)) := B23.out.go hB
  have B28 : Hid (Abx v3.drew (w.heap.size + 1) (.bool false) (.slice (some ⟨b2, o2, none⟩) 2 sc2) (.slice da2 dz2.length dc2)) := B24.out.go hB
  have hb29 : Hid (Below w.heap.size w v3.drew) := hb25.out.trans (hB.mono hb25.out.size)
  clear hB hb25 B23 B24
  have l30 := (B27.out).c0
  have l31 := (B27.out).c1
  have l32 := (B27.out).c2
  have l33 := (B28.out).c0
  have l34 := (B28.out).c1
  have l35 := (B28.out).c2
  go_wp2_with fail
  clear l30 l31 l32 l33 l34 l35
  refine (minner_ok HNi n hn (some ⟨b1, o1, none⟩) sc1 da1 dc1 dz1 dz1.length rfl HL1.out (some ⟨b2, o2, none⟩) sc2 da2 dc2 dz2 dz2.length rfl HL2.out _ ((HI1.out.1.below hb29.out).mono hb29.out.size) ((HI1.out.2.1.below hb29.out).mono hb29.out.size).1 HI1.out.2.2 ((HI2.out.1.below hb29.out).mono hb29.out.size) ((HI2.out.2.1.below hb29.out).mono hb29.out.size).1 HI2.out.2.2).mono ?_
  rintro e v4 ⟨xa1, xc1, ya1, yc1, rfl, hX1, hY1, hB⟩
  have z36 : v3.drew.heap.size ≤ v4.heap.size := hB.size
  have B37 : Hid (Abx v4 (w.heap.size) (.bool false) (.slice (some ⟨b1, o1, none⟩) 2 sc1) (.slice da1 dz1.length dc1)) := B27.out.go hB
  have B38 : Hid (Abx v4 (w.heap.size + 1) (.bool false) (.slice (some ⟨b2, o2, none⟩) 2 sc2) (.slice da2 dz2.length dc2)) := B28.out.go hB
  have hb39 : Hid (Below w.heap.size w v4) := hb29.out.trans (hB.mono hb29.out.size)
  have L40 : Hid (MidC (v3.drew.heap.size) (v4.heap.size) v4 (xa1) ([(n : Int), (n : Int)]) (xc1)) := hX1.midc
  have L41 : Hid (MidC (v3.drew.heap.size) (v4.heap.size) v4 (ya1) (mmL n dz1 dz2) (yc1)) := hY1.midc
  clear hB hb29 B27 B28 hX1 hY1
  rw [HLx.out]
  have n42 := Abx.new v4 (.bool false) (.slice (xa1) 2 (xc1)) (.slice (ya1) (N) (yc1))
  have l43 := ((B38.out.al (.cells #[.bool false, .slice (xa1) 2 (xc1), .slice (ya1) (N) (yc1)] 24))).c0
  have l44 := ((B38.out.al (.cells #[.bool false, .slice (xa1) 2 (xc1), .slice (ya1) (N) (yc1)] 24))).c1
  have l45 := ((B38.out.al (.cells #[.bool false, .slice (xa1) 2 (xc1), .slice (ya1) (N) (yc1)] 24))).c2
  have l46 := ((B37.out.al (.cells #[.bool false, .slice (xa1) 2 (xc1), .slice (ya1) (N) (yc1)] 24))).c0
  have l47 := ((B37.out.al (.cells #[.bool false, .slice (xa1) 2 (xc1), .slice (ya1) (N) (yc1)] 24))).c1
  have l48 := ((B37.out.al (.cells #[.bool false, .slice (xa1) 2 (xc1), .slice (ya1) (N) (yc1)] 24))).c2
  go_wp2_with fail
  obtain ⟨wo49, hwo49⟩ : ∃ wo49, wo49 = (v4.alloc (.cells #[.bool false, .slice (xa1) 2 (xc1), .slice (ya1) (N) (yc1)] 24)) := ⟨_, rfl⟩
  rw [← hwo49]
  have z50 : v4.heap.size + 1 ≤ wo49.heap.size := by rw [hwo49]; simp only [World.size_alloc]; omega
  have B51 : Hid (Abx wo49 (w.heap.size) (.bool false) (.slice (some ⟨b1, o1, none⟩) 2 sc1) (.slice da1 dz1.length dc1)) := by rw [hwo49]; exact (B37.out.al (.cells #[.bool false, .slice (xa1) 2 (xc1), .slice (ya1) (N) (yc1)] 24))
  have B52 : Hid (Abx wo49 (w.heap.size + 1) (.bool false) (.slice (some ⟨b2, o2, none⟩) 2 sc2) (.slice da2 dz2.length dc2)) := by rw [hwo49]; exact (B38.out.al (.cells #[.bool false, .slice (xa1) 2 (xc1), .slice (ya1) (N) (yc1)] 24))
  have B53 : Hid (Abx wo49 (v4.heap.size) (.bool false) (.slice (xa1) 2 (xc1)) (.slice (ya1) (N) (yc1))) := by rw [hwo49]; exact n42
  have L54 : Hid (MidC (v3.drew.heap.size) (v4.heap.size) wo49 (xa1) ([(n : Int), (n : Int)]) (xc1)) := by rw [hwo49]; exact (L40.out.al (by omega) (.cells #[.bool false, .slice (xa1) 2 (xc1), .slice (ya1) (N) (yc1)] 24))
  have L55 : Hid (MidC (v3.drew.heap.size) (v4.heap.size) wo49 (ya1) (mmL n dz1 dz2) (yc1)) := by rw [hwo49]; exact (L41.out.al (by omega) (.cells #[.bool false, .slice (xa1) 2 (xc1), .slice (ya1) (N) (yc1)] 24))
  have hb56 : Hid (Below w.heap.size w wo49) := by rw [hwo49]; exact (hb39.out.alloc (by omega) (.cells #[.bool false, .slice (xa1) 2 (xc1), .slice (ya1) (N) (yc1)] 24))
  have zwo49 : w.heap.size ≤ wo49.heap.size := hb56.out.size
  clear hwo49 n42 l43 l44 l45 l46 l47 l48 hb39 B37 B38 L40 L41
  refine (minner_ok HNi n hn (some ⟨b2, o2, none⟩) sc2 da2 dc2 dz2 dz2.length rfl HL2.out (some ⟨b1, o1, none⟩) sc1 da1 dc1 dz1 dz1.length rfl HL1.out _ ((HI2.out.1.below hb56.out).mono hb56.out.size) ((HI2.out.2.1.below hb56.out).mono hb56.out.size).1 HI2.out.2.2 ((HI1.out.1.below hb56.out).mono hb56.out.size) ((HI1.out.2.1.below hb56.out).mono hb56.out.size).1 HI1.out.2.2).mono ?_
  rintro e v5 ⟨xa2, xc2, ya2, yc2, rfl, hX2, hY2, hB⟩
  have z57 : wo49.heap.size ≤ v5.heap.size := hB.size
  have B58 : Hid (Abx v5 (w.heap.size) (.bool false) (.slice (some ⟨b1, o1, none⟩) 2 sc1) (.slice da1 dz1.length dc1)) := B51.out.go hB
  have B59 : Hid (Abx v5 (w.heap.size + 1) (.bool false) (.slice (some ⟨b2, o2, none⟩) 2 sc2) (.slice da2 dz2.length dc2)) := B52.out.go hB
  have B60 : Hid (Abx v5 (v4.heap.size) (.bool false) (.slice (xa1) 2 (xc1)) (.slice (ya1) (N) (yc1))) := B53.out.go hB
  have L61 : Hid (MidC (v3.drew.heap.size) (v4.heap.size) v5 (xa1) ([(n : Int), (n : Int)]) (xc1)) := L54.out.go (by omega) hB
  have L62 : Hid (MidC (v3.drew.heap.size) (v4.heap.size) v5 (ya1) (mmL n dz1 dz2) (yc1)) := L55.out.go (by omega) hB
  have hb63 : Hid (Below w.heap.size w v5) := hb56.out.trans (hB.mono hb56.out.size)
  have L64 : Hid (MidC (wo49.heap.size) (v5.heap.size) v5 (xa2) ([(n : Int), (n : Int)]) (xc2)) := hX2.midc
  have L65 : Hid (MidC (wo49.heap.size) (v5.heap.size) v5 (ya2) (mmL n dz2 dz1) (yc2)) := hY2.midc
  clear hB hb56 B51 B52 B53 L54 L55 hX2 hY2
  have n66 := Abx.new v5 (.bool false) (.slice (xa2) 2 (xc2)) (.slice (ya2) ((mmL n dz2 dz1).length) (yc2))
  have l67 := ((B60.out.al (.cells #[.bool false, .slice (xa2) 2 (xc2), .slice (ya2) ((mmL n dz2 dz1).length) (yc2)] 24))).c0
  have l68 := ((B60.out.al (.cells #[.bool false, .slice (xa2) 2 (xc2), .slice (ya2) ((mmL n dz2 dz1).length) (yc2)] 24))).c1
  have l69 := ((B60.out.al (.cells #[.bool false, .slice (xa2) 2 (xc2), .slice (ya2) ((mmL n dz2 dz1).length) (yc2)] 24))).c2
  go_wp2_with fail
  obtain ⟨wo70, hwo70⟩ : ∃ wo70, wo70 = (v5.alloc (.cells #[.bool false, .slice (xa2) 2 (xc2), .slice (ya2) ((mmL n dz2 dz1).length) (yc2)] 24)) := ⟨_, rfl⟩
  rw [← hwo70]
  have z71 : v5.heap.size + 1 ≤ wo70.heap.size := by rw [hwo70]; simp only [World.size_alloc]; omega
  have B72 : Hid (Abx wo70 (w.heap.size) (.bool false) (.slice (some ⟨b1, o1, none⟩) 2 sc1) (.slice da1 dz1.length dc1)) := by rw [hwo70]; exact (B58.out.al (.cells #[.bool false, .slice (xa2) 2 (xc2), .slice (ya2) ((mmL n dz2 dz1).length) (yc2)] 24))
  have B73 : Hid (Abx wo70 (w.heap.size + 1) (.bool false) (.slice (some ⟨b2, o2, none⟩) 2 sc2) (.slice da2 dz2.length dc2)) := by rw [hwo70]; exact (B59.out.al (.cells #[.bool false, .slice (xa2) 2 (xc2), .slice (ya2) ((mmL n dz2 dz1).length) (yc2)] 24))
  have B74 : Hid (Abx wo70 (v4.heap.size) (.bool false) (.slice (xa1) 2 (xc1)) (.slice (ya1) (N) (yc1))) := by rw [hwo70]; exact (B60.out.al (.cells #[.bool false, .slice (xa2) 2 (xc2), .slice (ya2) ((mmL n dz2 dz1).length) (yc2)] 24))
  have B75 : Hid (Abx wo70 (v5.heap.size) (.bool false) (.slice (xa2) 2 (xc2)) (.slice (ya2) ((mmL n dz2 dz1).length) (yc2))) := by rw [hwo70]; exact n66
  have L76 : Hid (MidC (v3.drew.heap.size) (v4.heap.size) wo70 (xa1) ([(n : Int), (n : Int)]) (xc1)) := by rw [hwo70]; exact (L61.out.al (by omega) (.cells #[.bool false, .slice (xa2) 2 (xc2), .slice (ya2) ((mmL n dz2 dz1).length) (yc2)] 24))
  have L77 : Hid (MidC (v3.drew.heap.size) (v4.heap.size) wo70 (ya1) (mmL n dz1 dz2) (yc1)) := by rw [hwo70]; exact (L62.out.al (by omega) (.cells #[.bool false, .slice (xa2) 2 (xc2), .slice (ya2) ((mmL n dz2 dz1).length) (yc2)] 24))
  have L78 : Hid (MidC (wo49.heap.size) (v5.heap.size) wo70 (xa2) ([(n : Int), (n : Int)]) (xc2)) := by rw [hwo70]; exact (L64.out.al (by omega) (.cells #[.bool false, .slice (xa2) 2 (xc2), .slice (ya2) ((mmL n dz2 dz1).length) (yc2)] 24))
  have L79 : Hid (MidC (wo49.heap.size) (v5.heap.size) wo70 (ya2) (mmL n dz2 dz1) (yc2)) := by rw [hwo70]; exact (L65.out.al (by omega) (.cells #[.bool false, .slice (xa2) 2 (xc2), .slice (ya2) ((mmL n dz2 dz1).length) (yc2)] 24))
  have hb80 : Hid (Below w.heap.size w wo70) := by rw [hwo70]; exact (hb63.out.alloc (by omega) (.cells #[.bool false, .slice (xa2) 2 (xc2), .slice (ya2) ((mmL n dz2 dz1).length) (yc2)] 24))
  have zwo70 : w.heap.size ≤ wo70.heap.size := hb80.out.size
  clear hwo70 n66 l67 l68 l69 hb63 B58 B59 B60 L61 L62 L64 L65
  refine (mchr_ok n hn (xa1) (xc1) (ya1) (yc1) (mmL n dz1 dz2) (N) HLx.out (mmL_len n dz1 dz2) _ (L76.out.is (by omega)).1 (L77.out.is (by omega)).1).mono ?_
  rintro e v6 ⟨ch1, rfl, hC1, hB⟩
  have z81 : wo70.heap.size ≤ v6.heap.size := hB.size
  have B82 : Hid (Abx v6 (w.heap.size) (.bool false) (.slice (some ⟨b1, o1, none⟩) 2 sc1) (.slice da1 dz1.length dc1)) := B72.out.go hB
  have B83 : Hid (Abx v6 (w.heap.size + 1) (.bool false) (.slice (some ⟨b2, o2, none⟩) 2 sc2) (.slice da2 dz2.length dc2)) := B73.out.go hB
  have B84 : Hid (Abx v6 (v4.heap.size) (.bool false) (.slice (xa1) 2 (xc1)) (.slice (ya1) (N) (yc1))) := B74.out.go hB
  have B85 : Hid (Abx v6 (v5.heap.size) (.bool false) (.slice (xa2) 2 (xc2)) (.slice (ya2) ((mmL n dz2 dz1).length) (yc2))) := B75.out.go hB
  have L86 : Hid (MidC (v3.drew.heap.size) (v4.heap.size) v6 (xa1) ([(n : Int), (n : Int)]) (xc1)) := L76.out.go (by omega) hB
  have L87 : Hid (MidC (v3.drew.heap.size) (v4.heap.size) v6 (ya1) (mmL n dz1 dz2) (yc1)) := L77.out.go (by omega) hB
  have L88 : Hid (MidC (wo49.heap.size) (v5.heap.size) v6 (xa2) ([(n : Int), (n : Int)]) (xc2)) := L78.out.go (by omega) hB
  have L89 : Hid (MidC (wo49.heap.size) (v5.heap.size) v6 (ya2) (mmL n dz2 dz1) (yc2)) := L79.out.go (by omega) hB
  have hb90 : Hid (Below w.heap.size w v6) := hb80.out.trans (hB.mono hb80.out.size)
  have L91 : Hid (MidC (wo70.heap.size) (v6.heap.size) v6 (ch1) (chR n (rdg n (mmL n dz1 dz2))) (n + 1)) := hC1.midc
  clear hB hb80 B72 B73 B74 B75 L76 L77 L78 L79 hC1
  have l92 := (B85.out).c0
  have l93 := (B85.out).c1
  have l94 := (B85.out).c2
  go_wp2_with fail
  clear l92 l93 l94
  refine (mchr_ok n hn (xa2) (xc2) (ya2) (yc2) (mmL n dz2 dz1) ((mmL n dz2 dz1).length) rfl (mmL_len n dz2 dz1) _ (L88.out.is (by omega)).1 (L89.out.is (by omega)).1).mono ?_
  rintro e v7 ⟨ch2, rfl, hC2, hB⟩
  have z95 : v6.heap.size ≤ v7.heap.size := hB.size
  have B96 : Hid (Abx v7 (w.heap.size) (.bool false) (.slice (some ⟨b1, o1, none⟩) 2 sc1) (.slice da1 dz1.length dc1)) := B82.out.go hB
  have B97 : Hid (Abx v7 (w.heap.size + 1) (.bool false) (.slice (some ⟨b2, o2, none⟩) 2 sc2) (.slice da2 dz2.length dc2)) := B83.out.go hB
  have B98 : Hid (Abx v7 (v4.heap.size) (.bool false) (.slice (xa1) 2 (xc1)) (.slice (ya1) (N) (yc1))) := B84.out.go hB
  have B99 : Hid (Abx v7 (v5.heap.size) (.bool false) (.slice (xa2) 2 (xc2)) (.slice (ya2) ((mmL n dz2 dz1).length) (yc2))) := B85.out.go hB
  have L100 : Hid (MidC (v3.drew.heap.size) (v4.heap.size) v7 (xa1) ([(n : Int), (n : Int)]) (xc1)) := L86.out.go (by omega) hB
  have L101 : Hid (MidC (v3.drew.heap.size) (v4.heap.size) v7 (ya1) (mmL n dz1 dz2) (yc1)) := L87.out.go (by omega) hB
  have L102 : Hid (MidC (wo49.heap.size) (v5.heap.size) v7 (xa2) ([(n : Int), (n : Int)]) (xc2)) := L88.out.go (by omega) hB
  have L103 : Hid (MidC (wo49.heap.size) (v5.heap.size) v7 (ya2) (mmL n dz2 dz1) (yc2)) := L89.out.go (by omega) hB
  have L104 : Hid (MidC (wo70.heap.size) (v6.heap.size) v7 (ch1) (chR n (rdg n (mmL n dz1 dz2))) (n + 1)) := L91.out.go (by omega) hB
  have hb105 : Hid (Below w.heap.size w v7) := hb90.out.trans (hB.mono hb90.out.size)
  have L106 : Hid (MidC (v6.heap.size) (v7.heap.size) v7 (ch2) (chR n (rdg n (mmL n dz2 dz1))) (n + 1)) := hC2.midc
  clear hB hb90 B82 B83 B84 B85 L86 L87 L88 L89 L91 hC2
  go_wp2_with fail
  refine (ints14 n ch1 ch2 (chR n (rdg n (mmL n dz1 dz2))) (chR n (rdg n (mmL n dz2 dz1))) (ch_syl n dz1 dz2) (by simp [chR]) hn _ (L104.out.is (by omega)).1 (L106.out.is (by omega)).1).mono ?_
  rintro e v8 ⟨rfl, hB⟩
  have z107 : v7.heap.size ≤ v8.heap.size := hB.size
  have B108 : Hid (Abx v8 (w.heap.size) (.bool false) (.slice (some ⟨b1, o1, none⟩) 2 sc1) (.slice da1 dz1.length dc1)) := B96.out.go hB
  have B109 : Hid (Abx v8 (w.heap.size + 1) (.bool false) (.slice (some ⟨b2, o2, none⟩) 2 sc2) (.slice da2 dz2.length dc2)) := B97.out.go hB
  have B110 : Hid (Abx v8 (v4.heap.size) (.bool false) (.slice (xa1) 2 (xc1)) (.slice (ya1) (N) (yc1))) := B98.out.go hB
  have B111 : Hid (Abx v8 (v5.heap.size) (.bool false) (.slice (xa2) 2 (xc2)) (.slice (ya2) ((mmL n dz2 dz1).length) (yc2))) := B99.out.go hB
  have L112 : Hid (MidC (v3.drew.heap.size) (v4.heap.size) v8 (xa1) ([(n : Int), (n : Int)]) (xc1)) := L100.out.go (by omega) hB
  have L113 : Hid (MidC (v3.drew.heap.size) (v4.heap.size) v8 (ya1) (mmL n dz1 dz2) (yc1)) := L101.out.go (by omega) hB
  have L114 : Hid (MidC (wo49.heap.size) (v5.heap.size) v8 (xa2) ([(n : Int), (n : Int)]) (xc2)) := L102.out.go (by omega) hB
  have L115 : Hid (MidC (wo49.heap.size) (v5.heap.size) v8 (ya2) (mmL n dz2 dz1) (yc2)) := L103.out.go (by omega) hB
  have L116 : Hid (MidC (wo70.heap.size) (v6.heap.size) v8 (ch1) (chR n (rdg n (mmL n dz1 dz2))) (n + 1)) := L104.out.go (by omega) hB
  have L117 : Hid (MidC (v6.heap.size) (v7.heap.size) v8 (ch2) (chR n (rdg n (mmL n dz2 dz1))) (n + 1)) := L106.out.go (by omega) hB
  have hb118 : Hid (Below w.heap.size w v8) := hb105.out.trans (hB.mono hb105.out.size)
  clear hB hb105 B96 B97 B98 B99 L100 L101 L102 L103 L104 L106
  clear L114 L115 B111 B109 L117
  have l119 := (B108.out).c0
  have l120 := (B108.out).c1
  have l121 := (B108.out).c2
  have l122 := HSh.out _ hb118.out
  have l123 := (B110.out).c0
  have l124 := (B110.out).c1
  have l125 := (B110.out).c2
  go_wp2_with fail
  clear l119 l120 l121 l122 l123 l124 l125
  go_ret
  exact ⟨rfl, hb118.out⟩
set_option maxRecDepth 100000 in
set_option maxHeartbeats 2000000 in
theorem sylv_o (HNi : CNi) (n : Nat) (hn : n ≤ 6) (b1 o1 sc1 : Nat) (da1 : Option Addr) (dc1 : Nat) (dz1 : List Int) (HL1 : Hid (dz1.length = n * n)) (b2 o2 sc2 : Nat) (da2 : Option Addr) (dc2 : Nat) (dz2 : List Int) (HL2 : Hid (dz2.length = n * n)) (w : World) (HI1 : Hid (IsC w.heap.size w (some ⟨b1, o1, none⟩) [(n : Int), (n : Int)] sc1 ∧ IsC w.heap.size w da1 dz1 dc1 ∧ ∀ j, In64 (nth dz1 j))) (HI2 : Hid (IsC w.heap.size w (some ⟨b2, o2, none⟩) [(n : Int), (n : Int)] sc2 ∧ IsC w.heap.size w da2 dz2 dc2 ∧ ∀ j, In64 (nth dz2 j))) (hz : ¬ n = 0) (hod : n % 2 = 1) :
    Calls Try.prog 7 #[.agg #[.bool false, .slice (some ⟨b1, o1, none⟩) 2 sc1, .slice da1 dz1.length dc1], .agg #[.bool false, .slice (some ⟨b2, o2, none⟩) 2 sc2, .slice da2 dz2.length dc2]] w fun e w' => e = .returned (.bool true) ∧ Below w.heap.size w w' := by
  have t0 : ((n : Int) == 0) = false := by simp; omega
  have hp : (n : Int) % 2 = 1 := by omega
  have HO : Hid (n % 2 = 1) := hod
  have HZ : Hid (¬ n = 0) := hz
  clear hod
  obtain ⟨N, hN⟩ : ∃ N, N = n * n := ⟨_, rfl⟩
  have N36 : N ≤ 36 := by have : n * n ≤ 6 * 6 := Nat.mul_le_mul hn hn; omega
  have hmul : (n : Int) * (n : Int) = (N : Int) := by rw [hN]; simp
  have HLx : Hid ((mmL n dz1 dz2).length = N) := by show _ = _; rw [mmL_len, hN]
  have HN : Hid (N = n * n) := hN
  clear hN
  have HSh : Hid (∀ v, Below w.heap.size w v → v.cell? ⟨b1, o1, none⟩ = some (.int .i64 (n : Int))) := fun v h => (shp14 HI1.out.1 h).2
  have n1 := Abx.new w (.bool false) (.slice (some ⟨b1, o1, none⟩) 2 sc1) (.slice da1 dz1.length dc1)
  have n2 := Abx.new (w.alloc (.cells #[.bool false, .slice (some ⟨b1, o1, none⟩) 2 sc1, .slice da1 dz1.length dc1] 24)) (.bool false) (.slice (some ⟨b2, o2, none⟩) 2 sc2) (.slice da2 dz2.length dc2)
  simp only [World.size_alloc] at n2
  go_enter Try.func7, Try.ntmps7
  go_wp2_with fail
  obtain ⟨wo3, hwo3⟩ : ∃ wo3, wo3 = ((w.alloc (.cells #[.bool false, .slice (some ⟨b1, o1, none⟩) 2 sc1, .slice da1 dz1.length dc1] 24)).alloc (.cells #[.bool false, .slice (some ⟨b2, o2, none⟩) 2 sc2, .slice da2 dz2.length dc2] 24)) := ⟨_, rfl⟩
  rw [← hwo3]
  have z4 : w.heap.size + 1 + 1 ≤ wo3.heap.size := by rw [hwo3]; simp only [World.size_alloc]; omega
  have B5 : Hid (Abx wo3 (w.heap.size) (.bool false) (.slice (some ⟨b1, o1, none⟩) 2 sc1) (.slice da1 dz1.length dc1)) := by rw [hwo3]; exact (n1.al (.cells #[.bool false, .slice (some ⟨b2, o2, none⟩) 2 sc2, .slice da2 dz2.length dc2] 24))
  have B6 : Hid (Abx wo3 (w.heap.size + 1) (.bool false) (.slice (some ⟨b2, o2, none⟩) 2 sc2) (.slice da2 dz2.length dc2)) := by rw [hwo3]; exact n2
  have hb7 : Hid (Below w.heap.size w wo3) := by rw [hwo3]; exact (((Below.refl w.heap.size w).alloc (by omega) (.cells #[.bool false, .slice (some ⟨b1, o1, none⟩) 2 sc1, .slice da1 dz1.length dc1] 24)).alloc (by simp only [World.size_alloc]; omega) (.cells #[.bool false, .slice (some ⟨b2, o2, none⟩) 2 sc2, .slice da2 dz2.length dc2] 24))
  have zwo3 : w.heap.size ≤ wo3.heap.size := hb7.out.size
  clear hwo3 n1 n2
  refine (fact14_any _).mono ?_
  rintro e v1 ⟨rfl, hB⟩
  have z8 : wo3.heap.size ≤ v1.heap.size := hB.size
  have B9 : Hid (Abx v1 (w.heap.size) (.bool false) (.slice (some ⟨b1, o1, none⟩) 2 sc1) (.slice da1 dz1.length dc1)) := B5.out.go hB
  have B10 : Hid (Abx v1 (w.heap.size + 1) (.bool false) (.slice (some ⟨b2, o2, none⟩) 2 sc2) (.slice da2 dz2.length dc2)) := B6.out.go hB
  have hb11 : Hid (Below w.heap.size w v1) := hb7.out.trans (hB.mono hb7.out.size)
  clear hB hb7 B5 B6
  have l12 := (B9.out).c0
  have l13 := (B9.out).c1
  have l14 := (B9.out).c2
  go_wp2_with fail
  clear l12 l13 l14
  refine (square_yes n hn (some ⟨b1, o1, none⟩) sc1 da1 dc1 dz1 dz1.length rfl HL1.out _ ((HI1.out.1.below hb11.out).mono hb11.out.size).1).mono ?_
  rintro e v2 ⟨rfl, hB⟩
  have z15 : v1.heap.size ≤ v2.heap.size := hB.size
  have B16 : Hid (Abx v2 (w.heap.size) (.bool false) (.slice (some ⟨b1, o1, none⟩) 2 sc1) (.slice da1 dz1.length dc1)) := B9.out.go hB
  have B17 : Hid (Abx v2 (w.heap.size + 1) (.bool false) (.slice (some ⟨b2, o2, none⟩) 2 sc2) (.slice da2 dz2.length dc2)) := B10.out.go hB
  have hb18 : Hid (Below w.heap.size w v2) := hb11.out.trans (hB.mono hb11.out.size)
  clear hB hb11 B9 B10
  have l19 := (B17.out).c0
  have l20 := (B17.out).c1
  have l21 := (B17.out).c2
  go_wp2_with fail
  clear l19 l20 l21
  refine (square_yes n hn (some ⟨b2, o2, none⟩) sc2 da2 dc2 dz2 dz2.length rfl HL2.out _ ((HI2.out.1.below hb18.out).mono hb18.out.size).1).mono ?_
  rintro e v3 ⟨rfl, hB⟩
  have z22 : v2.heap.size ≤ v3.heap.size := hB.size
  have B23 : Hid (Abx v3 (w.heap.size) (.bool false) (.slice (some ⟨b1, o1, none⟩) 2 sc1) (.slice da1 dz1.length dc1)) := B16.out.go hB
  have B24 : Hid (Abx v3 (w.heap.size + 1) (.bool false) (.slice (some ⟨b2, o2, none⟩) 2 sc2) (.slice da2 dz2.length dc2)) := B17.out.go hB
  have hb25 : Hid (Below w.heap.size w v3) := hb18.out.trans (hB.mono hb18.out.size)
  clear hB hb18 B16 B17
  go_wp2_with fail
  obtain ⟨hqr61, hsr61⟩ : b1 < w.heap.size ∧ v3.cell? ⟨b1, o1, none⟩ = some (.int .i64 (n : Int)) := shp14 HI1.out.1 hb25.out
  obtain ⟨hqr62, hsr62⟩ : b2 < w.heap.size ∧ v3.cell? ⟨b2, o2, none⟩ = some (.int .i64 (n : Int)) := shp14 HI2.out.1 hb25.out
  have hb0r6 : Below v3.heap.size v3 v3.drew := (Below.refl _ v3).drew
  refine anyC_begin (fun w' => w'.cell? ⟨w.heap.size, 0, none⟩ = some (.bool false) ∧ w'.cell? ⟨w.heap.size, 1, none⟩ = some (.slice (some ⟨b1, o1, none⟩) 2 sc1) ∧ w'.cell? ⟨w.heap.size, 2, none⟩ = some (.slice da1 dz1.length dc1) ∧ w'.cell? ⟨w.heap.size + 1, 0, none⟩ = some (.bool false) ∧ w'.cell? ⟨w.heap.size + 1, 1, none⟩ = some (.slice (some ⟨b2, o2, none⟩) 2 sc2) ∧ w'.cell? ⟨w.heap.size + 1, 2, none⟩ = some (.slice da2 dz2.length dc2) ∧ w'.cell? ⟨b1, o1, none⟩ = some (.int .i64 (n : Int)) ∧ w'.cell? ⟨b2, o2, none⟩ = some (.int .i64 (n : Int))) 17 #[false, false, false, false, false, false, false, false, false, false, false, false, false, false, false, false, false] (by kernel_rfl) rfl rfl ?_
  refine anyC_put 0 28 ?rv85 #[true, false, false, false, false, false, false, false, false, false, false, false, false, false, false, false, false] rfl rfl rfl (by kernel_rfl) (by kernel_rfl) (by kernel_rfl) (fun _ _ _ h => h) ?ry85 (⟨(B23.out.go hb0r6).c0, (B23.out.go hb0r6).c1, (B23.out.go hb0r6).c2, (B24.out.go hb0r6).c0, (B24.out.go hb0r6).c1, (B24.out.go hb0r6).c2, (hb0r6.cell (p := ⟨b1, o1, none⟩) (Nat.lt_of_lt_of_le hqr61 hb25.out.size)).trans hsr61, (hb0r6.cell (p := ⟨b2, o2, none⟩) (Nat.lt_of_lt_of_le hqr62 hb25.out.size)).trans hsr62⟩) ?rm85
  case ry85 => first | exact Or.inl ⟨by rfl, by intro w'; go_simp; first | done | rfl⟩
  case rm85 =>
  simp only [Act.put, List.setIfInBounds_toArray, List.set_cons_zero, List.set_cons_succ]
  refine anyC_put 1 29 ?rv86 #[true, true, false, false, false, false, false, false, false, false, false, false, false, false, false, false, false] rfl rfl rfl (by kernel_rfl) (by kernel_rfl) (by kernel_rfl) (fun _ _ _ h => h) ?ry86 (⟨(B23.out.go hb0r6).c0, (B23.out.go hb0r6).c1, (B23.out.go hb0r6).c2, (B24.out.go hb0r6).c0, (B24.out.go hb0r6).c1, (B24.out.go hb0r6).c2, (hb0r6.cell (p := ⟨b1, o1, none⟩) (Nat.lt_of_lt_of_le hqr61 hb25.out.size)).trans hsr61, (hb0r6.cell (p := ⟨b2, o2, none⟩) (Nat.lt_of_lt_of_le hqr62 hb25.out.size)).trans hsr62⟩) ?rm86
  case ry86 => first | exact Or.inl ⟨by rfl, by intro w'; go_simp; first | done | rfl⟩
  case rm86 =>
  simp only [Act.put, List.setIfInBounds_toArray, List.set_cons_zero, List.set_cons_succ]
  refine anyC_put 2 30 ?rv87 #[true, true, true, false, false, false, false, false, false, false, false, false, false, false, false, false, false] rfl rfl rfl (by kernel_rfl) (by kernel_rfl) (by kernel_rfl) (fun _ _ _ h => h) ?ry87 (⟨(B23.out.go hb0r6).c0, (B23.out.go hb0r6).c1, (B23.out.go hb0r6).c2, (B24.out.go hb0r6).c0, (B24.out.go hb0r6).c1, (B24.out.go hb0r6).c2, (hb0r6.cell (p := ⟨b1, o1, none⟩) (Nat.lt_of_lt_of_le hqr61 hb25.out.size)).trans hsr61, (hb0r6.cell (p := ⟨b2, o2, none⟩) (Nat.lt_of_lt_of_le hqr62 hb25.out.size)).trans hsr62⟩) ?rm87
  case ry87 => first | exact Or.inl ⟨by rfl, by intro w'; go_simp; first | done | rfl⟩
  case rm87 =>
  simp only [Act.put, List.setIfInBounds_toArray, List.set_cons_zero, List.set_cons_succ]
  refine anyC_put 3 31 ?rv88 #[true, true, true, true, false, false, false, false, false, false, false, false, false, false, false, false, false] rfl rfl rfl (by kernel_rfl) (by kernel_rfl) (by kernel_rfl) (fun _ _ _ h => h) ?ry88 (⟨(B23.out.go hb0r6).c0, (B23.out.go hb0r6).c1, (B23.out.go hb0r6).c2, (B24.out.go hb0r6).c0, (B24.out.go hb0r6).c1, (B24.out.go hb0r6).c2, (hb0r6.cell (p := ⟨b1, o1, none⟩) (Nat.lt_of_lt_of_le hqr61 hb25.out.size)).trans hsr61, (hb0r6.cell (p := ⟨b2, o2, none⟩) (Nat.lt_of_lt_of_le hqr62 hb25.out.size)).trans hsr62⟩) ?rm88
  case ry88 => first | exact Or.inl ⟨by rfl, by intro w'; go_simp; first | done | rfl⟩ | exact Or.inr ⟨by rfl, rfl⟩ | exact Or.inr ⟨by rfl, by rfl⟩
  case rm88 =>
  simp only [Act.put, List.setIfInBounds_toArray, List.set_cons_zero, List.set_cons_succ]
  refine anyC_put 4 32 ?rv89 #[true, true, true, true, true, false, false, false, false, false, false, false, false, false, false, false, false] rfl rfl rfl (by kernel_rfl) (by kernel_rfl) (by kernel_rfl) (fun _ _ _ h => h) ?ry89 (⟨(B23.out.go hb0r6).c0, (B23.out.go hb0r6).c1, (B23.out.go hb0r6).c2, (B24.out.go hb0r6).c0, (B24.out.go hb0r6).c1, (B24.out.go hb0r6).c2, (hb0r6.cell (p := ⟨b1, o1, none⟩) (Nat.lt_of_lt_of_le hqr61 hb25.out.size)).trans hsr61, (hb0r6.cell (p := ⟨b2, o2, none⟩) (Nat.lt_of_lt_of_le hqr62 hb25.out.size)).trans hsr62⟩) ?rm89
  case ry89 => first | exact Or.inl ⟨by rfl, by intro w'; go_simp; first | done | rfl⟩ | exact Or.inr ⟨by rfl, rfl⟩ | exact Or.inr ⟨by rfl, by rfl⟩
  case rm89 =>
  simp only [Act.put, List.setIfInBounds_toArray, List.set_cons_zero, List.set_cons_succ]
  refine anyC_put 5 33 ?rv90 #[true, true, true, true, true, true, false, false, false, false, false, false, false, false, false, false, false] rfl rfl rfl (by kernel_rfl) (by kernel_rfl) (by kernel_rfl) (fun _ _ _ h => h) ?ry90 (⟨(B23.out.go hb0r6).c0, (B23.out.go hb0r6).c1, (B23.out.go hb0r6).c2, (B24.out.go hb0r6).c0, (B24.out.go hb0r6).c1, (B24.out.go hb0r6).c2, (hb0r6.cell (p := ⟨b1, o1, none⟩) (Nat.lt_of_lt_of_le hqr61 hb25.out.size)).trans hsr61, (hb0r6.cell (p := ⟨b2, o2, none⟩) (Nat.lt_of_lt_of_le hqr62 hb25.out.size)).trans hsr62⟩) ?rm90
  case ry90 => first | exact Or.inl ⟨by rfl, by intro w'; go_simp; first | done | rfl⟩
  case rm90 =>
  simp only [Act.put, List.setIfInBounds_toArray, List.set_cons_zero, List.set_cons_succ]
  refine anyC_put 6 34 ?rv91 #[true, true, true, true, true, true, true, false, false, false, false, false, false, false, false, false, false] rfl rfl rfl (by kernel_rfl) (by kernel_rfl) (by kernel_rfl) (fun _ _ _ h => h) ?ry91 (⟨(B23.out.go hb0r6).c0, (B23.out.go hb0r6).c1, (B23.out.go hb0r6).c2, (B24.out.go hb0r6).c0, (B24.out.go hb0r6).c1, (B24.out.go hb0r6).c2, (hb0r6.cell (p := ⟨b1, o1, none⟩) (Nat.lt_of_lt_of_le hqr61 hb25.out.size)).trans hsr61, (hb0r6.cell (p := ⟨b2, o2, none⟩) (Nat.lt_of_lt_of_le hqr62 hb25.out.size)).trans hsr62⟩) ?rm91
  case ry91 => first | exact Or.inl ⟨by rfl, by intro w'; go_simp; first | done | rfl⟩
  case rm91 =>
  simp only [Act.put, List.setIfInBounds_toArray, List.set_cons_zero, List.set_cons_succ]
  refine anyC_put 7 35 ?rv92 #[true, true, true, true, true, true, true, true, false, false, false, false, false, false, false, false, false] rfl rfl rfl (by kernel_rfl) (by kernel_rfl) (by kernel_rfl) (fun _ _ _ h => h) ?ry92 (⟨(B23.out.go hb0r6).c0, (B23.out.go hb0r6).c1, (B23.out.go hb0r6).c2, (B24.out.go hb0r6).c0, (B24.out.go hb0r6).c1, (B24.out.go hb0r6).c2, (hb0r6.cell (p := ⟨b1, o1, none⟩) (Nat.lt_of_lt_of_le hqr61 hb25.out.size)).trans hsr61, (hb0r6.cell (p := ⟨b2, o2, none⟩) (Nat.lt_of_lt_of_le hqr62 hb25.out.size)).trans hsr62⟩) ?rm92
  case ry92 => first | exact Or.inl ⟨by rfl, by intro w'; go_simp; first | done | rfl⟩ | exact Or.inr ⟨by rfl, rfl⟩ | exact Or.inr ⟨by rfl, by rfl⟩
  case rm92 =>
  simp only [Act.put, List.setIfInBounds_toArray, List.set_cons_zero, List.set_cons_succ]
  refine anyC_take 8 36 ?rv93 #[true, true, true, true, true, true, true, true, true, false, false, false, false, false, false, false, false] rfl rfl rfl (by kernel_rfl) (by kernel_rfl) (by kernel_rfl) (fun _ _ _ h => h) ?ry93 (⟨(B23.out.go hb0r6).c0, (B23.out.go hb0r6).c1, (B23.out.go hb0r6).c2, (B24.out.go hb0r6).c0, (B24.out.go hb0r6).c1, (B24.out.go hb0r6).c2, (hb0r6.cell (p := ⟨b1, o1, none⟩) (Nat.lt_of_lt_of_le hqr61 hb25.out.size)).trans hsr61, (hb0r6.cell (p := ⟨b2, o2, none⟩) (Nat.lt_of_lt_of_le hqr62 hb25.out.size)).trans hsr62⟩) ?rm93
  case ry93 => first | exact Or.inl ⟨by rfl, by intro w' hw'; (try dsimp only at hw'); go_simp; first | done | rfl⟩ | exact Or.inr ⟨by rfl, rfl⟩ | exact Or.inr ⟨by rfl, by rfl⟩
  case rm93 =>
  simp only [Act.put, List.setIfInBounds_toArray, List.set_cons_zero, List.set_cons_succ]
  refine anyC_put 9 37 ?rv94 #[true, true, true, true, true, true, true, true, true, true, false, false, false, false, false, false, false] rfl rfl rfl (by kernel_rfl) (by kernel_rfl) (by kernel_rfl) (fun _ _ _ h => h) ?ry94 (⟨(B23.out.go hb0r6).c0, (B23.out.go hb0r6).c1, (B23.out.go hb0r6).c2, (B24.out.go hb0r6).c0, (B24.out.go hb0r6).c1, (B24.out.go hb0r6).c2, (hb0r6.cell (p := ⟨b1, o1, none⟩) (Nat.lt_of_lt_of_le hqr61 hb25.out.size)).trans hsr61, (hb0r6.cell (p := ⟨b2, o2, none⟩) (Nat.lt_of_lt_of_le hqr62 hb25.out.size)).trans hsr62⟩) ?rm94
  case ry94 => first | exact Or.inl ⟨by rfl, by intro w'; go_simp; first | done | rfl⟩ | exact Or.inr ⟨by rfl, rfl⟩ | exact Or.inr ⟨by rfl, by rfl⟩
  case rm94 =>
  simp only [Act.put, List.setIfInBounds_toArray, List.set_cons_zero, List.set_cons_succ]
  refine anyC_take 10 38 ?rv95 #[true, true, true, true, true, true, true, true, true, true, true, false, false, false, false, false, false] rfl rfl rfl (by kernel_rfl) (by kernel_rfl) (by kernel_rfl) (fun _ _ _ h => h) ?ry95 (⟨(B23.out.go hb0r6).c0, (B23.out.go hb0r6).c1, (B23.out.go hb0r6).c2, (B24.out.go hb0r6).c0, (B24.out.go hb0r6).c1, (B24.out.go hb0r6).c2, (hb0r6.cell (p := ⟨b1, o1, none⟩) (Nat.lt_of_lt_of_le hqr61 hb25.out.size)).trans hsr61, (hb0r6.cell (p := ⟨b2, o2, none⟩) (Nat.lt_of_lt_of_le hqr62 hb25.out.size)).trans hsr62⟩) ?rm95
  case ry95 => first | exact Or.inl ⟨by rfl, by intro w' hw'; (try dsimp only at hw'); go_simp; first | done | rfl⟩ | exact Or.inr ⟨by rfl, rfl⟩ | exact Or.inr ⟨by rfl, by rfl⟩
  case rm95 =>
  simp only [Act.put, List.setIfInBounds_toArray, List.set_cons_zero, List.set_cons_succ]
  refine anyC_put 11 39 ?rv96 #[true, true, true, true, true, true, true, true, true, true, true, true, false, false, false, false, false] rfl rfl rfl (by kernel_rfl) (by kernel_rfl) (by kernel_rfl) (fun _ _ _ h => h) ?ry96 (⟨(B23.out.go hb0r6).c0, (B23.out.go hb0r6).c1, (B23.out.go hb0r6).c2, (B24.out.go hb0r6).c0, (B24.out.go hb0r6).c1, (B24.out.go hb0r6).c2, (hb0r6.cell (p := ⟨b1, o1, none⟩) (Nat.lt_of_lt_of_le hqr61 hb25.out.size)).trans hsr61, (hb0r6.cell (p := ⟨b2, o2, none⟩) (Nat.lt_of_lt_of_le hqr62 hb25.out.size)).trans hsr62⟩) ?rm96
  case ry96 => first | exact Or.inl ⟨by rfl, by intro w'; go_simp; first | done | rfl⟩ | exact Or.inr ⟨by rfl, rfl⟩ | exact Or.inr ⟨by rfl, by rfl⟩
  case rm96 =>
  simp only [Act.put, List.setIfInBounds_toArray, List.set_cons_zero, List.set_cons_succ]
  refine anyC_take 12 40 ?rv97 #[true, true, true, true, true, true, true, true, true, true, true, true, true, false, false, false, false] rfl rfl rfl (by kernel_rfl) (by kernel_rfl) (by kernel_rfl) (fun _ _ _ h => h) ?ry97 (⟨(B23.out.go hb0r6).c0, (B23.out.go hb0r6).c1, (B23.out.go hb0r6).c2, (B24.out.go hb0r6).c0, (B24.out.go hb0r6).c1, (B24.out.go hb0r6).c2, (hb0r6.cell (p := ⟨b1, o1, none⟩) (Nat.lt_of_lt_of_le hqr61 hb25.out.size)).trans hsr61, (hb0r6.cell (p := ⟨b2, o2, none⟩) (Nat.lt_of_lt_of_le hqr62 hb25.out.size)).trans hsr62⟩) ?rm97
  case ry97 => first | exact Or.inl ⟨by rfl, by intro w' hw'; (try dsimp only at hw'); go_simp; first | done | rfl⟩ | exact Or.inr ⟨by rfl, rfl⟩ | exact Or.inr ⟨by rfl, by rfl⟩
  case rm97 =>
  simp only [Act.put, List.setIfInBounds_toArray, List.set_cons_zero, List.set_cons_succ]
  refine anyC_put 13 41 ?rv98 #[true, true, true, true, true, true, true, true, true, true, true, true, true, true, false, false, false] rfl rfl rfl (by kernel_rfl) (by kernel_rfl) (by kernel_rfl) (fun _ _ _ h => h) ?ry98 (⟨(B23.out.go hb0r6).c0, (B23.out.go hb0r6).c1, (B23.out.go hb0r6).c2, (B24.out.go hb0r6).c0, (B24.out.go hb0r6).c1, (B24.out.go hb0r6).c2, (hb0r6.cell (p := ⟨b1, o1, none⟩) (Nat.lt_of_lt_of_le hqr61 hb25.out.size)).trans hsr61, (hb0r6.cell (p := ⟨b2, o2, none⟩) (Nat.lt_of_lt_of_le hqr62 hb25.out.size)).trans hsr62⟩) ?rm98
  case ry98 => first | exact Or.inl ⟨by rfl, by intro w'; go_simp; first | done | rfl⟩ | exact Or.inr ⟨by rfl, rfl⟩ | exact Or.inr ⟨by rfl, by rfl⟩
  case rm98 =>
  simp only [Act.put, List.setIfInBounds_toArray, List.set_cons_zero, List.set_cons_succ]
  refine anyC_take 14 42 ?rv99 #[true, true, true, true, true, true, true, true, true, true, true, true, true, true, true, false, false] rfl rfl rfl (by kernel_rfl) (by kernel_rfl) (by kernel_rfl) (fun _ _ _ h => h) ?ry99 (⟨(B23.out.go hb0r6).c0, (B23.out.go hb0r6).c1, (B23.out.go hb0r6).c2, (B24.out.go hb0r6).c0, (B24.out.go hb0r6).c1, (B24.out.go hb0r6).c2, (hb0r6.cell (p := ⟨b1, o1, none⟩) (Nat.lt_of_lt_of_le hqr61 hb25.out.size)).trans hsr61, (hb0r6.cell (p := ⟨b2, o2, none⟩) (Nat.lt_of_lt_of_le hqr62 hb25.out.size)).trans hsr62⟩) ?rm99
  case ry99 => first | exact Or.inl ⟨by rfl, by intro w' hw'; (try dsimp only at hw'); go_simp; first | done | rfl⟩ | exact Or.inr ⟨by rfl, rfl⟩ | exact Or.inr ⟨by rfl, by rfl⟩
  case rm99 =>
  simp only [Act.put, List.setIfInBounds_toArray, List.set_cons_zero, List.set_cons_succ]
  refine anyC_put 15 43 ?rv100 #[true, true, true, true, true, true, true, true, true, true, true, true, true, true, true, true, false] rfl rfl rfl (by kernel_rfl) (by kernel_rfl) (by kernel_rfl) (fun _ _ _ h => h) ?ry100 (⟨(B23.out.go hb0r6).c0, (B23.out.go hb0r6).c1, (B23.out.go hb0r6).c2, (B24.out.go hb0r6).c0, (B24.out.go hb0r6).c1, (B24.out.go hb0r6).c2, (hb0r6.cell (p := ⟨b1, o1, none⟩) (Nat.lt_of_lt_of_le hqr61 hb25.out.size)).trans hsr61, (hb0r6.cell (p := ⟨b2, o2, none⟩) (Nat.lt_of_lt_of_le hqr62 hb25.out.size)).trans hsr62⟩) ?rm100
  case ry100 => first | exact Or.inl ⟨by rfl, by intro w'; go_simp; first | done | rfl⟩ | exact Or.inr ⟨by rfl, rfl⟩ | exact Or.inr ⟨by rfl, by rfl⟩
  case rm100 =>
  simp only [Act.put, List.setIfInBounds_toArray, List.set_cons_zero, List.set_cons_succ]
  refine anyC_put 16 44 ?rv101 #[true, true, true, true, true, true, true, true, true, true, true, true, true, true, true, true, true] rfl rfl rfl (by kernel_rfl) (by kernel_rfl) (by kernel_rfl) (fun _ _ _ h => h) ?ry101 (⟨(B23.out.go hb0r6).c0, (B23.out.go hb0r6).c1, (B23.out.go hb0r6).c2, (B24.out.go hb0r6).c0, (B24.out.go hb0r6).c1, (B24.out.go hb0r6).c2, (hb0r6.cell (p := ⟨b1, o1, none⟩) (Nat.lt_of_lt_of_le hqr61 hb25.out.size)).trans hsr61, (hb0r6.cell (p := ⟨b2, o2, none⟩) (Nat.lt_of_lt_of_le hqr62 hb25.out.size)).trans hsr62⟩) ?rm101
  case ry101 => first | exact Or.inl ⟨by rfl, by intro w'; go_simp; first | done | rfl⟩
  case rm101 =>
  simp only [Act.put, List.setIfInBounds_toArray, List.set_cons_zero, List.set_cons_succ]
  refine anyC_done (by kernel_rfl) ?_
  have hB := hb0r6
  have z26 : v3.heap.size ≤ v3.drew.heap.size := hB.size
  have B27 : Hid (Abx v3.drew (w.heap.size) (.bool false) (.slice (some ⟨b1, o1, none⟩) 2 sc1) (.slice da1 dz1.length dc1)) := B23.out.go hB
  have B28 : Hid (Abx v3.drew (w.heap.size + 1) (.bool false) (.slice (some ⟨b2, o2, none⟩) 2 sc2) (.slice da2 dz2.length dc2)) := B24.out.go hB
  have hb29 : Hid (Below w.heap.size w v3.drew) := hb25.out.trans (hB.mono hb25.out.size)
  clear hB hb25 B23 B24
  have l30 := (B27.out).c0
  have l31 := (B27.out).c1
  have l32 := (B27.out).c2
  have l33 := (B28.out).c0
  have l34 := (B28.out).c1
  have l35 := (B28.out).c2
  go_wp2_with fail
  clear l30 l31 l32 l33 l34 l35
  refine (minner_ok HNi n hn (some ⟨b1, o1, none⟩) sc1 da1 dc1 dz1 dz1.length rfl HL1.out (some ⟨b2, o2, none⟩) sc2 da2 dc2 dz2 dz2.length rfl HL2.out _ ((HI1.out.1.below hb29.out).mono hb29.out.size) ((HI1.out.2.1.below hb29.out).mono hb29.out.size).1 HI1.out.2.2 ((HI2.out.1.below hb29.out).mono hb29.out.size) ((HI2.out.2.1.below hb29.out).mono hb29.out.size).1 HI2.out.2.2).mono ?_
  rintro e v4 ⟨xa1, xc1, ya1, yc1, rfl, hX1, hY1, hB⟩
  have z36 : v3.drew.heap.size ≤ v4.heap.size := hB.size
  have B37 : Hid (Abx v4 (w.heap.size) (.bool false) (.slice (some ⟨b1, o1, none⟩) 2 sc1) (.slice da1 dz1.length dc1)) := B27.out.go hB
  have B38 : Hid (Abx v4 (w.heap.size + 1) (.bool false) (.slice (some ⟨b2, o2, none⟩) 2 sc2) (.slice da2 dz2.length dc2)) := B28.out.go hB
  have hb39 : Hid (Below w.heap.size w v4) := hb29.out.trans (hB.mono hb29.out.size)
  have L40 : Hid (MidC (v3.drew.heap.size) (v4.heap.size) v4 (xa1) ([(n : Int), (n : Int)]) (xc1)) := hX1.midc
  have L41 : Hid (MidC (v3.drew.heap.size) (v4.heap.size) v4 (ya1) (mmL n dz1 dz2) (yc1)) := hY1.midc
  clear hB hb29 B27 B28 hX1 hY1
  rw [HLx.out]
  have n42 := Abx.new v4 (.bool false) (.slice (xa1) 2 (xc1)) (.slice (ya1) (N) (yc1))
  have l43 := ((B38.out.al (.cells #[.bool false, .slice (xa1) 2 (xc1), .slice (ya1) (N) (yc1)] 24))).c0
  have l44 := ((B38.out.al (.cells #[.bool false, .slice (xa1) 2 (xc1), .slice (ya1) (N) (yc1)] 24))).c1
  have l45 := ((B38.out.al (.cells #[.bool false, .slice (xa1) 2 (xc1), .slice (ya1) (N) (yc1)] 24))).c2
  have l46 := ((B37.out.al (.cells #[.bool false, .slice (xa1) 2 (xc1), .slice (ya1) (N) (yc1)] 24))).c0
  have l47 := ((B37.out.al (.cells #[.bool false, .slice (xa1) 2 (xc1), .slice (ya1) (N) (yc1)] 24))).c1
  have l48 := ((B37.out.al (.cells #[.bool false, .slice (xa1) 2 (xc1), .slice (ya1) (N) (yc1)] 24))).c2
  go_wp2_with fail
  obtain ⟨wo49, hwo49⟩ : ∃ wo49, wo49 = (v4.alloc (.cells #[.bool false, .slice (xa1) 2 (xc1), .slice (ya1) (N) (yc1)] 24)) := ⟨_, rfl⟩
  rw [← hwo49]
  have z50 : v4.heap.size + 1 ≤ wo49.heap.size := by rw [hwo49]; simp only [World.size_alloc]; omega
  have B51 : Hid (Abx wo49 (w.heap.size) (.bool false) (.slice (some ⟨b1, o1, none⟩) 2 sc1) (.slice da1 dz1.length dc1)) := by rw [hwo49]; exact (B37.out.al (.cells #[.bool false, .slice (xa1) 2 (xc1), .slice (ya1) (N) (yc1)] 24))
  have B52 : Hid (Abx wo49 (w.heap.size + 1) (.bool false) (.slice (some ⟨b2, o2, none⟩) 2 sc2) (.slice da2 dz2.length dc2)) := by rw [hwo49]; exact (B38.out.al (.cells #[.bool false, .slice (xa1) 2 (xc1), .slice (ya1) (N) (yc1)] 24))
  have B53 : Hid (Abx wo49 (v4.heap.size) (.bool false) (.slice (xa1) 2 (xc1)) (.slice (ya1) (N) (yc1))) := by rw [hwo49]; exact n42
  have L54 : Hid (MidC (v3.drew.heap.size) (v4.heap.size) wo49 (xa1) ([(n : Int), (n : Int)]) (xc1)) := by rw [hwo49]; exact (L40.out.al (by omega) (.cells #[.bool false, .slice (xa1) 2 (xc1), .slice (ya1) (N) (yc1)] 24))
  have L55 : Hid (MidC (v3.drew.heap.size) (v4.heap.size) wo49 (ya1) (mmL n dz1 dz2) (yc1)) := by rw [hwo49]; exact (L41.out.al (by omega) (.cells #[.bool false, .slice (xa1) 2 (xc1), .slice (ya1) (N) (yc1)] 24))
  have hb56 : Hid (Below w.heap.size w wo49) := by rw [hwo49]; exact (hb39.out.alloc (by omega) (.cells #[.bool false, .slice (xa1) 2 (xc1), .slice (ya1) (N) (yc1)] 24))
  have zwo49 : w.heap.size ≤ wo49.heap.size := hb56.out.size
  clear hwo49 n42 l43 l44 l45 l46 l47 l48 hb39 B37 B38 L40 L41
  refine (minner_ok HNi n hn (some ⟨b2, o2, none⟩) sc2 da2 dc2 dz2 dz2.length rfl HL2.out (some ⟨b1, o1, none⟩) sc1 da1 dc1 dz1 dz1.length rfl HL1.out _ ((HI2.out.1.below hb56.out).mono hb56.out.size) ((HI2.out.2.1.below hb56.out).mono hb56.out.size).1 HI2.out.2.2 ((HI1.out.1.below hb56.out).mono hb56.out.size) ((HI1.out.2.1.below hb56.out).mono hb56.out.size).1 HI1.out.2.2).mono ?_
  rintro e v5 ⟨xa2, xc2, ya2, yc2, rfl, hX2, hY2, hB⟩
  have z57 : wo49.heap.size ≤ v5.heap.size := hB.size
  have B58 : Hid (Abx v5 (w.heap.size) (.bool false) (.slice (some ⟨b1, o1, none⟩) 2 sc1) (.slice da1 dz1.length dc1)) := B51.out.go hB
  have B59 : Hid (Abx v5 (w.heap.size + 1) (.bool false) (.slice (some ⟨b2, o2, none⟩) 2 sc2) (.slice da2 dz2.length dc2)) := B52.out.go hB
  have B60 : Hid (Abx v5 (v4.heap.size) (.bool false) (.slice (xa1) 2 (xc1)) (.slice (ya1) (N) (yc1))) := B53.out.go hB
  have L61 : Hid (MidC (v3.drew.heap.size) (v4.heap.size) v5 (xa1) ([(n : Int), (n : Int)]) (xc1)) := L54.out.go (by omega) hB
  have L62 : Hid (MidC (v3.drew.heap.size) (v4.heap.size) v5 (ya1) (mmL n dz1 dz2) (yc1)) := L55.out.go (by omega) hB
  have hb63 : Hid (Below w.heap.size w v5) := hb56.out.trans (hB.mono hb56.out.size)
  have L64 : Hid (MidC (wo49.heap.size) (v5.heap.size) v5 (xa2) ([(n : Int), (n : Int)]) (xc2)) := hX2.midc
  have L65 : Hid (MidC (wo49.heap.size) (v5.heap.size) v5 (ya2) (mmL n dz2 dz1) (yc2)) := hY2.midc
  clear hB hb56 B51 B52 B53 L54 L55 hX2 hY2
  have n66 := Abx.new v5 (.bool false) (.slice (xa2) 2 (xc2)) (.slice (ya2) ((mmL n dz2 dz1).length) (yc2))
  have l67 := ((B60.out.al (.cells #[.bool false, .slice (xa2) 2 (xc2), .slice (ya2) ((mmL n dz2 dz1).length) (yc2)] 24))).c0
  have l68 := ((B60.out.al (.cells #[.bool false, .slice (xa2) 2 (xc2), .slice (ya2) ((mmL n dz2 dz1).length) (yc2)] 24))).c1
  have l69 := ((B60.out.al (.cells #[.bool false, .slice (xa2) 2 (xc2), .slice (ya2) ((mmL n dz2 dz1).length) (yc2)] 24))).c2
  go_wp2_with fail
  obtain ⟨wo70, hwo70⟩ : ∃ wo70, wo70 = (v5.alloc (.cells #[.bool false, .slice (xa2) 2 (xc2), .slice (ya2) ((mmL n dz2 dz1).length) (yc2)] 24)) := ⟨_, rfl⟩
  rw [← hwo70]
  have z71 : v5.heap.size + 1 ≤ wo70.heap.size := by rw [hwo70]; simp only [World.size_alloc]; omega
  have B72 : Hid (Abx wo70 (w.heap.size) (.bool false) (.slice (some ⟨b1, o1, none⟩) 2 sc1) (.slice da1 dz1.length dc1)) := by rw [hwo70]; exact (B58.out.al (.cells #[.bool false, .slice (xa2) 2 (xc2), .slice (ya2) ((mmL n dz2 dz1).length) (yc2)] 24))
  have B73 : Hid (Abx wo70 (w.heap.size + 1) (.bool false) (.slice (some ⟨b2, o2, none⟩) 2 sc2) (.slice da2 dz2.length dc2)) := by rw [hwo70]; exact (B59.out.al (.cells #[.bool false, .slice (xa2) 2 (xc2), .slice (ya2) ((mmL n dz2 dz1).length) (yc2)] 24))
  have B74 : Hid (Abx wo70 (v4.heap.size) (.bool false) (.slice (xa1) 2 (xc1)) (.slice (ya1) (N) (yc1))) := by rw [hwo70]; exact (B60.out.al (.cells #[.bool false, .slice (xa2) 2 (xc2), .slice (ya2) ((mmL n dz2 dz1).length) (yc2)] 24))
  have B75 : Hid (Abx wo70 (v5.heap.size) (.bool false) (.slice (xa2) 2 (xc2)) (.slice (ya2) ((mmL n dz2 dz1).length) (yc2))) := by rw [hwo70]; exact n66
  have L76 : Hid (MidC (v3.drew.heap.size) (v4.heap.size) wo70 (xa1) ([(n : Int), (n : Int)]) (xc1)) := by rw [hwo70]; exact (L61.out.al (by omega) (.cells #[.bool false, .slice (xa2) 2 (xc2), .slice (ya2) ((mmL n dz2 dz1).length) (yc2)] 24))
  have L77 : Hid (MidC (v3.drew.heap.size) (v4.heap.size) wo70 (ya1) (mmL n dz1 dz2) (yc1)) := by rw [hwo70]; exact (L62.out.al (by omega) (.cells #[.bool false, .slice (xa2) 2 (xc2), .slice (ya2) ((mmL n dz2 dz1).length) (yc2)] 24))
  have L78 : Hid (MidC (wo49.heap.size) (v5.heap.size) wo70 (xa2) ([(n : Int), (n : Int)]) (xc2)) := by rw [hwo70]; exact (L64.out.al (by omega) (.cells #[.bool false, .slice (xa2) 2 (xc2), .slice (ya2) ((mmL n dz2 dz1).length) (yc2)] 24))
  have L79 : Hid (MidC (wo49.heap.size) (v5.heap.size) wo70 (ya2) (mmL n dz2 dz1) (yc2)) := by rw [hwo70]; exact (L65.out.al (by omega) (.cells #[.bool false, .slice (xa2) 2 (xc2), .slice (ya2) ((mmL n dz2 dz1).length) (yc2)] 24))
  have hb80 : Hid (Below w.heap.size w wo70) := by rw [hwo70]; exact (hb63.out.alloc (by omega) (.cells #[.bool false, .slice (xa2) 2 (xc2), .slice (ya2) ((mmL n dz2 dz1).length) (yc2)] 24))
  have zwo70 : w.heap.size ≤ wo70.heap.size := hb80.out.size
  clear hwo70 n66 l67 l68 l69 hb63 B58 B59 B60 L61 L62 L64 L65
  refine (mchr_ok n hn (xa1) (xc1) (ya1) (yc1) (mmL n dz1 dz2) (N) HLx.out (mmL_len n dz1 dz2) _ (L76.out.is (by omega)).1 (L77.out.is (by omega)).1).mono ?_
  rintro e v6 ⟨ch1, rfl, hC1, hB⟩
  have z81 : wo70.heap.size ≤ v6.heap.size := hB.size
  have B82 : Hid (Abx v6 (w.heap.size) (.bool false) (.slice (some ⟨b1, o1, none⟩) 2 sc1) (.slice da1 dz1.length dc1)) := B72.out.go hB
  have B83 : Hid (Abx v6 (w.heap.size + 1) (.bool false) (.slice (some ⟨b2, o2, none⟩) 2 sc2) (.slice da2 dz2.length dc2)) := B73.out.go hB
  have B84 : Hid (Abx v6 (v4.heap.size) (.bool false) (.slice (xa1) 2 (xc1)) (.slice (ya1) (N) (yc1))) := B74.out.go hB
  have B85 : Hid (Abx v6 (v5.heap.size) (.bool false) (.slice (xa2) 2 (xc2)) (.slice (ya2) ((mmL n dz2 dz1).length) (yc2))) := B75.out.go hB
  have L86 : Hid (MidC (v3.drew.heap.size) (v4.heap.size) v6 (xa1) ([(n : Int), (n : Int)]) (xc1)) := L76.out.go (by omega) hB
  have L87 : Hid (MidC (v3.drew.heap.size) (v4.heap.size) v6 (ya1) (mmL n dz1 dz2) (yc1)) := L77.out.go (by omega) hB
  have L88 : Hid (MidC (wo49.heap.size) (v5.heap.size) v6 (xa2) ([(n : Int), (n : Int)]) (xc2)) := L78.out.go (by omega) hB
  have L89 : Hid (MidC (wo49.heap.size) (v5.heap.size) v6 (ya2) (mmL n dz2 dz1) (yc2)) := L79.out.go (by omega) hB
  have hb90 : Hid (Below w.heap.size w v6) := hb80.out.trans (hB.mono hb80.out.size)
  have L91 : Hid (MidC (wo70.heap.size) (v6.heap.size) v6 (ch1) (chR n (rdg n (mmL n dz1 dz2))) (n + 1)) := hC1.midc
  clear hB hb80 B72 B73 B74 B75 L76 L77 L78 L79 hC1
  have l92 := (B85.out).c0
  have l93 := (B85.out).c1
  have l94 := (B85.out).c2
  go_wp2_with fail
  clear l92 l93 l94
  refine (mchr_ok n hn (xa2) (xc2) (ya2) (yc2) (mmL n dz2 dz1) ((mmL n dz2 dz1).length) rfl (mmL_len n dz2 dz1) _ (L88.out.is (by omega)).1 (L89.out.is (by omega)).1).mono ?_
  rintro e v7 ⟨ch2, rfl, hC2, hB⟩
  have z95 : v6.heap.size ≤ v7.heap.size := hB.size
  have B96 : Hid (Abx v7 (w.heap.size) (.bool false) (.slice (some ⟨b1, o1, none⟩) 2 sc1) (.slice da1 dz1.length dc1)) := B82.out.go hB
  have B97 : Hid (Abx v7 (w.heap.size + 1) (.bool false) (.slice (some ⟨b2, o2, none⟩) 2 sc2) (.slice da2 dz2.length dc2)) := B83.out.go hB
  have B98 : Hid (Abx v7 (v4.heap.size) (.bool false) (.slice (xa1) 2 (xc1)) (.slice (ya1) (N) (yc1))) := B84.out.go hB
  have B99 : Hid (Abx v7 (v5.heap.size) (.bool false) (.slice (xa2) 2 (xc2)) (.slice (ya2) ((mmL n dz2 dz1).length) (yc2))) := B85.out.go hB
  have L100 : Hid (MidC (v3.drew.heap.size) (v4.heap.size) v7 (xa1) ([(n : Int), (n : Int)]) (xc1)) := L86.out.go (by omega) hB
  have L101 : Hid (MidC (v3.drew.heap.size) (v4.heap.size) v7 (ya1) (mmL n dz1 dz2) (yc1)) := L87.out.go (by omega) hB
  have L102 : Hid (MidC (wo49.heap.size) (v5.heap.size) v7 (xa2) ([(n : Int), (n : Int)]) (xc2)) := L88.out.go (by omega) hB
  have L103 : Hid (MidC (wo49.heap.size) (v5.heap.size) v7 (ya2) (mmL n dz2 dz1) (yc2)) := L89.out.go (by omega) hB
  have L104 : Hid (MidC (wo70.heap.size) (v6.heap.size) v7 (ch1) (chR n (rdg n (mmL n dz1 dz2))) (n + 1)) := L91.out.go (by omega) hB
  have hb105 : Hid (Below w.heap.size w v7) := hb90.out.trans (hB.mono hb90.out.size)
  have L106 : Hid (MidC (v6.heap.size) (v7.heap.size) v7 (ch2) (chR n (rdg n (mmL n dz2 dz1))) (n + 1)) := hC2.midc
  clear hB hb90 B82 B83 B84 B85 L86 L87 L88 L89 L91 hC2
  go_wp2_with fail
  refine (ints14 n ch1 ch2 (chR n (rdg n (mmL n dz1 dz2))) (chR n (rdg n (mmL n dz2 dz1))) (ch_syl n dz1 dz2) (by simp [chR]) hn _ (L104.out.is (by omega)).1 (L106.out.is (by omega)).1).mono ?_
  rintro e v8 ⟨rfl, hB⟩
  have z107 : v7.heap.size ≤ v8.heap.size := hB.size
  have B108 : Hid (Abx v8 (w.heap.size) (.bool false) (.slice (some ⟨b1, o1, none⟩) 2 sc1) (.slice da1 dz1.length dc1)) := B96.out.go hB
  have B109 : Hid (Abx v8 (w.heap.size + 1) (.bool false) (.slice (some ⟨b2, o2, none⟩) 2 sc2) (.slice da2 dz2.length dc2)) := B97.out.go hB
  have B110 : Hid (Abx v8 (v4.heap.size) (.bool false) (.slice (xa1) 2 (xc1)) (.slice (ya1) (N) (yc1))) := B98.out.go hB
  have B111 : Hid (Abx v8 (v5.heap.size) (.bool false) (.slice (xa2) 2 (xc2)) (.slice (ya2) ((mmL n dz2 dz1).length) (yc2))) := B99.out.go hB
  have L112 : Hid (MidC (v3.drew.heap.size) (v4.heap.size) v8 (xa1) ([(n : Int), (n : Int)]) (xc1)) := L100.out.go (by omega) hB
  have L113 : Hid (MidC (v3.drew.heap.size) (v4.heap.size) v8 (ya1) (mmL n dz1 dz2) (yc1)) := L101.out.go (by omega) hB
  have L114 : Hid (MidC (wo49.heap.size) (v5.heap.size) v8 (xa2) ([(n : Int), (n : Int)]) (xc2)) := L102.out.go (by omega) hB
  have L115 : Hid (MidC (wo49.heap.size) (v5.heap.size) v8 (ya2) (mmL n dz2 dz1) (yc2)) := L103.out.go (by omega) hB
  have L116 : Hid (MidC (wo70.heap.size) (v6.heap.size) v8 (ch1) (chR n (rdg n (mmL n dz1 dz2))) (n + 1)) := L104.out.go (by omega) hB
  have L117 : Hid (MidC (v6.heap.size) (v7.heap.size) v8 (ch2) (chR n (rdg n (mmL n dz2 dz1))) (n + 1)) := L106.out.go (by omega) hB
  have hb118 : Hid (Below w.heap.size w v8) := hb105.out.trans (hB.mono hb105.out.size)
  clear hB hb105 B96 B97 B98 B99 L100 L101 L102 L103 L104 L106
  clear L114 L115 B111 B109 L117
  have l119 := (B108.out).c0
  have l120 := (B108.out).c1
  have l121 := (B108.out).c2
  have l122 := HSh.out _ hb118.out
  have l123 := (B110.out).c0
  have l124 := (B110.out).c1
  have l125 := (B110.out).c2
  go_wp2_with fail
  clear l119 l120 l121 l122 l123 l124 l125
  go_loopw [18, 19] (fun q i wr => wr = v8 ∧ ∃ t : Nat, t ≤ n ∧ i = .int .i64 t ∧ q = .int .i64 (wrap64 (sm t fun i => nth (mmL n dz1 dz2) (i * n + i)))) (fun _ i _ => n - (intOf i).toNat)
  case atStart => exact ⟨rfl, 0, Nat.zero_le _, rfl, congrArg (Value.int .i64) (w_small (n := 0) (by decide) (by decide)).symm⟩
  case round =>
    obtain ⟨hwr, t, ht, rfl, rfl⟩ := hrel
    obtain rfl := hwr.symm
    by_cases hlt : t < n
    · obtain ⟨Q, hQ⟩ : ∃ Q, Q = t * n := ⟨_, rfl⟩
      have hQi : (t : Int) * (n : Int) = (Q : Int) := by rw [hQ]; simp
      have hQb : Q + t < N := by rw [hQ, HN.out]; exact row_lt hlt hlt
      obtain ⟨b', o', rfl, _, _, c3, _⟩ := L113.out.at (i := Q + t) (by rw [HLx.out]; exact hQb)
      have c2 := B110.out.c2
      obtain ⟨X0, hX0⟩ : ∃ X0, X0 = nth (mmL n dz1 dz2) (Q + t) := ⟨_, rfl⟩
      rw [← hX0] at c3
      have HS : Hid (sm (t + 1) (fun i => nth (mmL n dz1 dz2) (i * n + i)) = sm t (fun i => nth (mmL n dz1 dz2) (i * n + i)) + X0) := by show _ + _ = _; rw [hX0, hQ]
      generalize hS0 : sm t (fun i => nth (mmL n dz1 dz2) (i * n + i)) = S0 at *
      clear hS0 hX0 hQ
      go_wp2_with fail
      refine ⟨⟨trivial, t + 1, by omega, by go_num, congrArg (Value.int .i64) ?_⟩, by simp [intOf]; omega⟩
      rw [HS.out, w_addl]
    · obtain rfl : n = t := by omega
      have bx := B110.out
      have p0 := bx.c0
      have p1 := bx.c1
      have p2 := bx.c2
      go_wp2_with fail
      clear p0 p1 p2 bx
      refine (sdet_any n hn (xa1) (xc1) (ya1) (yc1) (mmL n dz1 dz2) (N) HLx.out (mmL_len n dz1 dz2) _ (L112.out.is (by omega)).1 (L113.out.is (by omega)).1).mono ?_
      rintro e v9 ⟨rfl, hB⟩
      have z126 : v8.heap.size ≤ v9.heap.size := hB.size
      have B127 : Hid (Abx v9 (w.heap.size) (.bool false) (.slice (some ⟨b1, o1, none⟩) 2 sc1) (.slice da1 dz1.length dc1)) := B108.out.go hB
      have B128 : Hid (Abx v9 (v4.heap.size) (.bool false) (.slice (xa1) 2 (xc1)) (.slice (ya1) (N) (yc1))) := B110.out.go hB
      have L129 : Hid (MidC (v3.drew.heap.size) (v4.heap.size) v9 (xa1) ([(n : Int), (n : Int)]) (xc1)) := L112.out.go (by omega) hB
      have L130 : Hid (MidC (v3.drew.heap.size) (v4.heap.size) v9 (ya1) (mmL n dz1 dz2) (yc1)) := L113.out.go (by omega) hB
      have L131 : Hid (MidC (wo70.heap.size) (v6.heap.size) v9 (ch1) (chR n (rdg n (mmL n dz1 dz2))) (n + 1)) := L116.out.go (by omega) hB
      have hb132 : Hid (Below w.heap.size w v9) := hb118.out.trans (hB.mono hb118.out.size)
      clear hB hb118 B108 B110 L112 L113 L116
      obtain ⟨m, hm⟩ : ∃ m, n = m + 1 := ⟨n - 1, by have := HZ.out; omega⟩
      have hsb : (n : Int) - 1 = (m : Int) := by omega
      have hml : (m : Int) < (n : Int) + 1 := by omega
      have hm2 : m < n + 1 := by omega
      obtain ⟨bc, oc, rfl, _, _, e0, _⟩ := L131.out.at (i := 0) (by rw [chR_len]; omega)
      obtain ⟨bc', oc', hbc, _, _, e1, _⟩ := L131.out.at (i := m) (by rw [chR_len]; omega)
      cases hbc
      rw [Nat.add_zero] at e0
      have HA : Hid (nth (chR n (rdg n (mmL n dz1 dz2))) m = wrap64 (-wrap64 (sm n fun i => nth (mmL n dz1 dz2) (i * n + i)))) := by
        show _ = _
        rw [chR_nth _ hm2, show n - m = 1 by omega, chc_one, w_neg]
        exact cg.neg (cg.sm fun i hi => by rw [rdg_at hi hi]; exact cg.rfl' _)
      have HBz : Hid (nth (chR n (rdg n (mmL n dz1 dz2))) 0 = wrap64 (-wrap64 (dt n (rdg n (mmL n dz1 dz2))))) := by
        show _ = _
        rw [chR_nth _ (by omega), Nat.sub_zero, chc_all, sg_odd HO.out]
        rw [Int.neg_one_mul, w_neg]
      rw [HA.out] at e1
      rw [HBz.out] at e0
      clear hm HA HBz
      generalize wrap64 (sm n fun i => nth (mmL n dz1 dz2) (i * n + i)) = TR at *
      generalize wrap64 (dt n (rdg n (mmL n dz1 dz2))) = DT at *
      go_wp2_with fail
      go_ret
      exact ⟨ret_bool (by simp), hb132.out⟩
set_option maxRecDepth 100000 in
set_option maxHeartbeats 2000000 in
theorem sylv_e (HNi : CNi) (n : Nat) (hn : n ≤ 6) (b1 o1 sc1 : Nat) (da1 : Option Addr) (dc1 : Nat) (dz1 : List Int) (HL1 : Hid (dz1.length = n * n)) (b2 o2 sc2 : Nat) (da2 : Option Addr) (dc2 : Nat) (dz2 : List Int) (HL2 : Hid (dz2.length = n * n)) (w : World) (HI1 : Hid (IsC w.heap.size w (some ⟨b1, o1, none⟩) [(n : Int), (n : Int)] sc1 ∧ IsC w.heap.size w da1 dz1 dc1 ∧ ∀ j, In64 (nth dz1 j))) (HI2 : Hid (IsC w.heap.size w (some ⟨b2, o2, none⟩) [(n : Int), (n : Int)] sc2 ∧ IsC w.heap.size w da2 dz2 dc2 ∧ ∀ j, In64 (nth dz2 j))) (hz : ¬ n = 0) (hod : n % 2 = 0) :
    Calls Try.prog 7 #[.agg #[.bool false, .slice (some ⟨b1, o1, none⟩) 2 sc1, .slice da1 dz1.length dc1], .agg #[.bool false, .slice (some ⟨b2, o2, none⟩) 2 sc2, .slice da2 dz2.length dc2]] w fun e w' => e = .returned (.bool true) ∧ Below w.heap.size w w' := by
  have t0 : ((n : Int) == 0) = false := by simp; omega
  have hp : (n : Int) % 2 = 0 := by omega
  have HO : Hid (n % 2 = 0) := hod
  have HZ : Hid (¬ n = 0) := hz
  clear hod
  obtain ⟨N, hN⟩ : ∃ N, N = n * n := ⟨_, rfl⟩
  have N36 : N ≤ 36 := by have : n * n ≤ 6 * 6 := Nat.mul_le_mul hn hn; omega
  have hmul : (n : Int) * (n : Int) = (N : Int) := by rw [hN]; simp
  have HLx : Hid ((mmL n dz1 dz2).length = N) := by show _ = _; rw [mmL_len, hN]
  have HN : Hid (N = n * n) := hN
  clear hN
  have HSh : Hid (∀ v, Below w.heap.size w v → v.cell? ⟨b1, o1, none⟩ = some (.int .i64 (n : Int))) := fun v h => (shp14 HI1.out.1 h).2
  have n1 := Abx.new w (.bool false) (.slice (some ⟨b1, o1, none⟩) 2 sc1) (.slice da1 dz1.length dc1)
  have n2 := Abx.new (w.alloc (.cells #[.bool false, .slice (some ⟨b1, o1, none⟩) 2 sc1, .slice da1 dz1.length dc1] 24)) (.bool false) (.slice (some ⟨b2, o2, none⟩) 2 sc2) (.slice da2 dz2.length dc2)
  simp only [World.size_alloc] at n2
  go_enter Try.func7, Try.ntmps7
  go_wp2_with fail
  obtain ⟨wo3, hwo3⟩ : ∃ wo3, wo3 = ((w.alloc (.cells #[.bool false, .slice (some ⟨b1, o1, none⟩) 2 sc1, .slice da1 dz1.length dc1] 24)).alloc (.cells #[.bool false, .slice (some ⟨b2, o2, none⟩) 2 sc2, .slice da2 dz2.length dc2] 24)) := ⟨_, rfl⟩
  rw [← hwo3]
  have z4 : w.heap.size + 1 + 1 ≤ wo3.heap.size := by rw [hwo3]; simp only [World.size_alloc]; omega
  have B5 : Hid (Abx wo3 (w.heap.size) (.bool false) (.slice (some ⟨b1, o1, none⟩) 2 sc1) (.slice da1 dz1.length dc1)) := by rw [hwo3]; exact (n1.al (.cells #[.bool false, .slice (some ⟨b2, o2, none⟩) 2 sc2, .slice da2 dz2.length dc2] 24))
  have B6 : Hid (Abx wo3 (w.heap.size + 1) (.bool false) (.slice (some ⟨b2, o2, none⟩) 2 sc2) (.slice da2 dz2.length dc2)) := by rw [hwo3]; exact n2
  have hb7 : Hid (Below w.heap.size w wo3) := by rw [hwo3]; exact (((Below.refl w.heap.size w).alloc (by omega) (.cells #[.bool false, .slice (some ⟨b1, o1, none⟩) 2 sc1, .slice da1 dz1.length dc1] 24)).alloc (by simp only [World.size_alloc]; omega) (.cells #[.bool false, .slice (some ⟨b2, o2, none⟩) 2 sc2, .slice da2 dz2.length dc2] 24))
  have zwo3 : w.heap.size ≤ wo3.heap.size := hb7.out.size
  clear hwo3 n1 n2
  refine (fact14_any _).mono ?_
  rintro e v1 ⟨rfl, hB⟩
  have z8 : wo3.heap.size ≤ v1.heap.size := hB.size
  have B9 : Hid (Abx v1 (w.heap.size) (.bool false) (.slice (some ⟨b1, o1, none⟩) 2 sc1) (.slice da1 dz1.length dc1)) := B5.out.go hB
  have B10 : Hid (Abx v1 (w.heap.size + 1) (.bool false) (.slice (some ⟨b2, o2, none⟩) 2 sc2) (.slice da2 dz2.length dc2)) := B6.out.go hB
  have hb11 : Hid (Below w.heap.size w v1) := hb7.out.trans (hB.mono hb7.out.size)
  clear hB hb7 B5 B6
  have l12 := (B9.out).c0
  have l13 := (B9.out).c1
  have l14 := (B9.out).c2
  go_wp2_with fail
  clear l12 l13 l14
  refine (square_yes n hn (some ⟨b1, o1, none⟩) sc1 da1 dc1 dz1 dz1.length rfl HL1.out _ ((HI1.out.1.below hb11.out).mono hb11.out.size).1).mono ?_
  rintro e v2 ⟨rfl, hB⟩
  have z15 : v1.heap.size ≤ v2.heap.size := hB.size
  have B16 : Hid (Abx v2 (w.heap.size) (.bool false) (.slice (some ⟨b1, o1, none⟩) 2 sc1) (.slice da1 dz1.length dc1)) := B9.out.go hB
  have B17 : Hid (Abx v2 (w.heap.size + 1) (.bool false) (.slice (some ⟨b2, o2, none⟩) 2 sc2) (.slice da2 dz2.length dc2)) := B10.out.go hB
  have hb18 : Hid (Below w.heap.size w v2) := hb11.out.trans (hB.mono hb11.out.size)
  clear hB hb11 B9 B10
  have l19 := (B17.out).c0
  have l20 := (B17.out).c1
  have l21 := (B17.out).c2
  go_wp2_with fail
  clear l19 l20 l21
  refine (square_yes n hn (some ⟨b2, o2, none⟩) sc2 da2 dc2 dz2 dz2.length rfl HL2.out _ ((HI2.out.1.below hb18.out).mono hb18.out.size).1).mono ?_
  rintro e v3 ⟨rfl, hB⟩
  have z22 : v2.heap.size ≤ v3.heap.size := hB.size
  have B23 : Hid (Abx v3 (w.heap.size) (.bool false) (.slice (some ⟨b1, o1, none⟩) 2 sc1) (.slice da1 dz1.length dc1)) := B16.out.go hB
  have B24 : Hid (Abx v3 (w.heap.size + 1) (.bool false) (.slice (some ⟨b2, o2, none⟩) 2 sc2) (.slice da2 dz2.length dc2)) := B17.out.go hB
  have hb25 : Hid (Below w.heap.size w v3) := hb18.out.trans (hB.mono hb18.out.size)
  clear hB hb18 B16 B17
  go_wp2_with fail
  obtain ⟨hqr71, hsr71⟩ : b1 < w.heap.size ∧ v3.cell? ⟨b1, o1, none⟩ = some (.int .i64 (n : Int)) := shp14 HI1.out.1 hb25.out
  obtain ⟨hqr72, hsr72⟩ : b2 < w.heap.size ∧ v3.cell? ⟨b2, o2, none⟩ = some (.int .i64 (n : Int)) := shp14 HI2.out.1 hb25.out
  have hb0r7 : Below v3.heap.size v3 v3.drew := (Below.refl _ v3).drew
  refine anyC_begin (fun w' => w'.cell? ⟨w.heap.size, 0, none⟩ = some (.bool false) ∧ w'.cell? ⟨w.heap.size, 1, none⟩ = some (.slice (some ⟨b1, o1, none⟩) 2 sc1) ∧ w'.cell? ⟨w.heap.size, 2, none⟩ = some (.slice da1 dz1.length dc1) ∧ w'.cell? ⟨w.heap.size + 1, 0, none⟩ = some (.bool false) ∧ w'.cell? ⟨w.heap.size + 1, 1, none⟩ = some (.slice (some ⟨b2, o2, none⟩) 2 sc2) ∧ w'.cell? ⟨w.heap.size + 1, 2, none⟩ = some (.slice da2 dz2.length dc2) ∧ w'.cell? ⟨b1, o1, none⟩ = some (.int .i64 (n : Int)) ∧ w'.cell? ⟨b2, o2, none⟩ = some (.int .i64 (n : Int))) 17 #[false, false, false, false, false, false, false, false, false, false, false, false, false, false, false, false, false] (by kernel_rfl) rfl rfl ?_
  refine anyC_put 0 28 ?rv102 #[true, false, false, false, false, false, false, false, false, false, false, false, false, false, false, false, false] rfl rfl rfl (by kernel_rfl) (by kernel_rfl) (by kernel_rfl) (fun _ _ _ h => h) ?ry102 (⟨(B23.out.go hb0r7).c0, (B23.out.go hb0r7).c1, (B23.out.go hb0r7).c2, (B24.out.go hb0r7).c0, (B24.out.go hb0r7).c1, (B24.out.go hb0r7).c2, (hb0r7.cell (p := ⟨b1, o1, none⟩) (Nat.lt_of_lt_of_le hqr71 hb25.out.size)).trans hsr71, (hb0r7.cell (p := ⟨b2, o2, none⟩) (Nat.lt_of_lt_of_le hqr72 hb25.out.size)).trans hsr72⟩) ?rm102
  case ry102 => first | exact Or.inl ⟨by rfl, by intro w'; go_simp; first | done | rfl⟩
  case rm102 =>
  simp only [Act.put, List.setIfInBounds_toArray, List.set_cons_zero, List.set_cons_succ]
  refine anyC_put 1 29 ?rv103 #[true, true, false, false, false, false, false, false, false, false, false, false, false, false, false, false, false] rfl rfl rfl (by kernel_rfl) (by kernel_rfl) (by kernel_rfl) (fun _ _ _ h => h) ?ry103 (⟨(B23.out.go hb0r7).c0, (B23.out.go hb0r7).c1, (B23.out.go hb0r7).c2, (B24.out.go hb0r7).c0, (B24.out.go hb0r7).c1, (B24.out.go hb0r7).c2, (hb0r7.cell (p := ⟨b1, o1, none⟩) (Nat.lt_of_lt_of_le hqr71 hb25.out.size)).trans hsr71, (hb0r7.cell (p := ⟨b2, o2, none⟩) (Nat.lt_of_lt_of_le hqr72 hb25.out.size)).trans hsr72⟩) ?rm103
  case ry103 => first | exact Or.inl ⟨by rfl, by intro w'; go_simp; first | done | rfl⟩
  case rm103 =>
  simp only [Act.put, List.setIfInBounds_toArray, List.set_cons_zero, List.set_cons_succ]
  refine anyC_put 2 30 ?rv104 #[true, true, true, false, false, false, false, false, false, false, false, false, false, false, false, false, false] rfl rfl rfl (by kernel_rfl) (by kernel_rfl) (by kernel_rfl) (fun _ _ _ h => h) ?ry104 (⟨(B23.out.go hb0r7).c0, (B23.out.go hb0r7).c1, (B23.out.go hb0r7).c2, (B24.out.go hb0r7).c0, (B24.out.go hb0r7).c1, (B24.out.go hb0r7).c2, (hb0r7.cell (p := ⟨b1, o1, none⟩) (Nat.lt_of_lt_of_le hqr71 hb25.out.size)).trans hsr71, (hb0r7.cell (p := ⟨b2, o2, none⟩) (Nat.lt_of_lt_of_le hqr72 hb25.out.size)).trans hsr72⟩) ?rm104
  case ry104 => first | exact Or.inl ⟨by rfl, by intro w'; go_simp; first | done | rfl⟩
  case rm104 =>
  simp only [Act.put, List.setIfInBounds_toArray, List.set_cons_zero, List.set_cons_succ]
  refine anyC_put 3 31 ?rv105 #[true, true, true, true, false, false, false, false, false, false, false, false, false, false, false, false, false] rfl rfl rfl (by kernel_rfl) (by kernel_rfl) (by kernel_rfl) (fun _ _ _ h => h) ?ry105 (⟨(B23.out.go hb0r7).c0, (B23.out.go hb0r7).c1, (B23.out.go hb0r7).c2, (B24.out.go hb0r7).c0, (B24.out.go hb0r7).c1, (B24.out.go hb0r7).c2, (hb0r7.cell (p := ⟨b1, o1, none⟩) (Nat.lt_of_lt_of_le hqr71 hb25.out.size)).trans hsr71, (hb0r7.cell (p := ⟨b2, o2, none⟩) (Nat.lt_of_lt_of_le hqr72 hb25.out.size)).trans hsr72⟩) ?rm105
  case ry105 => first | exact Or.inl ⟨by rfl, by intro w'; go_simp; first | done | rfl⟩ | exact Or.inr ⟨by rfl, rfl⟩ | exact Or.inr ⟨by rfl, by rfl⟩
  case rm105 =>
  simp only [Act.put, List.setIfInBounds_toArray, List.set_cons_zero, List.set_cons_succ]
  refine anyC_put 4 32 ?rv106 #[true, true, true, true, true, false, false, false, false, false, false, false, false, false, false, false, false] rfl rfl rfl (by kernel_rfl) (by kernel_rfl) (by kernel_rfl) (fun _ _ _ h => h) ?ry106 (⟨(B23.out.go hb0r7).c0, (B23.out.go hb0r7).c1, (B23.out.go hb0r7).c2, (B24.out.go hb0r7).c0, (B24.out.go hb0r7).c1, (B24.out.go hb0r7).c2, (hb0r7.cell (p := ⟨b1, o1, none⟩) (Nat.lt_of_lt_of_le hqr71 hb25.out.size)).trans hsr71, (hb0r7.cell (p := ⟨b2, o2, none⟩) (Nat.lt_of_lt_of_le hqr72 hb25.out.size)).trans hsr72⟩) ?rm106
  case ry106 => first | exact Or.inl ⟨by rfl, by intro w'; go_simp; first | done | rfl⟩ | exact Or.inr ⟨by rfl, rfl⟩ | exact Or.inr ⟨by rfl, by rfl⟩
  case rm106 =>
  simp only [Act.put, List.setIfInBounds_toArray, List.set_cons_zero, List.set_cons_succ]
  refine anyC_put 5 33 ?rv107 #[true, true, true, true, true, true, false, false, false, false, false, false, false, false, false, false, false] rfl rfl rfl (by kernel_rfl) (by kernel_rfl) (by kernel_rfl) (fun _ _ _ h => h) ?ry107 (⟨(B23.out.go hb0r7).c0, (B23.out.go hb0r7).c1, (B23.out.go hb0r7).c2, (B24.out.go hb0r7).c0, (B24.out.go hb0r7).c1, (B24.out.go hb0r7).c2, (hb0r7.cell (p := ⟨b1, o1, none⟩) (Nat.lt_of_lt_of_le hqr71 hb25.out.size)).trans hsr71, (hb0r7.cell (p := ⟨b2, o2, none⟩) (Nat.lt_of_lt_of_le hqr72 hb25.out.size)).trans hsr72⟩) ?rm107
  case ry107 => first | exact Or.inl ⟨by rfl, by intro w'; go_simp; first | done | rfl⟩
  case rm107 =>
  simp only [Act.put, List.setIfInBounds_toArray, List.set_cons_zero, List.set_cons_succ]
  refine anyC_put 6 34 ?rv108 #[true, true, true, true, true, true, true, false, false, false, false, false, false, false, false, false, false] rfl rfl rfl (by kernel_rfl) (by kernel_rfl) (by kernel_rfl) (fun _ _ _ h => h) ?ry108 (⟨(B23.out.go hb0r7).c0, (B23.out.go hb0r7).c1, (B23.out.go hb0r7).c2, (B24.out.go hb0r7).c0, (B24.out.go hb0r7).c1, (B24.out.go hb0r7).c2, (hb0r7.cell (p := ⟨b1, o1, none⟩) (Nat.lt_of_lt_of_le hqr71 hb25.out.size)).trans hsr71, (hb0r7.cell (p := ⟨b2, o2, none⟩) (Nat.lt_of_lt_of_le hqr72 hb25.out.size)).trans hsr72⟩) ?rm108
  case ry108 => first | exact Or.inl ⟨by rfl, by intro w'; go_simp; first | done | rfl⟩
  case rm108 =>
  simp only [Act.put, List.setIfInBounds_toArray, List.set_cons_zero, List.set_cons_succ]
  refine anyC_put 7 35 ?rv109 #[true, true, true, true, true, true, true, true, false, false, false, false, false, false, false, false, false] rfl rfl rfl (by kernel_rfl) (by kernel_rfl) (by kernel_rfl) (fun _ _ _ h => h) ?ry109 (⟨(B23.out.go hb0r7).c0, (B23.out.go hb0r7).c1, (B23.out.go hb0r7).c2, (B24.out.go hb0r7).c0, (B24.out.go hb0r7).c1, (B24.out.go hb0r7).c2, (hb0r7.cell (p := ⟨b1, o1, none⟩) (Nat.lt_of_lt_of_le hqr71 hb25.out.size)).trans hsr71, (hb0r7.cell (p := ⟨b2, o2, none⟩) (Nat.lt_of_lt_of_le hqr72 hb25.out.size)).trans hsr72⟩) ?rm109
  case ry109 => first | exact Or.inl ⟨by rfl, by intro w'; go_simp; first | done | rfl⟩ | exact Or.inr ⟨by rfl, rfl⟩ | exact Or.inr ⟨by rfl, by rfl⟩
  case rm109 =>
  simp only [Act.put, List.setIfInBounds_toArray, List.set_cons_zero, List.set_cons_succ]
  refine anyC_take 8 36 ?rv110 #[true, true, true, true, true, true, true, true, true, false, false, false, false, false, false, false, false] rfl rfl rfl (by kernel_rfl) (by kernel_rfl) (by kernel_rfl) (fun _ _ _ h => h) ?ry110 (⟨(B23.out.go hb0r7).c0, (B23.out.go hb0r7).c1, (B23.out.go hb0r7).c2, (B24.out.go hb0r7).c0, (B24.out.go hb0r7).c1, (B24.out.go hb0r7).c2, (hb0r7.cell (p := ⟨b1, o1, none⟩) (Nat.lt_of_lt_of_le hqr71 hb25.out.size)).trans hsr71, (hb0r7.cell (p := ⟨b2, o2, none⟩) (Nat.lt_of_lt_of_le hqr72 hb25.out.size)).trans hsr72⟩) ?rm110
  case ry110 => first | exact Or.inl ⟨by rfl, by intro w' hw'; (try dsimp only at hw'); go_simp; first | done | rfl⟩ | exact Or.inr ⟨by rfl, rfl⟩ | exact Or.inr ⟨by rfl, by rfl⟩
  case rm110 =>
  simp only [Act.put, List.setIfInBounds_toArray, List.set_cons_zero, List.set_cons_succ]
  refine anyC_put 9 37 ?rv111 #[true, true, true, true, true, true, true, true, true, true, false, false, false, false, false, false, false] rfl rfl rfl (by kernel_rfl) (by kernel_rfl) (by kernel_rfl) (fun _ _ _ h => h) ?ry111 (⟨(B23.out.go hb0r7).c0, (B23.out.go hb0r7).c1, (B23.out.go hb0r7).c2, (B24.out.go hb0r7).c0, (B24.out.go hb0r7).c1, (B24.out.go hb0r7).c2, (hb0r7.cell (p := ⟨b1, o1, none⟩) (Nat.lt_of_lt_of_le hqr71 hb25.out.size)).trans hsr71, (hb0r7.cell (p := ⟨b2, o2, none⟩) (Nat.lt_of_lt_of_le hqr72 hb25.out.size)).trans hsr72⟩) ?rm111
  case ry111 => first | exact Or.inl ⟨by rfl, by intro w'; go_simp; first | done | rfl⟩ | exact Or.inr ⟨by rfl, rfl⟩ | exact Or.inr ⟨by rfl, by rfl⟩
  case rm111 =>
  simp only [Act.put, List.setIfInBounds_toArray, List.set_cons_zero, List.set_cons_succ]
  refine anyC_take 10 38 ?rv112 #[true, true, true, true, true, true, true, true, true, true, true, false, false, false, false, false, false] rfl rfl rfl (by kernel_rfl) (by kernel_rfl) (by kernel_rfl) (fun _ _ _ h => h) ?ry112 (⟨(B23.out.go hb0r7).c0, (B23.out.go hb0r7).c1, (B23.out.go hb0r7).c2, (B24.out.go hb0r7).c0, (B24.out.go hb0r7).c1, (B24.out.go hb0r7).c2, (hb0r7.cell (p := ⟨b1, o1, none⟩) (Nat.lt_of_lt_of_le hqr71 hb25.out.size)).trans hsr71, (hb0r7.cell (p := ⟨b2, o2, none⟩) (Nat.lt_of_lt_of_le hqr72 hb25.out.size)).trans hsr72⟩) ?rm112
  case ry112 => first | exact Or.inl ⟨by rfl, by intro w' hw'; (try dsimp only at hw'); go_simp; first | done | rfl⟩ | exact Or.inr ⟨by rfl, rfl⟩ | exact Or.inr ⟨by rfl, by rfl⟩
  case rm112 =>
  simp only [Act.put, List.setIfInBounds_toArray, List.set_cons_zero, List.set_cons_succ]
  refine anyC_put 11 39 ?rv113 #[true, true, true, true, true, true, true, true, true, true, true, true, false, false, false, false, false] rfl rfl rfl (by kernel_rfl) (by kernel_rfl) (by kernel_rfl) (fun _ _ _ h => h) ?ry113 (⟨(B23.out.go hb0r7).c0, (B23.out.go hb0r7).c1, (B23.out.go hb0r7).c2, (B24.out.go hb0r7).c0, (B24.out.go hb0r7).c1, (B24.out.go hb0r7).c2, (hb0r7.cell (p := ⟨b1, o1, none⟩) (Nat.lt_of_lt_of_le hqr71 hb25.out.size)).trans hsr71, (hb0r7.cell (p := ⟨b2, o2, none⟩) (Nat.lt_of_lt_of_le hqr72 hb25.out.size)).trans hsr72⟩) ?rm113
  case ry113 => first | exact Or.inl ⟨by rfl, by intro w'; go_simp; first | done | rfl⟩ | exact Or.inr ⟨by rfl, rfl⟩ | exact Or.inr ⟨by rfl, by rfl⟩
  case rm113 =>
  simp only [Act.put, List.setIfInBounds_toArray, List.set_cons_zero, List.set_cons_succ]
  refine anyC_take 12 40 ?rv114 #[true, true, true, true, true, true, true, true, true, true, true, true, true, false, false, false, false] rfl rfl rfl (by kernel_rfl) (by kernel_rfl) (by kernel_rfl) (fun _ _ _ h => h) ?ry114 (⟨(B23.out.go hb0r7).c0, (B23.out.go hb0r7).c1, (B23.out.go hb0r7).c2, (B24.out.go hb0r7).c0, (B24.out.go hb0r7).c1, (B24.out.go hb0r7).c2, (hb0r7.cell (p := ⟨b1, o1, none⟩) (Nat.lt_of_lt_of_le hqr71 hb25.out.size)).trans hsr71, (hb0r7.cell (p := ⟨b2, o2, none⟩) (Nat.lt_of_lt_of_le hqr72 hb25.out.size)).trans hsr72⟩) ?rm114
  case ry114 => first | exact Or.inl ⟨by rfl, by intro w' hw'; (try dsimp only at hw'); go_simp; first | done | rfl⟩ | exact Or.inr ⟨by rfl, rfl⟩ | exact Or.inr ⟨by rfl, by rfl⟩
  case rm114 =>
  simp only [Act.put, List.setIfInBounds_toArray, List.set_cons_zero, List.set_cons_succ]
  refine anyC_put 13 41 ?rv115 #[true, true, true, true, true, true, true, true, true, true, true, true, true, true, false, false, false] rfl rfl rfl (by kernel_rfl) (by kernel_rfl) (by kernel_rfl) (fun _ _ _ h => h) ?ry115 (⟨(B23.out.go hb0r7).c0, (B23.out.go hb0r7).c1, (B23.out.go hb0r7).c2, (B24.out.go hb0r7).c0, (B24.out.go hb0r7).c1, (B24.out.go hb0r7).c2, (hb0r7.cell (p := ⟨b1, o1, none⟩) (Nat.lt_of_lt_of_le hqr71 hb25.out.size)).trans hsr71, (hb0r7.cell (p := ⟨b2, o2, none⟩) (Nat.lt_of_lt_of_le hqr72 hb25.out.size)).trans hsr72⟩) ?rm115
  case ry115 => first | exact Or.inl ⟨by rfl, by intro w'; go_simp; first | done | rfl⟩ | exact Or.inr ⟨by rfl, rfl⟩ | exact Or.inr ⟨by rfl, by rfl⟩
  case rm115 =>
  simp only [Act.put, List.setIfInBounds_toArray, List.set_cons_zero, List.set_cons_succ]
  refine anyC_take 14 42 ?rv116 #[true, true, true, true, true, true, true, true, true, true, true, true, true, true, true, false, false] rfl rfl rfl (by kernel_rfl) (by kernel_rfl) (by kernel_rfl) (fun _ _ _ h => h) ?ry116 (⟨(B23.out.go hb0r7).c0, (B23.out.go hb0r7).c1, (B23.out.go hb0r7).c2, (B24.out.go hb0r7).c0, (B24.out.go hb0r7).c1, (B24.out.go hb0r7).c2, (hb0r7.cell (p := ⟨b1, o1, none⟩) (Nat.lt_of_lt_of_le hqr71 hb25.out.size)).trans hsr71, (hb0r7.cell (p := ⟨b2, o2, none⟩) (Nat.lt_of_lt_of_le hqr72 hb25.out.size)).trans hsr72⟩) ?rm116
  case ry116 => first | exact Or.inl ⟨by rfl, by intro w' hw'; (try dsimp only at hw'); go_simp; first | done | rfl⟩ | exact Or.inr ⟨by rfl, rfl⟩ | exact Or.inr ⟨by rfl, by rfl⟩
  case rm116 =>
  simp only [Act.put, List.setIfInBounds_toArray, List.set_cons_zero, List.set_cons_succ]
  refine anyC_put 15 43 ?rv117 #[true, true, true, true, true, true, true, true, true, true, true, true, true, true, true, true, false] rfl rfl rfl (by kernel_rfl) (by kernel_rfl) (by kernel_rfl) (fun _ _ _ h => h) ?ry117 (⟨(B23.out.go hb0r7).c0, (B23.out.go hb0r7).c1, (B23.out.go hb0r7).c2, (B24.out.go hb0r7).c0, (B24.out.go hb0r7).c1, (B24.out.go hb0r7).c2, (hb0r7.cell (p := ⟨b1, o1, none⟩) (Nat.lt_of_lt_of_le hqr71 hb25.out.size)).trans hsr71, (hb0r7.cell (p := ⟨b2, o2, none⟩) (Nat.lt_of_lt_of_le hqr72 hb25.out.size)).trans hsr72⟩) ?rm117
  case ry117 => first | exact Or.inl ⟨by rfl, by intro w'; go_simp; first | done | rfl⟩ | exact Or.inr ⟨by rfl, rfl⟩ | exact Or.inr ⟨by rfl, by rfl⟩
  case rm117 =>
  simp only [Act.put, List.setIfInBounds_toArray, List.set_cons_zero, List.set_cons_succ]
  refine anyC_put 16 44 ?rv118 #[true, true, true, true, true, true, true, true, true, true, true, true, true, true, true, true, true] rfl rfl rfl (by kernel_rfl) (by kernel_rfl) (by kernel_rfl) (fun _ _ _ h => h) ?ry118 (⟨(B23.out.go hb0r7).c0, (B23.out.go hb0r7).c1, (B23.out.go hb0r7).c2, (B24.out.go hb0r7).c0, (B24.out.go hb0r7).c1, (B24.out.go hb0r7).c2, (hb0r7.cell (p := ⟨b1, o1, none⟩) (Nat.lt_of_lt_of_le hqr71 hb25.out.size)).trans hsr71, (hb0r7.cell (p := ⟨b2, o2, none⟩) (Nat.lt_of_lt_of_le hqr72 hb25.out.size)).trans hsr72⟩) ?rm118
  case ry118 => first | exact Or.inl ⟨by rfl, by intro w'; go_simp; first | done | rfl⟩
  case rm118 =>
  simp only [Act.put, List.setIfInBounds_toArray, List.set_cons_zero, List.set_cons_succ]
  refine anyC_done (by kernel_rfl) ?_
  have hB := hb0r7
  have z26 : v3.heap.size ≤ v3.drew.heap.size := hB.size
  have B27 : Hid (Abx v3.drew (w.heap.size) (.bool false) (.slice (some ⟨b1, o1, none⟩) 2 sc1) (.slice da1 dz1.length dc1)) := B23.out.go hB
  have B28 : Hid (Abx v3.drew (w.heap.size + 1) (.bool false) (.slice (some ⟨b2, o2, none⟩) 2 sc2) (.slice da2 dz2.length dc2)) := B24.out.go hB
  have hb29 : Hid (Below w.heap.size w v3.drew) := hb25.out.trans (hB.mono hb25.out.size)
  clear hB hb25 B23 B24
  have l30 := (B27.out).c0
  have l31 := (B27.out).c1
  have l32 := (B27.out).c2
  have l33 := (B28.out).c0
  have l34 := (B28.out).c1
  have l35 := (B28.out).c2
  go_wp2_with fail
  clear l30 l31 l32 l33 l34 l35
  refine (minner_ok HNi n hn (some ⟨b1, o1, none⟩) sc1 da1 dc1 dz1 dz1.length rfl HL1.out (some ⟨b2, o2, none⟩) sc2 da2 dc2 dz2 dz2.length rfl HL2.out _ ((HI1.out.1.below hb29.out).mono hb29.out.size) ((HI1.out.2.1.below hb29.out).mono hb29.out.size).1 HI1.out.2.2 ((HI2.out.1.below hb29.out).mono hb29.out.size) ((HI2.out.2.1.below hb29.out).mono hb29.out.size).1 HI2.out.2.2).mono ?_
  rintro e v4 ⟨xa1, xc1, ya1, yc1, rfl, hX1, hY1, hB⟩
  have z36 : v3.drew.heap.size ≤ v4.heap.size := hB.size
  have B37 : Hid (Abx v4 (w.heap.size) (.bool false) (.slice (some ⟨b1, o1, none⟩) 2 sc1) (.slice da1 dz1.length dc1)) := B27.out.go hB
  have B38 : Hid (Abx v4 (w.heap.size + 1) (.bool false) (.slice (some ⟨b2, o2, none⟩) 2 sc2) (.slice da2 dz2.length dc2)) := B28.out.go hB
  have hb39 : Hid (Below w.heap.size w v4) := hb29.out.trans (hB.mono hb29.out.size)
  have L40 : Hid (MidC (v3.drew.heap.size) (v4.heap.size) v4 (xa1) ([(n : Int), (n : Int)]) (xc1)) := hX1.midc
  have L41 : Hid (MidC (v3.drew.heap.size) (v4.heap.size) v4 (ya1) (mmL n dz1 dz2) (yc1)) := hY1.midc
  clear hB hb29 B27 B28 hX1 hY1
  rw [HLx.out]
  have n42 := Abx.new v4 (.bool false) (.slice (xa1) 2 (xc1)) (.slice (ya1) (N) (yc1))
  have l43 := ((B38.out.al (.cells #[.bool false, .slice (xa1) 2 (xc1), .slice (ya1) (N) (yc1)] 24))).c0
  have l44 := ((B38.out.al (.cells #[.bool false, .slice (xa1) 2 (xc1), .slice (ya1) (N) (yc1)] 24))).c1
  have l45 := ((B38.out.al (.cells #[.bool false, .slice (xa1) 2 (xc1), .slice (ya1) (N) (yc1)] 24))).c2
  have l46 := ((B37.out.al (.cells #[.bool false, .slice (xa1) 2 (xc1), .slice (ya1) (N) (yc1)] 24))).c0
  have l47 := ((B37.out.al (.cells #[.bool false, .slice (xa1) 2 (xc1), .slice (ya1) (N) (yc1)] 24))).c1
  have l48 := ((B37.out.al (.cells #[.bool false, .slice (xa1) 2 (xc1), .slice (ya1) (N) (yc1)] 24))).c2
  go_wp2_with fail
  obtain ⟨wo49, hwo49⟩ : ∃ wo49, wo49 = (v4.alloc (.cells #[.bool false, .slice (xa1) 2 (xc1), .slice (ya1) (N) (yc1)] 24)) := ⟨_, rfl⟩
  rw [← hwo49]
  have z50 : v4.heap.size + 1 ≤ wo49.heap.size := by rw [hwo49]; simp only [World.size_alloc]; omega
  have B51 : Hid (Abx wo49 (w.heap.size) (.bool false) (.slice (some ⟨b1, o1, none⟩) 2 sc1) (.slice da1 dz1.length dc1)) := by rw [hwo49]; exact (B37.out.al (.cells #[.bool false, .slice (xa1) 2 (xc1), .slice (ya1) (N) (yc1)] 24))
  have B52 : Hid (Abx wo49 (w.heap.size + 1) (.bool false) (.slice (some ⟨b2, o2, none⟩) 2 sc2) (.slice da2 dz2.length dc2)) := by rw [hwo49]; exact (B38.out.al (.cells #[.bool false, .slice (xa1) 2 (xc1), .slice (ya1) (N) (yc1)] 24))
  have B53 : Hid (Abx wo49 (v4.heap.size) (.bool false) (.slice (xa1) 2 (xc1)) (.slice (ya1) (N) (yc1))) := by rw [hwo49]; exact n42
  have L54 : Hid (MidC (v3.drew.heap.size) (v4.heap.size) wo49 (xa1) ([(n : Int), (n : Int)]) (xc1)) := by rw [hwo49]; exact (L40.out.al (by omega) (.cells #[.bool false, .slice (xa1) 2 (xc1), .slice (ya1) (N) (yc1)] 24))
  have L55 : Hid (MidC (v3.drew.heap.size) (v4.heap.size) wo49 (ya1) (mmL n dz1 dz2) (yc1)) := by rw [hwo49]; exact (L41.out.al (by omega) (.cells #[.bool false, .slice (xa1) 2 (xc1), .slice (ya1) (N) (yc1)] 24))
  have hb56 : Hid (Below w.heap.size w wo49) := by rw [hwo49]; exact (hb39.out.alloc (by omega) (.cells #[.bool false, .slice (xa1) 2 (xc1), .slice (ya1) (N) (yc1)] 24))
  have zwo49 : w.heap.size ≤ wo49.heap.size := hb56.out.size
  clear hwo49 n42 l43 l44 l45 l46 l47 l48 hb39 B37 B38 L40 L41
  refine (minner_ok HNi n hn (some ⟨b2, o2, none⟩) sc2 da2 dc2 dz2 dz2.length rfl HL2.out (some ⟨b1, o1, none⟩) sc1 da1 dc1 dz1 dz1.length rfl HL1.out _ ((HI2.out.1.below hb56.out).mono hb56.out.size) ((HI2.out.2.1.below hb56.out).mono hb56.out.size).1 HI2.out.2.2 ((HI1.out.1.below hb56.out).mono hb56.out.size) ((HI1.out.2.1.below hb56.out).mono hb56.out.size).1 HI1.out.2.2).mono ?_
  rintro e v5 ⟨xa2, xc2, ya2, yc2, rfl, hX2, hY2, hB⟩
  have z57 : wo49.heap.size ≤ v5.heap.size := hB.size
  have B58 : Hid (Abx v5 (w.heap.size) (.bool false) (.slice (some ⟨b1, o1, none⟩) 2 sc1) (.slice da1 dz1.length dc1)) := B51.out.go hB
  have B59 : Hid (Abx v5 (w.heap.size + 1) (.bool false) (.slice (some ⟨b2, o2, none⟩) 2 sc2) (.slice da2 dz2.length dc2)) := B52.out.go hB
  have B60 : Hid (Abx v5 (v4.heap.size) (.bool false) (.slice (xa1) 2 (xc1)) (.slice (ya1) (N) (yc1))) := B53.out.go hB
  have L61 : Hid (MidC (v3.drew.heap.size) (v4.heap.size) v5 (xa1) ([(n : Int), (n : Int)]) (xc1)) := L54.out.go (by omega) hB
  have L62 : Hid (MidC (v3.drew.heap.size) (v4.heap.size) v5 (ya1) (mmL n dz1 dz2) (yc1)) := L55.out.go (by omega) hB
  have hb63 : Hid (Below w.heap.size w v5) := hb56.out.trans (hB.mono hb56.out.size)
  have L64 : Hid (MidC (wo49.heap.size) (v5.heap.size) v5 (xa2) ([(n : Int), (n : Int)]) (xc2)) := hX2.midc
  have L65 : Hid (MidC (wo49.heap.size) (v5.heap.size) v5 (ya2) (mmL n dz2 dz1) (yc2)) := hY2.midc
  clear hB hb56 B51 B52 B53 L54 L55 hX2 hY2
  have n66 := Abx.new v5 (.bool false) (.slice (xa2) 2 (xc2)) (.slice (ya2) ((mmL n dz2 dz1).length) (yc2))
  have l67 := ((B60.out.al (.cells #[.bool false, .slice (xa2) 2 (xc2), .slice (ya2) ((mmL n dz2 dz1).length) (yc2)] 24))).c0
  have l68 := ((B60.out.al (.cells #[.bool false, .slice (xa2) 2 (xc2), .slice (ya2) ((mmL n dz2 dz1).length) (yc2)] 24))).c1
  have l69 := ((B60.out.al (.cells #[.bool false, .slice (xa2) 2 (xc2), .slice (ya2) ((mmL n dz2 dz1).length) (yc2)] 24))).c2
  go_wp2_with fail
  obtain ⟨wo70, hwo70⟩ : ∃ wo70, wo70 = (v5.alloc (.cells #[.bool false, .slice (xa2) 2 (xc2), .slice (ya2) ((mmL n dz2 dz1).length) (yc2)] 24)) := ⟨_, rfl⟩
  rw [← hwo70]
  have z71 : v5.heap.size + 1 ≤ wo70.heap.size := by rw [hwo70]; simp only [World.size_alloc]; omega
  have B72 : Hid (Abx wo70 (w.heap.size) (.bool false) (.slice (some ⟨b1, o1, none⟩) 2 sc1) (.slice da1 dz1.length dc1)) := by rw [hwo70]; exact (B58.out.al (.cells #[.bool false, .slice (xa2) 2 (xc2), .slice (ya2) ((mmL n dz2 dz1).length) (yc2)] 24))
  have B73 : Hid (Abx wo70 (w.heap.size + 1) (.bool false) (.slice (some ⟨b2, o2, none⟩) 2 sc2) (.slice da2 dz2.length dc2)) := by rw [hwo70]; exact (B59.out.al (.cells #[.bool false, .slice (xa2) 2 (xc2), .slice (ya2) ((mmL n dz2 dz1).length) (yc2)] 24))
  have B74 : Hid (Abx wo70 (v4.heap.size) (.bool false) (.slice (xa1) 2 (xc1)) (.slice (ya1) (N) (yc1))) := by rw [hwo70]; exact (B60.out.al (.cells #[.bool false, .slice (xa2) 2 (xc2), .slice (ya2) ((mmL n dz2 dz1).length) (yc2)] 24))
  have B75 : Hid (Abx wo70 (v5.heap.size) (.bool false) (.slice (xa2) 2 (xc2)) (.slice (ya2) ((mmL n dz2 dz1).length) (yc2))) := by rw [hwo70]; exact n66
  have L76 : Hid (MidC (v3.drew.heap.size) (v4.heap.size) wo70 (xa1) ([(n : Int), (n : Int)]) (xc1)) := by rw [hwo70]; exact (L61.out.al (by omega) (.cells #[.bool false, .slice (xa2) 2 (xc2), .slice (ya2) ((mmL n dz2 dz1).length) (yc2)] 24))
  have L77 : Hid (MidC (v3.drew.heap.size) (v4.heap.size) wo70 (ya1) (mmL n dz1 dz2) (yc1)) := by rw [hwo70]; exact (L62.out.al (by omega) (.cells #[.bool false, .slice (xa2) 2 (xc2), .slice (ya2) ((mmL n dz2 dz1).length) (yc2)] 24))
  have L78 : Hid (MidC (wo49.heap.size) (v5.heap.size) wo70 (xa2) ([(n : Int), (n : Int)]) (xc2)) := by rw [hwo70]; exact (L64.out.al (by omega) (.cells #[.bool false, .slice (xa2) 2 (xc2), .slice (ya2) ((mmL n dz2 dz1).length) (yc2)] 24))
  have L79 : Hid (MidC (wo49.heap.size) (v5.heap.size) wo70 (ya2) (mmL n dz2 dz1) (yc2)) := by rw [hwo70]; exact (L65.out.al (by omega) (.cells #[.bool false, .slice (xa2) 2 (xc2), .slice (ya2) ((mmL n dz2 dz1).length) (yc2)] 24))
  have hb80 : Hid (Below w.heap.size w wo70) := by rw [hwo70]; exact (hb63.out.alloc (by omega) (.cells #[.bool false, .slice (xa2) 2 (xc2), .slice (ya2) ((mmL n dz2 dz1).length) (yc2)] 24))
  have zwo70 : w.heap.size ≤ wo70.heap.size := hb80.out.size
  clear hwo70 n66 l67 l68 l69 hb63 B58 B59 B60 L61 L62 L64 L65
  refine (mchr_ok n hn (xa1) (xc1) (ya1) (yc1) (mmL n dz1 dz2) (N) HLx.out (mmL_len n dz1 dz2) _ (L76.out.is (by omega)).1 (L77.out.is (by omega)).1).mono ?_
  rintro e v6 ⟨ch1, rfl, hC1, hB⟩
  have z81 : wo70.heap.size ≤ v6.heap.size := hB.size
  have B82 : Hid (Abx v6 (w.heap.size) (.bool false) (.slice (some ⟨b1, o1, none⟩) 2 sc1) (.slice da1 dz1.length dc1)) := B72.out.go hB
  have B83 : Hid (Abx v6 (w.heap.size + 1) (.bool false) (.slice (some ⟨b2, o2, none⟩) 2 sc2) (.slice da2 dz2.length dc2)) := B73.out.go hB
  have B84 : Hid (Abx v6 (v4.heap.size) (.bool false) (.slice (xa1) 2 (xc1)) (.slice (ya1) (N) (yc1))) := B74.out.go hB
  have B85 : Hid (Abx v6 (v5.heap.size) (.bool false) (.slice (xa2) 2 (xc2)) (.slice (ya2) ((mmL n dz2 dz1).length) (yc2))) := B75.out.go hB
  have L86 : Hid (MidC (v3.drew.heap.size) (v4.heap.size) v6 (xa1) ([(n : Int), (n : Int)]) (xc1)) := L76.out.go (by omega) hB
  have L87 : Hid (MidC (v3.drew.heap.size) (v4.heap.size) v6 (ya1) (mmL n dz1 dz2) (yc1)) := L77.out.go (by omega) hB
  have L88 : Hid (MidC (wo49.heap.size) (v5.heap.size) v6 (xa2) ([(n : Int), (n : Int)]) (xc2)) := L78.out.go (by omega) hB
  have L89 : Hid (MidC (wo49.heap.size) (v5.heap.size) v6 (ya2) (mmL n dz2 dz1) (yc2)) := L79.out.go (by omega) hB
  have hb90 : Hid (Below w.heap.size w v6) := hb80.out.trans (hB.mono hb80.out.size)
  have L91 : Hid (MidC (wo70.heap.size) (v6.heap.size) v6 (ch1) (chR n (rdg n (mmL n dz1 dz2))) (n + 1)) := hC1.midc
  clear hB hb80 B72 B73 B74 B75 L76 L77 L78 L79 hC1
  have l92 := (B85.out).c0
  have l93 := (B85.out).c1
  have l94 := (B85.out).c2
  go_wp2_with fail
  clear l92 l93 l94
  refine (mchr_ok n hn (xa2) (xc2) (ya2) (yc2) (mmL n dz2 dz1) ((mmL n dz2 dz1).length) rfl (mmL_len n dz2 dz1) _ (L88.out.is (by omega)).1 (L89.out.is (by omega)).1).mono ?_
  rintro e v7 ⟨ch2, rfl, hC2, hB⟩
  have z95 : v6.heap.size ≤ v7.heap.size := hB.size
  have B96 : Hid (Abx v7 (w.heap.size) (.bool false) (.slice (some ⟨b1, o1, none⟩) 2 sc1) (.slice da1 dz1.length dc1)) := B82.out.go hB
  have B97 : Hid (Abx v7 (w.heap.size + 1) (.bool false) (.slice (some ⟨b2, o2, none⟩) 2 sc2) (.slice da2 dz2.length dc2)) := B83.out.go hB
  have B98 : Hid (Abx v7 (v4.heap.size) (.bool false) (.slice (xa1) 2 (xc1)) (.slice (ya1) (N) (yc1))) := B84.out.go hB
  have B99 : Hid (Abx v7 (v5.heap.size) (.bool false) (.slice (xa2) 2 (xc2)) (.slice (ya2) ((mmL n dz2 dz1).length) (yc2))) := B85.out.go hB
  have L100 : Hid (MidC (v3.drew.heap.size) (v4.heap.size) v7 (xa1) ([(n : Int), (n : Int)]) (xc1)) := L86.out.go (by omega) hB
  have L101 : Hid (MidC (v3.drew.heap.size) (v4.heap.size) v7 (ya1) (mmL n dz1 dz2) (yc1)) := L87.out.go (by omega) hB
  have L102 : Hid (MidC (wo49.heap.size) (v5.heap.size) v7 (xa2) ([(n : Int), (n : Int)]) (xc2)) := L88.out.go (by omega) hB
  have L103 : Hid (MidC (wo49.heap.size) (v5.heap.size) v7 (ya2) (mmL n dz2 dz1) (yc2)) := L89.out.go (by omega) hB
  have L104 : Hid (MidC (wo70.heap.size) (v6.heap.size) v7 (ch1) (chR n (rdg n (mmL n dz1 dz2))) (n + 1)) := L91.out.go (by omega) hB
  have hb105 : Hid (Below w.heap.size w v7) := hb90.out.trans (hB.mono hb90.out.size)
  have L106 : Hid (MidC (v6.heap.size) (v7.heap.size) v7 (ch2) (chR n (rdg n (mmL n dz2 dz1))) (n + 1)) := hC2.midc
  clear hB hb90 B82 B83 B84 B85 L86 L87 L88 L89 L91 hC2
  go_wp2_with fail
  refine (ints14 n ch1 ch2 (chR n (rdg n (mmL n dz1 dz2))) (chR n (rdg n (mmL n dz2 dz1))) (ch_syl n dz1 dz2) (by simp [chR]) hn _ (L104.out.is (by omega)).1 (L106.out.is (by omega)).1).mono ?_
  rintro e v8 ⟨rfl, hB⟩
  have z107 : v7.heap.size ≤ v8.heap.size := hB.size
  have B108 : Hid (Abx v8 (w.heap.size) (.bool false) (.slice (some ⟨b1, o1, none⟩) 2 sc1) (.slice da1 dz1.length dc1)) := B96.out.go hB
  have B109 : Hid (Abx v8 (w.heap.size + 1) (.bool false) (.slice (some ⟨b2, o2, none⟩) 2 sc2) (.slice da2 dz2.length dc2)) := B97.out.go hB
  have B110 : Hid (Abx v8 (v4.heap.size) (.bool false) (.slice (xa1) 2 (xc1)) (.slice (ya1) (N) (yc1))) := B98.out.go hB
  have B111 : Hid (Abx v8 (v5.heap.size) (.bool false) (.slice (xa2) 2 (xc2)) (.slice (ya2) ((mmL n dz2 dz1).length) (yc2))) := B99.out.go hB
  have L112 : Hid (MidC (v3.drew.heap.size) (v4.heap.size) v8 (xa1) ([(n : Int), (n : Int)]) (xc1)) := L100.out.go (by omega) hB
  have L113 : Hid (MidC (v3.drew.heap.size) (v4.heap.size) v8 (ya1) (mmL n dz1 dz2) (yc1)) := L101.out.go (by omega) hB
  have L114 : Hid (MidC (wo49.heap.size) (v5.heap.size) v8 (xa2) ([(n : Int), (n : Int)]) (xc2)) := L102.out.go (by omega) hB
  have L115 : Hid (MidC (wo49.heap.size) (v5.heap.size) v8 (ya2) (mmL n dz2 dz1) (yc2)) := L103.out.go (by omega) hB
  have L116 : Hid (MidC (wo70.heap.size) (v6.heap.size) v8 (ch1) (chR n (rdg n (mmL n dz1 dz2))) (n + 1)) := L104.out.go (by omega) hB
  have L117 : Hid (MidC (v6.heap.size) (v7.heap.size) v8 (ch2) (chR n (rdg n (mmL n dz2 dz1))) (n + 1)) := L106.out.go (by omega) hB
  have hb118 : Hid (Below w.heap.size w v8) := hb105.out.trans (hB.mono hb105.out.size)
  clear hB hb105 B96 B97 B98 B99 L100 L101 L102 L103 L104 L106
  clear L114 L115 B111 B109 L117
  have l119 := (B108.out).c0
  have l120 := (B108.out).c1
  have l121 := (B108.out).c2
  have l122 := HSh.out _ hb118.out
  have l123 := (B110.out).c0
  have l124 := (B110.out).c1
  have l125 := (B110.out).c2
  go_wp2_with fail
  clear l119 l120 l121 l122 l123 l124 l125
  go_loopw [18, 19] (fun q i wr => wr = v8 ∧ ∃ t : Nat, t ≤ n ∧ i = .int .i64 t ∧ q = .int .i64 (wrap64 (sm t fun i => nth (mmL n dz1 dz2) (i * n + i)))) (fun _ i _ => n - (intOf i).toNat)
  case atStart => exact ⟨rfl, 0, Nat.zero_le _, rfl, congrArg (Value.int .i64) (w_small (n := 0) (by decide) (by decide)).symm⟩
  case round =>
    obtain ⟨hwr, t, ht, rfl, rfl⟩ := hrel
    obtain rfl := hwr.symm
    by_cases hlt : t < n
    · obtain ⟨Q, hQ⟩ : ∃ Q, Q = t * n := ⟨_, rfl⟩
      have hQi : (t : Int) * (n : Int) = (Q : Int) := by rw [hQ]; simp
      have hQb : Q + t < N := by rw [hQ, HN.out]; exact row_lt hlt hlt
      obtain ⟨b', o', rfl, _, _, c3, _⟩ := L113.out.at (i := Q + t) (by rw [HLx.out]; exact hQb)
      have c2 := B110.out.c2
      obtain ⟨X0, hX0⟩ : ∃ X0, X0 = nth (mmL n dz1 dz2) (Q + t) := ⟨_, rfl⟩
      rw [← hX0] at c3
      have HS : Hid (sm (t + 1) (fun i => nth (mmL n dz1 dz2) (i * n + i)) = sm t (fun i => nth (mmL n dz1 dz2) (i * n + i)) + X0) := by show _ + _ = _; rw [hX0, hQ]
      generalize hS0 : sm t (fun i => nth (mmL n dz1 dz2) (i * n + i)) = S0 at *
      clear hS0 hX0 hQ
      go_wp2_with fail
      refine ⟨⟨trivial, t + 1, by omega, by go_num, congrArg (Value.int .i64) ?_⟩, by simp [intOf]; omega⟩
      rw [HS.out, w_addl]
    · obtain rfl : n = t := by omega
      have bx := B110.out
      have p0 := bx.c0
      have p1 := bx.c1
      have p2 := bx.c2
      go_wp2_with fail
      clear p0 p1 p2 bx
      refine (sdet_any n hn (xa1) (xc1) (ya1) (yc1) (mmL n dz1 dz2) (N) HLx.out (mmL_len n dz1 dz2) _ (L112.out.is (by omega)).1 (L113.out.is (by omega)).1).mono ?_
      rintro e v9 ⟨rfl, hB⟩
      have z126 : v8.heap.size ≤ v9.heap.size := hB.size
      have B127 : Hid (Abx v9 (w.heap.size) (.bool false) (.slice (some ⟨b1, o1, none⟩) 2 sc1) (.slice da1 dz1.length dc1)) := B108.out.go hB
      have B128 : Hid (Abx v9 (v4.heap.size) (.bool false) (.slice (xa1) 2 (xc1)) (.slice (ya1) (N) (yc1))) := B110.out.go hB
      have L129 : Hid (MidC (v3.drew.heap.size) (v4.heap.size) v9 (xa1) ([(n : Int), (n : Int)]) (xc1)) := L112.out.go (by omega) hB
      have L130 : Hid (MidC (v3.drew.heap.size) (v4.heap.size) v9 (ya1) (mmL n dz1 dz2) (yc1)) := L113.out.go (by omega) hB
      have L131 : Hid (MidC (wo70.heap.size) (v6.heap.size) v9 (ch1) (chR n (rdg n (mmL n dz1 dz2))) (n + 1)) := L116.out.go (by omega) hB
      have hb132 : Hid (Below w.heap.size w v9) := hb118.out.trans (hB.mono hb118.out.size)
      clear hB hb118 B108 B110 L112 L113 L116
      obtain ⟨m, hm⟩ : ∃ m, n = m + 1 := ⟨n - 1, by have := HZ.out; omega⟩
      have hsb : (n : Int) - 1 = (m : Int) := by omega
      have hml : (m : Int) < (n : Int) + 1 := by omega
      have hm2 : m < n + 1 := by omega
      obtain ⟨bc, oc, rfl, _, _, e0, _⟩ := L131.out.at (i := 0) (by rw [chR_len]; omega)
      obtain ⟨bc', oc', hbc, _, _, e1, _⟩ := L131.out.at (i := m) (by rw [chR_len]; omega)
      cases hbc
      rw [Nat.add_zero] at e0
      have HA : Hid (nth (chR n (rdg n (mmL n dz1 dz2))) m = wrap64 (-wrap64 (sm n fun i => nth (mmL n dz1 dz2) (i * n + i)))) := by
        show _ = _
        rw [chR_nth _ hm2, show n - m = 1 by omega, chc_one, w_neg]
        exact cg.neg (cg.sm fun i hi => by rw [rdg_at hi hi]; exact cg.rfl' _)
      have HBz : Hid (nth (chR n (rdg n (mmL n dz1 dz2))) 0 = wrap64 (dt n (rdg n (mmL n dz1 dz2)))) := by
        show _ = _
        rw [chR_nth _ (by omega), Nat.sub_zero, chc_all, sg_even HO.out]
        rw [Int.one_mul]
      rw [HA.out] at e1
      rw [HBz.out] at e0
      clear hm HA HBz
      generalize wrap64 (sm n fun i => nth (mmL n dz1 dz2) (i * n + i)) = TR at *
      generalize wrap64 (dt n (rdg n (mmL n dz1 dz2))) = DT at *
      go_wp2_with fail
      go_ret
      exact ⟨ret_bool (by simp), hb132.out⟩
theorem sylv_ok (HNi : CNi) (n : Nat) (hn : n ≤ 6) (b1 o1 sc1 : Nat) (da1 : Option Addr) (dc1 : Nat) (dz1 : List Int) (HL1 : Hid (dz1.length = n * n)) (b2 o2 sc2 : Nat) (da2 : Option Addr) (dc2 : Nat) (dz2 : List Int) (HL2 : Hid (dz2.length = n * n)) (w : World) (HI1 : Hid (IsC w.heap.size w (some ⟨b1, o1, none⟩) [(n : Int), (n : Int)] sc1 ∧ IsC w.heap.size w da1 dz1 dc1 ∧ ∀ j, In64 (nth dz1 j))) (HI2 : Hid (IsC w.heap.size w (some ⟨b2, o2, none⟩) [(n : Int), (n : Int)] sc2 ∧ IsC w.heap.size w da2 dz2 dc2 ∧ ∀ j, In64 (nth dz2 j))) :
    Calls Try.prog 7 #[.agg #[.bool false, .slice (some ⟨b1, o1, none⟩) 2 sc1, .slice da1 dz1.length dc1], .agg #[.bool false, .slice (some ⟨b2, o2, none⟩) 2 sc2, .slice da2 dz2.length dc2]] w fun e w' => e = .returned (.bool true) ∧ Below w.heap.size w w' := by
  by_cases hz : n = 0
  · exact sylv_z HNi n hn b1 o1 sc1 da1 dc1 dz1 HL1 b2 o2 sc2 da2 dc2 dz2 HL2 w HI1 HI2 hz
  · have : n % 2 = 0 ∨ n % 2 = 1 := by omega
    rcases this with h | h
    · exact sylv_e HNi n hn b1 o1 sc1 da1 dc1 dz1 HL1 b2 o2 sc2 da2 dc2 dz2 HL2 w HI1 HI2 hz h
    · exact sylv_o HNi n hn b1 o1 sc1 da1 dc1 dz1 HL1 b2 o2 sc2 da2 dc2 dz2 HL2 w HI1 HI2 hz h
theorem msylv_walk (HNi : CNi) (c1 : Bool) (sa1 : Option Addr) (sc1 : Nat) (sz1 : List Int) (da1 : Option Addr) (dc1 : Nat) (dz1 : List Int) (c2 : Bool) (sa2 : Option Addr) (sc2 : Nat) (sz2 : List Int) (da2 : Option Addr) (dc2 : Nat) (dz2 : List Int) (w : World) (w8 : IsArrD w sa1 sz1 sc1 da1 dz1 dc1) (w9 : IsArrD w sa2 sz2 sc2 da2 dz2 dc2) :
    Calls Try.prog 7 #[.agg #[.bool c1, .slice sa1 sz1.length sc1, .slice da1 dz1.length dc1], .agg #[.bool c2, .slice sa2 sz2.length sc2, .slice da2 dz2.length dc2]] w fun e w' => e = .returned (.bool true) ∧ Below w.heap.size w w' := by
  by_cases h1 : SqP c1 sz1 dz1
  · by_cases h2 : SqP c2 sz2 dz2
    · obtain ⟨n, hn, rfl, hl1, rfl⟩ := h1
      obtain ⟨b1, o1, rfl⟩ := opn14 w8.2.2.1
      obtain ⟨n2, hn2, rfl, hl2, rfl⟩ := h2
      obtain ⟨b2, o2, rfl⟩ := opn14 w9.2.2.1
      by_cases e : n = n2
      · subst e
        exact sylv_ok HNi n hn b1 o1 sc1 da1 dc1 dz1 hl1 b2 o2 sc2 da2 dc2 dz2 hl2 w ⟨w8.2.2.1, w8.2.2.2.1, w8.2.2.2.2.2⟩ ⟨w9.2.2.1, w9.2.2.2.1, w9.2.2.2.2.2⟩
      · exact sylv_ne n2 hn2 n hn b1 o1 sc1 da1 dc1 dz1 hl1 b2 o2 sc2 da2 dc2 dz2 hl2 w ⟨w8.2.2.1, w8.2.2.2.1, w8.2.2.2.2.2⟩ ⟨w9.2.2.1, w9.2.2.2.1, w9.2.2.2.2.2⟩ e
    · exact sylv_b HNi c1 sa1 sc1 sz1 da1 dc1 dz1 c2 sa2 sc2 sz2 da2 dc2 dz2 w w8 w9 h1 h2
  · exact sylv_a HNi c1 sa1 sc1 sz1 da1 dc1 dz1 c2 sa2 sc2 sz2 da2 dc2 dz2 w w8 w9 h1
end Go.Proofs.Ytjaabemlpiafaab
