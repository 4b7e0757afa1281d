/-
  The walk of the statement MatrixMany, given what the program tells.
-/
import Derived.Test.YtjaabemlpiafaaaMtb
import Derived.Test.YtjaabemlpiafaaaMidc
namespace Go.Proofs.Ytjaabemlpiafaaa
open Go.RowKit
set_option linter.unusedVariables false

theorem shp14 {w v : World} {b o n sc : Nat} (h : IsC w.heap.size w (some ⟨b, o, none⟩) [(n : Int), (n : Int)] sc) (hB : Below w.heap.size w v) : b < w.heap.size ∧ v.cell? ⟨b, o, none⟩ = some (.int .i64 (n : Int)) := by
  obtain ⟨b', o', e, hb, hc⟩ := (h.1.below hB).at (q := 0) (by simp)
  cases e
  have h0 := hc 0 (by simp)
  rw [Nat.add_zero] at h0
  exact ⟨hb, h0⟩
theorem opn14 {w : World} {sa : Option Addr} {n sc : Nat} (h : IsC w.heap.size w sa [(n : Int), (n : Int)] sc) : ∃ b o, sa = some ⟨b, o, none⟩ := by
  obtain ⟨b, o, e, _, _⟩ := h.1.at (q := 0) (by simp)
  exact ⟨b, o, e⟩
set_option maxRecDepth 100000 in
set_option maxHeartbeats 4000000 in
theorem many_a (HNi : CNi) (c1 : Bool) (sa1 : Option Addr) (sc1 : Nat) (sz1 : List Int) (da1 : Option Addr) (dc1 : Nat) (dz1 : List Int) (c2 : Bool) (sa2 : Option Addr) (sc2 : Nat) (sz2 : List Int) (da2 : Option Addr) (dc2 : Nat) (dz2 : List Int) (w : World) (w8 : IsArrD w sa1 sz1 sc1 da1 dz1 dc1) (w9 : IsArrD w sa2 sz2 sc2 da2 dz2 dc2) (G1 : Hid (¬ SqP c1 sz1 dz1)) :
    Calls Try.prog 3 #[.agg #[.bool c1, .slice sa1 sz1.length sc1, .slice da1 dz1.length dc1], .agg #[.bool c2, .slice sa2 sz2.length sc2, .slice da2 dz2.length dc2]] w fun e w' => e = .returned (.bool true) ∧ Below w.heap.size w w' := by
  have HI1 : Hid (IsC w.heap.size w sa1 sz1 sc1 ∧ IsC w.heap.size w da1 dz1 dc1) := ⟨w8.2.2.1, w8.2.2.2.1⟩
  have HI2 : Hid (IsC w.heap.size w sa2 sz2 sc2 ∧ IsC w.heap.size w da2 dz2 dc2) := ⟨w9.2.2.1, w9.2.2.2.1⟩
  have n1 := Abx.new w (.bool c1) (.slice sa1 sz1.length sc1) (.slice da1 dz1.length dc1)
  have n2 := Abx.new (w.alloc (.cells #[.bool c1, .slice sa1 sz1.length sc1, .slice da1 dz1.length dc1] 24)) (.bool c2) (.slice sa2 sz2.length sc2) (.slice da2 dz2.length dc2)
  simp only [World.size_alloc] at n2
  go_enter Try.func3, Try.ntmps3
  go_wp2_with fail
  obtain ⟨wo3, hwo3⟩ : ∃ wo3, wo3 = ((w.alloc (.cells #[.bool c1, .slice sa1 sz1.length sc1, .slice da1 dz1.length dc1] 24)).alloc (.cells #[.bool c2, .slice sa2 sz2.length sc2, .slice da2 dz2.length dc2] 24)) := ⟨_, rfl⟩
  rw [← hwo3]
  have z4 : w.heap.size + 1 + 1 ≤ wo3.heap.size := by rw [hwo3]; simp only [World.size_alloc]; omega
  have B5 : Hid (Abx wo3 (w.heap.size) (.bool c1) (.slice sa1 sz1.length sc1) (.slice da1 dz1.length dc1)) := by rw [hwo3]; exact (n1.al (.cells #[.bool c2, .slice sa2 sz2.length sc2, .slice da2 dz2.length dc2] 24))
  have B6 : Hid (Abx wo3 (w.heap.size + 1) (.bool c2) (.slice sa2 sz2.length sc2) (.slice da2 dz2.length dc2)) := by rw [hwo3]; exact n2
  have hb7 : Hid (Below w.heap.size w wo3) := by rw [hwo3]; exact (((Below.refl w.heap.size w).alloc (by omega) (.cells #[.bool c1, .slice sa1 sz1.length sc1, .slice da1 dz1.length dc1] 24)).alloc (by simp only [World.size_alloc]; omega) (.cells #[.bool c2, .slice sa2 sz2.length sc2, .slice da2 dz2.length dc2] 24))
  have zwo3 : w.heap.size ≤ wo3.heap.size := hb7.out.size
  clear hwo3 n1 n2
  refine (fact14_any _).mono ?_
  rintro e v1 ⟨rfl, hB⟩
  have z8 : wo3.heap.size ≤ v1.heap.size := hB.size
  have B9 : Hid (Abx v1 (w.heap.size) (.bool c1) (.slice sa1 sz1.length sc1) (.slice da1 dz1.length dc1)) := B5.out.go hB
  have B10 : Hid (Abx v1 (w.heap.size + 1) (.bool c2) (.slice sa2 sz2.length sc2) (.slice da2 dz2.length dc2)) := B6.out.go hB
  have hb11 : Hid (Below w.heap.size w v1) := hb7.out.trans (hB.mono hb7.out.size)
  clear hB hb7 B5 B6
  have l12 := (B9.out).c0
  have l13 := (B9.out).c1
  have l14 := (B9.out).c2
  go_wp2_with fail
  clear l12 l13 l14
  refine (square_no c1 sa1 sc1 sz1 da1 dc1 dz1 _ ((HI1.out.1.below hb11.out).mono hb11.out.size).1 G1.out).mono ?_
  rintro e v2 ⟨rfl, hB⟩
  have z15 : v1.heap.size ≤ v2.heap.size := hB.size
  have B16 : Hid (Abx v2 (w.heap.size) (.bool c1) (.slice sa1 sz1.length sc1) (.slice da1 dz1.length dc1)) := B9.out.go hB
  have B17 : Hid (Abx v2 (w.heap.size + 1) (.bool c2) (.slice sa2 sz2.length sc2) (.slice da2 dz2.length dc2)) := B10.out.go hB
  have hb18 : Hid (Below w.heap.size w v2) := hb11.out.trans (hB.mono hb11.out.size)
  clear hB hb11 B9 B10
  have l19 := (B17.out).c0
  have l20 := (B17.out).c1
  have l21 := (B17.out).c2
  go_wp2_with fail
  clear l19 l20 l21
  by_cases h2 : SqP c2 sz2 dz2
  · refine (sqy_any c2 sa2 sc2 sz2 da2 dc2 dz2 _ ((HI2.out.1.below hb18.out).mono hb18.out.size).1 h2).mono ?_
    rintro e v3 ⟨rfl, hB⟩
    have z22 : v2.heap.size ≤ v3.heap.size := hB.size
    have B23 : Hid (Abx v3 (w.heap.size) (.bool c1) (.slice sa1 sz1.length sc1) (.slice da1 dz1.length dc1)) := B16.out.go hB
    have B24 : Hid (Abx v3 (w.heap.size + 1) (.bool c2) (.slice sa2 sz2.length sc2) (.slice da2 dz2.length dc2)) := B17.out.go hB
    have hb25 : Hid (Below w.heap.size w v3) := hb18.out.trans (hB.mono hb18.out.size)
    clear hB hb18 B16 B17
    go_wp2_with fail
    have hb0r1 : Below v3.heap.size v3 v3.drew := (Below.refl _ v3).drew
    refine anyC_begin (fun w' => True) 17 #[false, false, false, false, false, false, false, false, false, false, false, false, false, false, false, false, false] (by kernel_rfl) rfl rfl ?_
    refine anyC_put 0 17 ?rv0 #[true, false, false, false, false, false, false, false, false, false, false, false, false, false, false, false, false] rfl rfl rfl (by kernel_rfl) (by kernel_rfl) (by kernel_rfl) (fun _ _ _ h => h) ?ry0 (trivial) ?rm0
    case ry0 => first | exact Or.inl ⟨by rfl, by intro w'; go_simp; first | done | rfl⟩
    case rm0 =>
    simp only [Act.put, List.setIfInBounds_toArray, List.set_cons_zero, List.set_cons_succ]
    refine anyC_put 1 18 ?rv1 #[true, true, false, false, false, false, false, false, false, false, false, false, false, false, false, false, false] rfl rfl rfl (by kernel_rfl) (by kernel_rfl) (by kernel_rfl) (fun _ _ _ h => h) ?ry1 (trivial) ?rm1
    case ry1 => first | exact Or.inl ⟨by rfl, by intro w'; go_simp; first | done | rfl⟩
    case rm1 =>
    simp only [Act.put, List.setIfInBounds_toArray, List.set_cons_zero, List.set_cons_succ]
    refine anyC_put 2 19 ?rv2 #[true, true, true, false, false, false, false, false, false, false, false, false, false, false, false, false, false] rfl rfl rfl (by kernel_rfl) (by kernel_rfl) (by kernel_rfl) (fun _ _ _ h => h) ?ry2 (trivial) ?rm2
    case ry2 => first | exact Or.inl ⟨by rfl, by intro w'; go_simp; first | done | rfl⟩
    case rm2 =>
    simp only [Act.put, List.setIfInBounds_toArray, List.set_cons_zero, List.set_cons_succ]
    refine anyC_put 3 20 ?rv3 #[true, true, true, true, false, false, false, false, false, false, false, false, false, false, false, false, false] rfl rfl rfl (by kernel_rfl) (by kernel_rfl) (by kernel_rfl) (fun _ _ _ h => h) ?ry3 (trivial) ?rm3
    case ry3 => first | exact Or.inl ⟨by rfl, by intro w'; go_simp; first | done | rfl⟩ | exact Or.inr ⟨by rfl, rfl⟩ | exact Or.inr ⟨by rfl, by rfl⟩
    case rm3 =>
    simp only [Act.put, List.setIfInBounds_toArray, List.set_cons_zero, List.set_cons_succ]
    refine anyC_put 4 21 ?rv4 #[true, true, true, true, true, false, false, false, false, false, false, false, false, false, false, false, false] rfl rfl rfl (by kernel_rfl) (by kernel_rfl) (by kernel_rfl) (fun _ _ _ h => h) ?ry4 (trivial) ?rm4
    case ry4 => first | exact Or.inl ⟨by rfl, by intro w'; go_simp; first | done | rfl⟩ | exact Or.inr ⟨by rfl, rfl⟩ | exact Or.inr ⟨by rfl, by rfl⟩
    case rm4 =>
    simp only [Act.put, List.setIfInBounds_toArray, List.set_cons_zero, List.set_cons_succ]
    refine anyC_put 5 22 ?rv5 #[true, true, true, true, true, true, false, false, false, false, false, false, false, false, false, false, false] rfl rfl rfl (by kernel_rfl) (by kernel_rfl) (by kernel_rfl) (fun _ _ _ h => h) ?ry5 (trivial) ?rm5
    case ry5 => first | exact Or.inl ⟨by rfl, by intro w'; go_simp; first | done | rfl⟩
    case rm5 =>
    simp only [Act.put, List.setIfInBounds_toArray, List.set_cons_zero, List.set_cons_succ]
    refine anyC_put 6 23 ?rv6 #[true, true, true, true, true, true, true, false, false, false, false, false, false, false, false, false, false] rfl rfl rfl (by kernel_rfl) (by kernel_rfl) (by kernel_rfl) (fun _ _ _ h => h) ?ry6 (trivial) ?rm6
    case ry6 => first | exact Or.inl ⟨by rfl, by intro w'; go_simp; first | done | rfl⟩
    case rm6 =>
    simp only [Act.put, List.setIfInBounds_toArray, List.set_cons_zero, List.set_cons_succ]
    refine anyC_put 7 24 ?rv7 #[true, true, true, true, true, true, true, true, false, false, false, false, false, false, false, false, false] rfl rfl rfl (by kernel_rfl) (by kernel_rfl) (by kernel_rfl) (fun _ _ _ h => h) ?ry7 (trivial) ?rm7
    case ry7 => first | exact Or.inl ⟨by rfl, by intro w'; go_simp; first | done | rfl⟩ | exact Or.inr ⟨by rfl, rfl⟩ | exact Or.inr ⟨by rfl, by rfl⟩
    case rm7 =>
    simp only [Act.put, List.setIfInBounds_toArray, List.set_cons_zero, List.set_cons_succ]
    refine anyC_take 8 25 ?rv8 #[true, true, true, true, true, true, true, true, true, false, false, false, false, false, false, false, false] rfl rfl rfl (by kernel_rfl) (by kernel_rfl) (by kernel_rfl) (fun _ _ _ h => h) ?ry8 (trivial) ?rm8
    case ry8 => first | exact Or.inl ⟨by rfl, by intro w' hw'; (try dsimp only at hw'); go_simp; first | done | rfl⟩ | exact Or.inr ⟨by rfl, rfl⟩ | exact Or.inr ⟨by rfl, by rfl⟩
    case rm8 =>
    simp only [Act.put, List.setIfInBounds_toArray, List.set_cons_zero, List.set_cons_succ]
    refine anyC_put 9 26 ?rv9 #[true, true, true, true, true, true, true, true, true, true, false, false, false, false, false, false, false] rfl rfl rfl (by kernel_rfl) (by kernel_rfl) (by kernel_rfl) (fun _ _ _ h => h) ?ry9 (trivial) ?rm9
    case ry9 => first | exact Or.inl ⟨by rfl, by intro w'; go_simp; first | done | rfl⟩ | exact Or.inr ⟨by rfl, rfl⟩ | exact Or.inr ⟨by rfl, by rfl⟩
    case rm9 =>
    simp only [Act.put, List.setIfInBounds_toArray, List.set_cons_zero, List.set_cons_succ]
    refine anyC_take 10 27 ?rv10 #[true, true, true, true, true, true, true, true, true, true, true, false, false, false, false, false, false] rfl rfl rfl (by kernel_rfl) (by kernel_rfl) (by kernel_rfl) (fun _ _ _ h => h) ?ry10 (trivial) ?rm10
    case ry10 => first | exact Or.inl ⟨by rfl, by intro w' hw'; (try dsimp only at hw'); go_simp; first | done | rfl⟩ | exact Or.inr ⟨by rfl, rfl⟩ | exact Or.inr ⟨by rfl, by rfl⟩
    case rm10 =>
    simp only [Act.put, List.setIfInBounds_toArray, List.set_cons_zero, List.set_cons_succ]
    refine anyC_put 11 28 ?rv11 #[true, true, true, true, true, true, true, true, true, true, true, true, false, false, false, false, false] rfl rfl rfl (by kernel_rfl) (by kernel_rfl) (by kernel_rfl) (fun _ _ _ h => h) ?ry11 (trivial) ?rm11
    case ry11 => first | exact Or.inl ⟨by rfl, by intro w'; go_simp; first | done | rfl⟩ | exact Or.inr ⟨by rfl, rfl⟩ | exact Or.inr ⟨by rfl, by rfl⟩
    case rm11 =>
    simp only [Act.put, List.setIfInBounds_toArray, List.set_cons_zero, List.set_cons_succ]
    refine anyC_take 12 29 ?rv12 #[true, true, true, true, true, true, true, true, true, true, true, true, true, false, false, false, false] rfl rfl rfl (by kernel_rfl) (by kernel_rfl) (by kernel_rfl) (fun _ _ _ h => h) ?ry12 (trivial) ?rm12
    case ry12 => first | exact Or.inl ⟨by rfl, by intro w' hw'; (try dsimp only at hw'); go_simp; first | done | rfl⟩ | exact Or.inr ⟨by rfl, rfl⟩ | exact Or.inr ⟨by rfl, by rfl⟩
    case rm12 =>
    simp only [Act.put, List.setIfInBounds_toArray, List.set_cons_zero, List.set_cons_succ]
    refine anyC_put 13 30 ?rv13 #[true, true, true, true, true, true, true, true, true, true, true, true, true, true, false, false, false] rfl rfl rfl (by kernel_rfl) (by kernel_rfl) (by kernel_rfl) (fun _ _ _ h => h) ?ry13 (trivial) ?rm13
    case ry13 => first | exact Or.inl ⟨by rfl, by intro w'; go_simp; first | done | rfl⟩ | exact Or.inr ⟨by rfl, rfl⟩ | exact Or.inr ⟨by rfl, by rfl⟩
    case rm13 =>
    simp only [Act.put, List.setIfInBounds_toArray, List.set_cons_zero, List.set_cons_succ]
    refine anyC_take 14 31 ?rv14 #[true, true, true, true, true, true, true, true, true, true, true, true, true, true, true, false, false] rfl rfl rfl (by kernel_rfl) (by kernel_rfl) (by kernel_rfl) (fun _ _ _ h => h) ?ry14 (trivial) ?rm14
    case ry14 => first | exact Or.inl ⟨by rfl, by intro w' hw'; (try dsimp only at hw'); go_simp; first | done | rfl⟩ | exact Or.inr ⟨by rfl, rfl⟩ | exact Or.inr ⟨by rfl, by rfl⟩
    case rm14 =>
    simp only [Act.put, List.setIfInBounds_toArray, List.set_cons_zero, List.set_cons_succ]
    refine anyC_put 15 32 ?rv15 #[true, true, true, true, true, true, true, true, true, true, true, true, true, true, true, true, false] rfl rfl rfl (by kernel_rfl) (by kernel_rfl) (by kernel_rfl) (fun _ _ _ h => h) ?ry15 (trivial) ?rm15
    case ry15 => first | exact Or.inl ⟨by rfl, by intro w'; go_simp; first | done | rfl⟩ | exact Or.inr ⟨by rfl, rfl⟩ | exact Or.inr ⟨by rfl, by rfl⟩
    case rm15 =>
    simp only [Act.put, List.setIfInBounds_toArray, List.set_cons_zero, List.set_cons_succ]
    refine anyC_put 16 33 ?rv16 #[true, true, true, true, true, true, true, true, true, true, true, true, true, true, true, true, true] rfl rfl rfl (by kernel_rfl) (by kernel_rfl) (by kernel_rfl) (fun _ _ _ h => h) ?ry16 (trivial) ?rm16
    case ry16 => first | exact Or.inl ⟨by rfl, by intro w'; go_simp; first | done | rfl⟩
    case rm16 =>
    simp only [Act.put, List.setIfInBounds_toArray, List.set_cons_zero, List.set_cons_succ]
    refine anyC_done (by kernel_rfl) ?_
    have hB := hb0r1
    have z26 : v3.heap.size ≤ v3.drew.heap.size := hB.size
    have B27 : Hid (Abx v3.drew (w.heap.size) (.bool c1) (.slice sa1 sz1.length sc1) (.slice da1 dz1.length dc1)) := B23.out.go hB
    have B28 : Hid (Abx v3.drew (w.heap.size + 1) (.bool c2) (.slice sa2 sz2.length sc2) (.slice da2 dz2.length dc2)) := B24.out.go hB
    have hb29 : Hid (Below w.heap.size w v3.drew) := hb25.out.trans (hB.mono hb25.out.size)
    clear hB hb25 B23 B24
    go_wp2_with fail
    go_ret
    exact ⟨rfl, hb29.out⟩
  · refine (square_no c2 sa2 sc2 sz2 da2 dc2 dz2 _ ((HI2.out.1.below hb18.out).mono hb18.out.size).1 h2).mono ?_
    rintro e v3 ⟨rfl, hB⟩
    have z22 : v2.heap.size ≤ v3.heap.size := hB.size
    have B23 : Hid (Abx v3 (w.heap.size) (.bool c1) (.slice sa1 sz1.length sc1) (.slice da1 dz1.length dc1)) := B16.out.go hB
    have B24 : Hid (Abx v3 (w.heap.size + 1) (.bool c2) (.slice sa2 sz2.length sc2) (.slice da2 dz2.length dc2)) := B17.out.go hB
    have hb25 : Hid (Below w.heap.size w v3) := hb18.out.trans (hB.mono hb18.out.size)
    clear hB hb18 B16 B17
    go_wp2_with fail
    have hb0r2 : Below v3.heap.size v3 v3.drew := (Below.refl _ v3).drew
    refine anyC_begin (fun w' => True) 17 #[false, false, false, false, false, false, false, false, false, false, false, false, false, false, false, false, false] (by kernel_rfl) rfl rfl ?_
    refine anyC_put 0 17 ?rv17 #[true, false, false, false, false, false, false, false, false, false, false, false, false, false, false, false, false] rfl rfl rfl (by kernel_rfl) (by kernel_rfl) (by kernel_rfl) (fun _ _ _ h => h) ?ry17 (trivial) ?rm17
    case ry17 => first | exact Or.inl ⟨by rfl, by intro w'; go_simp; first | done | rfl⟩
    case rm17 =>
    simp only [Act.put, List.setIfInBounds_toArray, List.set_cons_zero, List.set_cons_succ]
    refine anyC_put 1 18 ?rv18 #[true, true, false, false, false, false, false, false, false, false, false, false, false, false, false, false, false] rfl rfl rfl (by kernel_rfl) (by kernel_rfl) (by kernel_rfl) (fun _ _ _ h => h) ?ry18 (trivial) ?rm18
    case ry18 => first | exact Or.inl ⟨by rfl, by intro w'; go_simp; first | done | rfl⟩
    case rm18 =>
    simp only [Act.put, List.setIfInBounds_toArray, List.set_cons_zero, List.set_cons_succ]
    refine anyC_put 2 19 ?rv19 #[true, true, true, false, false, false, false, false, false, false, false, false, false, false, false, false, false] rfl rfl rfl (by kernel_rfl) (by kernel_rfl) (by kernel_rfl) (fun _ _ _ h => h) ?ry19 (trivial) ?rm19
    case ry19 => first | exact Or.inl ⟨by rfl, by intro w'; go_simp; first | done | rfl⟩
    case rm19 =>
    simp only [Act.put, List.setIfInBounds_toArray, List.set_cons_zero, List.set_cons_succ]
    refine anyC_put 3 20 ?rv20 #[true, true, true, true, false, false, false, false, false, false, false, false, false, false, false, false, false] rfl rfl rfl (by kernel_rfl) (by kernel_rfl) (by kernel_rfl) (fun _ _ _ h => h) ?ry20 (trivial) ?rm20
    case ry20 => first | exact Or.inl ⟨by rfl, by intro w'; go_simp; first | done | rfl⟩ | exact Or.inr ⟨by rfl, rfl⟩ | exact Or.inr ⟨by rfl, by rfl⟩
    case rm20 =>
    simp only [Act.put, List.setIfInBounds_toArray, List.set_cons_zero, List.set_cons_succ]
    refine anyC_put 4 21 ?rv21 #[true, true, true, true, true, false, false, false, false, false, false, false, false, false, false, false, false] rfl rfl rfl (by kernel_rfl) (by kernel_rfl) (by kernel_rfl) (fun _ _ _ h => h) ?ry21 (trivial) ?rm21
    case ry21 => first | exact Or.inl ⟨by rfl, by intro w'; go_simp; first | done | rfl⟩ | exact Or.inr ⟨by rfl, rfl⟩ | exact Or.inr ⟨by rfl, by rfl⟩
    case rm21 =>
    simp only [Act.put, List.setIfInBounds_toArray, List.set_cons_zero, List.set_cons_succ]
    refine anyC_put 5 22 ?rv22 #[true, true, true, true, true, true, false, false, false, false, false, false, false, false, false, false, false] rfl rfl rfl (by kernel_rfl) (by kernel_rfl) (by kernel_rfl) (fun _ _ _ h => h) ?ry22 (trivial) ?rm22
    case ry22 => first | exact Or.inl ⟨by rfl, by intro w'; go_simp; first | done | rfl⟩
    case rm22 =>
    simp only [Act.put, List.setIfInBounds_toArray, List.set_cons_zero, List.set_cons_succ]
    refine anyC_put 6 23 ?rv23 #[true, true, true, true, true, true, true, false, false, false, false, false, false, false, false, false, false] rfl rfl rfl (by kernel_rfl) (by kernel_rfl) (by kernel_rfl) (fun _ _ _ h => h) ?ry23 (trivial) ?rm23
    case ry23 => first | exact Or.inl ⟨by rfl, by intro w'; go_simp; first | done | rfl⟩
    case rm23 =>
    simp only [Act.put, List.setIfInBounds_toArray, List.set_cons_zero, List.set_cons_succ]
    refine anyC_put 7 24 ?rv24 #[true, true, true, true, true, true, true, true, false, false, false, false, false, false, false, false, false] rfl rfl rfl (by kernel_rfl) (by kernel_rfl) (by kernel_rfl) (fun _ _ _ h => h) ?ry24 (trivial) ?rm24
    case ry24 => first | exact Or.inl ⟨by rfl, by intro w'; go_simp; first | done | rfl⟩ | exact Or.inr ⟨by rfl, rfl⟩ | exact Or.inr ⟨by rfl, by rfl⟩
    case rm24 =>
    simp only [Act.put, List.setIfInBounds_toArray, List.set_cons_zero, List.set_cons_succ]
    refine anyC_take 8 25 ?rv25 #[true, true, true, true, true, true, true, true, true, false, false, false, false, false, false, false, false] rfl rfl rfl (by kernel_rfl) (by kernel_rfl) (by kernel_rfl) (fun _ _ _ h => h) ?ry25 (trivial) ?rm25
    case ry25 => first | exact Or.inl ⟨by rfl, by intro w' hw'; (try dsimp only at hw'); go_simp; first | done | rfl⟩ | exact Or.inr ⟨by rfl, rfl⟩ | exact Or.inr ⟨by rfl, by rfl⟩
    case rm25 =>
    simp only [Act.put, List.setIfInBounds_toArray, List.set_cons_zero, List.set_cons_succ]
    refine anyC_put 9 26 ?rv26 #[true, true, true, true, true, true, true, true, true, true, false, false, false, false, false, false, false] rfl rfl rfl (by kernel_rfl) (by kernel_rfl) (by kernel_rfl) (fun _ _ _ h => h) ?ry26 (trivial) ?rm26
    case ry26 => first | exact Or.inl ⟨by rfl, by intro w'; go_simp; first | done | rfl⟩ | exact Or.inr ⟨by rfl, rfl⟩ | exact Or.inr ⟨by rfl, by rfl⟩
    case rm26 =>
    simp only [Act.put, List.setIfInBounds_toArray, List.set_cons_zero, List.set_cons_succ]
    refine anyC_take 10 27 ?rv27 #[true, true, true, true, true, true, true, true, true, true, true, false, false, false, false, false, false] rfl rfl rfl (by kernel_rfl) (by kernel_rfl) (by kernel_rfl) (fun _ _ _ h => h) ?ry27 (trivial) ?rm27
    case ry27 => first | exact Or.inl ⟨by rfl, by intro w' hw'; (try dsimp only at hw'); go_simp; first | done | rfl⟩ | exact Or.inr ⟨by rfl, rfl⟩ | exact Or.inr ⟨by rfl, by rfl⟩
    case rm27 =>
    simp only [Act.put, List.setIfInBounds_toArray, List.set_cons_zero, List.set_cons_succ]
    refine anyC_put 11 28 ?rv28 #[true, true, true, true, true, true, true, true, true, true, true, true, false, false, false, false, false] rfl rfl rfl (by kernel_rfl) (by kernel_rfl) (by kernel_rfl) (fun _ _ _ h => h) ?ry28 (trivial) ?rm28
    case ry28 => first | exact Or.inl ⟨by rfl, by intro w'; go_simp; first | done | rfl⟩ | exact Or.inr ⟨by rfl, rfl⟩ | exact Or.inr ⟨by rfl, by rfl⟩
    case rm28 =>
    simp only [Act.put, List.setIfInBounds_toArray, List.set_cons_zero, List.set_cons_succ]
    refine anyC_take 12 29 ?rv29 #[true, true, true, true, true, true, true, true, true, true, true, true, true, false, false, false, false] rfl rfl rfl (by kernel_rfl) (by kernel_rfl) (by kernel_rfl) (fun _ _ _ h => h) ?ry29 (trivial) ?rm29
    case ry29 => first | exact Or.inl ⟨by rfl, by intro w' hw'; (try dsimp only at hw'); go_simp; first | done | rfl⟩ | exact Or.inr ⟨by rfl, rfl⟩ | exact Or.inr ⟨by rfl, by rfl⟩
    case rm29 =>
    simp only [Act.put, List.setIfInBounds_toArray, List.set_cons_zero, List.set_cons_succ]
    refine anyC_put 13 30 ?rv30 #[true, true, true, true, true, true, true, true, true, true, true, true, true, true, false, false, false] rfl rfl rfl (by kernel_rfl) (by kernel_rfl) (by kernel_rfl) (fun _ _ _ h => h) ?ry30 (trivial) ?rm30
    case ry30 => first | exact Or.inl ⟨by rfl, by intro w'; go_simp; first | done | rfl⟩ | exact Or.inr ⟨by rfl, rfl⟩ | exact Or.inr ⟨by rfl, by rfl⟩
    case rm30 =>
    simp only [Act.put, List.setIfInBounds_toArray, List.set_cons_zero, List.set_cons_succ]
    refine anyC_take 14 31 ?rv31 #[true, true, true, true, true, true, true, true, true, true, true, true, true, true, true, false, false] rfl rfl rfl (by kernel_rfl) (by kernel_rfl) (by kernel_rfl) (fun _ _ _ h => h) ?ry31 (trivial) ?rm31
    case ry31 => first | exact Or.inl ⟨by rfl, by intro w' hw'; (try dsimp only at hw'); go_simp; first | done | rfl⟩ | exact Or.inr ⟨by rfl, rfl⟩ | exact Or.inr ⟨by rfl, by rfl⟩
    case rm31 =>
    simp only [Act.put, List.setIfInBounds_toArray, List.set_cons_zero, List.set_cons_succ]
    refine anyC_put 15 32 ?rv32 #[true, true, true, true, true, true, true, true, true, true, true, true, true, true, true, true, false] rfl rfl rfl (by kernel_rfl) (by kernel_rfl) (by kernel_rfl) (fun _ _ _ h => h) ?ry32 (trivial) ?rm32
    case ry32 => first | exact Or.inl ⟨by rfl, by intro w'; go_simp; first | done | rfl⟩ | exact Or.inr ⟨by rfl, rfl⟩ | exact Or.inr ⟨by rfl, by rfl⟩
    case rm32 =>
    simp only [Act.put, List.setIfInBounds_toArray, List.set_cons_zero, List.set_cons_succ]
    refine anyC_put 16 33 ?rv33 #[true, true, true, true, true, true, true, true, true, true, true, true, true, true, true, true, true] rfl rfl rfl (by kernel_rfl) (by kernel_rfl) (by kernel_rfl) (fun _ _ _ h => h) ?ry33 (trivial) ?rm33
    case ry33 => first | exact Or.inl ⟨by rfl, by intro w'; go_simp; first | done | rfl⟩
    case rm33 =>
    simp only [Act.put, List.setIfInBounds_toArray, List.set_cons_zero, List.set_cons_succ]
    refine anyC_done (by kernel_rfl) ?_
    have hB := hb0r2
    have z26 : v3.heap.size ≤ v3.drew.heap.size := hB.size
    have B27 : Hid (Abx v3.drew (w.heap.size) (.bool c1) (.slice sa1 sz1.length sc1) (.slice da1 dz1.length dc1)) := B23.out.go hB
    have B28 : Hid (Abx v3.drew (w.heap.size + 1) (.bool c2) (.slice sa2 sz2.length sc2) (.slice da2 dz2.length dc2)) := B24.out.go hB
    have hb29 : Hid (Below w.heap.size w v3.drew) := hb25.out.trans (hB.mono hb25.out.size)
    clear hB hb25 B23 B24
    go_wp2_with fail
    go_ret
    exact ⟨rfl, hb29.out⟩
set_option maxRecDepth 100000 in
set_option maxHeartbeats 4000000 in
theorem many_b (HNi : CNi) (c1 : Bool) (sa1 : Option Addr) (sc1 : Nat) (sz1 : List Int) (da1 : Option Addr) (dc1 : Nat) (dz1 : List Int) (c2 : Bool) (sa2 : Option Addr) (sc2 : Nat) (sz2 : List Int) (da2 : Option Addr) (dc2 : Nat) (dz2 : List Int) (w : World) (w8 : IsArrD w sa1 sz1 sc1 da1 dz1 dc1) (w9 : IsArrD w sa2 sz2 sc2 da2 dz2 dc2) (G1 : Hid (SqP c1 sz1 dz1)) (G2 : Hid (¬ SqP c2 sz2 dz2)) :
    Calls Try.prog 3 #[.agg #[.bool c1, .slice sa1 sz1.length sc1, .slice da1 dz1.length dc1], .agg #[.bool c2, .slice sa2 sz2.length sc2, .slice da2 dz2.length dc2]] w fun e w' => e = .returned (.bool true) ∧ Below w.heap.size w w' := by
  have HI1 : Hid (IsC w.heap.size w sa1 sz1 sc1 ∧ IsC w.heap.size w da1 dz1 dc1) := ⟨w8.2.2.1, w8.2.2.2.1⟩
  have HI2 : Hid (IsC w.heap.size w sa2 sz2 sc2 ∧ IsC w.heap.size w da2 dz2 dc2) := ⟨w9.2.2.1, w9.2.2.2.1⟩
  have n1 := Abx.new w (.bool c1) (.slice sa1 sz1.length sc1) (.slice da1 dz1.length dc1)
  have n2 := Abx.new (w.alloc (.cells #[.bool c1, .slice sa1 sz1.length sc1, .slice da1 dz1.length dc1] 24)) (.bool c2) (.slice sa2 sz2.length sc2) (.slice da2 dz2.length dc2)
  simp only [World.size_alloc] at n2
  go_enter Try.func3, Try.ntmps3
  go_wp2_with fail
  obtain ⟨wo3, hwo3⟩ : ∃ wo3, wo3 = ((w.alloc (.cells #[.bool c1, .slice sa1 sz1.length sc1, .slice da1 dz1.length dc1] 24)).alloc (.cells #[.bool c2, .slice sa2 sz2.length sc2, .slice da2 dz2.length dc2] 24)) := ⟨_, rfl⟩
  rw [← hwo3]
  have z4 : w.heap.size + 1 + 1 ≤ wo3.heap.size := by rw [hwo3]; simp only [World.size_alloc]; omega
  have B5 : Hid (Abx wo3 (w.heap.size) (.bool c1) (.slice sa1 sz1.length sc1) (.slice da1 dz1.length dc1)) := by rw [hwo3]; exact (n1.al (.cells #[.bool c2, .slice sa2 sz2.length sc2, .slice da2 dz2.length dc2] 24))
  have B6 : Hid (Abx wo3 (w.heap.size + 1) (.bool c2) (.slice sa2 sz2.length sc2) (.slice da2 dz2.length dc2)) := by rw [hwo3]; exact n2
  have hb7 : Hid (Below w.heap.size w wo3) := by rw [hwo3]; exact (((Below.refl w.heap.size w).alloc (by omega) (.cells #[.bool c1, .slice sa1 sz1.length sc1, .slice da1 dz1.length dc1] 24)).alloc (by simp only [World.size_alloc]; omega) (.cells #[.bool c2, .slice sa2 sz2.length sc2, .slice da2 dz2.length dc2] 24))
  have zwo3 : w.heap.size ≤ wo3.heap.size := hb7.out.size
  clear hwo3 n1 n2
  refine (fact14_any _).mono ?_
  rintro e v1 ⟨rfl, hB⟩
  have z8 : wo3.heap.size ≤ v1.heap.size := hB.size
  have B9 : Hid (Abx v1 (w.heap.size) (.bool c1) (.slice sa1 sz1.length sc1) (.slice da1 dz1.length dc1)) := B5.out.go hB
  have B10 : Hid (Abx v1 (w.heap.size + 1) (.bool c2) (.slice sa2 sz2.length sc2) (.slice da2 dz2.length dc2)) := B6.out.go hB
  have hb11 : Hid (Below w.heap.size w v1) := hb7.out.trans (hB.mono hb7.out.size)
  clear hB hb7 B5 B6
  have l12 := (B9.out).c0
  have l13 := (B9.out).c1
  have l14 := (B9.out).c2
  go_wp2_with fail
  clear l12 l13 l14
  refine (sqy_any c1 sa1 sc1 sz1 da1 dc1 dz1 _ ((HI1.out.1.below hb11.out).mono hb11.out.size).1 G1.out).mono ?_
  rintro e v2 ⟨rfl, hB⟩
  have z15 : v1.heap.size ≤ v2.heap.size := hB.size
  have B16 : Hid (Abx v2 (w.heap.size) (.bool c1) (.slice sa1 sz1.length sc1) (.slice da1 dz1.length dc1)) := B9.out.go hB
  have B17 : Hid (Abx v2 (w.heap.size + 1) (.bool c2) (.slice sa2 sz2.length sc2) (.slice da2 dz2.length dc2)) := B10.out.go hB
  have hb18 : Hid (Below w.heap.size w v2) := hb11.out.trans (hB.mono hb11.out.size)
  clear hB hb11 B9 B10
  have l19 := (B17.out).c0
  have l20 := (B17.out).c1
  have l21 := (B17.out).c2
  go_wp2_with fail
  clear l19 l20 l21
  refine (square_no c2 sa2 sc2 sz2 da2 dc2 dz2 _ ((HI2.out.1.below hb18.out).mono hb18.out.size).1 G2.out).mono ?_
  rintro e v3 ⟨rfl, hB⟩
  have z22 : v2.heap.size ≤ v3.heap.size := hB.size
  have B23 : Hid (Abx v3 (w.heap.size) (.bool c1) (.slice sa1 sz1.length sc1) (.slice da1 dz1.length dc1)) := B16.out.go hB
  have B24 : Hid (Abx v3 (w.heap.size + 1) (.bool c2) (.slice sa2 sz2.length sc2) (.slice da2 dz2.length dc2)) := B17.out.go hB
  have hb25 : Hid (Below w.heap.size w v3) := hb18.out.trans (hB.mono hb18.out.size)
  clear hB hb18 B16 B17
  go_wp2_with fail
  have hb0r3 : Below v3.heap.size v3 v3.drew := (Below.refl _ v3).drew
  refine anyC_begin (fun w' => True) 17 #[false, false, false, false, false, false, false, false, false, false, false, false, false, false, false, false, false] (by kernel_rfl) rfl rfl ?_
  refine anyC_put 0 17 ?rv34 #[true, false, false, false, false, false, false, false, false, false, false, false, false, false, false, false, false] rfl rfl rfl (by kernel_rfl) (by kernel_rfl) (by kernel_rfl) (fun _ _ _ h => h) ?ry34 (trivial) ?rm34
  case ry34 => first | exact Or.inl ⟨by rfl, by intro w'; go_simp; first | done | rfl⟩
  case rm34 =>
  simp only [Act.put, List.setIfInBounds_toArray, List.set_cons_zero, List.set_cons_succ]
  refine anyC_put 1 18 ?rv35 #[true, true, false, false, false, false, false, false, false, false, false, false, false, false, false, false, false] rfl rfl rfl (by kernel_rfl) (by kernel_rfl) (by kernel_rfl) (fun _ _ _ h => h) ?ry35 (trivial) ?rm35
  case ry35 => first | exact Or.inl ⟨by rfl, by intro w'; go_simp; first | done | rfl⟩
  case rm35 =>
  simp only [Act.put, List.setIfInBounds_toArray, List.set_cons_zero, List.set_cons_succ]
  refine anyC_put 2 19 ?rv36 #[true, true, true, false, false, false, false, false, false, false, false, false, false, false, false, false, false] rfl rfl rfl (by kernel_rfl) (by kernel_rfl) (by kernel_rfl) (fun _ _ _ h => h) ?ry36 (trivial) ?rm36
  case ry36 => first | exact Or.inl ⟨by rfl, by intro w'; go_simp; first | done | rfl⟩
  case rm36 =>
  simp only [Act.put, List.setIfInBounds_toArray, List.set_cons_zero, List.set_cons_succ]
  refine anyC_put 3 20 ?rv37 #[true, true, true, true, false, false, false, false, false, false, false, false, false, false, false, false, false] rfl rfl rfl (by kernel_rfl) (by kernel_rfl) (by kernel_rfl) (fun _ _ _ h => h) ?ry37 (trivial) ?rm37
  case ry37 => first | exact Or.inl ⟨by rfl, by intro w'; go_simp; first | done | rfl⟩ | exact Or.inr ⟨by rfl, rfl⟩ | exact Or.inr ⟨by rfl, by rfl⟩
  case rm37 =>
  simp only [Act.put, List.setIfInBounds_toArray, List.set_cons_zero, List.set_cons_succ]
  refine anyC_put 4 21 ?rv38 #[true, true, true, true, true, false, false, false, false, false, false, false, false, false, false, false, false] rfl rfl rfl (by kernel_rfl) (by kernel_rfl) (by kernel_rfl) (fun _ _ _ h => h) ?ry38 (trivial) ?rm38
  case ry38 => first | exact Or.inl ⟨by rfl, by intro w'; go_simp; first | done | rfl⟩ | exact Or.inr ⟨by rfl, rfl⟩ | exact Or.inr ⟨by rfl, by rfl⟩
  case rm38 =>
  simp only [Act.put, List.setIfInBounds_toArray, List.set_cons_zero, List.set_cons_succ]
  refine anyC_put 5 22 ?rv39 #[true, true, true, true, true, true, false, false, false, false, false, false, false, false, false, false, false] rfl rfl rfl (by kernel_rfl) (by kernel_rfl) (by kernel_rfl) (fun _ _ _ h => h) ?ry39 (trivial) ?rm39
  case ry39 => first | exact Or.inl ⟨by rfl, by intro w'; go_simp; first | done | rfl⟩
  case rm39 =>
  simp only [Act.put, List.setIfInBounds_toArray, List.set_cons_zero, List.set_cons_succ]
  refine anyC_put 6 23 ?rv40 #[true, true, true, true, true, true, true, false, false, false, false, false, false, false, false, false, false] rfl rfl rfl (by kernel_rfl) (by kernel_rfl) (by kernel_rfl) (fun _ _ _ h => h) ?ry40 (trivial) ?rm40
  case ry40 => first | exact Or.inl ⟨by rfl, by intro w'; go_simp; first | done | rfl⟩
  case rm40 =>
  simp only [Act.put, List.setIfInBounds_toArray, List.set_cons_zero, List.set_cons_succ]
  refine anyC_put 7 24 ?rv41 #[true, true, true, true, true, true, true, true, false, false, false, false, false, false, false, false, false] rfl rfl rfl (by kernel_rfl) (by kernel_rfl) (by kernel_rfl) (fun _ _ _ h => h) ?ry41 (trivial) ?rm41
  case ry41 => first | exact Or.inl ⟨by rfl, by intro w'; go_simp; first | done | rfl⟩ | exact Or.inr ⟨by rfl, rfl⟩ | exact Or.inr ⟨by rfl, by rfl⟩
  case rm41 =>
  simp only [Act.put, List.setIfInBounds_toArray, List.set_cons_zero, List.set_cons_succ]
  refine anyC_take 8 25 ?rv42 #[true, true, true, true, true, true, true, true, true, false, false, false, false, false, false, false, false] rfl rfl rfl (by kernel_rfl) (by kernel_rfl) (by kernel_rfl) (fun _ _ _ h => h) ?ry42 (trivial) ?rm42
  case ry42 => first | exact Or.inl ⟨by rfl, by intro w' hw'; (try dsimp only at hw'); go_simp; first | done | rfl⟩ | exact Or.inr ⟨by rfl, rfl⟩ | exact Or.inr ⟨by rfl, by rfl⟩
  case rm42 =>
  simp only [Act.put, List.setIfInBounds_toArray, List.set_cons_zero, List.set_cons_succ]
  refine anyC_put 9 26 ?rv43 #[true, true, true, true, true, true, true, true, true, true, false, false, false, false, false, false, false] rfl rfl rfl (by kernel_rfl) (by kernel_rfl) (by kernel_rfl) (fun _ _ _ h => h) ?ry43 (trivial) ?rm43
  case ry43 => first | exact Or.inl ⟨by rfl, by intro w'; go_simp; first | done | rfl⟩ | exact Or.inr ⟨by rfl, rfl⟩ | exact Or.inr ⟨by rfl, by rfl⟩
  case rm43 =>
  simp only [Act.put, List.setIfInBounds_toArray, List.set_cons_zero, List.set_cons_succ]
  refine anyC_take 10 27 ?rv44 #[true, true, true, true, true, true, true, true, true, true, true, false, false, false, false, false, false] rfl rfl rfl (by kernel_rfl) (by kernel_rfl) (by kernel_rfl) (fun _ _ _ h => h) ?ry44 (trivial) ?rm44
  case ry44 => first | exact Or.inl ⟨by rfl, by intro w' hw'; (try dsimp only at hw'); go_simp; first | done | rfl⟩ | exact Or.inr ⟨by rfl, rfl⟩ | exact Or.inr ⟨by rfl, by rfl⟩
  case rm44 =>
  simp only [Act.put, List.setIfInBounds_toArray, List.set_cons_zero, List.set_cons_succ]
  refine anyC_put 11 28 ?rv45 #[true, true, true, true, true, true, true, true, true, true, true, true, false, false, false, false, false] rfl rfl rfl (by kernel_rfl) (by kernel_rfl) (by kernel_rfl) (fun _ _ _ h => h) ?ry45 (trivial) ?rm45
  case ry45 => first | exact Or.inl ⟨by rfl, by intro w'; go_simp; first | done | rfl⟩ | exact Or.inr ⟨by rfl, rfl⟩ | exact Or.inr ⟨by rfl, by rfl⟩
  case rm45 =>
  simp only [Act.put, List.setIfInBounds_toArray, List.set_cons_zero, List.set_cons_succ]
  refine anyC_take 12 29 ?rv46 #[true, true, true, true, true, true, true, true, true, true, true, true, true, false, false, false, false] rfl rfl rfl (by kernel_rfl) (by kernel_rfl) (by kernel_rfl) (fun _ _ _ h => h) ?ry46 (trivial) ?rm46
  case ry46 => first | exact Or.inl ⟨by rfl, by intro w' hw'; (try dsimp only at hw'); go_simp; first | done | rfl⟩ | exact Or.inr ⟨by rfl, rfl⟩ | exact Or.inr ⟨by rfl, by rfl⟩
  case rm46 =>
  simp only [Act.put, List.setIfInBounds_toArray, List.set_cons_zero, List.set_cons_succ]
  refine anyC_put 13 30 ?rv47 #[true, true, true, true, true, true, true, true, true, true, true, true, true, true, false, false, false] rfl rfl rfl (by kernel_rfl) (by kernel_rfl) (by kernel_rfl) (fun _ _ _ h => h) ?ry47 (trivial) ?rm47
  case ry47 => first | exact Or.inl ⟨by rfl, by intro w'; go_simp; first | done | rfl⟩ | exact Or.inr ⟨by rfl, rfl⟩ | exact Or.inr ⟨by rfl, by rfl⟩
  case rm47 =>
  simp only [Act.put, List.setIfInBounds_toArray, List.set_cons_zero, List.set_cons_succ]
  refine anyC_take 14 31 ?rv48 #[true, true, true, true, true, true, true, true, true, true, true, true, true, true, true, false, false] rfl rfl rfl (by kernel_rfl) (by kernel_rfl) (by kernel_rfl) (fun _ _ _ h => h) ?ry48 (trivial) ?rm48
  case ry48 => first | exact Or.inl ⟨by rfl, by intro w' hw'; (try dsimp only at hw'); go_simp; first | done | rfl⟩ | exact Or.inr ⟨by rfl, rfl⟩ | exact Or.inr ⟨by rfl, by rfl⟩
  case rm48 =>
  simp only [Act.put, List.setIfInBounds_toArray, List.set_cons_zero, List.set_cons_succ]
  refine anyC_put 15 32 ?rv49 #[true, true, true, true, true, true, true, true, true, true, true, true, true, true, true, true, false] rfl rfl rfl (by kernel_rfl) (by kernel_rfl) (by kernel_rfl) (fun _ _ _ h => h) ?ry49 (trivial) ?rm49
  case ry49 => first | exact Or.inl ⟨by rfl, by intro w'; go_simp; first | done | rfl⟩ | exact Or.inr ⟨by rfl, rfl⟩ | exact Or.inr ⟨by rfl, by rfl⟩
  case rm49 =>
  simp only [Act.put, List.setIfInBounds_toArray, List.set_cons_zero, List.set_cons_succ]
  refine anyC_put 16 33 ?rv50 #[true, true, true, true, true, true, true, true, true, true, true, true, true, true, true, true, true] rfl rfl rfl (by kernel_rfl) (by kernel_rfl) (by kernel_rfl) (fun _ _ _ h => h) ?ry50 (trivial) ?rm50
  case ry50 => first | exact Or.inl ⟨by rfl, by intro w'; go_simp; first | done | rfl⟩
  case rm50 =>
  simp only [Act.put, List.setIfInBounds_toArray, List.set_cons_zero, List.set_cons_succ]
  refine anyC_done (by kernel_rfl) ?_
  have hB := hb0r3
  have z26 : v3.heap.size ≤ v3.drew.heap.size := hB.size
  have B27 : Hid (Abx v3.drew (w.heap.size) (.bool c1) (.slice sa1 sz1.length sc1) (.slice da1 dz1.length dc1)) := B23.out.go hB
  have B28 : Hid (Abx v3.drew (w.heap.size + 1) (.bool c2) (.slice sa2 sz2.length sc2) (.slice da2 dz2.length dc2)) := B24.out.go hB
  have hb29 : Hid (Below w.heap.size w v3.drew) := hb25.out.trans (hB.mono hb25.out.size)
  clear hB hb25 B23 B24
  go_wp2_with fail
  go_ret
  exact ⟨rfl, hb29.out⟩
set_option maxRecDepth 100000 in
set_option maxHeartbeats 4000000 in
theorem many_ne (n2 : Nat) (hn2 : n2 ≤ 6) (n : Nat) (hn : n ≤ 6) (b1 o1 sc1 : Nat) (da1 : Option Addr) (dc1 : Nat) (dz1 : List Int) (HL1 : Hid (dz1.length = n * n)) (b2 o2 sc2 : Nat) (da2 : Option Addr) (dc2 : Nat) (dz2 : List Int) (HL2 : Hid (dz2.length = n2 * n2)) (w : World) (HI1 : Hid (IsC w.heap.size w (some ⟨b1, o1, none⟩) [(n : Int), (n : Int)] sc1 ∧ IsC w.heap.size w da1 dz1 dc1 ∧ ∀ j, In64 (nth dz1 j))) (HI2 : Hid (IsC w.heap.size w (some ⟨b2, o2, none⟩) [(n2 : Int), (n2 : Int)] sc2 ∧ IsC w.heap.size w da2 dz2 dc2 ∧ ∀ j, In64 (nth dz2 j))) (hne : ¬ n = n2) :
    Calls Try.prog 3 #[.agg #[.bool false, .slice (some ⟨b1, o1, none⟩) 2 sc1, .slice da1 dz1.length dc1], .agg #[.bool false, .slice (some ⟨b2, o2, none⟩) 2 sc2, .slice da2 dz2.length dc2]] w fun e w' => e = .returned (.bool true) ∧ Below w.heap.size w w' := by
  have t1 : ((n : Int) != (n2 : Int)) = true := by have := hne; simp; omega
  have n1 := Abx.new w (.bool false) (.slice (some ⟨b1, o1, none⟩) 2 sc1) (.slice da1 dz1.length dc1)
  have n2 := Abx.new (w.alloc (.cells #[.bool false, .slice (some ⟨b1, o1, none⟩) 2 sc1, .slice da1 dz1.length dc1] 24)) (.bool false) (.slice (some ⟨b2, o2, none⟩) 2 sc2) (.slice da2 dz2.length dc2)
  simp only [World.size_alloc] at n2
  go_enter Try.func3, Try.ntmps3
  go_wp2_with fail
  obtain ⟨wo3, hwo3⟩ : ∃ wo3, wo3 = ((w.alloc (.cells #[.bool false, .slice (some ⟨b1, o1, none⟩) 2 sc1, .slice da1 dz1.length dc1] 24)).alloc (.cells #[.bool false, .slice (some ⟨b2, o2, none⟩) 2 sc2, .slice da2 dz2.length dc2] 24)) := ⟨_, rfl⟩
  rw [← hwo3]
  have z4 : w.heap.size + 1 + 1 ≤ wo3.heap.size := by rw [hwo3]; simp only [World.size_alloc]; omega
  have B5 : Hid (Abx wo3 (w.heap.size) (.bool false) (.slice (some ⟨b1, o1, none⟩) 2 sc1) (.slice da1 dz1.length dc1)) := by rw [hwo3]; exact (n1.al (.cells #[.bool false, .slice (some ⟨b2, o2, none⟩) 2 sc2, .slice da2 dz2.length dc2] 24))
  have B6 : Hid (Abx wo3 (w.heap.size + 1) (.bool false) (.slice (some ⟨b2, o2, none⟩) 2 sc2) (.slice da2 dz2.length dc2)) := by rw [hwo3]; exact n2
  have hb7 : Hid (Below w.heap.size w wo3) := by rw [hwo3]; exact (((Below.refl w.heap.size w).alloc (by omega) (.cells #[.bool false, .slice (some ⟨b1, o1, none⟩) 2 sc1, .slice da1 dz1.length dc1] 24)).alloc (by simp only [World.size_alloc]; omega) (.cells #[.bool false, .slice (some ⟨b2, o2, none⟩) 2 sc2, .slice da2 dz2.length dc2] 24))
  have zwo3 : w.heap.size ≤ wo3.heap.size := hb7.out.size
  clear hwo3 n1 n2
  refine (fact14_any _).mono ?_
  rintro e v1 ⟨rfl, hB⟩
  have z8 : wo3.heap.size ≤ v1.heap.size := hB.size
  have B9 : Hid (Abx v1 (w.heap.size) (.bool false) (.slice (some ⟨b1, o1, none⟩) 2 sc1) (.slice da1 dz1.length dc1)) := B5.out.go hB
  have B10 : Hid (Abx v1 (w.heap.size + 1) (.bool false) (.slice (some ⟨b2, o2, none⟩) 2 sc2) (.slice da2 dz2.length dc2)) := B6.out.go hB
  have hb11 : Hid (Below w.heap.size w v1) := hb7.out.trans (hB.mono hb7.out.size)
  clear hB hb7 B5 B6
  have l12 := (B9.out).c0
  have l13 := (B9.out).c1
  have l14 := (B9.out).c2
  go_wp2_with fail
  clear l12 l13 l14
  refine (square_yes n hn (some ⟨b1, o1, none⟩) sc1 da1 dc1 dz1 dz1.length rfl HL1.out _ ((HI1.out.1.below hb11.out).mono hb11.out.size).1).mono ?_
  rintro e v2 ⟨rfl, hB⟩
  have z15 : v1.heap.size ≤ v2.heap.size := hB.size
  have B16 : Hid (Abx v2 (w.heap.size) (.bool false) (.slice (some ⟨b1, o1, none⟩) 2 sc1) (.slice da1 dz1.length dc1)) := B9.out.go hB
  have B17 : Hid (Abx v2 (w.heap.size + 1) (.bool false) (.slice (some ⟨b2, o2, none⟩) 2 sc2) (.slice da2 dz2.length dc2)) := B10.out.go hB
  have hb18 : Hid (Below w.heap.size w v2) := hb11.out.trans (hB.mono hb11.out.size)
  clear hB hb11 B9 B10
  have l19 := (B17.out).c0
  have l20 := (B17.out).c1
  have l21 := (B17.out).c2
  go_wp2_with fail
  clear l19 l20 l21
  refine (square_yes n2 hn2 (some ⟨b2, o2, none⟩) sc2 da2 dc2 dz2 dz2.length rfl HL2.out _ ((HI2.out.1.below hb18.out).mono hb18.out.size).1).mono ?_
  rintro e v3 ⟨rfl, hB⟩
  have z22 : v2.heap.size ≤ v3.heap.size := hB.size
  have B23 : Hid (Abx v3 (w.heap.size) (.bool false) (.slice (some ⟨b1, o1, none⟩) 2 sc1) (.slice da1 dz1.length dc1)) := B16.out.go hB
  have B24 : Hid (Abx v3 (w.heap.size + 1) (.bool false) (.slice (some ⟨b2, o2, none⟩) 2 sc2) (.slice da2 dz2.length dc2)) := B17.out.go hB
  have hb25 : Hid (Below w.heap.size w v3) := hb18.out.trans (hB.mono hb18.out.size)
  clear hB hb18 B16 B17
  go_wp2_with fail
  obtain ⟨hqr41, hsr41⟩ : b1 < w.heap.size ∧ v3.cell? ⟨b1, o1, none⟩ = some (.int .i64 (n : Int)) := shp14 HI1.out.1 hb25.out
  obtain ⟨hqr42, hsr42⟩ : b2 < w.heap.size ∧ v3.cell? ⟨b2, o2, none⟩ = some (.int .i64 (n2 : Int)) := shp14 HI2.out.1 hb25.out
  have hb0r4 : Below v3.heap.size v3 v3.drew := (Below.refl _ v3).drew
  refine anyC_begin (fun w' => w'.cell? ⟨w.heap.size, 0, none⟩ = some (.bool false) ∧ w'.cell? ⟨w.heap.size, 1, none⟩ = some (.slice (some ⟨b1, o1, none⟩) 2 sc1) ∧ w'.cell? ⟨w.heap.size, 2, none⟩ = some (.slice da1 dz1.length dc1) ∧ w'.cell? ⟨w.heap.size + 1, 0, none⟩ = some (.bool false) ∧ w'.cell? ⟨w.heap.size + 1, 1, none⟩ = some (.slice (some ⟨b2, o2, none⟩) 2 sc2) ∧ w'.cell? ⟨w.heap.size + 1, 2, none⟩ = some (.slice da2 dz2.length dc2) ∧ w'.cell? ⟨b1, o1, none⟩ = some (.int .i64 (n : Int)) ∧ w'.cell? ⟨b2, o2, none⟩ = some (.int .i64 (n2 : Int))) 17 #[false, false, false, false, false, false, false, false, false, false, false, false, false, false, false, false, false] (by kernel_rfl) rfl rfl ?_
  refine anyC_put 0 17 ?rv51 #[true, false, false, false, false, false, false, false, false, false, false, false, false, false, false, false, false] rfl rfl rfl (by kernel_rfl) (by kernel_rfl) (by kernel_rfl) (fun _ _ _ h => h) ?ry51 (⟨(B23.out.go hb0r4).c0, (B23.out.go hb0r4).c1, (B23.out.go hb0r4).c2, (B24.out.go hb0r4).c0, (B24.out.go hb0r4).c1, (B24.out.go hb0r4).c2, (hb0r4.cell (p := ⟨b1, o1, none⟩) (Nat.lt_of_lt_of_le hqr41 hb25.out.size)).trans hsr41, (hb0r4.cell (p := ⟨b2, o2, none⟩) (Nat.lt_of_lt_of_le hqr42 hb25.out.size)).trans hsr42⟩) ?rm51
  case ry51 => first | exact Or.inl ⟨by rfl, by intro w'; go_simp; first | done | rfl⟩
  case rm51 =>
  simp only [Act.put, List.setIfInBounds_toArray, List.set_cons_zero, List.set_cons_succ]
  refine anyC_put 1 18 ?rv52 #[true, true, false, false, false, false, false, false, false, false, false, false, false, false, false, false, false] rfl rfl rfl (by kernel_rfl) (by kernel_rfl) (by kernel_rfl) (fun _ _ _ h => h) ?ry52 (⟨(B23.out.go hb0r4).c0, (B23.out.go hb0r4).c1, (B23.out.go hb0r4).c2, (B24.out.go hb0r4).c0, (B24.out.go hb0r4).c1, (B24.out.go hb0r4).c2, (hb0r4.cell (p := ⟨b1, o1, none⟩) (Nat.lt_of_lt_of_le hqr41 hb25.out.size)).trans hsr41, (hb0r4.cell (p := ⟨b2, o2, none⟩) (Nat.lt_of_lt_of_le hqr42 hb25.out.size)).trans hsr42⟩) ?rm52
  case ry52 => first | exact Or.inl ⟨by rfl, by intro w'; go_simp; first | done | rfl⟩
  case rm52 =>
  simp only [Act.put, List.setIfInBounds_toArray, List.set_cons_zero, List.set_cons_succ]
  refine anyC_put 2 19 ?rv53 #[true, true, true, false, false, false, false, false, false, false, false, false, false, false, false, false, false] rfl rfl rfl (by kernel_rfl) (by kernel_rfl) (by kernel_rfl) (fun _ _ _ h => h) ?ry53 (⟨(B23.out.go hb0r4).c0, (B23.out.go hb0r4).c1, (B23.out.go hb0r4).c2, (B24.out.go hb0r4).c0, (B24.out.go hb0r4).c1, (B24.out.go hb0r4).c2, (hb0r4.cell (p := ⟨b1, o1, none⟩) (Nat.lt_of_lt_of_le hqr41 hb25.out.size)).trans hsr41, (hb0r4.cell (p := ⟨b2, o2, none⟩) (Nat.lt_of_lt_of_le hqr42 hb25.out.size)).trans hsr42⟩) ?rm53
  case ry53 => first | exact Or.inl ⟨by rfl, by intro w'; go_simp; first | done | rfl⟩
  case rm53 =>
  simp only [Act.put, List.setIfInBounds_toArray, List.set_cons_zero, List.set_cons_succ]
  refine anyC_put 3 20 ?rv54 #[true, true, true, true, false, false, false, false, false, false, false, false, false, false, false, false, false] rfl rfl rfl (by kernel_rfl) (by kernel_rfl) (by kernel_rfl) (fun _ _ _ h => h) ?ry54 (⟨(B23.out.go hb0r4).c0, (B23.out.go hb0r4).c1, (B23.out.go hb0r4).c2, (B24.out.go hb0r4).c0, (B24.out.go hb0r4).c1, (B24.out.go hb0r4).c2, (hb0r4.cell (p := ⟨b1, o1, none⟩) (Nat.lt_of_lt_of_le hqr41 hb25.out.size)).trans hsr41, (hb0r4.cell (p := ⟨b2, o2, none⟩) (Nat.lt_of_lt_of_le hqr42 hb25.out.size)).trans hsr42⟩) ?rm54
  case ry54 => first | exact Or.inl ⟨by rfl, by intro w'; go_simp; first | done | rfl⟩ | exact Or.inr ⟨by rfl, rfl⟩ | exact Or.inr ⟨by rfl, by rfl⟩
  case rm54 =>
  simp only [Act.put, List.setIfInBounds_toArray, List.set_cons_zero, List.set_cons_succ]
  refine anyC_put 4 21 ?rv55 #[true, true, true, true, true, false, false, false, false, false, false, false, false, false, false, false, false] rfl rfl rfl (by kernel_rfl) (by kernel_rfl) (by kernel_rfl) (fun _ _ _ h => h) ?ry55 (⟨(B23.out.go hb0r4).c0, (B23.out.go hb0r4).c1, (B23.out.go hb0r4).c2, (B24.out.go hb0r4).c0, (B24.out.go hb0r4).c1, (B24.out.go hb0r4).c2, (hb0r4.cell (p := ⟨b1, o1, none⟩) (Nat.lt_of_lt_of_le hqr41 hb25.out.size)).trans hsr41, (hb0r4.cell (p := ⟨b2, o2, none⟩) (Nat.lt_of_lt_of_le hqr42 hb25.out.size)).trans hsr42⟩) ?rm55
  case ry55 => first | exact Or.inl ⟨by rfl, by intro w'; go_simp; first | done | rfl⟩ | exact Or.inr ⟨by rfl, rfl⟩ | exact Or.inr ⟨by rfl, by rfl⟩
  case rm55 =>
  simp only [Act.put, List.setIfInBounds_toArray, List.set_cons_zero, List.set_cons_succ]
  refine anyC_put 5 22 ?rv56 #[true, true, true, true, true, true, false, false, false, false, false, false, false, false, false, false, false] rfl rfl rfl (by kernel_rfl) (by kernel_rfl) (by kernel_rfl) (fun _ _ _ h => h) ?ry56 (⟨(B23.out.go hb0r4).c0, (B23.out.go hb0r4).c1, (B23.out.go hb0r4).c2, (B24.out.go hb0r4).c0, (B24.out.go hb0r4).c1, (B24.out.go hb0r4).c2, (hb0r4.cell (p := ⟨b1, o1, none⟩) (Nat.lt_of_lt_of_le hqr41 hb25.out.size)).trans hsr41, (hb0r4.cell (p := ⟨b2, o2, none⟩) (Nat.lt_of_lt_of_le hqr42 hb25.out.size)).trans hsr42⟩) ?rm56
  case ry56 => first | exact Or.inl ⟨by rfl, by intro w'; go_simp; first | done | rfl⟩
  case rm56 =>
  simp only [Act.put, List.setIfInBounds_toArray, List.set_cons_zero, List.set_cons_succ]
  refine anyC_put 6 23 ?rv57 #[true, true, true, true, true, true, true, false, false, false, false, false, false, false, false, false, false] rfl rfl rfl (by kernel_rfl) (by kernel_rfl) (by kernel_rfl) (fun _ _ _ h => h) ?ry57 (⟨(B23.out.go hb0r4).c0, (B23.out.go hb0r4).c1, (B23.out.go hb0r4).c2, (B24.out.go hb0r4).c0, (B24.out.go hb0r4).c1, (B24.out.go hb0r4).c2, (hb0r4.cell (p := ⟨b1, o1, none⟩) (Nat.lt_of_lt_of_le hqr41 hb25.out.size)).trans hsr41, (hb0r4.cell (p := ⟨b2, o2, none⟩) (Nat.lt_of_lt_of_le hqr42 hb25.out.size)).trans hsr42⟩) ?rm57
  case ry57 => first | exact Or.inl ⟨by rfl, by intro w'; go_simp; first | done | rfl⟩
  case rm57 =>
  simp only [Act.put, List.setIfInBounds_toArray, List.set_cons_zero, List.set_cons_succ]
  refine anyC_put 7 24 ?rv58 #[true, true, true, true, true, true, true, true, false, false, false, false, false, false, false, false, false] rfl rfl rfl (by kernel_rfl) (by kernel_rfl) (by kernel_rfl) (fun _ _ _ h => h) ?ry58 (⟨(B23.out.go hb0r4).c0, (B23.out.go hb0r4).c1, (B23.out.go hb0r4).c2, (B24.out.go hb0r4).c0, (B24.out.go hb0r4).c1, (B24.out.go hb0r4).c2, (hb0r4.cell (p := ⟨b1, o1, none⟩) (Nat.lt_of_lt_of_le hqr41 hb25.out.size)).trans hsr41, (hb0r4.cell (p := ⟨b2, o2, none⟩) (Nat.lt_of_lt_of_le hqr42 hb25.out.size)).trans hsr42⟩) ?rm58
  case ry58 => first | exact Or.inl ⟨by rfl, by intro w'; go_simp; first | done | rfl⟩ | exact Or.inr ⟨by rfl, rfl⟩ | exact Or.inr ⟨by rfl, by rfl⟩
  case rm58 =>
  simp only [Act.put, List.setIfInBounds_toArray, List.set_cons_zero, List.set_cons_succ]
  refine anyC_take 8 25 ?rv59 #[true, true, true, true, true, true, true, true, true, false, false, false, false, false, false, false, false] rfl rfl rfl (by kernel_rfl) (by kernel_rfl) (by kernel_rfl) (fun _ _ _ h => h) ?ry59 (⟨(B23.out.go hb0r4).c0, (B23.out.go hb0r4).c1, (B23.out.go hb0r4).c2, (B24.out.go hb0r4).c0, (B24.out.go hb0r4).c1, (B24.out.go hb0r4).c2, (hb0r4.cell (p := ⟨b1, o1, none⟩) (Nat.lt_of_lt_of_le hqr41 hb25.out.size)).trans hsr41, (hb0r4.cell (p := ⟨b2, o2, none⟩) (Nat.lt_of_lt_of_le hqr42 hb25.out.size)).trans hsr42⟩) ?rm59
  case ry59 => first | exact Or.inl ⟨by rfl, by intro w' hw'; (try dsimp only at hw'); go_simp; first | done | rfl⟩ | exact Or.inr ⟨by rfl, rfl⟩ | exact Or.inr ⟨by rfl, by rfl⟩
  case rm59 =>
  simp only [Act.put, List.setIfInBounds_toArray, List.set_cons_zero, List.set_cons_succ]
  refine anyC_put 9 26 ?rv60 #[true, true, true, true, true, true, true, true, true, true, false, false, false, false, false, false, false] rfl rfl rfl (by kernel_rfl) (by kernel_rfl) (by kernel_rfl) (fun _ _ _ h => h) ?ry60 (⟨(B23.out.go hb0r4).c0, (B23.out.go hb0r4).c1, (B23.out.go hb0r4).c2, (B24.out.go hb0r4).c0, (B24.out.go hb0r4).c1, (B24.out.go hb0r4).c2, (hb0r4.cell (p := ⟨b1, o1, none⟩) (Nat.lt_of_lt_of_le hqr41 hb25.out.size)).trans hsr41, (hb0r4.cell (p := ⟨b2, o2, none⟩) (Nat.lt_of_lt_of_le hqr42 hb25.out.size)).trans hsr42⟩) ?rm60
  case ry60 => first | exact Or.inl ⟨by rfl, by intro w'; go_simp; first | done | rfl⟩ | exact Or.inr ⟨by rfl, rfl⟩ | exact Or.inr ⟨by rfl, by rfl⟩
  case rm60 =>
  simp only [Act.put, List.setIfInBounds_toArray, List.set_cons_zero, List.set_cons_succ]
  refine anyC_take 10 27 ?rv61 #[true, true, true, true, true, true, true, true, true, true, true, false, false, false, false, false, false] rfl rfl rfl (by kernel_rfl) (by kernel_rfl) (by kernel_rfl) (fun _ _ _ h => h) ?ry61 (⟨(B23.out.go hb0r4).c0, (B23.out.go hb0r4).c1, (B23.out.go hb0r4).c2, (B24.out.go hb0r4).c0, (B24.out.go hb0r4).c1, (B24.out.go hb0r4).c2, (hb0r4.cell (p := ⟨b1, o1, none⟩) (Nat.lt_of_lt_of_le hqr41 hb25.out.size)).trans hsr41, (hb0r4.cell (p := ⟨b2, o2, none⟩) (Nat.lt_of_lt_of_le hqr42 hb25.out.size)).trans hsr42⟩) ?rm61
  case ry61 => first | exact Or.inl ⟨by rfl, by intro w' hw'; (try dsimp only at hw'); go_simp; first | done | rfl⟩ | exact Or.inr ⟨by rfl, rfl⟩ | exact Or.inr ⟨by rfl, by rfl⟩
  case rm61 =>
  simp only [Act.put, List.setIfInBounds_toArray, List.set_cons_zero, List.set_cons_succ]
  refine anyC_put 11 28 ?rv62 #[true, true, true, true, true, true, true, true, true, true, true, true, false, false, false, false, false] rfl rfl rfl (by kernel_rfl) (by kernel_rfl) (by kernel_rfl) (fun _ _ _ h => h) ?ry62 (⟨(B23.out.go hb0r4).c0, (B23.out.go hb0r4).c1, (B23.out.go hb0r4).c2, (B24.out.go hb0r4).c0, (B24.out.go hb0r4).c1, (B24.out.go hb0r4).c2, (hb0r4.cell (p := ⟨b1, o1, none⟩) (Nat.lt_of_lt_of_le hqr41 hb25.out.size)).trans hsr41, (hb0r4.cell (p := ⟨b2, o2, none⟩) (Nat.lt_of_lt_of_le hqr42 hb25.out.size)).trans hsr42⟩) ?rm62
  case ry62 => first | exact Or.inl ⟨by rfl, by intro w'; go_simp; first | done | rfl⟩ | exact Or.inr ⟨by rfl, rfl⟩ | exact Or.inr ⟨by rfl, by rfl⟩
  case rm62 =>
  simp only [Act.put, List.setIfInBounds_toArray, List.set_cons_zero, List.set_cons_succ]
  refine anyC_take 12 29 ?rv63 #[true, true, true, true, true, true, true, true, true, true, true, true, true, false, false, false, false] rfl rfl rfl (by kernel_rfl) (by kernel_rfl) (by kernel_rfl) (fun _ _ _ h => h) ?ry63 (⟨(B23.out.go hb0r4).c0, (B23.out.go hb0r4).c1, (B23.out.go hb0r4).c2, (B24.out.go hb0r4).c0, (B24.out.go hb0r4).c1, (B24.out.go hb0r4).c2, (hb0r4.cell (p := ⟨b1, o1, none⟩) (Nat.lt_of_lt_of_le hqr41 hb25.out.size)).trans hsr41, (hb0r4.cell (p := ⟨b2, o2, none⟩) (Nat.lt_of_lt_of_le hqr42 hb25.out.size)).trans hsr42⟩) ?rm63
  case ry63 => first | exact Or.inl ⟨by rfl, by intro w' hw'; (try dsimp only at hw'); go_simp; first | done | rfl⟩ | exact Or.inr ⟨by rfl, rfl⟩ | exact Or.inr ⟨by rfl, by rfl⟩
  case rm63 =>
  simp only [Act.put, List.setIfInBounds_toArray, List.set_cons_zero, List.set_cons_succ]
  refine anyC_put 13 30 ?rv64 #[true, true, true, true, true, true, true, true, true, true, true, true, true, true, false, false, false] rfl rfl rfl (by kernel_rfl) (by kernel_rfl) (by kernel_rfl) (fun _ _ _ h => h) ?ry64 (⟨(B23.out.go hb0r4).c0, (B23.out.go hb0r4).c1, (B23.out.go hb0r4).c2, (B24.out.go hb0r4).c0, (B24.out.go hb0r4).c1, (B24.out.go hb0r4).c2, (hb0r4.cell (p := ⟨b1, o1, none⟩) (Nat.lt_of_lt_of_le hqr41 hb25.out.size)).trans hsr41, (hb0r4.cell (p := ⟨b2, o2, none⟩) (Nat.lt_of_lt_of_le hqr42 hb25.out.size)).trans hsr42⟩) ?rm64
  case ry64 => first | exact Or.inl ⟨by rfl, by intro w'; go_simp; first | done | rfl⟩ | exact Or.inr ⟨by rfl, rfl⟩ | exact Or.inr ⟨by rfl, by rfl⟩
  case rm64 =>
  simp only [Act.put, List.setIfInBounds_toArray, List.set_cons_zero, List.set_cons_succ]
  refine anyC_take 14 31 ?rv65 #[true, true, true, true, true, true, true, true, true, true, true, true, true, true, true, false, false] rfl rfl rfl (by kernel_rfl) (by kernel_rfl) (by kernel_rfl) (fun _ _ _ h => h) ?ry65 (⟨(B23.out.go hb0r4).c0, (B23.out.go hb0r4).c1, (B23.out.go hb0r4).c2, (B24.out.go hb0r4).c0, (B24.out.go hb0r4).c1, (B24.out.go hb0r4).c2, (hb0r4.cell (p := ⟨b1, o1, none⟩) (Nat.lt_of_lt_of_le hqr41 hb25.out.size)).trans hsr41, (hb0r4.cell (p := ⟨b2, o2, none⟩) (Nat.lt_of_lt_of_le hqr42 hb25.out.size)).trans hsr42⟩) ?rm65
  case ry65 => first | exact Or.inl ⟨by rfl, by intro w' hw'; (try dsimp only at hw'); go_simp; first | done | rfl⟩ | exact Or.inr ⟨by rfl, rfl⟩ | exact Or.inr ⟨by rfl, by rfl⟩
  case rm65 =>
  simp only [Act.put, List.setIfInBounds_toArray, List.set_cons_zero, List.set_cons_succ]
  refine anyC_put 15 32 ?rv66 #[true, true, true, true, true, true, true, true, true, true, true, true, true, true, true, true, false] rfl rfl rfl (by kernel_rfl) (by kernel_rfl) (by kernel_rfl) (fun _ _ _ h => h) ?ry66 (⟨(B23.out.go hb0r4).c0, (B23.out.go hb0r4).c1, (B23.out.go hb0r4).c2, (B24.out.go hb0r4).c0, (B24.out.go hb0r4).c1, (B24.out.go hb0r4).c2, (hb0r4.cell (p := ⟨b1, o1, none⟩) (Nat.lt_of_lt_of_le hqr41 hb25.out.size)).trans hsr41, (hb0r4.cell (p := ⟨b2, o2, none⟩) (Nat.lt_of_lt_of_le hqr42 hb25.out.size)).trans hsr42⟩) ?rm66
  case ry66 => first | exact Or.inl ⟨by rfl, by intro w'; go_simp; first | done | rfl⟩ | exact Or.inr ⟨by rfl, rfl⟩ | exact Or.inr ⟨by rfl, by rfl⟩
  case rm66 =>
  simp only [Act.put, List.setIfInBounds_toArray, List.set_cons_zero, List.set_cons_succ]
  refine anyC_put 16 33 ?rv67 #[true, true, true, true, true, true, true, true, true, true, true, true, true, true, true, true, true] rfl rfl rfl (by kernel_rfl) (by kernel_rfl) (by kernel_rfl) (fun _ _ _ h => h) ?ry67 (⟨(B23.out.go hb0r4).c0, (B23.out.go hb0r4).c1, (B23.out.go hb0r4).c2, (B24.out.go hb0r4).c0, (B24.out.go hb0r4).c1, (B24.out.go hb0r4).c2, (hb0r4.cell (p := ⟨b1, o1, none⟩) (Nat.lt_of_lt_of_le hqr41 hb25.out.size)).trans hsr41, (hb0r4.cell (p := ⟨b2, o2, none⟩) (Nat.lt_of_lt_of_le hqr42 hb25.out.size)).trans hsr42⟩) ?rm67
  case ry67 => first | exact Or.inl ⟨by rfl, by intro w'; go_simp; first | done | rfl⟩
  case rm67 =>
  simp only [Act.put, List.setIfInBounds_toArray, List.set_cons_zero, List.set_cons_succ]
  refine anyC_done (by kernel_rfl) ?_
  have hB := hb0r4
  have z26 : v3.heap.size ≤ v3.drew.heap.size := hB.size
  have B27 : Hid (Abx v3.drew (w.heap.size) (.bool false) (.slice (some ⟨b1, o1, none⟩) 2 sc1) (.slice da1 dz1.length dc1)) := B23.out.go hB
  have B28 : Hid (Abx v3.drew (w.heap.size + 1) (.bool false) (.slice (some ⟨b2, o2, none⟩) 2 sc2) (.slice da2 dz2.length dc2)) := B24.out.go hB
  have hb29 : Hid (Below w.heap.size w v3.drew) := hb25.out.trans (hB.mono hb25.out.size)
  clear hB hb25 B23 B24
  go_wp2_with fail
  go_ret
  exact ⟨rfl, hb29.out⟩
set_option maxRecDepth 100000 in
set_option maxHeartbeats 4000000 in
theorem many_ok (HNi : CNi) (n : Nat) (hn : n ≤ 6) (b1 o1 sc1 : Nat) (da1 : Option Addr) (dc1 : Nat) (dz1 : List Int) (HL1 : Hid (dz1.length = n * n)) (b2 o2 sc2 : Nat) (da2 : Option Addr) (dc2 : Nat) (dz2 : List Int) (HL2 : Hid (dz2.length = n * n)) (w : World) (HI1 : Hid (IsC w.heap.size w (some ⟨b1, o1, none⟩) [(n : Int), (n : Int)] sc1 ∧ IsC w.heap.size w da1 dz1 dc1 ∧ ∀ j, In64 (nth dz1 j))) (HI2 : Hid (IsC w.heap.size w (some ⟨b2, o2, none⟩) [(n : Int), (n : Int)] sc2 ∧ IsC w.heap.size w da2 dz2 dc2 ∧ ∀ j, In64 (nth dz2 j))) :
    Calls Try.prog 3 #[.agg #[.bool false, .slice (some ⟨b1, o1, none⟩) 2 sc1, .slice da1 dz1.length dc1], .agg #[.bool false, .slice (some ⟨b2, o2, none⟩) 2 sc2, .slice da2 dz2.length dc2]] w fun e w' => e = .returned (.bool true) ∧ Below w.heap.size w w' := by
  have HV : Hid (wrap64 (dt n (rdg n (mmL n dz1 dz2))) = wrap64 (wrap64 (dt n (rdg n dz1)) * wrap64 (dt n (rdg n dz2)))) := by
    show _ = _
    rw [w_mull, w_mulr, ← dt_mul]
    exact cg.dt fun i hi j hj => by unfold mmL; rw [rdg_cls hi hj]; exact cg_w _
  have n1 := Abx.new w (.bool false) (.slice (some ⟨b1, o1, none⟩) 2 sc1) (.slice da1 dz1.length dc1)
  have n2 := Abx.new (w.alloc (.cells #[.bool false, .slice (some ⟨b1, o1, none⟩) 2 sc1, .slice da1 dz1.length dc1] 24)) (.bool false) (.slice (some ⟨b2, o2, none⟩) 2 sc2) (.slice da2 dz2.length dc2)
  simp only [World.size_alloc] at n2
  go_enter Try.func3, Try.ntmps3
  go_wp2_with fail
  obtain ⟨wo3, hwo3⟩ : ∃ wo3, wo3 = ((w.alloc (.cells #[.bool false, .slice (some ⟨b1, o1, none⟩) 2 sc1, .slice da1 dz1.length dc1] 24)).alloc (.cells #[.bool false, .slice (some ⟨b2, o2, none⟩) 2 sc2, .slice da2 dz2.length dc2] 24)) := ⟨_, rfl⟩
  rw [← hwo3]
  have z4 : w.heap.size + 1 + 1 ≤ wo3.heap.size := by rw [hwo3]; simp only [World.size_alloc]; omega
  have B5 : Hid (Abx wo3 (w.heap.size) (.bool false) (.slice (some ⟨b1, o1, none⟩) 2 sc1) (.slice da1 dz1.length dc1)) := by rw [hwo3]; exact (n1.al (.cells #[.bool false, .slice (some ⟨b2, o2, none⟩) 2 sc2, .slice da2 dz2.length dc2] 24))
  have B6 : Hid (Abx wo3 (w.heap.size + 1) (.bool false) (.slice (some ⟨b2, o2, none⟩) 2 sc2) (.slice da2 dz2.length dc2)) := by rw [hwo3]; exact n2
  have hb7 : Hid (Below w.heap.size w wo3) := by rw [hwo3]; exact (((Below.refl w.heap.size w).alloc (by omega) (.cells #[.bool false, .slice (some ⟨b1, o1, none⟩) 2 sc1, .slice da1 dz1.length dc1] 24)).alloc (by simp only [World.size_alloc]; omega) (.cells #[.bool false, .slice (some ⟨b2, o2, none⟩) 2 sc2, .slice da2 dz2.length dc2] 24))
  have zwo3 : w.heap.size ≤ wo3.heap.size := hb7.out.size
  clear hwo3 n1 n2
  refine (fact14_any _).mono ?_
  rintro e v1 ⟨rfl, hB⟩
  have z8 : wo3.heap.size ≤ v1.heap.size := hB.size
  have B9 : Hid (Abx v1 (w.heap.size) (.bool false) (.slice (some ⟨b1, o1, none⟩) 2 sc1) (.slice da1 dz1.length dc1)) := B5.out.go hB
  have B10 : Hid (Abx v1 (w.heap.size + 1) (.bool false) (.slice (some ⟨b2, o2, none⟩) 2 sc2) (.slice da2 dz2.length dc2)) := B6.out.go hB
  have hb11 : Hid (Below w.heap.size w v1) := hb7.out.trans (hB.mono hb7.out.size)
  clear hB hb7 B5 B6
  have l12 := (B9.out).c0
  have l13 := (B9.out).c1
  have l14 := (B9.out).c2
  go_wp2_with fail
  clear l12 l13 l14
  refine (square_yes n hn (some ⟨b1, o1, none⟩) sc1 da1 dc1 dz1 dz1.length rfl HL1.out _ ((HI1.out.1.below hb11.out).mono hb11.out.size).1).mono ?_
  rintro e v2 ⟨rfl, hB⟩
  have z15 : v1.heap.size ≤ v2.heap.size := hB.size
  have B16 : Hid (Abx v2 (w.heap.size) (.bool false) (.slice (some ⟨b1, o1, none⟩) 2 sc1) (.slice da1 dz1.length dc1)) := B9.out.go hB
  have B17 : Hid (Abx v2 (w.heap.size + 1) (.bool false) (.slice (some ⟨b2, o2, none⟩) 2 sc2) (.slice da2 dz2.length dc2)) := B10.out.go hB
  have hb18 : Hid (Below w.heap.size w v2) := hb11.out.trans (hB.mono hb11.out.size)
  clear hB hb11 B9 B10
  have l19 := (B17.out).c0
  have l20 := (B17.out).c1
  have l21 := (B17.out).c2
  go_wp2_with fail
  clear l19 l20 l21
  refine (square_yes n hn (some ⟨b2, o2, none⟩) sc2 da2 dc2 dz2 dz2.length rfl HL2.out _ ((HI2.out.1.below hb18.out).mono hb18.out.size).1).mono ?_
  rintro e v3 ⟨rfl, hB⟩
  have z22 : v2.heap.size ≤ v3.heap.size := hB.size
  have B23 : Hid (Abx v3 (w.heap.size) (.bool false) (.slice (some ⟨b1, o1, none⟩) 2 sc1) (.slice da1 dz1.length dc1)) := B16.out.go hB
  have B24 : Hid (Abx v3 (w.heap.size + 1) (.bool false) (.slice (some ⟨b2, o2, none⟩) 2 sc2) (.slice da2 dz2.length dc2)) := B17.out.go hB
  have hb25 : Hid (Below w.heap.size w v3) := hb18.out.trans (hB.mono hb18.out.size)
  clear hB hb18 B16 B17
  go_wp2_with fail
  obtain ⟨hqr51, hsr51⟩ : b1 < w.heap.size ∧ v3.cell? ⟨b1, o1, none⟩ = some (.int .i64 (n : Int)) := shp14 HI1.out.1 hb25.out
  obtain ⟨hqr52, hsr52⟩ : b2 < w.heap.size ∧ v3.cell? ⟨b2, o2, none⟩ = some (.int .i64 (n : Int)) := shp14 HI2.out.1 hb25.out
  have hb0r5 : Below v3.heap.size v3 v3.drew := (Below.refl _ v3).drew
  refine anyC_begin (fun w' => w'.cell? ⟨w.heap.size, 0, none⟩ = some (.bool false) ∧ w'.cell? ⟨w.heap.size, 1, none⟩ = some (.slice (some ⟨b1, o1, none⟩) 2 sc1) ∧ w'.cell? ⟨w.heap.size, 2, none⟩ = some (.slice da1 dz1.length dc1) ∧ w'.cell? ⟨w.heap.size + 1, 0, none⟩ = some (.bool false) ∧ w'.cell? ⟨w.heap.size + 1, 1, none⟩ = some (.slice (some ⟨b2, o2, none⟩) 2 sc2) ∧ w'.cell? ⟨w.heap.size + 1, 2, none⟩ = some (.slice da2 dz2.length dc2) ∧ w'.cell? ⟨b1, o1, none⟩ = some (.int .i64 (n : Int)) ∧ w'.cell? ⟨b2, o2, none⟩ = some (.int .i64 (n : Int))) 17 #[false, false, false, false, false, false, false, false, false, false, false, false, false, false, false, false, false] (by kernel_rfl) rfl rfl ?_
  refine anyC_put 0 17 ?rv68 #[true, false, false, false, false, false, false, false, false, false, false, false, false, false, false, false, false] rfl rfl rfl (by kernel_rfl) (by kernel_rfl) (by kernel_rfl) (fun _ _ _ h => h) ?ry68 (⟨(B23.out.go hb0r5).c0, (B23.out.go hb0r5).c1, (B23.out.go hb0r5).c2, (B24.out.go hb0r5).c0, (B24.out.go hb0r5).c1, (B24.out.go hb0r5).c2, (hb0r5.cell (p := ⟨b1, o1, none⟩) (Nat.lt_of_lt_of_le hqr51 hb25.out.size)).trans hsr51, (hb0r5.cell (p := ⟨b2, o2, none⟩) (Nat.lt_of_lt_of_le hqr52 hb25.out.size)).trans hsr52⟩) ?rm68
  case ry68 => first | exact Or.inl ⟨by rfl, by intro w'; go_simp; first | done | rfl⟩
  case rm68 =>
  simp only [Act.put, List.setIfInBounds_toArray, List.set_cons_zero, List.set_cons_succ]
  refine anyC_put 1 18 ?rv69 #[true, true, false, false, false, false, false, false, false, false, false, false, false, false, false, false, false] rfl rfl rfl (by kernel_rfl) (by kernel_rfl) (by kernel_rfl) (fun _ _ _ h => h) ?ry69 (⟨(B23.out.go hb0r5).c0, (B23.out.go hb0r5).c1, (B23.out.go hb0r5).c2, (B24.out.go hb0r5).c0, (B24.out.go hb0r5).c1, (B24.out.go hb0r5).c2, (hb0r5.cell (p := ⟨b1, o1, none⟩) (Nat.lt_of_lt_of_le hqr51 hb25.out.size)).trans hsr51, (hb0r5.cell (p := ⟨b2, o2, none⟩) (Nat.lt_of_lt_of_le hqr52 hb25.out.size)).trans hsr52⟩) ?rm69
  case ry69 => first | exact Or.inl ⟨by rfl, by intro w'; go_simp; first | done | rfl⟩
  case rm69 =>
  simp only [Act.put, List.setIfInBounds_toArray, List.set_cons_zero, List.set_cons_succ]
  refine anyC_put 2 19 ?rv70 #[true, true, true, false, false, false, false, false, false, false, false, false, false, false, false, false, false] rfl rfl rfl (by kernel_rfl) (by kernel_rfl) (by kernel_rfl) (fun _ _ _ h => h) ?ry70 (⟨(B23.out.go hb0r5).c0, (B23.out.go hb0r5).c1, (B23.out.go hb0r5).c2, (B24.out.go hb0r5).c0, (B24.out.go hb0r5).c1, (B24.out.go hb0r5).c2, (hb0r5.cell (p := ⟨b1, o1, none⟩) (Nat.lt_of_lt_of_le hqr51 hb25.out.size)).trans hsr51, (hb0r5.cell (p := ⟨b2, o2, none⟩) (Nat.lt_of_lt_of_le hqr52 hb25.out.size)).trans hsr52⟩) ?rm70
  case ry70 => first | exact Or.inl ⟨by rfl, by intro w'; go_simp; first | done | rfl⟩
  case rm70 =>
  simp only [Act.put, List.setIfInBounds_toArray, List.set_cons_zero, List.set_cons_succ]
  refine anyC_put 3 20 ?rv71 #[true, true, true, true, false, false, false, false, false, false, false, false, false, false, false, false, false] rfl rfl rfl (by kernel_rfl) (by kernel_rfl) (by kernel_rfl) (fun _ _ _ h => h) ?ry71 (⟨(B23.out.go hb0r5).c0, (B23.out.go hb0r5).c1, (B23.out.go hb0r5).c2, (B24.out.go hb0r5).c0, (B24.out.go hb0r5).c1, (B24.out.go hb0r5).c2, (hb0r5.cell (p := ⟨b1, o1, none⟩) (Nat.lt_of_lt_of_le hqr51 hb25.out.size)).trans hsr51, (hb0r5.cell (p := ⟨b2, o2, none⟩) (Nat.lt_of_lt_of_le hqr52 hb25.out.size)).trans hsr52⟩) ?rm71
  case ry71 => first | exact Or.inl ⟨by rfl, by intro w'; go_simp; first | done | rfl⟩ | exact Or.inr ⟨by rfl, rfl⟩ | exact Or.inr ⟨by rfl, by rfl⟩
  case rm71 =>
  simp only [Act.put, List.setIfInBounds_toArray, List.set_cons_zero, List.set_cons_succ]
  refine anyC_put 4 21 ?rv72 #[true, true, true, true, true, false, false, false, false, false, false, false, false, false, false, false, false] rfl rfl rfl (by kernel_rfl) (by kernel_rfl) (by kernel_rfl) (fun _ _ _ h => h) ?ry72 (⟨(B23.out.go hb0r5).c0, (B23.out.go hb0r5).c1, (B23.out.go hb0r5).c2, (B24.out.go hb0r5).c0, (B24.out.go hb0r5).c1, (B24.out.go hb0r5).c2, (hb0r5.cell (p := ⟨b1, o1, none⟩) (Nat.lt_of_lt_of_le hqr51 hb25.out.size)).trans hsr51, (hb0r5.cell (p := ⟨b2, o2, none⟩) (Nat.lt_of_lt_of_le hqr52 hb25.out.size)).trans hsr52⟩) ?rm72
  case ry72 => first | exact Or.inl ⟨by rfl, by intro w'; go_simp; first | done | rfl⟩ | exact Or.inr ⟨by rfl, rfl⟩ | exact Or.inr ⟨by rfl, by rfl⟩
  case rm72 =>
  simp only [Act.put, List.setIfInBounds_toArray, List.set_cons_zero, List.set_cons_succ]
  refine anyC_put 5 22 ?rv73 #[true, true, true, true, true, true, false, false, false, false, false, false, false, false, false, false, false] rfl rfl rfl (by kernel_rfl) (by kernel_rfl) (by kernel_rfl) (fun _ _ _ h => h) ?ry73 (⟨(B23.out.go hb0r5).c0, (B23.out.go hb0r5).c1, (B23.out.go hb0r5).c2, (B24.out.go hb0r5).c0, (B24.out.go hb0r5).c1, (B24.out.go hb0r5).c2, (hb0r5.cell (p := ⟨b1, o1, none⟩) (Nat.lt_of_lt_of_le hqr51 hb25.out.size)).trans hsr51, (hb0r5.cell (p := ⟨b2, o2, none⟩) (Nat.lt_of_lt_of_le hqr52 hb25.out.size)).trans hsr52⟩) ?rm73
  case ry73 => first | exact Or.inl ⟨by rfl, by intro w'; go_simp; first | done | rfl⟩
  case rm73 =>
  simp only [Act.put, List.setIfInBounds_toArray, List.set_cons_zero, List.set_cons_succ]
  refine anyC_put 6 23 ?rv74 #[true, true, true, true, true, true, true, false, false, false, false, false, false, false, false, false, false] rfl rfl rfl (by kernel_rfl) (by kernel_rfl) (by kernel_rfl) (fun _ _ _ h => h) ?ry74 (⟨(B23.out.go hb0r5).c0, (B23.out.go hb0r5).c1, (B23.out.go hb0r5).c2, (B24.out.go hb0r5).c0, (B24.out.go hb0r5).c1, (B24.out.go hb0r5).c2, (hb0r5.cell (p := ⟨b1, o1, none⟩) (Nat.lt_of_lt_of_le hqr51 hb25.out.size)).trans hsr51, (hb0r5.cell (p := ⟨b2, o2, none⟩) (Nat.lt_of_lt_of_le hqr52 hb25.out.size)).trans hsr52⟩) ?rm74
  case ry74 => first | exact Or.inl ⟨by rfl, by intro w'; go_simp; first | done | rfl⟩
  case rm74 =>
  simp only [Act.put, List.setIfInBounds_toArray, List.set_cons_zero, List.set_cons_succ]
  refine anyC_put 7 24 ?rv75 #[true, true, true, true, true, true, true, true, false, false, false, false, false, false, false, false, false] rfl rfl rfl (by kernel_rfl) (by kernel_rfl) (by kernel_rfl) (fun _ _ _ h => h) ?ry75 (⟨(B23.out.go hb0r5).c0, (B23.out.go hb0r5).c1, (B23.out.go hb0r5).c2, (B24.out.go hb0r5).c0, (B24.out.go hb0r5).c1, (B24.out.go hb0r5).c2, (hb0r5.cell (p := ⟨b1, o1, none⟩) (Nat.lt_of_lt_of_le hqr51 hb25.out.size)).trans hsr51, (hb0r5.cell (p := ⟨b2, o2, none⟩) (Nat.lt_of_lt_of_le hqr52 hb25.out.size)).trans hsr52⟩) ?rm75
  case ry75 => first | exact Or.inl ⟨by rfl, by intro w'; go_simp; first | done | rfl⟩ | exact Or.inr ⟨by rfl, rfl⟩ | exact Or.inr ⟨by rfl, by rfl⟩
  case rm75 =>
  simp only [Act.put, List.setIfInBounds_toArray, List.set_cons_zero, List.set_cons_succ]
  refine anyC_take 8 25 ?rv76 #[true, true, true, true, true, true, true, true, true, false, false, false, false, false, false, false, false] rfl rfl rfl (by kernel_rfl) (by kernel_rfl) (by kernel_rfl) (fun _ _ _ h => h) ?ry76 (⟨(B23.out.go hb0r5).c0, (B23.out.go hb0r5).c1, (B23.out.go hb0r5).c2, (B24.out.go hb0r5).c0, (B24.out.go hb0r5).c1, (B24.out.go hb0r5).c2, (hb0r5.cell (p := ⟨b1, o1, none⟩) (Nat.lt_of_lt_of_le hqr51 hb25.out.size)).trans hsr51, (hb0r5.cell (p := ⟨b2, o2, none⟩) (Nat.lt_of_lt_of_le hqr52 hb25.out.size)).trans hsr52⟩) ?rm76
  case ry76 => first | exact Or.inl ⟨by rfl, by intro w' hw'; (try dsimp only at hw'); go_simp; first | done | rfl⟩ | exact Or.inr ⟨by rfl, rfl⟩ | exact Or.inr ⟨by rfl, by rfl⟩
  case rm76 =>
  simp only [Act.put, List.setIfInBounds_toArray, List.set_cons_zero, List.set_cons_succ]
  refine anyC_put 9 26 ?rv77 #[true, true, true, true, true, true, true, true, true, true, false, false, false, false, false, false, false] rfl rfl rfl (by kernel_rfl) (by kernel_rfl) (by kernel_rfl) (fun _ _ _ h => h) ?ry77 (⟨(B23.out.go hb0r5).c0, (B23.out.go hb0r5).c1, (B23.out.go hb0r5).c2, (B24.out.go hb0r5).c0, (B24.out.go hb0r5).c1, (B24.out.go hb0r5).c2, (hb0r5.cell (p := ⟨b1, o1, none⟩) (Nat.lt_of_lt_of_le hqr51 hb25.out.size)).trans hsr51, (hb0r5.cell (p := ⟨b2, o2, none⟩) (Nat.lt_of_lt_of_le hqr52 hb25.out.size)).trans hsr52⟩) ?rm77
  case ry77 => first | exact Or.inl ⟨by rfl, by intro w'; go_simp; first | done | rfl⟩ | exact Or.inr ⟨by rfl, rfl⟩ | exact Or.inr ⟨by rfl, by rfl⟩
  case rm77 =>
  simp only [Act.put, List.setIfInBounds_toArray, List.set_cons_zero, List.set_cons_succ]
  refine anyC_take 10 27 ?rv78 #[true, true, true, true, true, true, true, true, true, true, true, false, false, false, false, false, false] rfl rfl rfl (by kernel_rfl) (by kernel_rfl) (by kernel_rfl) (fun _ _ _ h => h) ?ry78 (⟨(B23.out.go hb0r5).c0, (B23.out.go hb0r5).c1, (B23.out.go hb0r5).c2, (B24.out.go hb0r5).c0, (B24.out.go hb0r5).c1, (B24.out.go hb0r5).c2, (hb0r5.cell (p := ⟨b1, o1, none⟩) (Nat.lt_of_lt_of_le hqr51 hb25.out.size)).trans hsr51, (hb0r5.cell (p := ⟨b2, o2, none⟩) (Nat.lt_of_lt_of_le hqr52 hb25.out.size)).trans hsr52⟩) ?rm78
  case ry78 => first | exact Or.inl ⟨by rfl, by intro w' hw'; (try dsimp only at hw'); go_simp; first | done | rfl⟩ | exact Or.inr ⟨by rfl, rfl⟩ | exact Or.inr ⟨by rfl, by rfl⟩
  case rm78 =>
  simp only [Act.put, List.setIfInBounds_toArray, List.set_cons_zero, List.set_cons_succ]
  refine anyC_put 11 28 ?rv79 #[true, true, true, true, true, true, true, true, true, true, true, true, false, false, false, false, false] rfl rfl rfl (by kernel_rfl) (by kernel_rfl) (by kernel_rfl) (fun _ _ _ h => h) ?ry79 (⟨(B23.out.go hb0r5).c0, (B23.out.go hb0r5).c1, (B23.out.go hb0r5).c2, (B24.out.go hb0r5).c0, (B24.out.go hb0r5).c1, (B24.out.go hb0r5).c2, (hb0r5.cell (p := ⟨b1, o1, none⟩) (Nat.lt_of_lt_of_le hqr51 hb25.out.size)).trans hsr51, (hb0r5.cell (p := ⟨b2, o2, none⟩) (Nat.lt_of_lt_of_le hqr52 hb25.out.size)).trans hsr52⟩) ?rm79
  case ry79 => first | exact Or.inl ⟨by rfl, by intro w'; go_simp; first | done | rfl⟩ | exact Or.inr ⟨by rfl, rfl⟩ | exact Or.inr ⟨by rfl, by rfl⟩
  case rm79 =>
  simp only [Act.put, List.setIfInBounds_toArray, List.set_cons_zero, List.set_cons_succ]
  refine anyC_take 12 29 ?rv80 #[true, true, true, true, true, true, true, true, true, true, true, true, true, false, false, false, false] rfl rfl rfl (by kernel_rfl) (by kernel_rfl) (by kernel_rfl) (fun _ _ _ h => h) ?ry80 (⟨(B23.out.go hb0r5).c0, (B23.out.go hb0r5).c1, (B23.out.go hb0r5).c2, (B24.out.go hb0r5).c0, (B24.out.go hb0r5).c1, (B24.out.go hb0r5).c2, (hb0r5.cell (p := ⟨b1, o1, none⟩) (Nat.lt_of_lt_of_le hqr51 hb25.out.size)).trans hsr51, (hb0r5.cell (p := ⟨b2, o2, none⟩) (Nat.lt_of_lt_of_le hqr52 hb25.out.size)).trans hsr52⟩) ?rm80
  case ry80 => first | exact Or.inl ⟨by rfl, by intro w' hw'; (try dsimp only at hw'); go_simp; first | done | rfl⟩ | exact Or.inr ⟨by rfl, rfl⟩ | exact Or.inr ⟨by rfl, by rfl⟩
  case rm80 =>
  simp only [Act.put, List.setIfInBounds_toArray, List.set_cons_zero, List.set_cons_succ]
  refine anyC_put 13 30 ?rv81 #[true, true, true, true, true, true, true, true, true, true, true, true, true, true, false, false, false] rfl rfl rfl (by kernel_rfl) (by kernel_rfl) (by kernel_rfl) (fun _ _ _ h => h) ?ry81 (⟨(B23.out.go hb0r5).c0, (B23.out.go hb0r5).c1, (B23.out.go hb0r5).c2, (B24.out.go hb0r5).c0, (B24.out.go hb0r5).c1, (B24.out.go hb0r5).c2, (hb0r5.cell (p := ⟨b1, o1, none⟩) (Nat.lt_of_lt_of_le hqr51 hb25.out.size)).trans hsr51, (hb0r5.cell (p := ⟨b2, o2, none⟩) (Nat.lt_of_lt_of_le hqr52 hb25.out.size)).trans hsr52⟩) ?rm81
  case ry81 => first | exact Or.inl ⟨by rfl, by intro w'; go_simp; first | done | rfl⟩ | exact Or.inr ⟨by rfl, rfl⟩ | exact Or.inr ⟨by rfl, by rfl⟩
  case rm81 =>
  simp only [Act.put, List.setIfInBounds_toArray, List.set_cons_zero, List.set_cons_succ]
  refine anyC_take 14 31 ?rv82 #[true, true, true, true, true, true, true, true, true, true, true, true, true, true, true, false, false] rfl rfl rfl (by kernel_rfl) (by kernel_rfl) (by kernel_rfl) (fun _ _ _ h => h) ?ry82 (⟨(B23.out.go hb0r5).c0, (B23.out.go hb0r5).c1, (B23.out.go hb0r5).c2, (B24.out.go hb0r5).c0, (B24.out.go hb0r5).c1, (B24.out.go hb0r5).c2, (hb0r5.cell (p := ⟨b1, o1, none⟩) (Nat.lt_of_lt_of_le hqr51 hb25.out.size)).trans hsr51, (hb0r5.cell (p := ⟨b2, o2, none⟩) (Nat.lt_of_lt_of_le hqr52 hb25.out.size)).trans hsr52⟩) ?rm82
  case ry82 => first | exact Or.inl ⟨by rfl, by intro w' hw'; (try dsimp only at hw'); go_simp; first | done | rfl⟩ | exact Or.inr ⟨by rfl, rfl⟩ | exact Or.inr ⟨by rfl, by rfl⟩
  case rm82 =>
  simp only [Act.put, List.setIfInBounds_toArray, List.set_cons_zero, List.set_cons_succ]
  refine anyC_put 15 32 ?rv83 #[true, true, true, true, true, true, true, true, true, true, true, true, true, true, true, true, false] rfl rfl rfl (by kernel_rfl) (by kernel_rfl) (by kernel_rfl) (fun _ _ _ h => h) ?ry83 (⟨(B23.out.go hb0r5).c0, (B23.out.go hb0r5).c1, (B23.out.go hb0r5).c2, (B24.out.go hb0r5).c0, (B24.out.go hb0r5).c1, (B24.out.go hb0r5).c2, (hb0r5.cell (p := ⟨b1, o1, none⟩) (Nat.lt_of_lt_of_le hqr51 hb25.out.size)).trans hsr51, (hb0r5.cell (p := ⟨b2, o2, none⟩) (Nat.lt_of_lt_of_le hqr52 hb25.out.size)).trans hsr52⟩) ?rm83
  case ry83 => first | exact Or.inl ⟨by rfl, by intro w'; go_simp; first | done | rfl⟩ | exact Or.inr ⟨by rfl, rfl⟩ | exact Or.inr ⟨by rfl, by rfl⟩
  case rm83 =>
  simp only [Act.put, List.setIfInBounds_toArray, List.set_cons_zero, List.set_cons_succ]
  refine anyC_put 16 33 ?rv84 #[true, true, true, true, true, true, true, true, true, true, true, true, true, true, true, true, true] rfl rfl rfl (by kernel_rfl) (by kernel_rfl) (by kernel_rfl) (fun _ _ _ h => h) ?ry84 (⟨(B23.out.go hb0r5).c0, (B23.out.go hb0r5).c1, (B23.out.go hb0r5).c2, (B24.out.go hb0r5).c0, (B24.out.go hb0r5).c1, (B24.out.go hb0r5).c2, (hb0r5.cell (p := ⟨b1, o1, none⟩) (Nat.lt_of_lt_of_le hqr51 hb25.out.size)).trans hsr51, (hb0r5.cell (p := ⟨b2, o2, none⟩) (Nat.lt_of_lt_of_le hqr52 hb25.out.size)).trans hsr52⟩) ?rm84
  case ry84 => first | exact Or.inl ⟨by rfl, by intro w'; go_simp; first | done | rfl⟩
  case rm84 =>
  simp only [Act.put, List.setIfInBounds_toArray, List.set_cons_zero, List.set_cons_succ]
  refine anyC_done (by kernel_rfl) ?_
  have hB := hb0r5
  have z26 : v3.heap.size ≤ v3.drew.heap.size := hB.size
  have B27 : Hid (Abx v3.drew (w.heap.size) (.bool false) (.slice (some ⟨b1, o1, none⟩) 2 sc1) (.slice da1 dz1.length dc1)) := B23.out.go hB
  have B28 : Hid (Abx v3.drew (w.heap.size + 1) (.bool false) (.slice (some ⟨b2, o2, none⟩) 2 sc2) (.slice da2 dz2.length dc2)) := B24.out.go hB
  have hb29 : Hid (Below w.heap.size w v3.drew) := hb25.out.trans (hB.mono hb25.out.size)
  clear hB hb25 B23 B24
  have l30 := (B27.out).c0
  have l31 := (B27.out).c1
  have l32 := (B27.out).c2
  have l33 := (B28.out).c0
  have l34 := (B28.out).c1
  have l35 := (B28.out).c2
  go_wp2_with fail
  clear l30 l31 l32 l33 l34 l35
  refine (minner_ok HNi n hn (some ⟨b1, o1, none⟩) sc1 da1 dc1 dz1 dz1.length rfl HL1.out (some ⟨b2, o2, none⟩) sc2 da2 dc2 dz2 dz2.length rfl HL2.out _ ((HI1.out.1.below hb29.out).mono hb29.out.size) ((HI1.out.2.1.below hb29.out).mono hb29.out.size).1 HI1.out.2.2 ((HI2.out.1.below hb29.out).mono hb29.out.size) ((HI2.out.2.1.below hb29.out).mono hb29.out.size).1 HI2.out.2.2).mono ?_
  rintro e v4 ⟨xa1, xc1, ya1, yc1, rfl, hX1, hY1, hB⟩
  have z36 : v3.drew.heap.size ≤ v4.heap.size := hB.size
  have B37 : Hid (Abx v4 (w.heap.size) (.bool false) (.slice (some ⟨b1, o1, none⟩) 2 sc1) (.slice da1 dz1.length dc1)) := B27.out.go hB
  have B38 : Hid (Abx v4 (w.heap.size + 1) (.bool false) (.slice (some ⟨b2, o2, none⟩) 2 sc2) (.slice da2 dz2.length dc2)) := B28.out.go hB
  have hb39 : Hid (Below w.heap.size w v4) := hb29.out.trans (hB.mono hb29.out.size)
  have L40 : Hid (MidC (v3.drew.heap.size) (v4.heap.size) v4 (xa1) ([(n : Int), (n : Int)]) (xc1)) := hX1.midc
  have L41 : Hid (MidC (v3.drew.heap.size) (v4.heap.size) v4 (ya1) (mmL n dz1 dz2) (yc1)) := hY1.midc
  clear hB hb29 B27 B28 hX1 hY1
  have n42 := Abx.new v4 (.bool false) (.slice (xa1) 2 (xc1)) (.slice (ya1) (mmL n dz1 dz2).length (yc1))
  go_wp2_with fail
  obtain ⟨wo43, hwo43⟩ : ∃ wo43, wo43 = (v4.alloc (.cells #[.bool false, .slice (xa1) 2 (xc1), .slice (ya1) (mmL n dz1 dz2).length (yc1)] 24)) := ⟨_, rfl⟩
  rw [← hwo43]
  have z44 : v4.heap.size + 1 ≤ wo43.heap.size := by rw [hwo43]; simp only [World.size_alloc]; omega
  have B45 : Hid (Abx wo43 (w.heap.size) (.bool false) (.slice (some ⟨b1, o1, none⟩) 2 sc1) (.slice da1 dz1.length dc1)) := by rw [hwo43]; exact (B37.out.al (.cells #[.bool false, .slice (xa1) 2 (xc1), .slice (ya1) (mmL n dz1 dz2).length (yc1)] 24))
  have B46 : Hid (Abx wo43 (w.heap.size + 1) (.bool false) (.slice (some ⟨b2, o2, none⟩) 2 sc2) (.slice da2 dz2.length dc2)) := by rw [hwo43]; exact (B38.out.al (.cells #[.bool false, .slice (xa1) 2 (xc1), .slice (ya1) (mmL n dz1 dz2).length (yc1)] 24))
  have B47 : Hid (Abx wo43 (v4.heap.size) (.bool false) (.slice (xa1) 2 (xc1)) (.slice (ya1) (mmL n dz1 dz2).length (yc1))) := by rw [hwo43]; exact n42
  have L48 : Hid (MidC (v3.drew.heap.size) (v4.heap.size) wo43 (xa1) ([(n : Int), (n : Int)]) (xc1)) := by rw [hwo43]; exact (L40.out.al (by omega) (.cells #[.bool false, .slice (xa1) 2 (xc1), .slice (ya1) (mmL n dz1 dz2).length (yc1)] 24))
  have L49 : Hid (MidC (v3.drew.heap.size) (v4.heap.size) wo43 (ya1) (mmL n dz1 dz2) (yc1)) := by rw [hwo43]; exact (L41.out.al (by omega) (.cells #[.bool false, .slice (xa1) 2 (xc1), .slice (ya1) (mmL n dz1 dz2).length (yc1)] 24))
  have hb50 : Hid (Below w.heap.size w wo43) := by rw [hwo43]; exact (hb39.out.alloc (by omega) (.cells #[.bool false, .slice (xa1) 2 (xc1), .slice (ya1) (mmL n dz1 dz2).length (yc1)] 24))
  have zwo43 : w.heap.size ≤ wo43.heap.size := hb50.out.size
  clear hwo43 n42 hb39 B37 B38 L40 L41
  have hb0r6 : Below wo43.heap.size wo43 wo43.drew := (Below.refl _ wo43).drew
  refine anyC_begin (fun w' => w'.cell? ⟨v4.heap.size, 0, none⟩ = some (.bool false) ∧ w'.cell? ⟨v4.heap.size, 1, none⟩ = some (.slice (xa1) 2 (xc1)) ∧ w'.cell? ⟨v4.heap.size, 2, none⟩ = some (.slice (ya1) (mmL n dz1 dz2).length (yc1)) ∧ w'.cell? ⟨w.heap.size, 0, none⟩ = some (.bool false) ∧ w'.cell? ⟨w.heap.size, 1, none⟩ = some (.slice (some ⟨b1, o1, none⟩) 2 sc1) ∧ w'.cell? ⟨w.heap.size, 2, none⟩ = some (.slice da1 dz1.length dc1) ∧ w'.cell? ⟨w.heap.size + 1, 0, none⟩ = some (.bool false) ∧ w'.cell? ⟨w.heap.size + 1, 1, none⟩ = some (.slice (some ⟨b2, o2, none⟩) 2 sc2) ∧ w'.cell? ⟨w.heap.size + 1, 2, none⟩ = some (.slice da2 dz2.length dc2)) 13 #[false, false, false, false, false, false, false, false, false, false, false, false, false] (by kernel_rfl) rfl rfl ?_
  refine anyC_put 0 40 ?rv85 #[true, false, false, false, false, false, false, false, false, false, false, false, false] rfl rfl rfl (by kernel_rfl) (by kernel_rfl) (by kernel_rfl) (fun _ _ _ h => h) ?ry85 (⟨(B47.out.go hb0r6).c0, (B47.out.go hb0r6).c1, (B47.out.go hb0r6).c2, (B45.out.go hb0r6).c0, (B45.out.go hb0r6).c1, (B45.out.go hb0r6).c2, (B46.out.go hb0r6).c0, (B46.out.go hb0r6).c1, (B46.out.go hb0r6).c2⟩) ?rm85
  case ry85 => first | exact Or.inl ⟨by rfl, by intro w'; go_simp; first | done | rfl⟩
  case rm85 =>
  simp only [Act.put, List.setIfInBounds_toArray, List.set_cons_zero, List.set_cons_succ]
  refine anyC_put 1 41 ?rv86 #[true, true, false, false, false, false, false, false, false, false, false, false, false] rfl rfl rfl (by kernel_rfl) (by kernel_rfl) (by kernel_rfl) (fun _ _ _ h => h) ?ry86 (⟨(B47.out.go hb0r6).c0, (B47.out.go hb0r6).c1, (B47.out.go hb0r6).c2, (B45.out.go hb0r6).c0, (B45.out.go hb0r6).c1, (B45.out.go hb0r6).c2, (B46.out.go hb0r6).c0, (B46.out.go hb0r6).c1, (B46.out.go hb0r6).c2⟩) ?rm86
  case ry86 => first | exact Or.inl ⟨by rfl, by intro w'; go_simp; first | done | rfl⟩
  case rm86 =>
  simp only [Act.put, List.setIfInBounds_toArray, List.set_cons_zero, List.set_cons_succ]
  refine anyC_put 2 42 ?rv87 #[true, true, true, false, false, false, false, false, false, false, false, false, false] rfl rfl rfl (by kernel_rfl) (by kernel_rfl) (by kernel_rfl) (fun _ _ _ h => h) ?ry87 (⟨(B47.out.go hb0r6).c0, (B47.out.go hb0r6).c1, (B47.out.go hb0r6).c2, (B45.out.go hb0r6).c0, (B45.out.go hb0r6).c1, (B45.out.go hb0r6).c2, (B46.out.go hb0r6).c0, (B46.out.go hb0r6).c1, (B46.out.go hb0r6).c2⟩) ?rm87
  case ry87 => first | exact Or.inl ⟨by rfl, by intro w'; go_simp; first | done | rfl⟩
  case rm87 =>
  simp only [Act.put, List.setIfInBounds_toArray, List.set_cons_zero, List.set_cons_succ]
  refine anyC_take 3 43 ?rv88 #[true, true, true, true, false, false, false, false, false, false, false, false, false] rfl rfl rfl (by kernel_rfl) (by kernel_rfl) (by kernel_rfl) (fun _ _ _ h => h) ?ry88 (⟨(B47.out.go hb0r6).c0, (B47.out.go hb0r6).c1, (B47.out.go hb0r6).c2, (B45.out.go hb0r6).c0, (B45.out.go hb0r6).c1, (B45.out.go hb0r6).c2, (B46.out.go hb0r6).c0, (B46.out.go hb0r6).c1, (B46.out.go hb0r6).c2⟩) ?rm88
  case ry88 => first | exact Or.inl ⟨by rfl, by intro w' hw'; (try dsimp only at hw'); go_simp; first | done | rfl⟩ | exact Or.inr ⟨by rfl, rfl⟩ | exact Or.inr ⟨by rfl, by rfl⟩
  case rm88 =>
  simp only [Act.put, List.setIfInBounds_toArray, List.set_cons_zero, List.set_cons_succ]
  refine anyC_take 5 45 ?rv89 #[true, true, true, true, false, true, false, false, false, false, false, false, false] rfl rfl rfl (by kernel_rfl) (by kernel_rfl) (by kernel_rfl) (fun _ _ _ h => h) ?ry89 (⟨(B47.out.go hb0r6).c0, (B47.out.go hb0r6).c1, (B47.out.go hb0r6).c2, (B45.out.go hb0r6).c0, (B45.out.go hb0r6).c1, (B45.out.go hb0r6).c2, (B46.out.go hb0r6).c0, (B46.out.go hb0r6).c1, (B46.out.go hb0r6).c2⟩) ?rm89
  case ry89 => first | exact Or.inl ⟨by rfl, by intro w' hw'; (try dsimp only at hw'); go_simp; first | done | rfl⟩ | exact Or.inr ⟨by rfl, rfl⟩ | exact Or.inr ⟨by rfl, by rfl⟩
  case rm89 =>
  simp only [Act.put, List.setIfInBounds_toArray, List.set_cons_zero, List.set_cons_succ]
  refine anyC_take 7 47 ?rv90 #[true, true, true, true, false, true, false, true, false, false, false, false, false] rfl rfl rfl (by kernel_rfl) (by kernel_rfl) (by kernel_rfl) (fun _ _ _ h => h) ?ry90 (⟨(B47.out.go hb0r6).c0, (B47.out.go hb0r6).c1, (B47.out.go hb0r6).c2, (B45.out.go hb0r6).c0, (B45.out.go hb0r6).c1, (B45.out.go hb0r6).c2, (B46.out.go hb0r6).c0, (B46.out.go hb0r6).c1, (B46.out.go hb0r6).c2⟩) ?rm90
  case ry90 => first | exact Or.inl ⟨by rfl, by intro w' hw'; (try dsimp only at hw'); go_simp; first | done | rfl⟩ | exact Or.inr ⟨by rfl, rfl⟩ | exact Or.inr ⟨by rfl, by rfl⟩
  case rm90 =>
  simp only [Act.put, List.setIfInBounds_toArray, List.set_cons_zero, List.set_cons_succ]
  refine anyC_one 4 #[true, true, true, true, true, true, false, true, false, false, false, false, false] (by kernel_rfl) rfl rfl (fun K hK => ?_)
  go_simp
  go_wp2_with (go_at_call 8; refine (sdet_any n hn (xa1) (xc1) (ya1) (yc1) (mmL n dz1 dz2) (mmL n dz1 dz2).length rfl (mmL_len n dz1 dz2) _ ((L48.out.go (by omega) hb0r6).is (by have := hb0r6.size; omega)).1 ((L49.out.go (by omega) hb0r6).is (by have := hb0r6.size; omega)).1).mono ?_; rintro e y1r6 ⟨rfl, hBy1r6⟩)
  have hby1r6 : Below wo43.heap.size wo43 y1r6 := hb0r6.trans (hBy1r6.mono hb0r6.size)
  refine hK.out _ _ (⟨(B47.out.go hby1r6).c0, (B47.out.go hby1r6).c1, (B47.out.go hby1r6).c2, (B45.out.go hby1r6).c0, (B45.out.go hby1r6).c1, (B45.out.go hby1r6).c2, (B46.out.go hby1r6).c0, (B46.out.go hby1r6).c1, (B46.out.go hby1r6).c2⟩) ?_
  clear hK K
  refine anyC_one 6 #[true, true, true, true, true, true, true, true, false, false, false, false, false] (by kernel_rfl) rfl rfl (fun K hK => ?_)
  go_simp
  go_wp2_with (go_at_call 8; refine (sdet_any n hn (some ⟨b1, o1, none⟩) sc1 da1 dc1 dz1 dz1.length rfl HL1.out _ ((HI1.out.1.below (hb50.out.trans (hby1r6.mono hb50.out.size))).mono (hb50.out.trans (hby1r6.mono hb50.out.size)).size).1 ((HI1.out.2.1.below (hb50.out.trans (hby1r6.mono hb50.out.size))).mono (hb50.out.trans (hby1r6.mono hb50.out.size)).size).1).mono ?_; rintro e y2r6 ⟨rfl, hBy2r6⟩)
  have hby2r6 : Below wo43.heap.size wo43 y2r6 := hby1r6.trans (hBy2r6.mono hby1r6.size)
  refine hK.out _ _ (⟨(B47.out.go hby2r6).c0, (B47.out.go hby2r6).c1, (B47.out.go hby2r6).c2, (B45.out.go hby2r6).c0, (B45.out.go hby2r6).c1, (B45.out.go hby2r6).c2, (B46.out.go hby2r6).c0, (B46.out.go hby2r6).c1, (B46.out.go hby2r6).c2⟩) ?_
  clear hK K
  refine anyC_one 8 #[true, true, true, true, true, true, true, true, true, false, false, false, false] (by kernel_rfl) rfl rfl (fun K hK => ?_)
  go_simp
  go_wp2_with (go_at_call 8; refine (sdet_any n hn (some ⟨b2, o2, none⟩) sc2 da2 dc2 dz2 dz2.length rfl HL2.out _ ((HI2.out.1.below (hb50.out.trans (hby2r6.mono hb50.out.size))).mono (hb50.out.trans (hby2r6.mono hb50.out.size)).size).1 ((HI2.out.2.1.below (hb50.out.trans (hby2r6.mono hb50.out.size))).mono (hb50.out.trans (hby2r6.mono hb50.out.size)).size).1).mono ?_; rintro e y3r6 ⟨rfl, hBy3r6⟩)
  have hby3r6 : Below wo43.heap.size wo43 y3r6 := hby2r6.trans (hBy3r6.mono hby2r6.size)
  refine hK.out _ _ (⟨(B47.out.go hby3r6).c0, (B47.out.go hby3r6).c1, (B47.out.go hby3r6).c2, (B45.out.go hby3r6).c0, (B45.out.go hby3r6).c1, (B45.out.go hby3r6).c2, (B46.out.go hby3r6).c0, (B46.out.go hby3r6).c1, (B46.out.go hby3r6).c2⟩) ?_
  clear hK K
  refine anyC_put 9 49 ?rv94 #[true, true, true, true, true, true, true, true, true, true, false, false, false] rfl rfl rfl (by kernel_rfl) (by kernel_rfl) (by kernel_rfl) (fun _ _ _ h => h) ?ry94 (⟨(B47.out.go hby3r6).c0, (B47.out.go hby3r6).c1, (B47.out.go hby3r6).c2, (B45.out.go hby3r6).c0, (B45.out.go hby3r6).c1, (B45.out.go hby3r6).c2, (B46.out.go hby3r6).c0, (B46.out.go hby3r6).c1, (B46.out.go hby3r6).c2⟩) ?rm94
  case ry94 => first | exact Or.inl ⟨by rfl, by intro w'; go_simp; first | done | rfl⟩ | exact Or.inr ⟨by rfl, rfl⟩ | exact Or.inr ⟨by rfl, by rfl⟩
  case rm94 =>
  simp only [Act.put, List.setIfInBounds_toArray, List.set_cons_zero, List.set_cons_succ]
  refine anyC_put 10 50 ?rv95 #[true, true, true, true, true, true, true, true, true, true, true, false, false] rfl rfl rfl (by kernel_rfl) (by kernel_rfl) (by kernel_rfl) (fun _ _ _ h => h) ?ry95 (⟨(B47.out.go hby3r6).c0, (B47.out.go hby3r6).c1, (B47.out.go hby3r6).c2, (B45.out.go hby3r6).c0, (B45.out.go hby3r6).c1, (B45.out.go hby3r6).c2, (B46.out.go hby3r6).c0, (B46.out.go hby3r6).c1, (B46.out.go hby3r6).c2⟩) ?rm95
  case ry95 => first | exact Or.inl ⟨by rfl, by intro w'; go_simp; first | done | rfl⟩ | exact Or.inr ⟨by rfl, rfl⟩ | exact Or.inr ⟨by rfl, by rfl⟩
  case rm95 =>
  simp only [Act.put, List.setIfInBounds_toArray, List.set_cons_zero, List.set_cons_succ]
  refine anyC_put 11 51 ?rv96 #[true, true, true, true, true, true, true, true, true, true, true, true, false] rfl rfl rfl (by kernel_rfl) (by kernel_rfl) (by kernel_rfl) (fun _ _ _ h => h) ?ry96 (⟨(B47.out.go hby3r6).c0, (B47.out.go hby3r6).c1, (B47.out.go hby3r6).c2, (B45.out.go hby3r6).c0, (B45.out.go hby3r6).c1, (B45.out.go hby3r6).c2, (B46.out.go hby3r6).c0, (B46.out.go hby3r6).c1, (B46.out.go hby3r6).c2⟩) ?rm96
  case ry96 => first | exact Or.inl ⟨by rfl, by intro w'; go_simp; first | done | rfl⟩
  case rm96 =>
  simp only [Act.put, List.setIfInBounds_toArray, List.set_cons_zero, List.set_cons_succ]
  refine anyC_put 12 4 ?rv97 #[true, true, true, true, true, true, true, true, true, true, true, true, true] rfl rfl rfl (by kernel_rfl) (by kernel_rfl) (by kernel_rfl) (fun _ _ _ h => h) ?ry97 (⟨(B47.out.go hby3r6).c0, (B47.out.go hby3r6).c1, (B47.out.go hby3r6).c2, (B45.out.go hby3r6).c0, (B45.out.go hby3r6).c1, (B45.out.go hby3r6).c2, (B46.out.go hby3r6).c0, (B46.out.go hby3r6).c1, (B46.out.go hby3r6).c2⟩) ?rm97
  case ry97 => first | exact Or.inl ⟨by rfl, by intro w'; go_simp; first | done | rfl⟩
  case rm97 =>
  simp only [Act.put, List.setIfInBounds_toArray, List.set_cons_zero, List.set_cons_succ]
  refine anyC_done (by kernel_rfl) ?_
  have hB := hby3r6
  have z51 : wo43.heap.size ≤ y3r6.heap.size := hB.size
  have B52 : Hid (Abx y3r6 (w.heap.size) (.bool false) (.slice (some ⟨b1, o1, none⟩) 2 sc1) (.slice da1 dz1.length dc1)) := B45.out.go hB
  have B53 : Hid (Abx y3r6 (w.heap.size + 1) (.bool false) (.slice (some ⟨b2, o2, none⟩) 2 sc2) (.slice da2 dz2.length dc2)) := B46.out.go hB
  have B54 : Hid (Abx y3r6 (v4.heap.size) (.bool false) (.slice (xa1) 2 (xc1)) (.slice (ya1) (mmL n dz1 dz2).length (yc1))) := B47.out.go hB
  have L55 : Hid (MidC (v3.drew.heap.size) (v4.heap.size) y3r6 (xa1) ([(n : Int), (n : Int)]) (xc1)) := L48.out.go (by omega) hB
  have L56 : Hid (MidC (v3.drew.heap.size) (v4.heap.size) y3r6 (ya1) (mmL n dz1 dz2) (yc1)) := L49.out.go (by omega) hB
  have hb57 : Hid (Below w.heap.size w y3r6) := hb50.out.trans (hB.mono hb50.out.size)
  clear hB hb50 B45 B46 B47 L48 L49
  go_wp2_with fail
  go_ret
  refine ⟨ret_bool ?_, hb57.out⟩
  simp only [IntWalk.i64_left]
  rw [HV.out]
  simp
theorem mmany_walk (HNi : CNi) (c1 : Bool) (sa1 : Option Addr) (sc1 : Nat) (sz1 : List Int) (da1 : Option Addr) (dc1 : Nat) (dz1 : List Int) (c2 : Bool) (sa2 : Option Addr) (sc2 : Nat) (sz2 : List Int) (da2 : Option Addr) (dc2 : Nat) (dz2 : List Int) (w : World) (w8 : IsArrD w sa1 sz1 sc1 da1 dz1 dc1) (w9 : IsArrD w sa2 sz2 sc2 da2 dz2 dc2) :
    Calls Try.prog 3 #[.agg #[.bool c1, .slice sa1 sz1.length sc1, .slice da1 dz1.length dc1], .agg #[.bool c2, .slice sa2 sz2.length sc2, .slice da2 dz2.length dc2]] w fun e w' => e = .returned (.bool true) ∧ Below w.heap.size w w' := by
  by_cases h1 : SqP c1 sz1 dz1
  · by_cases h2 : SqP c2 sz2 dz2
    · obtain ⟨n, hn, rfl, hl1, rfl⟩ := h1
      obtain ⟨b1, o1, rfl⟩ := opn14 w8.2.2.1
      obtain ⟨n2, hn2, rfl, hl2, rfl⟩ := h2
      obtain ⟨b2, o2, rfl⟩ := opn14 w9.2.2.1
      by_cases e : n = n2
      · subst e
        exact many_ok HNi n hn b1 o1 sc1 da1 dc1 dz1 hl1 b2 o2 sc2 da2 dc2 dz2 hl2 w ⟨w8.2.2.1, w8.2.2.2.1, w8.2.2.2.2.2⟩ ⟨w9.2.2.1, w9.2.2.2.1, w9.2.2.2.2.2⟩
      · exact many_ne n2 hn2 n hn b1 o1 sc1 da1 dc1 dz1 hl1 b2 o2 sc2 da2 dc2 dz2 hl2 w ⟨w8.2.2.1, w8.2.2.2.1, w8.2.2.2.2.2⟩ ⟨w9.2.2.1, w9.2.2.2.1, w9.2.2.2.2.2⟩ e
    · exact many_b HNi c1 sa1 sc1 sz1 da1 dc1 dz1 c2 sa2 sc2 sz2 da2 dc2 dz2 w w8 w9 h1 h2
  · exact many_a HNi c1 sa1 sc1 sz1 da1 dc1 dz1 c2 sa2 sc2 sz2 da2 dc2 dz2 w w8 w9 h1
end Go.Proofs.Ytjaabemlpiafaaa
