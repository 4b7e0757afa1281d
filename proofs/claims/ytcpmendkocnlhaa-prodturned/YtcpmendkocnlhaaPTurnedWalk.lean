/-
  The walk of the statement ProdTurned, given what the program tells.
-/
import Derived.Test.YtcpmendkocnlhaaPrdx
import Derived.Test.YtcpmendkocnlhaaPrdw
import Derived.Test.YtcpmendkocnlhaaPair
import Derived.Test.YtcpmendkocnlhaaHold
import Derived.Test.YtcpmendkocnlhaaFldx
import Derived.Test.YtcpmendkocnlhaaMidc
import Derived.Test.YtcpmendkocnlhaaSarr
namespace Go.Proofs.Ytcpmendkocnlhaa
open Go.RowKit
set_option linter.unusedVariables false

set_option maxRecDepth 100000 in
set_option maxHeartbeats 4000000 in
theorem turned_s (HNi : CNi) (HFl : CFl) (f g : Int) (hf : In64 f) (hg : In64 g) (c1 : Bool) (sa1 : Option Addr) (sc1 : Nat) (sz1 : List Int) (da1 : Option Addr) (dc1 : Nat) (dz1 : List Int) (c2 : Bool) (sa2 : Option Addr) (sc2 : Nat) (sz2 : List Int) (da2 : Option Addr) (dc2 : Nat) (dz2 : List Int) (w : World) (w8 : IsArrD w sa1 sz1 sc1 da1 dz1 dc1) (w9 : IsArrD w sa2 sz2 sc2 da2 dz2 dc2) (GS : Hid (¬ Srg f g)) :
    Calls Try.prog 4 #[.int .i64 f, .int .i64 g, .agg #[.bool c1, .slice sa1 sz1.length sc1, .slice da1 dz1.length dc1], .agg #[.bool c2, .slice sa2 sz2.length sc2, .slice da2 dz2.length dc2]] w fun e w' => e = .returned (.bool true) ∧ Below w.heap.size w w' := by
  obtain ⟨x11, x12, x3, x4, s64, T⟩ := w8
  have HI1 : Hid (IsC w.heap.size w sa1 sz1 sc1 ∧ IsC w.heap.size w da1 dz1 dc1 ∧ (∀ j, In64 (nth sz1 j)) ∧ ∀ j, In64 (nth dz1 j)) := ⟨x3, x4, s64, T⟩
  clear x3 x4 T s64
  obtain ⟨x21, x22, x3, x4, s64, T⟩ := w9
  have HI2 : Hid (IsC w.heap.size w sa2 sz2 sc2 ∧ IsC w.heap.size w da2 dz2 dc2 ∧ (∀ j, In64 (nth sz2 j)) ∧ ∀ j, In64 (nth dz2 j)) := ⟨x3, x4, s64, T⟩
  clear x3 x4 T s64
  have n1 := Abx.new w (.bool c1) (.slice sa1 sz1.length sc1) (.slice da1 dz1.length dc1)
  have n2 := Abx.new (w.alloc (.cells #[.bool c1, .slice sa1 sz1.length sc1, .slice da1 dz1.length dc1] 25)) (.bool c2) (.slice sa2 sz2.length sc2) (.slice da2 dz2.length dc2)
  simp only [World.size_alloc] at n2
  have n3 := lit_mid ((w.alloc (.cells #[.bool c1, .slice sa1 sz1.length sc1, .slice da1 dz1.length dc1] 25)).alloc (.cells #[.bool c2, .slice sa2 sz2.length sc2, .slice da2 dz2.length dc2] 25)) 3 [1, 5] 2 rfl
  simp only [World.size_alloc, List.map_cons, List.map_nil] at n3
  go_enter Try.func4, Try.ntmps4
  go_wp2_with fail
  obtain ⟨wo4, hwo4⟩ : ∃ wo4, wo4 = (((w.alloc (.cells #[.bool c1, .slice sa1 sz1.length sc1, .slice da1 dz1.length dc1] 25)).alloc (.cells #[.bool c2, .slice sa2 sz2.length sc2, .slice da2 dz2.length dc2] 25)).alloc (.cells #[.int .i64 1, .int .i64 5] 3)) := ⟨_, rfl⟩
  rw [← hwo4]
  have z5 : w.heap.size + 1 + 1 + 1 ≤ wo4.heap.size := by rw [hwo4]; simp only [World.size_alloc]; omega
  have B6 : Hid (Abx wo4 (w.heap.size) (.bool c1) (.slice sa1 sz1.length sc1) (.slice da1 dz1.length dc1)) := by rw [hwo4]; exact ((n1.al (.cells #[.bool c2, .slice sa2 sz2.length sc2, .slice da2 dz2.length dc2] 25)).al (.cells #[.int .i64 1, .int .i64 5] 3))
  have B7 : Hid (Abx wo4 (w.heap.size + 1) (.bool c2) (.slice sa2 sz2.length sc2) (.slice da2 dz2.length dc2)) := by rw [hwo4]; exact (n2.al (.cells #[.int .i64 1, .int .i64 5] 3))
  have L8 : Hid (MidC (w.heap.size + 1 + 1) (w.heap.size + 1 + 1 + 1) wo4 (some ⟨w.heap.size + 1 + 1, 0, none⟩) ([1, 5]) (2)) := by rw [hwo4]; exact n3
  have hb9 : Hid (Below w.heap.size w wo4) := by rw [hwo4]; exact ((((Below.refl w.heap.size w).alloc (by omega) (.cells #[.bool c1, .slice sa1 sz1.length sc1, .slice da1 dz1.length dc1] 25)).alloc (by simp only [World.size_alloc]; omega) (.cells #[.bool c2, .slice sa2 sz2.length sc2, .slice da2 dz2.length dc2] 25)).alloc (by simp only [World.size_alloc]; omega) (.cells #[.int .i64 1, .int .i64 5] 3))
  have zwo4 : w.heap.size ≤ wo4.heap.size := hb9.out.size
  clear hwo4 n1 n2 n3
  refine (vec_c (some ⟨w.heap.size + 1 + 1, 0, none⟩) 2 [1, 5] (by simp) _ (L8.out.is (by omega)).1).mono ?_
  rintro e v1 ⟨vap, vcp, gap, gcp, rfl, hVp, hGp, hB⟩
  have z10 : wo4.heap.size ≤ v1.heap.size := hB.size
  have B11 : Hid (Abx v1 (w.heap.size) (.bool c1) (.slice sa1 sz1.length sc1) (.slice da1 dz1.length dc1)) := B6.out.go hB
  have B12 : Hid (Abx v1 (w.heap.size + 1) (.bool c2) (.slice sa2 sz2.length sc2) (.slice da2 dz2.length dc2)) := B7.out.go hB
  have L13 : Hid (MidC (w.heap.size + 1 + 1) (w.heap.size + 1 + 1 + 1) v1 (some ⟨w.heap.size + 1 + 1, 0, none⟩) ([1, 5]) (2)) := L8.out.go (by omega) hB
  have hb14 : Hid (Below w.heap.size w v1) := hb9.out.trans (hB.mono hb9.out.size)
  have L15 : Hid (MidC (wo4.heap.size) (v1.heap.size) v1 (vap) ([(2 : Int)]) (vcp)) := hVp.midc
  have L16 : Hid (MidC (wo4.heap.size) (v1.heap.size) v1 (gap) ([1, 5]) (gcp)) := hGp.midc
  clear hB hb9 B6 B7 L8 hVp hGp
  clear L13
  have n17 := lit_mid v1 3 [4, 3] 2 rfl
  simp only [List.map_cons, List.map_nil] at n17
  go_wp2_with fail
  obtain ⟨wo18, hwo18⟩ : ∃ wo18, wo18 = (v1.alloc (.cells #[.int .i64 4, .int .i64 3] 3)) := ⟨_, rfl⟩
  rw [← hwo18]
  have z19 : v1.heap.size + 1 ≤ wo18.heap.size := by rw [hwo18]; simp only [World.size_alloc]; omega
  have B20 : Hid (Abx wo18 (w.heap.size) (.bool c1) (.slice sa1 sz1.length sc1) (.slice da1 dz1.length dc1)) := by rw [hwo18]; exact (B11.out.al (.cells #[.int .i64 4, .int .i64 3] 3))
  have B21 : Hid (Abx wo18 (w.heap.size + 1) (.bool c2) (.slice sa2 sz2.length sc2) (.slice da2 dz2.length dc2)) := by rw [hwo18]; exact (B12.out.al (.cells #[.int .i64 4, .int .i64 3] 3))
  have L22 : Hid (MidC (wo4.heap.size) (v1.heap.size) wo18 (vap) ([(2 : Int)]) (vcp)) := by rw [hwo18]; exact (L15.out.al (by omega) (.cells #[.int .i64 4, .int .i64 3] 3))
  have L23 : Hid (MidC (wo4.heap.size) (v1.heap.size) wo18 (gap) ([1, 5]) (gcp)) := by rw [hwo18]; exact (L16.out.al (by omega) (.cells #[.int .i64 4, .int .i64 3] 3))
  have L24 : Hid (MidC (v1.heap.size) (v1.heap.size + 1) wo18 (some ⟨v1.heap.size, 0, none⟩) ([4, 3]) (2)) := by rw [hwo18]; exact n17
  have hb25 : Hid (Below w.heap.size w wo18) := by rw [hwo18]; exact (hb14.out.alloc (by omega) (.cells #[.int .i64 4, .int .i64 3] 3))
  have zwo18 : w.heap.size ≤ wo18.heap.size := hb25.out.size
  clear hwo18 n17 hb14 B11 B12 L15 L16
  refine (vec_c (some ⟨v1.heap.size, 0, none⟩) 2 [4, 3] (by simp) _ (L24.out.is (by omega)).1).mono ?_
  rintro e v2 ⟨vaq, vcq, gaq, gcq, rfl, hVq, hGq, hB⟩
  have z26 : wo18.heap.size ≤ v2.heap.size := hB.size
  have B27 : Hid (Abx v2 (w.heap.size) (.bool c1) (.slice sa1 sz1.length sc1) (.slice da1 dz1.length dc1)) := B20.out.go hB
  have B28 : Hid (Abx v2 (w.heap.size + 1) (.bool c2) (.slice sa2 sz2.length sc2) (.slice da2 dz2.length dc2)) := B21.out.go hB
  have L29 : Hid (MidC (wo4.heap.size) (v1.heap.size) v2 (vap) ([(2 : Int)]) (vcp)) := L22.out.go (by omega) hB
  have L30 : Hid (MidC (wo4.heap.size) (v1.heap.size) v2 (gap) ([1, 5]) (gcp)) := L23.out.go (by omega) hB
  have L31 : Hid (MidC (v1.heap.size) (v1.heap.size + 1) v2 (some ⟨v1.heap.size, 0, none⟩) ([4, 3]) (2)) := L24.out.go (by omega) hB
  have hb32 : Hid (Below w.heap.size w v2) := hb25.out.trans (hB.mono hb25.out.size)
  have L33 : Hid (MidC (wo18.heap.size) (v2.heap.size) v2 (vaq) ([(2 : Int)]) (vcq)) := hVq.midc
  have L34 : Hid (MidC (wo18.heap.size) (v2.heap.size) v2 (gaq) ([4, 3]) (gcq)) := hGq.midc
  clear hB hb25 B20 B21 L22 L23 L24 hVq hGq
  clear L31
  go_wp2_with fail
  refine (niw_ok 6 7 false vap vcp [(2 : Int)] 1 rfl gap gcp [1, 5] 2 rfl false vaq vcq [(2 : Int)] 1 rfl gaq gcq [4, 3] 2 rfl _ (by unfold In64; decide) (by unfold In64; decide) (by decide) (by decide) (L29.out.is (by omega)) (L30.out.is (by omega)).1 (lit12 (by decide)) (by decide) (by decide) (L33.out.is (by omega)) (L34.out.is (by omega)).1 (lit12 (by decide)) [] [3] HNi (by show inE 6 7 false [(2 : Int)] [1, 5] false [(2 : Int)] [4, 3] = 0 ∧ inS [(2 : Int)] [(2 : Int)] = [] ∧ inD 6 7 false [(2 : Int)] [1, 5] false [(2 : Int)] [4, 3] = [3]; decide +kernel)).mono ?_
  rintro e v3 ⟨f1, g1, f2, g2, rfl, hX0, hY0, hB⟩
  have z35 : v2.heap.size ≤ v3.heap.size := hB.size
  have B36 : Hid (Abx v3 (w.heap.size) (.bool c1) (.slice sa1 sz1.length sc1) (.slice da1 dz1.length dc1)) := B27.out.go hB
  have B37 : Hid (Abx v3 (w.heap.size + 1) (.bool c2) (.slice sa2 sz2.length sc2) (.slice da2 dz2.length dc2)) := B28.out.go hB
  have L38 : Hid (MidC (wo4.heap.size) (v1.heap.size) v3 (vap) ([(2 : Int)]) (vcp)) := L29.out.go (by omega) hB
  have L39 : Hid (MidC (wo4.heap.size) (v1.heap.size) v3 (gap) ([1, 5]) (gcp)) := L30.out.go (by omega) hB
  have L40 : Hid (MidC (wo18.heap.size) (v2.heap.size) v3 (vaq) ([(2 : Int)]) (vcq)) := L33.out.go (by omega) hB
  have L41 : Hid (MidC (wo18.heap.size) (v2.heap.size) v3 (gaq) ([4, 3]) (gcq)) := L34.out.go (by omega) hB
  have hb42 : Hid (Below w.heap.size w v3) := hb32.out.trans (hB.mono hb32.out.size)
  have L43 : Hid (MidC (v2.heap.size) (v3.heap.size) v3 (f1) ([]) (g1)) := hX0.midc
  have L44 : Hid (MidC (v2.heap.size) (v3.heap.size) v3 (f2) ([3]) (g2)) := hY0.midc
  clear hB hb32 B27 B28 L29 L30 L33 L34 hX0 hY0
  clear L38 L39 L40 L41
  obtain ⟨b45, ob45, rfl, _, _, _, _⟩ := L44.out.at (i := 0) (by decide)
  have n46 := Abx.new v3 (.bool false) (.slice f1 0 g1) (.slice (some ⟨b45, ob45, none⟩) 1 g2)
  have l47 := (n46).c0
  have l48 := (n46).c1
  have l49 := (n46).c2
  obtain ⟨_, _, l50e, _, _, l50, _⟩ := ((L44.out.al (by omega) (.cells #[.bool false, .slice f1 0 g1, .slice (some ⟨b45, ob45, none⟩) 1 g2] 25))).at (i := 0) (by decide)
  cases l50e
  try simp only [Nat.add_zero] at l50
  go_wp2_with fail
  obtain ⟨wo51, hwo51⟩ : ∃ wo51, wo51 = (v3.alloc (.cells #[.bool false, .slice f1 0 g1, .slice (some ⟨b45, ob45, none⟩) 1 g2] 25)) := ⟨_, rfl⟩
  rw [← hwo51]
  have z52 : v3.heap.size + 1 ≤ wo51.heap.size := by rw [hwo51]; simp only [World.size_alloc]; omega
  have B53 : Hid (Abx wo51 (w.heap.size) (.bool c1) (.slice sa1 sz1.length sc1) (.slice da1 dz1.length dc1)) := by rw [hwo51]; exact (B36.out.al (.cells #[.bool false, .slice f1 0 g1, .slice (some ⟨b45, ob45, none⟩) 1 g2] 25))
  have B54 : Hid (Abx wo51 (w.heap.size + 1) (.bool c2) (.slice sa2 sz2.length sc2) (.slice da2 dz2.length dc2)) := by rw [hwo51]; exact (B37.out.al (.cells #[.bool false, .slice f1 0 g1, .slice (some ⟨b45, ob45, none⟩) 1 g2] 25))
  have B55 : Hid (Abx wo51 (v3.heap.size) (.bool false) (.slice f1 0 g1) (.slice (some ⟨b45, ob45, none⟩) 1 g2)) := by rw [hwo51]; exact n46
  have L56 : Hid (MidC (v2.heap.size) (v3.heap.size) wo51 (f1) ([]) (g1)) := by rw [hwo51]; exact (L43.out.al (by omega) (.cells #[.bool false, .slice f1 0 g1, .slice (some ⟨b45, ob45, none⟩) 1 g2] 25))
  have L57 : Hid (MidC (v2.heap.size) (v3.heap.size) wo51 (some ⟨b45, ob45, none⟩) ([3]) (g2)) := by rw [hwo51]; exact (L44.out.al (by omega) (.cells #[.bool false, .slice f1 0 g1, .slice (some ⟨b45, ob45, none⟩) 1 g2] 25))
  have hb58 : Hid (Below w.heap.size w wo51) := by rw [hwo51]; exact (hb42.out.alloc (by omega) (.cells #[.bool false, .slice f1 0 g1, .slice (some ⟨b45, ob45, none⟩) 1 g2] 25))
  have zwo51 : w.heap.size ≤ wo51.heap.size := hb58.out.size
  clear hwo51 n46 l47 l48 l49 l50 hb42 B36 B37 L43 L44
  clear L56 L57 B55
  have hb0 : Below wo51.heap.size wo51 wo51.drew := (Below.refl _ wo51).drew
  refine anyC_begin (fun w' => w'.cell? ⟨w.heap.size, 0, none⟩ = some (.bool c1) ∧ w'.cell? ⟨w.heap.size, 1, none⟩ = some (.slice sa1 sz1.length sc1) ∧ w'.cell? ⟨w.heap.size, 2, none⟩ = some (.slice da1 dz1.length dc1) ∧ w'.cell? ⟨w.heap.size + 1, 0, none⟩ = some (.bool c2) ∧ w'.cell? ⟨w.heap.size + 1, 1, none⟩ = some (.slice sa2 sz2.length sc2) ∧ w'.cell? ⟨w.heap.size + 1, 2, none⟩ = some (.slice da2 dz2.length dc2)) 25 #[false, false, false, false, false, false, false, false, false, false, false, false, false, false, false, false, false, false, false, false, false, false, false, false, false] (by kernel_rfl) rfl rfl ?_
  refine anyC_put 0 44 ?rv349 #[true, false, false, false, false, false, false, false, false, false, false, false, false, false, false, false, false, false, false, false, false, false, false, false, false] rfl rfl rfl (by kernel_rfl) (by kernel_rfl) (by kernel_rfl) (fun _ _ _ h => h) ?ry349 (⟨(B53.out.go hb0).c0, (B53.out.go hb0).c1, (B53.out.go hb0).c2, (B54.out.go hb0).c0, (B54.out.go hb0).c1, (B54.out.go hb0).c2⟩) ?rm349
  case ry349 => first | exact Or.inl ⟨by rfl, by intro w'; go_simp; first | done | rfl⟩
  case rm349 =>
  simp only [Act.put, List.setIfInBounds_toArray, List.set_cons_zero, List.set_cons_succ]
  refine anyC_put 1 45 ?rv350 #[true, true, false, false, false, false, false, false, false, false, false, false, false, false, false, false, false, false, false, false, false, false, false, false, false] rfl rfl rfl (by kernel_rfl) (by kernel_rfl) (by kernel_rfl) (fun _ _ _ h => h) ?ry350 (⟨(B53.out.go hb0).c0, (B53.out.go hb0).c1, (B53.out.go hb0).c2, (B54.out.go hb0).c0, (B54.out.go hb0).c1, (B54.out.go hb0).c2⟩) ?rm350
  case ry350 => first | exact Or.inl ⟨by rfl, by intro w'; go_simp; first | done | rfl⟩
  case rm350 =>
  simp only [Act.put, List.setIfInBounds_toArray, List.set_cons_zero, List.set_cons_succ]
  refine anyC_one 2 #[true, true, true, false, false, false, false, false, false, false, false, false, false, false, false, false, false, false, false, false, false, false, false, false, false] (by kernel_rfl) rfl rfl (fun K hK => ?_)
  go_simp
  go_wp2_with (go_at_call 9; refine (sring_any f g _).mono ?_; rintro e ysr ⟨rfl, hysr⟩; obtain rfl := hysr.symm; rw [srB_no GS.out])
  refine hK.out _ _ (⟨(B53.out.go hb0).c0, (B53.out.go hb0).c1, (B53.out.go hb0).c2, (B54.out.go hb0).c0, (B54.out.go hb0).c1, (B54.out.go hb0).c2⟩) ?_
  clear hK K
  refine anyC_put 3 47 ?rv352 #[true, true, true, true, false, false, false, false, false, false, false, false, false, false, false, false, false, false, false, false, false, false, false, false, false] rfl rfl rfl (by kernel_rfl) (by kernel_rfl) (by kernel_rfl) (fun _ _ _ h => h) ?ry352 (⟨(B53.out.go hb0).c0, (B53.out.go hb0).c1, (B53.out.go hb0).c2, (B54.out.go hb0).c0, (B54.out.go hb0).c1, (B54.out.go hb0).c2⟩) ?rm352
  case ry352 => first | exact Or.inl ⟨by rfl, by intro w'; go_simp; first | done | rfl⟩
  case rm352 =>
  simp only [Act.put, List.setIfInBounds_toArray, List.set_cons_zero, List.set_cons_succ]
  refine anyC_put 4 48 ?rv353 #[true, true, true, true, true, false, false, false, false, false, false, false, false, false, false, false, false, false, false, false, false, false, false, false, false] rfl rfl rfl (by kernel_rfl) (by kernel_rfl) (by kernel_rfl) (fun _ _ _ h => h) ?ry353 (⟨(B53.out.go hb0).c0, (B53.out.go hb0).c1, (B53.out.go hb0).c2, (B54.out.go hb0).c0, (B54.out.go hb0).c1, (B54.out.go hb0).c2⟩) ?rm353
  case ry353 => first | exact Or.inl ⟨by rfl, by intro w'; go_simp; first | done | rfl⟩
  case rm353 =>
  simp only [Act.put, List.setIfInBounds_toArray, List.set_cons_zero, List.set_cons_succ]
  refine anyC_take 5 49 ?rv354 #[true, true, true, true, true, true, false, false, false, false, false, false, false, false, false, false, false, false, false, false, false, false, false, false, false] rfl rfl rfl (by kernel_rfl) (by kernel_rfl) (by kernel_rfl) (fun _ _ _ h => h) ?ry354 (⟨(B53.out.go hb0).c0, (B53.out.go hb0).c1, (B53.out.go hb0).c2, (B54.out.go hb0).c0, (B54.out.go hb0).c1, (B54.out.go hb0).c2⟩) ?rm354
  case ry354 => first | exact Or.inl ⟨by rfl, by intro w' hw'; (try dsimp only at hw'); go_simp; first | done | rfl⟩ | exact Or.inr ⟨by rfl, rfl⟩ | exact Or.inr ⟨by rfl, by rfl⟩
  case rm354 =>
  simp only [Act.put, List.setIfInBounds_toArray, List.set_cons_zero, List.set_cons_succ]
  refine anyC_one 6 #[true, true, true, true, true, true, true, false, false, false, false, false, false, false, false, false, false, false, false, false, false, false, false, false, false] (by kernel_rfl) rfl rfl (fun K hK => ?_)
  go_simp
  refine hK.out _ _ (⟨(B53.out.go hb0).c0, (B53.out.go hb0).c1, (B53.out.go hb0).c2, (B54.out.go hb0).c0, (B54.out.go hb0).c1, (B54.out.go hb0).c2⟩) ?_
  clear hK K
  refine anyC_put 7 51 ?rv356 #[true, true, true, true, true, true, true, true, false, false, false, false, false, false, false, false, false, false, false, false, false, false, false, false, false] rfl rfl rfl (by kernel_rfl) (by kernel_rfl) (by kernel_rfl) (fun _ _ _ h => h) ?ry356 (⟨(B53.out.go hb0).c0, (B53.out.go hb0).c1, (B53.out.go hb0).c2, (B54.out.go hb0).c0, (B54.out.go hb0).c1, (B54.out.go hb0).c2⟩) ?rm356
  case ry356 => first | exact Or.inl ⟨by rfl, by intro w'; go_simp; first | done | rfl⟩ | exact Or.inr ⟨by rfl, rfl⟩ | exact Or.inr ⟨by rfl, by rfl⟩
  case rm356 =>
  simp only [Act.put, List.setIfInBounds_toArray, List.set_cons_zero, List.set_cons_succ]
  refine anyC_put 8 52 ?rv357 #[true, true, true, true, true, true, true, true, true, false, false, false, false, false, false, false, false, false, false, false, false, false, false, false, false] rfl rfl rfl (by kernel_rfl) (by kernel_rfl) (by kernel_rfl) (fun _ _ _ h => h) ?ry357 (⟨(B53.out.go hb0).c0, (B53.out.go hb0).c1, (B53.out.go hb0).c2, (B54.out.go hb0).c0, (B54.out.go hb0).c1, (B54.out.go hb0).c2⟩) ?rm357
  case ry357 => first | exact Or.inl ⟨by rfl, by intro w'; go_simp; first | done | rfl⟩
  case rm357 =>
  simp only [Act.put, List.setIfInBounds_toArray, List.set_cons_zero, List.set_cons_succ]
  refine anyC_put 9 53 ?rv358 #[true, true, true, true, true, true, true, true, true, true, false, false, false, false, false, false, false, false, false, false, false, false, false, false, false] rfl rfl rfl (by kernel_rfl) (by kernel_rfl) (by kernel_rfl) (fun _ _ _ h => h) ?ry358 (⟨(B53.out.go hb0).c0, (B53.out.go hb0).c1, (B53.out.go hb0).c2, (B54.out.go hb0).c0, (B54.out.go hb0).c1, (B54.out.go hb0).c2⟩) ?rm358
  case ry358 => first | exact Or.inl ⟨by rfl, by intro w'; go_simp; first | done | rfl⟩
  case rm358 =>
  simp only [Act.put, List.setIfInBounds_toArray, List.set_cons_zero, List.set_cons_succ]
  refine anyC_take 10 54 ?rv359 #[true, true, true, true, true, true, true, true, true, true, true, false, false, false, false, false, false, false, false, false, false, false, false, false, false] rfl rfl rfl (by kernel_rfl) (by kernel_rfl) (by kernel_rfl) (fun _ _ _ h => h) ?ry359 (⟨(B53.out.go hb0).c0, (B53.out.go hb0).c1, (B53.out.go hb0).c2, (B54.out.go hb0).c0, (B54.out.go hb0).c1, (B54.out.go hb0).c2⟩) ?rm359
  case ry359 => first | exact Or.inl ⟨by rfl, by intro w' hw'; (try dsimp only at hw'); go_simp; first | done | rfl⟩ | exact Or.inr ⟨by rfl, rfl⟩ | exact Or.inr ⟨by rfl, by rfl⟩
  case rm359 =>
  simp only [Act.put, List.setIfInBounds_toArray, List.set_cons_zero, List.set_cons_succ]
  refine anyC_one 11 #[true, true, true, true, true, true, true, true, true, true, true, true, false, false, false, false, false, false, false, false, false, false, false, false, false] (by kernel_rfl) rfl rfl (fun K hK => ?_)
  go_simp
  refine hK.out _ _ (⟨(B53.out.go hb0).c0, (B53.out.go hb0).c1, (B53.out.go hb0).c2, (B54.out.go hb0).c0, (B54.out.go hb0).c1, (B54.out.go hb0).c2⟩) ?_
  clear hK K
  refine anyC_put 12 56 ?rv361 #[true, true, true, true, true, true, true, true, true, true, true, true, true, false, false, false, false, false, false, false, false, false, false, false, false] rfl rfl rfl (by kernel_rfl) (by kernel_rfl) (by kernel_rfl) (fun _ _ _ h => h) ?ry361 (⟨(B53.out.go hb0).c0, (B53.out.go hb0).c1, (B53.out.go hb0).c2, (B54.out.go hb0).c0, (B54.out.go hb0).c1, (B54.out.go hb0).c2⟩) ?rm361
  case ry361 => first | exact Or.inl ⟨by rfl, by intro w'; go_simp; first | done | rfl⟩ | exact Or.inr ⟨by rfl, rfl⟩ | exact Or.inr ⟨by rfl, by rfl⟩
  case rm361 =>
  simp only [Act.put, List.setIfInBounds_toArray, List.set_cons_zero, List.set_cons_succ]
  refine anyC_put 13 57 ?rv362 #[true, true, true, true, true, true, true, true, true, true, true, true, true, true, false, false, false, false, false, false, false, false, false, false, false] rfl rfl rfl (by kernel_rfl) (by kernel_rfl) (by kernel_rfl) (fun _ _ _ h => h) ?ry362 (⟨(B53.out.go hb0).c0, (B53.out.go hb0).c1, (B53.out.go hb0).c2, (B54.out.go hb0).c0, (B54.out.go hb0).c1, (B54.out.go hb0).c2⟩) ?rm362
  case ry362 => first | exact Or.inl ⟨by rfl, by intro w'; go_simp; first | done | rfl⟩
  case rm362 =>
  simp only [Act.put, List.setIfInBounds_toArray, List.set_cons_zero, List.set_cons_succ]
  refine anyC_put 14 58 ?rv363 #[true, true, true, true, true, true, true, true, true, true, true, true, true, true, true, false, false, false, false, false, false, false, false, false, false] rfl rfl rfl (by kernel_rfl) (by kernel_rfl) (by kernel_rfl) (fun _ _ _ h => h) ?ry363 (⟨(B53.out.go hb0).c0, (B53.out.go hb0).c1, (B53.out.go hb0).c2, (B54.out.go hb0).c0, (B54.out.go hb0).c1, (B54.out.go hb0).c2⟩) ?rm363
  case ry363 => first | exact Or.inl ⟨by rfl, by intro w'; go_simp; first | done | rfl⟩
  case rm363 =>
  simp only [Act.put, List.setIfInBounds_toArray, List.set_cons_zero, List.set_cons_succ]
  refine anyC_put 15 59 ?rv364 #[true, true, true, true, true, true, true, true, true, true, true, true, true, true, true, true, false, false, false, false, false, false, false, false, false] rfl rfl rfl (by kernel_rfl) (by kernel_rfl) (by kernel_rfl) (fun _ _ _ h => h) ?ry364 (⟨(B53.out.go hb0).c0, (B53.out.go hb0).c1, (B53.out.go hb0).c2, (B54.out.go hb0).c0, (B54.out.go hb0).c1, (B54.out.go hb0).c2⟩) ?rm364
  case ry364 => first | exact Or.inl ⟨by rfl, by intro w'; go_simp; first | done | rfl⟩ | exact Or.inr ⟨by rfl, rfl⟩ | exact Or.inr ⟨by rfl, by rfl⟩
  case rm364 =>
  simp only [Act.put, List.setIfInBounds_toArray, List.set_cons_zero, List.set_cons_succ]
  refine anyC_take 16 60 ?rv365 #[true, true, true, true, true, true, true, true, true, true, true, true, true, true, true, true, true, false, false, false, false, false, false, false, false] rfl rfl rfl (by kernel_rfl) (by kernel_rfl) (by kernel_rfl) (fun _ _ _ h => h) ?ry365 (⟨(B53.out.go hb0).c0, (B53.out.go hb0).c1, (B53.out.go hb0).c2, (B54.out.go hb0).c0, (B54.out.go hb0).c1, (B54.out.go hb0).c2⟩) ?rm365
  case ry365 => first | exact Or.inl ⟨by rfl, by intro w' hw'; (try dsimp only at hw'); go_simp; first | done | rfl⟩ | exact Or.inr ⟨by rfl, rfl⟩ | exact Or.inr ⟨by rfl, by rfl⟩
  case rm365 =>
  simp only [Act.put, List.setIfInBounds_toArray, List.set_cons_zero, List.set_cons_succ]
  refine anyC_put 17 61 ?rv366 #[true, true, true, true, true, true, true, true, true, true, true, true, true, true, true, true, true, true, false, false, false, false, false, false, false] rfl rfl rfl (by kernel_rfl) (by kernel_rfl) (by kernel_rfl) (fun _ _ _ h => h) ?ry366 (⟨(B53.out.go hb0).c0, (B53.out.go hb0).c1, (B53.out.go hb0).c2, (B54.out.go hb0).c0, (B54.out.go hb0).c1, (B54.out.go hb0).c2⟩) ?rm366
  case ry366 => first | exact Or.inl ⟨by rfl, by intro w'; go_simp; first | done | rfl⟩ | exact Or.inr ⟨by rfl, rfl⟩ | exact Or.inr ⟨by rfl, by rfl⟩
  case rm366 =>
  simp only [Act.put, List.setIfInBounds_toArray, List.set_cons_zero, List.set_cons_succ]
  refine anyC_take 18 62 ?rv367 #[true, true, true, true, true, true, true, true, true, true, true, true, true, true, true, true, true, true, true, false, false, false, false, false, false] rfl rfl rfl (by kernel_rfl) (by kernel_rfl) (by kernel_rfl) (fun _ _ _ h => h) ?ry367 (⟨(B53.out.go hb0).c0, (B53.out.go hb0).c1, (B53.out.go hb0).c2, (B54.out.go hb0).c0, (B54.out.go hb0).c1, (B54.out.go hb0).c2⟩) ?rm367
  case ry367 => first | exact Or.inl ⟨by rfl, by intro w' hw'; (try dsimp only at hw'); go_simp; first | done | rfl⟩ | exact Or.inr ⟨by rfl, rfl⟩ | exact Or.inr ⟨by rfl, by rfl⟩
  case rm367 =>
  simp only [Act.put, List.setIfInBounds_toArray, List.set_cons_zero, List.set_cons_succ]
  refine anyC_put 19 63 ?rv368 #[true, true, true, true, true, true, true, true, true, true, true, true, true, true, true, true, true, true, true, true, false, false, false, false, false] rfl rfl rfl (by kernel_rfl) (by kernel_rfl) (by kernel_rfl) (fun _ _ _ h => h) ?ry368 (⟨(B53.out.go hb0).c0, (B53.out.go hb0).c1, (B53.out.go hb0).c2, (B54.out.go hb0).c0, (B54.out.go hb0).c1, (B54.out.go hb0).c2⟩) ?rm368
  case ry368 => first | exact Or.inl ⟨by rfl, by intro w'; go_simp; first | done | rfl⟩ | exact Or.inr ⟨by rfl, rfl⟩ | exact Or.inr ⟨by rfl, by rfl⟩
  case rm368 =>
  simp only [Act.put, List.setIfInBounds_toArray, List.set_cons_zero, List.set_cons_succ]
  refine anyC_take 20 64 ?rv369 #[true, true, true, true, true, true, true, true, true, true, true, true, true, true, true, true, true, true, true, true, true, false, false, false, false] rfl rfl rfl (by kernel_rfl) (by kernel_rfl) (by kernel_rfl) (fun _ _ _ h => h) ?ry369 (⟨(B53.out.go hb0).c0, (B53.out.go hb0).c1, (B53.out.go hb0).c2, (B54.out.go hb0).c0, (B54.out.go hb0).c1, (B54.out.go hb0).c2⟩) ?rm369
  case ry369 => first | exact Or.inl ⟨by rfl, by intro w' hw'; (try dsimp only at hw'); go_simp; first | done | rfl⟩ | exact Or.inr ⟨by rfl, rfl⟩ | exact Or.inr ⟨by rfl, by rfl⟩
  case rm369 =>
  simp only [Act.put, List.setIfInBounds_toArray, List.set_cons_zero, List.set_cons_succ]
  refine anyC_put 21 65 ?rv370 #[true, true, true, true, true, true, true, true, true, true, true, true, true, true, true, true, true, true, true, true, true, true, false, false, false] rfl rfl rfl (by kernel_rfl) (by kernel_rfl) (by kernel_rfl) (fun _ _ _ h => h) ?ry370 (⟨(B53.out.go hb0).c0, (B53.out.go hb0).c1, (B53.out.go hb0).c2, (B54.out.go hb0).c0, (B54.out.go hb0).c1, (B54.out.go hb0).c2⟩) ?rm370
  case ry370 => first | exact Or.inl ⟨by rfl, by intro w'; go_simp; first | done | rfl⟩ | exact Or.inr ⟨by rfl, rfl⟩ | exact Or.inr ⟨by rfl, by rfl⟩
  case rm370 =>
  simp only [Act.put, List.setIfInBounds_toArray, List.set_cons_zero, List.set_cons_succ]
  refine anyC_take 22 66 ?rv371 #[true, true, true, true, true, true, true, true, true, true, true, true, true, true, true, true, true, true, true, true, true, true, true, false, false] rfl rfl rfl (by kernel_rfl) (by kernel_rfl) (by kernel_rfl) (fun _ _ _ h => h) ?ry371 (⟨(B53.out.go hb0).c0, (B53.out.go hb0).c1, (B53.out.go hb0).c2, (B54.out.go hb0).c0, (B54.out.go hb0).c1, (B54.out.go hb0).c2⟩) ?rm371
  case ry371 => first | exact Or.inl ⟨by rfl, by intro w' hw'; (try dsimp only at hw'); go_simp; first | done | rfl⟩ | exact Or.inr ⟨by rfl, rfl⟩ | exact Or.inr ⟨by rfl, by rfl⟩
  case rm371 =>
  simp only [Act.put, List.setIfInBounds_toArray, List.set_cons_zero, List.set_cons_succ]
  refine anyC_put 23 67 ?rv372 #[true, true, true, true, true, true, true, true, true, true, true, true, true, true, true, true, true, true, true, true, true, true, true, true, false] rfl rfl rfl (by kernel_rfl) (by kernel_rfl) (by kernel_rfl) (fun _ _ _ h => h) ?ry372 (⟨(B53.out.go hb0).c0, (B53.out.go hb0).c1, (B53.out.go hb0).c2, (B54.out.go hb0).c0, (B54.out.go hb0).c1, (B54.out.go hb0).c2⟩) ?rm372
  case ry372 => first | exact Or.inl ⟨by rfl, by intro w'; go_simp; first | done | rfl⟩ | exact Or.inr ⟨by rfl, rfl⟩ | exact Or.inr ⟨by rfl, by rfl⟩
  case rm372 =>
  simp only [Act.put, List.setIfInBounds_toArray, List.set_cons_zero, List.set_cons_succ]
  refine anyC_put 24 68 ?rv373 #[true, true, true, true, true, true, true, true, true, true, true, true, true, true, true, true, true, true, true, true, true, true, true, true, true] rfl rfl rfl (by kernel_rfl) (by kernel_rfl) (by kernel_rfl) (fun _ _ _ h => h) ?ry373 (⟨(B53.out.go hb0).c0, (B53.out.go hb0).c1, (B53.out.go hb0).c2, (B54.out.go hb0).c0, (B54.out.go hb0).c1, (B54.out.go hb0).c2⟩) ?rm373
  case ry373 => first | exact Or.inl ⟨by rfl, by intro w'; go_simp; first | done | rfl⟩
  case rm373 =>
  simp only [Act.put, List.setIfInBounds_toArray, List.set_cons_zero, List.set_cons_succ]
  refine anyC_done (by kernel_rfl) ?_
  have hB := hb0
  have z59 : wo51.heap.size ≤ wo51.drew.heap.size := hB.size
  have B60 : Hid (Abx wo51.drew (w.heap.size) (.bool c1) (.slice sa1 sz1.length sc1) (.slice da1 dz1.length dc1)) := B53.out.go hB
  have B61 : Hid (Abx wo51.drew (w.heap.size + 1) (.bool c2) (.slice sa2 sz2.length sc2) (.slice da2 dz2.length dc2)) := B54.out.go hB
  have hb62 : Hid (Below w.heap.size w wo51.drew) := hb58.out.trans (hB.mono hb58.out.size)
  clear hB hb58 B53 B54
  go_wp2_with fail
  go_ret
  exact ⟨rfl, hb62.out⟩
set_option maxRecDepth 100000 in
set_option maxHeartbeats 4000000 in
theorem turned_g1 (HNi : CNi) (HFl : CFl) (f g : Int) (hf : In64 f) (hg : In64 g) (c1 : Bool) (sa1 : Option Addr) (sc1 : Nat) (sz1 : List Int) (da1 : Option Addr) (dc1 : Nat) (dz1 : List Int) (c2 : Bool) (sa2 : Option Addr) (sc2 : Nat) (sz2 : List Int) (da2 : Option Addr) (dc2 : Nat) (dz2 : List Int) (w : World) (w8 : IsArrD w sa1 sz1 sc1 da1 dz1 dc1) (w9 : IsArrD w sa2 sz2 sc2 da2 dz2 dc2) (GS : Hid (Srg f g)) (G1 : Hid (¬ GrdP 16 c1 sz1 dz1)) :
    Calls Try.prog 4 #[.int .i64 f, .int .i64 g, .agg #[.bool c1, .slice sa1 sz1.length sc1, .slice da1 dz1.length dc1], .agg #[.bool c2, .slice sa2 sz2.length sc2, .slice da2 dz2.length dc2]] w fun e w' => e = .returned (.bool true) ∧ Below w.heap.size w w' := by
  obtain ⟨x11, x12, x3, x4, s64, T⟩ := w8
  have HI1 : Hid (IsC w.heap.size w sa1 sz1 sc1 ∧ IsC w.heap.size w da1 dz1 dc1 ∧ (∀ j, In64 (nth sz1 j)) ∧ ∀ j, In64 (nth dz1 j)) := ⟨x3, x4, s64, T⟩
  clear x3 x4 T s64
  obtain ⟨x21, x22, x3, x4, s64, T⟩ := w9
  have HI2 : Hid (IsC w.heap.size w sa2 sz2 sc2 ∧ IsC w.heap.size w da2 dz2 dc2 ∧ (∀ j, In64 (nth sz2 j)) ∧ ∀ j, In64 (nth dz2 j)) := ⟨x3, x4, s64, T⟩
  clear x3 x4 T s64
  have n1 := Abx.new w (.bool c1) (.slice sa1 sz1.length sc1) (.slice da1 dz1.length dc1)
  have n2 := Abx.new (w.alloc (.cells #[.bool c1, .slice sa1 sz1.length sc1, .slice da1 dz1.length dc1] 25)) (.bool c2) (.slice sa2 sz2.length sc2) (.slice da2 dz2.length dc2)
  simp only [World.size_alloc] at n2
  have n3 := lit_mid ((w.alloc (.cells #[.bool c1, .slice sa1 sz1.length sc1, .slice da1 dz1.length dc1] 25)).alloc (.cells #[.bool c2, .slice sa2 sz2.length sc2, .slice da2 dz2.length dc2] 25)) 3 [1, 5] 2 rfl
  simp only [World.size_alloc, List.map_cons, List.map_nil] at n3
  go_enter Try.func4, Try.ntmps4
  go_wp2_with fail
  obtain ⟨wo4, hwo4⟩ : ∃ wo4, wo4 = (((w.alloc (.cells #[.bool c1, .slice sa1 sz1.length sc1, .slice da1 dz1.length dc1] 25)).alloc (.cells #[.bool c2, .slice sa2 sz2.length sc2, .slice da2 dz2.length dc2] 25)).alloc (.cells #[.int .i64 1, .int .i64 5] 3)) := ⟨_, rfl⟩
  rw [← hwo4]
  have z5 : w.heap.size + 1 + 1 + 1 ≤ wo4.heap.size := by rw [hwo4]; simp only [World.size_alloc]; omega
  have B6 : Hid (Abx wo4 (w.heap.size) (.bool c1) (.slice sa1 sz1.length sc1) (.slice da1 dz1.length dc1)) := by rw [hwo4]; exact ((n1.al (.cells #[.bool c2, .slice sa2 sz2.length sc2, .slice da2 dz2.length dc2] 25)).al (.cells #[.int .i64 1, .int .i64 5] 3))
  have B7 : Hid (Abx wo4 (w.heap.size + 1) (.bool c2) (.slice sa2 sz2.length sc2) (.slice da2 dz2.length dc2)) := by rw [hwo4]; exact (n2.al (.cells #[.int .i64 1, .int .i64 5] 3))
  have L8 : Hid (MidC (w.heap.size + 1 + 1) (w.heap.size + 1 + 1 + 1) wo4 (some ⟨w.heap.size + 1 + 1, 0, none⟩) ([1, 5]) (2)) := by rw [hwo4]; exact n3
  have hb9 : Hid (Below w.heap.size w wo4) := by rw [hwo4]; exact ((((Below.refl w.heap.size w).alloc (by omega) (.cells #[.bool c1, .slice sa1 sz1.length sc1, .slice da1 dz1.length dc1] 25)).alloc (by simp only [World.size_alloc]; omega) (.cells #[.bool c2, .slice sa2 sz2.length sc2, .slice da2 dz2.length dc2] 25)).alloc (by simp only [World.size_alloc]; omega) (.cells #[.int .i64 1, .int .i64 5] 3))
  have zwo4 : w.heap.size ≤ wo4.heap.size := hb9.out.size
  clear hwo4 n1 n2 n3
  refine (vec_c (some ⟨w.heap.size + 1 + 1, 0, none⟩) 2 [1, 5] (by simp) _ (L8.out.is (by omega)).1).mono ?_
  rintro e v1 ⟨vap, vcp, gap, gcp, rfl, hVp, hGp, hB⟩
  have z10 : wo4.heap.size ≤ v1.heap.size := hB.size
  have B11 : Hid (Abx v1 (w.heap.size) (.bool c1) (.slice sa1 sz1.length sc1) (.slice da1 dz1.length dc1)) := B6.out.go hB
  have B12 : Hid (Abx v1 (w.heap.size + 1) (.bool c2) (.slice sa2 sz2.length sc2) (.slice da2 dz2.length dc2)) := B7.out.go hB
  have L13 : Hid (MidC (w.heap.size + 1 + 1) (w.heap.size + 1 + 1 + 1) v1 (some ⟨w.heap.size + 1 + 1, 0, none⟩) ([1, 5]) (2)) := L8.out.go (by omega) hB
  have hb14 : Hid (Below w.heap.size w v1) := hb9.out.trans (hB.mono hb9.out.size)
  have L15 : Hid (MidC (wo4.heap.size) (v1.heap.size) v1 (vap) ([(2 : Int)]) (vcp)) := hVp.midc
  have L16 : Hid (MidC (wo4.heap.size) (v1.heap.size) v1 (gap) ([1, 5]) (gcp)) := hGp.midc
  clear hB hb9 B6 B7 L8 hVp hGp
  clear L13
  have n17 := lit_mid v1 3 [4, 3] 2 rfl
  simp only [List.map_cons, List.map_nil] at n17
  go_wp2_with fail
  obtain ⟨wo18, hwo18⟩ : ∃ wo18, wo18 = (v1.alloc (.cells #[.int .i64 4, .int .i64 3] 3)) := ⟨_, rfl⟩
  rw [← hwo18]
  have z19 : v1.heap.size + 1 ≤ wo18.heap.size := by rw [hwo18]; simp only [World.size_alloc]; omega
  have B20 : Hid (Abx wo18 (w.heap.size) (.bool c1) (.slice sa1 sz1.length sc1) (.slice da1 dz1.length dc1)) := by rw [hwo18]; exact (B11.out.al (.cells #[.int .i64 4, .int .i64 3] 3))
  have B21 : Hid (Abx wo18 (w.heap.size + 1) (.bool c2) (.slice sa2 sz2.length sc2) (.slice da2 dz2.length dc2)) := by rw [hwo18]; exact (B12.out.al (.cells #[.int .i64 4, .int .i64 3] 3))
  have L22 : Hid (MidC (wo4.heap.size) (v1.heap.size) wo18 (vap) ([(2 : Int)]) (vcp)) := by rw [hwo18]; exact (L15.out.al (by omega) (.cells #[.int .i64 4, .int .i64 3] 3))
  have L23 : Hid (MidC (wo4.heap.size) (v1.heap.size) wo18 (gap) ([1, 5]) (gcp)) := by rw [hwo18]; exact (L16.out.al (by omega) (.cells #[.int .i64 4, .int .i64 3] 3))
  have L24 : Hid (MidC (v1.heap.size) (v1.heap.size + 1) wo18 (some ⟨v1.heap.size, 0, none⟩) ([4, 3]) (2)) := by rw [hwo18]; exact n17
  have hb25 : Hid (Below w.heap.size w wo18) := by rw [hwo18]; exact (hb14.out.alloc (by omega) (.cells #[.int .i64 4, .int .i64 3] 3))
  have zwo18 : w.heap.size ≤ wo18.heap.size := hb25.out.size
  clear hwo18 n17 hb14 B11 B12 L15 L16
  refine (vec_c (some ⟨v1.heap.size, 0, none⟩) 2 [4, 3] (by simp) _ (L24.out.is (by omega)).1).mono ?_
  rintro e v2 ⟨vaq, vcq, gaq, gcq, rfl, hVq, hGq, hB⟩
  have z26 : wo18.heap.size ≤ v2.heap.size := hB.size
  have B27 : Hid (Abx v2 (w.heap.size) (.bool c1) (.slice sa1 sz1.length sc1) (.slice da1 dz1.length dc1)) := B20.out.go hB
  have B28 : Hid (Abx v2 (w.heap.size + 1) (.bool c2) (.slice sa2 sz2.length sc2) (.slice da2 dz2.length dc2)) := B21.out.go hB
  have L29 : Hid (MidC (wo4.heap.size) (v1.heap.size) v2 (vap) ([(2 : Int)]) (vcp)) := L22.out.go (by omega) hB
  have L30 : Hid (MidC (wo4.heap.size) (v1.heap.size) v2 (gap) ([1, 5]) (gcp)) := L23.out.go (by omega) hB
  have L31 : Hid (MidC (v1.heap.size) (v1.heap.size + 1) v2 (some ⟨v1.heap.size, 0, none⟩) ([4, 3]) (2)) := L24.out.go (by omega) hB
  have hb32 : Hid (Below w.heap.size w v2) := hb25.out.trans (hB.mono hb25.out.size)
  have L33 : Hid (MidC (wo18.heap.size) (v2.heap.size) v2 (vaq) ([(2 : Int)]) (vcq)) := hVq.midc
  have L34 : Hid (MidC (wo18.heap.size) (v2.heap.size) v2 (gaq) ([4, 3]) (gcq)) := hGq.midc
  clear hB hb25 B20 B21 L22 L23 L24 hVq hGq
  clear L31
  go_wp2_with fail
  refine (niw_ok 6 7 false vap vcp [(2 : Int)] 1 rfl gap gcp [1, 5] 2 rfl false vaq vcq [(2 : Int)] 1 rfl gaq gcq [4, 3] 2 rfl _ (by unfold In64; decide) (by unfold In64; decide) (by decide) (by decide) (L29.out.is (by omega)) (L30.out.is (by omega)).1 (lit12 (by decide)) (by decide) (by decide) (L33.out.is (by omega)) (L34.out.is (by omega)).1 (lit12 (by decide)) [] [3] HNi (by show inE 6 7 false [(2 : Int)] [1, 5] false [(2 : Int)] [4, 3] = 0 ∧ inS [(2 : Int)] [(2 : Int)] = [] ∧ inD 6 7 false [(2 : Int)] [1, 5] false [(2 : Int)] [4, 3] = [3]; decide +kernel)).mono ?_
  rintro e v3 ⟨f1, g1, f2, g2, rfl, hX0, hY0, hB⟩
  have z35 : v2.heap.size ≤ v3.heap.size := hB.size
  have B36 : Hid (Abx v3 (w.heap.size) (.bool c1) (.slice sa1 sz1.length sc1) (.slice da1 dz1.length dc1)) := B27.out.go hB
  have B37 : Hid (Abx v3 (w.heap.size + 1) (.bool c2) (.slice sa2 sz2.length sc2) (.slice da2 dz2.length dc2)) := B28.out.go hB
  have L38 : Hid (MidC (wo4.heap.size) (v1.heap.size) v3 (vap) ([(2 : Int)]) (vcp)) := L29.out.go (by omega) hB
  have L39 : Hid (MidC (wo4.heap.size) (v1.heap.size) v3 (gap) ([1, 5]) (gcp)) := L30.out.go (by omega) hB
  have L40 : Hid (MidC (wo18.heap.size) (v2.heap.size) v3 (vaq) ([(2 : Int)]) (vcq)) := L33.out.go (by omega) hB
  have L41 : Hid (MidC (wo18.heap.size) (v2.heap.size) v3 (gaq) ([4, 3]) (gcq)) := L34.out.go (by omega) hB
  have hb42 : Hid (Below w.heap.size w v3) := hb32.out.trans (hB.mono hb32.out.size)
  have L43 : Hid (MidC (v2.heap.size) (v3.heap.size) v3 (f1) ([]) (g1)) := hX0.midc
  have L44 : Hid (MidC (v2.heap.size) (v3.heap.size) v3 (f2) ([3]) (g2)) := hY0.midc
  clear hB hb32 B27 B28 L29 L30 L33 L34 hX0 hY0
  clear L38 L39 L40 L41
  obtain ⟨b45, ob45, rfl, _, _, _, _⟩ := L44.out.at (i := 0) (by decide)
  have n46 := Abx.new v3 (.bool false) (.slice f1 0 g1) (.slice (some ⟨b45, ob45, none⟩) 1 g2)
  have l47 := (n46).c0
  have l48 := (n46).c1
  have l49 := (n46).c2
  obtain ⟨_, _, l50e, _, _, l50, _⟩ := ((L44.out.al (by omega) (.cells #[.bool false, .slice f1 0 g1, .slice (some ⟨b45, ob45, none⟩) 1 g2] 25))).at (i := 0) (by decide)
  cases l50e
  try simp only [Nat.add_zero] at l50
  go_wp2_with fail
  obtain ⟨wo51, hwo51⟩ : ∃ wo51, wo51 = (v3.alloc (.cells #[.bool false, .slice f1 0 g1, .slice (some ⟨b45, ob45, none⟩) 1 g2] 25)) := ⟨_, rfl⟩
  rw [← hwo51]
  have z52 : v3.heap.size + 1 ≤ wo51.heap.size := by rw [hwo51]; simp only [World.size_alloc]; omega
  have B53 : Hid (Abx wo51 (w.heap.size) (.bool c1) (.slice sa1 sz1.length sc1) (.slice da1 dz1.length dc1)) := by rw [hwo51]; exact (B36.out.al (.cells #[.bool false, .slice f1 0 g1, .slice (some ⟨b45, ob45, none⟩) 1 g2] 25))
  have B54 : Hid (Abx wo51 (w.heap.size + 1) (.bool c2) (.slice sa2 sz2.length sc2) (.slice da2 dz2.length dc2)) := by rw [hwo51]; exact (B37.out.al (.cells #[.bool false, .slice f1 0 g1, .slice (some ⟨b45, ob45, none⟩) 1 g2] 25))
  have B55 : Hid (Abx wo51 (v3.heap.size) (.bool false) (.slice f1 0 g1) (.slice (some ⟨b45, ob45, none⟩) 1 g2)) := by rw [hwo51]; exact n46
  have L56 : Hid (MidC (v2.heap.size) (v3.heap.size) wo51 (f1) ([]) (g1)) := by rw [hwo51]; exact (L43.out.al (by omega) (.cells #[.bool false, .slice f1 0 g1, .slice (some ⟨b45, ob45, none⟩) 1 g2] 25))
  have L57 : Hid (MidC (v2.heap.size) (v3.heap.size) wo51 (some ⟨b45, ob45, none⟩) ([3]) (g2)) := by rw [hwo51]; exact (L44.out.al (by omega) (.cells #[.bool false, .slice f1 0 g1, .slice (some ⟨b45, ob45, none⟩) 1 g2] 25))
  have hb58 : Hid (Below w.heap.size w wo51) := by rw [hwo51]; exact (hb42.out.alloc (by omega) (.cells #[.bool false, .slice f1 0 g1, .slice (some ⟨b45, ob45, none⟩) 1 g2] 25))
  have zwo51 : w.heap.size ≤ wo51.heap.size := hb58.out.size
  clear hwo51 n46 l47 l48 l49 l50 hb42 B36 B37 L43 L44
  clear L56 L57 B55
  have hb0 : Below wo51.heap.size wo51 wo51.drew := (Below.refl _ wo51).drew
  refine anyC_begin (fun w' => w'.cell? ⟨w.heap.size, 0, none⟩ = some (.bool c1) ∧ w'.cell? ⟨w.heap.size, 1, none⟩ = some (.slice sa1 sz1.length sc1) ∧ w'.cell? ⟨w.heap.size, 2, none⟩ = some (.slice da1 dz1.length dc1) ∧ w'.cell? ⟨w.heap.size + 1, 0, none⟩ = some (.bool c2) ∧ w'.cell? ⟨w.heap.size + 1, 1, none⟩ = some (.slice sa2 sz2.length sc2) ∧ w'.cell? ⟨w.heap.size + 1, 2, none⟩ = some (.slice da2 dz2.length dc2)) 25 #[false, false, false, false, false, false, false, false, false, false, false, false, false, false, false, false, false, false, false, false, false, false, false, false, false] (by kernel_rfl) rfl rfl ?_
  refine anyC_put 0 44 ?rv374 #[true, false, false, false, false, false, false, false, false, false, false, false, false, false, false, false, false, false, false, false, false, false, false, false, false] rfl rfl rfl (by kernel_rfl) (by kernel_rfl) (by kernel_rfl) (fun _ _ _ h => h) ?ry374 (⟨(B53.out.go hb0).c0, (B53.out.go hb0).c1, (B53.out.go hb0).c2, (B54.out.go hb0).c0, (B54.out.go hb0).c1, (B54.out.go hb0).c2⟩) ?rm374
  case ry374 => first | exact Or.inl ⟨by rfl, by intro w'; go_simp; first | done | rfl⟩
  case rm374 =>
  simp only [Act.put, List.setIfInBounds_toArray, List.set_cons_zero, List.set_cons_succ]
  refine anyC_put 1 45 ?rv375 #[true, true, false, false, false, false, false, false, false, false, false, false, false, false, false, false, false, false, false, false, false, false, false, false, false] rfl rfl rfl (by kernel_rfl) (by kernel_rfl) (by kernel_rfl) (fun _ _ _ h => h) ?ry375 (⟨(B53.out.go hb0).c0, (B53.out.go hb0).c1, (B53.out.go hb0).c2, (B54.out.go hb0).c0, (B54.out.go hb0).c1, (B54.out.go hb0).c2⟩) ?rm375
  case ry375 => first | exact Or.inl ⟨by rfl, by intro w'; go_simp; first | done | rfl⟩
  case rm375 =>
  simp only [Act.put, List.setIfInBounds_toArray, List.set_cons_zero, List.set_cons_succ]
  refine anyC_one 2 #[true, true, true, false, false, false, false, false, false, false, false, false, false, false, false, false, false, false, false, false, false, false, false, false, false] (by kernel_rfl) rfl rfl (fun K hK => ?_)
  go_simp
  go_wp2_with (go_at_call 9; refine (sring_any f g _).mono ?_; rintro e ysr ⟨rfl, hysr⟩; obtain rfl := hysr.symm; rw [srB_yes GS.out])
  refine hK.out _ _ (⟨(B53.out.go hb0).c0, (B53.out.go hb0).c1, (B53.out.go hb0).c2, (B54.out.go hb0).c0, (B54.out.go hb0).c1, (B54.out.go hb0).c2⟩) ?_
  clear hK K
  refine anyC_put 3 47 ?rv377 #[true, true, true, true, false, false, false, false, false, false, false, false, false, false, false, false, false, false, false, false, false, false, false, false, false] rfl rfl rfl (by kernel_rfl) (by kernel_rfl) (by kernel_rfl) (fun _ _ _ h => h) ?ry377 (⟨(B53.out.go hb0).c0, (B53.out.go hb0).c1, (B53.out.go hb0).c2, (B54.out.go hb0).c0, (B54.out.go hb0).c1, (B54.out.go hb0).c2⟩) ?rm377
  case ry377 => first | exact Or.inl ⟨by rfl, by intro w'; go_simp; first | done | rfl⟩
  case rm377 =>
  simp only [Act.put, List.setIfInBounds_toArray, List.set_cons_zero, List.set_cons_succ]
  refine anyC_put 4 48 ?rv378 #[true, true, true, true, true, false, false, false, false, false, false, false, false, false, false, false, false, false, false, false, false, false, false, false, false] rfl rfl rfl (by kernel_rfl) (by kernel_rfl) (by kernel_rfl) (fun _ _ _ h => h) ?ry378 (⟨(B53.out.go hb0).c0, (B53.out.go hb0).c1, (B53.out.go hb0).c2, (B54.out.go hb0).c0, (B54.out.go hb0).c1, (B54.out.go hb0).c2⟩) ?rm378
  case ry378 => first | exact Or.inl ⟨by rfl, by intro w'; go_simp; first | done | rfl⟩
  case rm378 =>
  simp only [Act.put, List.setIfInBounds_toArray, List.set_cons_zero, List.set_cons_succ]
  refine anyC_take 5 49 ?rv379 #[true, true, true, true, true, true, false, false, false, false, false, false, false, false, false, false, false, false, false, false, false, false, false, false, false] rfl rfl rfl (by kernel_rfl) (by kernel_rfl) (by kernel_rfl) (fun _ _ _ h => h) ?ry379 (⟨(B53.out.go hb0).c0, (B53.out.go hb0).c1, (B53.out.go hb0).c2, (B54.out.go hb0).c0, (B54.out.go hb0).c1, (B54.out.go hb0).c2⟩) ?rm379
  case ry379 => first | exact Or.inl ⟨by rfl, by intro w' hw'; (try dsimp only at hw'); go_simp; first | done | rfl⟩ | exact Or.inr ⟨by rfl, rfl⟩ | exact Or.inr ⟨by rfl, by rfl⟩
  case rm379 =>
  simp only [Act.put, List.setIfInBounds_toArray, List.set_cons_zero, List.set_cons_succ]
  refine anyC_one 6 #[true, true, true, true, true, true, true, false, false, false, false, false, false, false, false, false, false, false, false, false, false, false, false, false, false] (by kernel_rfl) rfl rfl (fun K hK => ?_)
  go_simp
  go_wp2_with (go_at_call 10; refine (grid_no 16 (by decide) c1 sa1 sc1 sz1 da1 dc1 dz1 _ ((HI1.out.1.1.below (hb58.out.trans (hb0.mono hb58.out.size))).mono (hb58.out.trans (hb0.mono hb58.out.size)).size) G1.out).mono ?_; rintro e y1 ⟨rfl, hBy1⟩)
  have hby1 : Below wo51.heap.size wo51 y1 := hb0.trans (hBy1.mono hb0.size)
  refine hK.out _ _ (⟨(B53.out.go hby1).c0, (B53.out.go hby1).c1, (B53.out.go hby1).c2, (B54.out.go hby1).c0, (B54.out.go hby1).c1, (B54.out.go hby1).c2⟩) ?_
  clear hK K
  refine anyC_put 7 51 ?rv381 #[true, true, true, true, true, true, true, true, false, false, false, false, false, false, false, false, false, false, false, false, false, false, false, false, false] rfl rfl rfl (by kernel_rfl) (by kernel_rfl) (by kernel_rfl) (fun _ _ _ h => h) ?ry381 (⟨(B53.out.go hby1).c0, (B53.out.go hby1).c1, (B53.out.go hby1).c2, (B54.out.go hby1).c0, (B54.out.go hby1).c1, (B54.out.go hby1).c2⟩) ?rm381
  case ry381 => first | exact Or.inl ⟨by rfl, by intro w'; go_simp; first | done | rfl⟩ | exact Or.inr ⟨by rfl, rfl⟩ | exact Or.inr ⟨by rfl, by rfl⟩
  case rm381 =>
  simp only [Act.put, List.setIfInBounds_toArray, List.set_cons_zero, List.set_cons_succ]
  refine anyC_put 8 52 ?rv382 #[true, true, true, true, true, true, true, true, true, false, false, false, false, false, false, false, false, false, false, false, false, false, false, false, false] rfl rfl rfl (by kernel_rfl) (by kernel_rfl) (by kernel_rfl) (fun _ _ _ h => h) ?ry382 (⟨(B53.out.go hby1).c0, (B53.out.go hby1).c1, (B53.out.go hby1).c2, (B54.out.go hby1).c0, (B54.out.go hby1).c1, (B54.out.go hby1).c2⟩) ?rm382
  case ry382 => first | exact Or.inl ⟨by rfl, by intro w'; go_simp; first | done | rfl⟩
  case rm382 =>
  simp only [Act.put, List.setIfInBounds_toArray, List.set_cons_zero, List.set_cons_succ]
  refine anyC_put 9 53 ?rv383 #[true, true, true, true, true, true, true, true, true, true, false, false, false, false, false, false, false, false, false, false, false, false, false, false, false] rfl rfl rfl (by kernel_rfl) (by kernel_rfl) (by kernel_rfl) (fun _ _ _ h => h) ?ry383 (⟨(B53.out.go hby1).c0, (B53.out.go hby1).c1, (B53.out.go hby1).c2, (B54.out.go hby1).c0, (B54.out.go hby1).c1, (B54.out.go hby1).c2⟩) ?rm383
  case ry383 => first | exact Or.inl ⟨by rfl, by intro w'; go_simp; first | done | rfl⟩
  case rm383 =>
  simp only [Act.put, List.setIfInBounds_toArray, List.set_cons_zero, List.set_cons_succ]
  refine anyC_take 10 54 ?rv384 #[true, true, true, true, true, true, true, true, true, true, true, false, false, false, false, false, false, false, false, false, false, false, false, false, false] rfl rfl rfl (by kernel_rfl) (by kernel_rfl) (by kernel_rfl) (fun _ _ _ h => h) ?ry384 (⟨(B53.out.go hby1).c0, (B53.out.go hby1).c1, (B53.out.go hby1).c2, (B54.out.go hby1).c0, (B54.out.go hby1).c1, (B54.out.go hby1).c2⟩) ?rm384
  case ry384 => first | exact Or.inl ⟨by rfl, by intro w' hw'; (try dsimp only at hw'); go_simp; first | done | rfl⟩ | exact Or.inr ⟨by rfl, rfl⟩ | exact Or.inr ⟨by rfl, by rfl⟩
  case rm384 =>
  simp only [Act.put, List.setIfInBounds_toArray, List.set_cons_zero, List.set_cons_succ]
  refine anyC_one 11 #[true, true, true, true, true, true, true, true, true, true, true, true, false, false, false, false, false, false, false, false, false, false, false, false, false] (by kernel_rfl) rfl rfl (fun K hK => ?_)
  go_simp
  refine hK.out _ _ (⟨(B53.out.go hby1).c0, (B53.out.go hby1).c1, (B53.out.go hby1).c2, (B54.out.go hby1).c0, (B54.out.go hby1).c1, (B54.out.go hby1).c2⟩) ?_
  clear hK K
  refine anyC_put 12 56 ?rv386 #[true, true, true, true, true, true, true, true, true, true, true, true, true, false, false, false, false, false, false, false, false, false, false, false, false] rfl rfl rfl (by kernel_rfl) (by kernel_rfl) (by kernel_rfl) (fun _ _ _ h => h) ?ry386 (⟨(B53.out.go hby1).c0, (B53.out.go hby1).c1, (B53.out.go hby1).c2, (B54.out.go hby1).c0, (B54.out.go hby1).c1, (B54.out.go hby1).c2⟩) ?rm386
  case ry386 => first | exact Or.inl ⟨by rfl, by intro w'; go_simp; first | done | rfl⟩ | exact Or.inr ⟨by rfl, rfl⟩ | exact Or.inr ⟨by rfl, by rfl⟩
  case rm386 =>
  simp only [Act.put, List.setIfInBounds_toArray, List.set_cons_zero, List.set_cons_succ]
  refine anyC_put 13 57 ?rv387 #[true, true, true, true, true, true, true, true, true, true, true, true, true, true, false, false, false, false, false, false, false, false, false, false, false] rfl rfl rfl (by kernel_rfl) (by kernel_rfl) (by kernel_rfl) (fun _ _ _ h => h) ?ry387 (⟨(B53.out.go hby1).c0, (B53.out.go hby1).c1, (B53.out.go hby1).c2, (B54.out.go hby1).c0, (B54.out.go hby1).c1, (B54.out.go hby1).c2⟩) ?rm387
  case ry387 => first | exact Or.inl ⟨by rfl, by intro w'; go_simp; first | done | rfl⟩
  case rm387 =>
  simp only [Act.put, List.setIfInBounds_toArray, List.set_cons_zero, List.set_cons_succ]
  refine anyC_put 14 58 ?rv388 #[true, true, true, true, true, true, true, true, true, true, true, true, true, true, true, false, false, false, false, false, false, false, false, false, false] rfl rfl rfl (by kernel_rfl) (by kernel_rfl) (by kernel_rfl) (fun _ _ _ h => h) ?ry388 (⟨(B53.out.go hby1).c0, (B53.out.go hby1).c1, (B53.out.go hby1).c2, (B54.out.go hby1).c0, (B54.out.go hby1).c1, (B54.out.go hby1).c2⟩) ?rm388
  case ry388 => first | exact Or.inl ⟨by rfl, by intro w'; go_simp; first | done | rfl⟩
  case rm388 =>
  simp only [Act.put, List.setIfInBounds_toArray, List.set_cons_zero, List.set_cons_succ]
  refine anyC_put 15 59 ?rv389 #[true, true, true, true, true, true, true, true, true, true, true, true, true, true, true, true, false, false, false, false, false, false, false, false, false] rfl rfl rfl (by kernel_rfl) (by kernel_rfl) (by kernel_rfl) (fun _ _ _ h => h) ?ry389 (⟨(B53.out.go hby1).c0, (B53.out.go hby1).c1, (B53.out.go hby1).c2, (B54.out.go hby1).c0, (B54.out.go hby1).c1, (B54.out.go hby1).c2⟩) ?rm389
  case ry389 => first | exact Or.inl ⟨by rfl, by intro w'; go_simp; first | done | rfl⟩ | exact Or.inr ⟨by rfl, rfl⟩ | exact Or.inr ⟨by rfl, by rfl⟩
  case rm389 =>
  simp only [Act.put, List.setIfInBounds_toArray, List.set_cons_zero, List.set_cons_succ]
  refine anyC_take 16 60 ?rv390 #[true, true, true, true, true, true, true, true, true, true, true, true, true, true, true, true, true, false, false, false, false, false, false, false, false] rfl rfl rfl (by kernel_rfl) (by kernel_rfl) (by kernel_rfl) (fun _ _ _ h => h) ?ry390 (⟨(B53.out.go hby1).c0, (B53.out.go hby1).c1, (B53.out.go hby1).c2, (B54.out.go hby1).c0, (B54.out.go hby1).c1, (B54.out.go hby1).c2⟩) ?rm390
  case ry390 => first | exact Or.inl ⟨by rfl, by intro w' hw'; (try dsimp only at hw'); go_simp; first | done | rfl⟩ | exact Or.inr ⟨by rfl, rfl⟩ | exact Or.inr ⟨by rfl, by rfl⟩
  case rm390 =>
  simp only [Act.put, List.setIfInBounds_toArray, List.set_cons_zero, List.set_cons_succ]
  refine anyC_put 17 61 ?rv391 #[true, true, true, true, true, true, true, true, true, true, true, true, true, true, true, true, true, true, false, false, false, false, false, false, false] rfl rfl rfl (by kernel_rfl) (by kernel_rfl) (by kernel_rfl) (fun _ _ _ h => h) ?ry391 (⟨(B53.out.go hby1).c0, (B53.out.go hby1).c1, (B53.out.go hby1).c2, (B54.out.go hby1).c0, (B54.out.go hby1).c1, (B54.out.go hby1).c2⟩) ?rm391
  case ry391 => first | exact Or.inl ⟨by rfl, by intro w'; go_simp; first | done | rfl⟩ | exact Or.inr ⟨by rfl, rfl⟩ | exact Or.inr ⟨by rfl, by rfl⟩
  case rm391 =>
  simp only [Act.put, List.setIfInBounds_toArray, List.set_cons_zero, List.set_cons_succ]
  refine anyC_take 18 62 ?rv392 #[true, true, true, true, true, true, true, true, true, true, true, true, true, true, true, true, true, true, true, false, false, false, false, false, false] rfl rfl rfl (by kernel_rfl) (by kernel_rfl) (by kernel_rfl) (fun _ _ _ h => h) ?ry392 (⟨(B53.out.go hby1).c0, (B53.out.go hby1).c1, (B53.out.go hby1).c2, (B54.out.go hby1).c0, (B54.out.go hby1).c1, (B54.out.go hby1).c2⟩) ?rm392
  case ry392 => first | exact Or.inl ⟨by rfl, by intro w' hw'; (try dsimp only at hw'); go_simp; first | done | rfl⟩ | exact Or.inr ⟨by rfl, rfl⟩ | exact Or.inr ⟨by rfl, by rfl⟩
  case rm392 =>
  simp only [Act.put, List.setIfInBounds_toArray, List.set_cons_zero, List.set_cons_succ]
  refine anyC_put 19 63 ?rv393 #[true, true, true, true, true, true, true, true, true, true, true, true, true, true, true, true, true, true, true, true, false, false, false, false, false] rfl rfl rfl (by kernel_rfl) (by kernel_rfl) (by kernel_rfl) (fun _ _ _ h => h) ?ry393 (⟨(B53.out.go hby1).c0, (B53.out.go hby1).c1, (B53.out.go hby1).c2, (B54.out.go hby1).c0, (B54.out.go hby1).c1, (B54.out.go hby1).c2⟩) ?rm393
  case ry393 => first | exact Or.inl ⟨by rfl, by intro w'; go_simp; first | done | rfl⟩ | exact Or.inr ⟨by rfl, rfl⟩ | exact Or.inr ⟨by rfl, by rfl⟩
  case rm393 =>
  simp only [Act.put, List.setIfInBounds_toArray, List.set_cons_zero, List.set_cons_succ]
  refine anyC_take 20 64 ?rv394 #[true, true, true, true, true, true, true, true, true, true, true, true, true, true, true, true, true, true, true, true, true, false, false, false, false] rfl rfl rfl (by kernel_rfl) (by kernel_rfl) (by kernel_rfl) (fun _ _ _ h => h) ?ry394 (⟨(B53.out.go hby1).c0, (B53.out.go hby1).c1, (B53.out.go hby1).c2, (B54.out.go hby1).c0, (B54.out.go hby1).c1, (B54.out.go hby1).c2⟩) ?rm394
  case ry394 => first | exact Or.inl ⟨by rfl, by intro w' hw'; (try dsimp only at hw'); go_simp; first | done | rfl⟩ | exact Or.inr ⟨by rfl, rfl⟩ | exact Or.inr ⟨by rfl, by rfl⟩
  case rm394 =>
  simp only [Act.put, List.setIfInBounds_toArray, List.set_cons_zero, List.set_cons_succ]
  refine anyC_put 21 65 ?rv395 #[true, true, true, true, true, true, true, true, true, true, true, true, true, true, true, true, true, true, true, true, true, true, false, false, false] rfl rfl rfl (by kernel_rfl) (by kernel_rfl) (by kernel_rfl) (fun _ _ _ h => h) ?ry395 (⟨(B53.out.go hby1).c0, (B53.out.go hby1).c1, (B53.out.go hby1).c2, (B54.out.go hby1).c0, (B54.out.go hby1).c1, (B54.out.go hby1).c2⟩) ?rm395
  case ry395 => first | exact Or.inl ⟨by rfl, by intro w'; go_simp; first | done | rfl⟩ | exact Or.inr ⟨by rfl, rfl⟩ | exact Or.inr ⟨by rfl, by rfl⟩
  case rm395 =>
  simp only [Act.put, List.setIfInBounds_toArray, List.set_cons_zero, List.set_cons_succ]
  refine anyC_take 22 66 ?rv396 #[true, true, true, true, true, true, true, true, true, true, true, true, true, true, true, true, true, true, true, true, true, true, true, false, false] rfl rfl rfl (by kernel_rfl) (by kernel_rfl) (by kernel_rfl) (fun _ _ _ h => h) ?ry396 (⟨(B53.out.go hby1).c0, (B53.out.go hby1).c1, (B53.out.go hby1).c2, (B54.out.go hby1).c0, (B54.out.go hby1).c1, (B54.out.go hby1).c2⟩) ?rm396
  case ry396 => first | exact Or.inl ⟨by rfl, by intro w' hw'; (try dsimp only at hw'); go_simp; first | done | rfl⟩ | exact Or.inr ⟨by rfl, rfl⟩ | exact Or.inr ⟨by rfl, by rfl⟩
  case rm396 =>
  simp only [Act.put, List.setIfInBounds_toArray, List.set_cons_zero, List.set_cons_succ]
  refine anyC_put 23 67 ?rv397 #[true, true, true, true, true, true, true, true, true, true, true, true, true, true, true, true, true, true, true, true, true, true, true, true, false] rfl rfl rfl (by kernel_rfl) (by kernel_rfl) (by kernel_rfl) (fun _ _ _ h => h) ?ry397 (⟨(B53.out.go hby1).c0, (B53.out.go hby1).c1, (B53.out.go hby1).c2, (B54.out.go hby1).c0, (B54.out.go hby1).c1, (B54.out.go hby1).c2⟩) ?rm397
  case ry397 => first | exact Or.inl ⟨by rfl, by intro w'; go_simp; first | done | rfl⟩ | exact Or.inr ⟨by rfl, rfl⟩ | exact Or.inr ⟨by rfl, by rfl⟩
  case rm397 =>
  simp only [Act.put, List.setIfInBounds_toArray, List.set_cons_zero, List.set_cons_succ]
  refine anyC_put 24 68 ?rv398 #[true, true, true, true, true, true, true, true, true, true, true, true, true, true, true, true, true, true, true, true, true, true, true, true, true] rfl rfl rfl (by kernel_rfl) (by kernel_rfl) (by kernel_rfl) (fun _ _ _ h => h) ?ry398 (⟨(B53.out.go hby1).c0, (B53.out.go hby1).c1, (B53.out.go hby1).c2, (B54.out.go hby1).c0, (B54.out.go hby1).c1, (B54.out.go hby1).c2⟩) ?rm398
  case ry398 => first | exact Or.inl ⟨by rfl, by intro w'; go_simp; first | done | rfl⟩
  case rm398 =>
  simp only [Act.put, List.setIfInBounds_toArray, List.set_cons_zero, List.set_cons_succ]
  refine anyC_done (by kernel_rfl) ?_
  have hB := hby1
  have z59 : wo51.heap.size ≤ y1.heap.size := hB.size
  have B60 : Hid (Abx y1 (w.heap.size) (.bool c1) (.slice sa1 sz1.length sc1) (.slice da1 dz1.length dc1)) := B53.out.go hB
  have B61 : Hid (Abx y1 (w.heap.size + 1) (.bool c2) (.slice sa2 sz2.length sc2) (.slice da2 dz2.length dc2)) := B54.out.go hB
  have hb62 : Hid (Below w.heap.size w y1) := hb58.out.trans (hB.mono hb58.out.size)
  clear hB hb58 B53 B54
  go_wp2_with fail
  go_ret
  exact ⟨rfl, hb62.out⟩
set_option maxRecDepth 100000 in
set_option maxHeartbeats 4000000 in
theorem turned_g2 (HNi : CNi) (HFl : CFl) (f g : Int) (hf : In64 f) (hg : In64 g) (c1 : Bool) (sa1 : Option Addr) (sc1 : Nat) (sz1 : List Int) (da1 : Option Addr) (dc1 : Nat) (dz1 : List Int) (c2 : Bool) (sa2 : Option Addr) (sc2 : Nat) (sz2 : List Int) (da2 : Option Addr) (dc2 : Nat) (dz2 : List Int) (w : World) (w8 : IsArrD w sa1 sz1 sc1 da1 dz1 dc1) (w9 : IsArrD w sa2 sz2 sc2 da2 dz2 dc2) (GS : Hid (Srg f g)) (G1 : Hid (GrdP 16 c1 sz1 dz1)) (G2 : Hid (¬ GrdP 16 c2 sz2 dz2)) :
    Calls Try.prog 4 #[.int .i64 f, .int .i64 g, .agg #[.bool c1, .slice sa1 sz1.length sc1, .slice da1 dz1.length dc1], .agg #[.bool c2, .slice sa2 sz2.length sc2, .slice da2 dz2.length dc2]] w fun e w' => e = .returned (.bool true) ∧ Below w.heap.size w w' := by
  obtain ⟨x11, x12, x3, x4, s64, T⟩ := w8
  have HI1 : Hid (IsC w.heap.size w sa1 sz1 sc1 ∧ IsC w.heap.size w da1 dz1 dc1 ∧ (∀ j, In64 (nth sz1 j)) ∧ ∀ j, In64 (nth dz1 j)) := ⟨x3, x4, s64, T⟩
  clear x3 x4 T s64
  obtain ⟨x21, x22, x3, x4, s64, T⟩ := w9
  have HI2 : Hid (IsC w.heap.size w sa2 sz2 sc2 ∧ IsC w.heap.size w da2 dz2 dc2 ∧ (∀ j, In64 (nth sz2 j)) ∧ ∀ j, In64 (nth dz2 j)) := ⟨x3, x4, s64, T⟩
  clear x3 x4 T s64
  have n1 := Abx.new w (.bool c1) (.slice sa1 sz1.length sc1) (.slice da1 dz1.length dc1)
  have n2 := Abx.new (w.alloc (.cells #[.bool c1, .slice sa1 sz1.length sc1, .slice da1 dz1.length dc1] 25)) (.bool c2) (.slice sa2 sz2.length sc2) (.slice da2 dz2.length dc2)
  simp only [World.size_alloc] at n2
  have n3 := lit_mid ((w.alloc (.cells #[.bool c1, .slice sa1 sz1.length sc1, .slice da1 dz1.length dc1] 25)).alloc (.cells #[.bool c2, .slice sa2 sz2.length sc2, .slice da2 dz2.length dc2] 25)) 3 [1, 5] 2 rfl
  simp only [World.size_alloc, List.map_cons, List.map_nil] at n3
  go_enter Try.func4, Try.ntmps4
  go_wp2_with fail
  obtain ⟨wo4, hwo4⟩ : ∃ wo4, wo4 = (((w.alloc (.cells #[.bool c1, .slice sa1 sz1.length sc1, .slice da1 dz1.length dc1] 25)).alloc (.cells #[.bool c2, .slice sa2 sz2.length sc2, .slice da2 dz2.length dc2] 25)).alloc (.cells #[.int .i64 1, .int .i64 5] 3)) := ⟨_, rfl⟩
  rw [← hwo4]
  have z5 : w.heap.size + 1 + 1 + 1 ≤ wo4.heap.size := by rw [hwo4]; simp only [World.size_alloc]; omega
  have B6 : Hid (Abx wo4 (w.heap.size) (.bool c1) (.slice sa1 sz1.length sc1) (.slice da1 dz1.length dc1)) := by rw [hwo4]; exact ((n1.al (.cells #[.bool c2, .slice sa2 sz2.length sc2, .slice da2 dz2.length dc2] 25)).al (.cells #[.int .i64 1, .int .i64 5] 3))
  have B7 : Hid (Abx wo4 (w.heap.size + 1) (.bool c2) (.slice sa2 sz2.length sc2) (.slice da2 dz2.length dc2)) := by rw [hwo4]; exact (n2.al (.cells #[.int .i64 1, .int .i64 5] 3))
  have L8 : Hid (MidC (w.heap.size + 1 + 1) (w.heap.size + 1 + 1 + 1) wo4 (some ⟨w.heap.size + 1 + 1, 0, none⟩) ([1, 5]) (2)) := by rw [hwo4]; exact n3
  have hb9 : Hid (Below w.heap.size w wo4) := by rw [hwo4]; exact ((((Below.refl w.heap.size w).alloc (by omega) (.cells #[.bool c1, .slice sa1 sz1.length sc1, .slice da1 dz1.length dc1] 25)).alloc (by simp only [World.size_alloc]; omega) (.cells #[.bool c2, .slice sa2 sz2.length sc2, .slice da2 dz2.length dc2] 25)).alloc (by simp only [World.size_alloc]; omega) (.cells #[.int .i64 1, .int .i64 5] 3))
  have zwo4 : w.heap.size ≤ wo4.heap.size := hb9.out.size
  clear hwo4 n1 n2 n3
  refine (vec_c (some ⟨w.heap.size + 1 + 1, 0, none⟩) 2 [1, 5] (by simp) _ (L8.out.is (by omega)).1).mono ?_
  rintro e v1 ⟨vap, vcp, gap, gcp, rfl, hVp, hGp, hB⟩
  have z10 : wo4.heap.size ≤ v1.heap.size := hB.size
  have B11 : Hid (Abx v1 (w.heap.size) (.bool c1) (.slice sa1 sz1.length sc1) (.slice da1 dz1.length dc1)) := B6.out.go hB
  have B12 : Hid (Abx v1 (w.heap.size + 1) (.bool c2) (.slice sa2 sz2.length sc2) (.slice da2 dz2.length dc2)) := B7.out.go hB
  have L13 : Hid (MidC (w.heap.size + 1 + 1) (w.heap.size + 1 + 1 + 1) v1 (some ⟨w.heap.size + 1 + 1, 0, none⟩) ([1, 5]) (2)) := L8.out.go (by omega) hB
  have hb14 : Hid (Below w.heap.size w v1) := hb9.out.trans (hB.mono hb9.out.size)
  have L15 : Hid (MidC (wo4.heap.size) (v1.heap.size) v1 (vap) ([(2 : Int)]) (vcp)) := hVp.midc
  have L16 : Hid (MidC (wo4.heap.size) (v1.heap.size) v1 (gap) ([1, 5]) (gcp)) := hGp.midc
  clear hB hb9 B6 B7 L8 hVp hGp
  clear L13
  have n17 := lit_mid v1 3 [4, 3] 2 rfl
  simp only [List.map_cons, List.map_nil] at n17
  go_wp2_with fail
  obtain ⟨wo18, hwo18⟩ : ∃ wo18, wo18 = (v1.alloc (.cells #[.int .i64 4, .int .i64 3] 3)) := ⟨_, rfl⟩
  rw [← hwo18]
  have z19 : v1.heap.size + 1 ≤ wo18.heap.size := by rw [hwo18]; simp only [World.size_alloc]; omega
  have B20 : Hid (Abx wo18 (w.heap.size) (.bool c1) (.slice sa1 sz1.length sc1) (.slice da1 dz1.length dc1)) := by rw [hwo18]; exact (B11.out.al (.cells #[.int .i64 4, .int .i64 3] 3))
  have B21 : Hid (Abx wo18 (w.heap.size + 1) (.bool c2) (.slice sa2 sz2.length sc2) (.slice da2 dz2.length dc2)) := by rw [hwo18]; exact (B12.out.al (.cells #[.int .i64 4, .int .i64 3] 3))
  have L22 : Hid (MidC (wo4.heap.size) (v1.heap.size) wo18 (vap) ([(2 : Int)]) (vcp)) := by rw [hwo18]; exact (L15.out.al (by omega) (.cells #[.int .i64 4, .int .i64 3] 3))
  have L23 : Hid (MidC (wo4.heap.size) (v1.heap.size) wo18 (gap) ([1, 5]) (gcp)) := by rw [hwo18]; exact (L16.out.al (by omega) (.cells #[.int .i64 4, .int .i64 3] 3))
  have L24 : Hid (MidC (v1.heap.size) (v1.heap.size + 1) wo18 (some ⟨v1.heap.size, 0, none⟩) ([4, 3]) (2)) := by rw [hwo18]; exact n17
  have hb25 : Hid (Below w.heap.size w wo18) := by rw [hwo18]; exact (hb14.out.alloc (by omega) (.cells #[.int .i64 4, .int .i64 3] 3))
  have zwo18 : w.heap.size ≤ wo18.heap.size := hb25.out.size
  clear hwo18 n17 hb14 B11 B12 L15 L16
  refine (vec_c (some ⟨v1.heap.size, 0, none⟩) 2 [4, 3] (by simp) _ (L24.out.is (by omega)).1).mono ?_
  rintro e v2 ⟨vaq, vcq, gaq, gcq, rfl, hVq, hGq, hB⟩
  have z26 : wo18.heap.size ≤ v2.heap.size := hB.size
  have B27 : Hid (Abx v2 (w.heap.size) (.bool c1) (.slice sa1 sz1.length sc1) (.slice da1 dz1.length dc1)) := B20.out.go hB
  have B28 : Hid (Abx v2 (w.heap.size + 1) (.bool c2) (.slice sa2 sz2.length sc2) (.slice da2 dz2.length dc2)) := B21.out.go hB
  have L29 : Hid (MidC (wo4.heap.size) (v1.heap.size) v2 (vap) ([(2 : Int)]) (vcp)) := L22.out.go (by omega) hB
  have L30 : Hid (MidC (wo4.heap.size) (v1.heap.size) v2 (gap) ([1, 5]) (gcp)) := L23.out.go (by omega) hB
  have L31 : Hid (MidC (v1.heap.size) (v1.heap.size + 1) v2 (some ⟨v1.heap.size, 0, none⟩) ([4, 3]) (2)) := L24.out.go (by omega) hB
  have hb32 : Hid (Below w.heap.size w v2) := hb25.out.trans (hB.mono hb25.out.size)
  have L33 : Hid (MidC (wo18.heap.size) (v2.heap.size) v2 (vaq) ([(2 : Int)]) (vcq)) := hVq.midc
  have L34 : Hid (MidC (wo18.heap.size) (v2.heap.size) v2 (gaq) ([4, 3]) (gcq)) := hGq.midc
  clear hB hb25 B20 B21 L22 L23 L24 hVq hGq
  clear L31
  go_wp2_with fail
  refine (niw_ok 6 7 false vap vcp [(2 : Int)] 1 rfl gap gcp [1, 5] 2 rfl false vaq vcq [(2 : Int)] 1 rfl gaq gcq [4, 3] 2 rfl _ (by unfold In64; decide) (by unfold In64; decide) (by decide) (by decide) (L29.out.is (by omega)) (L30.out.is (by omega)).1 (lit12 (by decide)) (by decide) (by decide) (L33.out.is (by omega)) (L34.out.is (by omega)).1 (lit12 (by decide)) [] [3] HNi (by show inE 6 7 false [(2 : Int)] [1, 5] false [(2 : Int)] [4, 3] = 0 ∧ inS [(2 : Int)] [(2 : Int)] = [] ∧ inD 6 7 false [(2 : Int)] [1, 5] false [(2 : Int)] [4, 3] = [3]; decide +kernel)).mono ?_
  rintro e v3 ⟨f1, g1, f2, g2, rfl, hX0, hY0, hB⟩
  have z35 : v2.heap.size ≤ v3.heap.size := hB.size
  have B36 : Hid (Abx v3 (w.heap.size) (.bool c1) (.slice sa1 sz1.length sc1) (.slice da1 dz1.length dc1)) := B27.out.go hB
  have B37 : Hid (Abx v3 (w.heap.size + 1) (.bool c2) (.slice sa2 sz2.length sc2) (.slice da2 dz2.length dc2)) := B28.out.go hB
  have L38 : Hid (MidC (wo4.heap.size) (v1.heap.size) v3 (vap) ([(2 : Int)]) (vcp)) := L29.out.go (by omega) hB
  have L39 : Hid (MidC (wo4.heap.size) (v1.heap.size) v3 (gap) ([1, 5]) (gcp)) := L30.out.go (by omega) hB
  have L40 : Hid (MidC (wo18.heap.size) (v2.heap.size) v3 (vaq) ([(2 : Int)]) (vcq)) := L33.out.go (by omega) hB
  have L41 : Hid (MidC (wo18.heap.size) (v2.heap.size) v3 (gaq) ([4, 3]) (gcq)) := L34.out.go (by omega) hB
  have hb42 : Hid (Below w.heap.size w v3) := hb32.out.trans (hB.mono hb32.out.size)
  have L43 : Hid (MidC (v2.heap.size) (v3.heap.size) v3 (f1) ([]) (g1)) := hX0.midc
  have L44 : Hid (MidC (v2.heap.size) (v3.heap.size) v3 (f2) ([3]) (g2)) := hY0.midc
  clear hB hb32 B27 B28 L29 L30 L33 L34 hX0 hY0
  clear L38 L39 L40 L41
  obtain ⟨b45, ob45, rfl, _, _, _, _⟩ := L44.out.at (i := 0) (by decide)
  have n46 := Abx.new v3 (.bool false) (.slice f1 0 g1) (.slice (some ⟨b45, ob45, none⟩) 1 g2)
  have l47 := (n46).c0
  have l48 := (n46).c1
  have l49 := (n46).c2
  obtain ⟨_, _, l50e, _, _, l50, _⟩ := ((L44.out.al (by omega) (.cells #[.bool false, .slice f1 0 g1, .slice (some ⟨b45, ob45, none⟩) 1 g2] 25))).at (i := 0) (by decide)
  cases l50e
  try simp only [Nat.add_zero] at l50
  go_wp2_with fail
  obtain ⟨wo51, hwo51⟩ : ∃ wo51, wo51 = (v3.alloc (.cells #[.bool false, .slice f1 0 g1, .slice (some ⟨b45, ob45, none⟩) 1 g2] 25)) := ⟨_, rfl⟩
  rw [← hwo51]
  have z52 : v3.heap.size + 1 ≤ wo51.heap.size := by rw [hwo51]; simp only [World.size_alloc]; omega
  have B53 : Hid (Abx wo51 (w.heap.size) (.bool c1) (.slice sa1 sz1.length sc1) (.slice da1 dz1.length dc1)) := by rw [hwo51]; exact (B36.out.al (.cells #[.bool false, .slice f1 0 g1, .slice (some ⟨b45, ob45, none⟩) 1 g2] 25))
  have B54 : Hid (Abx wo51 (w.heap.size + 1) (.bool c2) (.slice sa2 sz2.length sc2) (.slice da2 dz2.length dc2)) := by rw [hwo51]; exact (B37.out.al (.cells #[.bool false, .slice f1 0 g1, .slice (some ⟨b45, ob45, none⟩) 1 g2] 25))
  have B55 : Hid (Abx wo51 (v3.heap.size) (.bool false) (.slice f1 0 g1) (.slice (some ⟨b45, ob45, none⟩) 1 g2)) := by rw [hwo51]; exact n46
  have L56 : Hid (MidC (v2.heap.size) (v3.heap.size) wo51 (f1) ([]) (g1)) := by rw [hwo51]; exact (L43.out.al (by omega) (.cells #[.bool false, .slice f1 0 g1, .slice (some ⟨b45, ob45, none⟩) 1 g2] 25))
  have L57 : Hid (MidC (v2.heap.size) (v3.heap.size) wo51 (some ⟨b45, ob45, none⟩) ([3]) (g2)) := by rw [hwo51]; exact (L44.out.al (by omega) (.cells #[.bool false, .slice f1 0 g1, .slice (some ⟨b45, ob45, none⟩) 1 g2] 25))
  have hb58 : Hid (Below w.heap.size w wo51) := by rw [hwo51]; exact (hb42.out.alloc (by omega) (.cells #[.bool false, .slice f1 0 g1, .slice (some ⟨b45, ob45, none⟩) 1 g2] 25))
  have zwo51 : w.heap.size ≤ wo51.heap.size := hb58.out.size
  clear hwo51 n46 l47 l48 l49 l50 hb42 B36 B37 L43 L44
  clear L56 L57 B55
  have hb0 : Below wo51.heap.size wo51 wo51.drew := (Below.refl _ wo51).drew
  refine anyC_begin (fun w' => w'.cell? ⟨w.heap.size, 0, none⟩ = some (.bool c1) ∧ w'.cell? ⟨w.heap.size, 1, none⟩ = some (.slice sa1 sz1.length sc1) ∧ w'.cell? ⟨w.heap.size, 2, none⟩ = some (.slice da1 dz1.length dc1) ∧ w'.cell? ⟨w.heap.size + 1, 0, none⟩ = some (.bool c2) ∧ w'.cell? ⟨w.heap.size + 1, 1, none⟩ = some (.slice sa2 sz2.length sc2) ∧ w'.cell? ⟨w.heap.size + 1, 2, none⟩ = some (.slice da2 dz2.length dc2)) 25 #[false, false, false, false, false, false, false, false, false, false, false, false, false, false, false, false, false, false, false, false, false, false, false, false, false] (by kernel_rfl) rfl rfl ?_
  refine anyC_put 0 44 ?rv399 #[true, false, false, false, false, false, false, false, false, false, false, false, false, false, false, false, false, false, false, false, false, false, false, false, false] rfl rfl rfl (by kernel_rfl) (by kernel_rfl) (by kernel_rfl) (fun _ _ _ h => h) ?ry399 (⟨(B53.out.go hb0).c0, (B53.out.go hb0).c1, (B53.out.go hb0).c2, (B54.out.go hb0).c0, (B54.out.go hb0).c1, (B54.out.go hb0).c2⟩) ?rm399
  case ry399 => first | exact Or.inl ⟨by rfl, by intro w'; go_simp; first | done | rfl⟩
  case rm399 =>
  simp only [Act.put, List.setIfInBounds_toArray, List.set_cons_zero, List.set_cons_succ]
  refine anyC_put 1 45 ?rv400 #[true, true, false, false, false, false, false, false, false, false, false, false, false, false, false, false, false, false, false, false, false, false, false, false, false] rfl rfl rfl (by kernel_rfl) (by kernel_rfl) (by kernel_rfl) (fun _ _ _ h => h) ?ry400 (⟨(B53.out.go hb0).c0, (B53.out.go hb0).c1, (B53.out.go hb0).c2, (B54.out.go hb0).c0, (B54.out.go hb0).c1, (B54.out.go hb0).c2⟩) ?rm400
  case ry400 => first | exact Or.inl ⟨by rfl, by intro w'; go_simp; first | done | rfl⟩
  case rm400 =>
  simp only [Act.put, List.setIfInBounds_toArray, List.set_cons_zero, List.set_cons_succ]
  refine anyC_one 2 #[true, true, true, false, false, false, false, false, false, false, false, false, false, false, false, false, false, false, false, false, false, false, false, false, false] (by kernel_rfl) rfl rfl (fun K hK => ?_)
  go_simp
  go_wp2_with (go_at_call 9; refine (sring_any f g _).mono ?_; rintro e ysr ⟨rfl, hysr⟩; obtain rfl := hysr.symm; rw [srB_yes GS.out])
  refine hK.out _ _ (⟨(B53.out.go hb0).c0, (B53.out.go hb0).c1, (B53.out.go hb0).c2, (B54.out.go hb0).c0, (B54.out.go hb0).c1, (B54.out.go hb0).c2⟩) ?_
  clear hK K
  refine anyC_put 3 47 ?rv402 #[true, true, true, true, false, false, false, false, false, false, false, false, false, false, false, false, false, false, false, false, false, false, false, false, false] rfl rfl rfl (by kernel_rfl) (by kernel_rfl) (by kernel_rfl) (fun _ _ _ h => h) ?ry402 (⟨(B53.out.go hb0).c0, (B53.out.go hb0).c1, (B53.out.go hb0).c2, (B54.out.go hb0).c0, (B54.out.go hb0).c1, (B54.out.go hb0).c2⟩) ?rm402
  case ry402 => first | exact Or.inl ⟨by rfl, by intro w'; go_simp; first | done | rfl⟩
  case rm402 =>
  simp only [Act.put, List.setIfInBounds_toArray, List.set_cons_zero, List.set_cons_succ]
  refine anyC_put 4 48 ?rv403 #[true, true, true, true, true, false, false, false, false, false, false, false, false, false, false, false, false, false, false, false, false, false, false, false, false] rfl rfl rfl (by kernel_rfl) (by kernel_rfl) (by kernel_rfl) (fun _ _ _ h => h) ?ry403 (⟨(B53.out.go hb0).c0, (B53.out.go hb0).c1, (B53.out.go hb0).c2, (B54.out.go hb0).c0, (B54.out.go hb0).c1, (B54.out.go hb0).c2⟩) ?rm403
  case ry403 => first | exact Or.inl ⟨by rfl, by intro w'; go_simp; first | done | rfl⟩
  case rm403 =>
  simp only [Act.put, List.setIfInBounds_toArray, List.set_cons_zero, List.set_cons_succ]
  refine anyC_take 5 49 ?rv404 #[true, true, true, true, true, true, false, false, false, false, false, false, false, false, false, false, false, false, false, false, false, false, false, false, false] rfl rfl rfl (by kernel_rfl) (by kernel_rfl) (by kernel_rfl) (fun _ _ _ h => h) ?ry404 (⟨(B53.out.go hb0).c0, (B53.out.go hb0).c1, (B53.out.go hb0).c2, (B54.out.go hb0).c0, (B54.out.go hb0).c1, (B54.out.go hb0).c2⟩) ?rm404
  case ry404 => first | exact Or.inl ⟨by rfl, by intro w' hw'; (try dsimp only at hw'); go_simp; first | done | rfl⟩ | exact Or.inr ⟨by rfl, rfl⟩ | exact Or.inr ⟨by rfl, by rfl⟩
  case rm404 =>
  simp only [Act.put, List.setIfInBounds_toArray, List.set_cons_zero, List.set_cons_succ]
  refine anyC_one 6 #[true, true, true, true, true, true, true, false, false, false, false, false, false, false, false, false, false, false, false, false, false, false, false, false, false] (by kernel_rfl) rfl rfl (fun K hK => ?_)
  go_simp
  go_wp2_with (go_at_call 10; refine (grid_yes 16 (by decide) c1 sa1 sc1 sz1 da1 dc1 dz1 _ ((HI1.out.1.1.below (hb58.out.trans (hb0.mono hb58.out.size))).mono (hb58.out.trans (hb0.mono hb58.out.size)).size) G1.out).mono ?_; rintro e y1 ⟨rfl, hBy1⟩)
  have hby1 : Below wo51.heap.size wo51 y1 := hb0.trans (hBy1.mono hb0.size)
  refine hK.out _ _ (⟨(B53.out.go hby1).c0, (B53.out.go hby1).c1, (B53.out.go hby1).c2, (B54.out.go hby1).c0, (B54.out.go hby1).c1, (B54.out.go hby1).c2⟩) ?_
  clear hK K
  refine anyC_put 7 51 ?rv406 #[true, true, true, true, true, true, true, true, false, false, false, false, false, false, false, false, false, false, false, false, false, false, false, false, false] rfl rfl rfl (by kernel_rfl) (by kernel_rfl) (by kernel_rfl) (fun _ _ _ h => h) ?ry406 (⟨(B53.out.go hby1).c0, (B53.out.go hby1).c1, (B53.out.go hby1).c2, (B54.out.go hby1).c0, (B54.out.go hby1).c1, (B54.out.go hby1).c2⟩) ?rm406
  case ry406 => first | exact Or.inl ⟨by rfl, by intro w'; go_simp; first | done | rfl⟩ | exact Or.inr ⟨by rfl, rfl⟩ | exact Or.inr ⟨by rfl, by rfl⟩
  case rm406 =>
  simp only [Act.put, List.setIfInBounds_toArray, List.set_cons_zero, List.set_cons_succ]
  refine anyC_put 8 52 ?rv407 #[true, true, true, true, true, true, true, true, true, false, false, false, false, false, false, false, false, false, false, false, false, false, false, false, false] rfl rfl rfl (by kernel_rfl) (by kernel_rfl) (by kernel_rfl) (fun _ _ _ h => h) ?ry407 (⟨(B53.out.go hby1).c0, (B53.out.go hby1).c1, (B53.out.go hby1).c2, (B54.out.go hby1).c0, (B54.out.go hby1).c1, (B54.out.go hby1).c2⟩) ?rm407
  case ry407 => first | exact Or.inl ⟨by rfl, by intro w'; go_simp; first | done | rfl⟩
  case rm407 =>
  simp only [Act.put, List.setIfInBounds_toArray, List.set_cons_zero, List.set_cons_succ]
  refine anyC_put 9 53 ?rv408 #[true, true, true, true, true, true, true, true, true, true, false, false, false, false, false, false, false, false, false, false, false, false, false, false, false] rfl rfl rfl (by kernel_rfl) (by kernel_rfl) (by kernel_rfl) (fun _ _ _ h => h) ?ry408 (⟨(B53.out.go hby1).c0, (B53.out.go hby1).c1, (B53.out.go hby1).c2, (B54.out.go hby1).c0, (B54.out.go hby1).c1, (B54.out.go hby1).c2⟩) ?rm408
  case ry408 => first | exact Or.inl ⟨by rfl, by intro w'; go_simp; first | done | rfl⟩
  case rm408 =>
  simp only [Act.put, List.setIfInBounds_toArray, List.set_cons_zero, List.set_cons_succ]
  refine anyC_take 10 54 ?rv409 #[true, true, true, true, true, true, true, true, true, true, true, false, false, false, false, false, false, false, false, false, false, false, false, false, false] rfl rfl rfl (by kernel_rfl) (by kernel_rfl) (by kernel_rfl) (fun _ _ _ h => h) ?ry409 (⟨(B53.out.go hby1).c0, (B53.out.go hby1).c1, (B53.out.go hby1).c2, (B54.out.go hby1).c0, (B54.out.go hby1).c1, (B54.out.go hby1).c2⟩) ?rm409
  case ry409 => first | exact Or.inl ⟨by rfl, by intro w' hw'; (try dsimp only at hw'); go_simp; first | done | rfl⟩ | exact Or.inr ⟨by rfl, rfl⟩ | exact Or.inr ⟨by rfl, by rfl⟩
  case rm409 =>
  simp only [Act.put, List.setIfInBounds_toArray, List.set_cons_zero, List.set_cons_succ]
  refine anyC_one 11 #[true, true, true, true, true, true, true, true, true, true, true, true, false, false, false, false, false, false, false, false, false, false, false, false, false] (by kernel_rfl) rfl rfl (fun K hK => ?_)
  go_simp
  go_wp2_with (go_at_call 10; refine (grid_no 16 (by decide) c2 sa2 sc2 sz2 da2 dc2 dz2 _ ((HI2.out.1.1.below (hb58.out.trans (hby1.mono hb58.out.size))).mono (hb58.out.trans (hby1.mono hb58.out.size)).size) G2.out).mono ?_; rintro e y2 ⟨rfl, hBy2⟩)
  have hby2 : Below wo51.heap.size wo51 y2 := hby1.trans (hBy2.mono hby1.size)
  refine hK.out _ _ (⟨(B53.out.go hby2).c0, (B53.out.go hby2).c1, (B53.out.go hby2).c2, (B54.out.go hby2).c0, (B54.out.go hby2).c1, (B54.out.go hby2).c2⟩) ?_
  clear hK K
  refine anyC_put 12 56 ?rv411 #[true, true, true, true, true, true, true, true, true, true, true, true, true, false, false, false, false, false, false, false, false, false, false, false, false] rfl rfl rfl (by kernel_rfl) (by kernel_rfl) (by kernel_rfl) (fun _ _ _ h => h) ?ry411 (⟨(B53.out.go hby2).c0, (B53.out.go hby2).c1, (B53.out.go hby2).c2, (B54.out.go hby2).c0, (B54.out.go hby2).c1, (B54.out.go hby2).c2⟩) ?rm411
  case ry411 => first | exact Or.inl ⟨by rfl, by intro w'; go_simp; first | done | rfl⟩ | exact Or.inr ⟨by rfl, rfl⟩ | exact Or.inr ⟨by rfl, by rfl⟩
  case rm411 =>
  simp only [Act.put, List.setIfInBounds_toArray, List.set_cons_zero, List.set_cons_succ]
  refine anyC_put 13 57 ?rv412 #[true, true, true, true, true, true, true, true, true, true, true, true, true, true, false, false, false, false, false, false, false, false, false, false, false] rfl rfl rfl (by kernel_rfl) (by kernel_rfl) (by kernel_rfl) (fun _ _ _ h => h) ?ry412 (⟨(B53.out.go hby2).c0, (B53.out.go hby2).c1, (B53.out.go hby2).c2, (B54.out.go hby2).c0, (B54.out.go hby2).c1, (B54.out.go hby2).c2⟩) ?rm412
  case ry412 => first | exact Or.inl ⟨by rfl, by intro w'; go_simp; first | done | rfl⟩
  case rm412 =>
  simp only [Act.put, List.setIfInBounds_toArray, List.set_cons_zero, List.set_cons_succ]
  refine anyC_put 14 58 ?rv413 #[true, true, true, true, true, true, true, true, true, true, true, true, true, true, true, false, false, false, false, false, false, false, false, false, false] rfl rfl rfl (by kernel_rfl) (by kernel_rfl) (by kernel_rfl) (fun _ _ _ h => h) ?ry413 (⟨(B53.out.go hby2).c0, (B53.out.go hby2).c1, (B53.out.go hby2).c2, (B54.out.go hby2).c0, (B54.out.go hby2).c1, (B54.out.go hby2).c2⟩) ?rm413
  case ry413 => first | exact Or.inl ⟨by rfl, by intro w'; go_simp; first | done | rfl⟩
  case rm413 =>
  simp only [Act.put, List.setIfInBounds_toArray, List.set_cons_zero, List.set_cons_succ]
  refine anyC_put 15 59 ?rv414 #[true, true, true, true, true, true, true, true, true, true, true, true, true, true, true, true, false, false, false, false, false, false, false, false, false] rfl rfl rfl (by kernel_rfl) (by kernel_rfl) (by kernel_rfl) (fun _ _ _ h => h) ?ry414 (⟨(B53.out.go hby2).c0, (B53.out.go hby2).c1, (B53.out.go hby2).c2, (B54.out.go hby2).c0, (B54.out.go hby2).c1, (B54.out.go hby2).c2⟩) ?rm414
  case ry414 => first | exact Or.inl ⟨by rfl, by intro w'; go_simp; first | done | rfl⟩ | exact Or.inr ⟨by rfl, rfl⟩ | exact Or.inr ⟨by rfl, by rfl⟩
  case rm414 =>
  simp only [Act.put, List.setIfInBounds_toArray, List.set_cons_zero, List.set_cons_succ]
  refine anyC_take 16 60 ?rv415 #[true, true, true, true, true, true, true, true, true, true, true, true, true, true, true, true, true, false, false, false, false, false, false, false, false] rfl rfl rfl (by kernel_rfl) (by kernel_rfl) (by kernel_rfl) (fun _ _ _ h => h) ?ry415 (⟨(B53.out.go hby2).c0, (B53.out.go hby2).c1, (B53.out.go hby2).c2, (B54.out.go hby2).c0, (B54.out.go hby2).c1, (B54.out.go hby2).c2⟩) ?rm415
  case ry415 => first | exact Or.inl ⟨by rfl, by intro w' hw'; (try dsimp only at hw'); go_simp; first | done | rfl⟩ | exact Or.inr ⟨by rfl, rfl⟩ | exact Or.inr ⟨by rfl, by rfl⟩
  case rm415 =>
  simp only [Act.put, List.setIfInBounds_toArray, List.set_cons_zero, List.set_cons_succ]
  refine anyC_put 17 61 ?rv416 #[true, true, true, true, true, true, true, true, true, true, true, true, true, true, true, true, true, true, false, false, false, false, false, false, false] rfl rfl rfl (by kernel_rfl) (by kernel_rfl) (by kernel_rfl) (fun _ _ _ h => h) ?ry416 (⟨(B53.out.go hby2).c0, (B53.out.go hby2).c1, (B53.out.go hby2).c2, (B54.out.go hby2).c0, (B54.out.go hby2).c1, (B54.out.go hby2).c2⟩) ?rm416
  case ry416 => first | exact Or.inl ⟨by rfl, by intro w'; go_simp; first | done | rfl⟩ | exact Or.inr ⟨by rfl, rfl⟩ | exact Or.inr ⟨by rfl, by rfl⟩
  case rm416 =>
  simp only [Act.put, List.setIfInBounds_toArray, List.set_cons_zero, List.set_cons_succ]
  refine anyC_take 18 62 ?rv417 #[true, true, true, true, true, true, true, true, true, true, true, true, true, true, true, true, true, true, true, false, false, false, false, false, false] rfl rfl rfl (by kernel_rfl) (by kernel_rfl) (by kernel_rfl) (fun _ _ _ h => h) ?ry417 (⟨(B53.out.go hby2).c0, (B53.out.go hby2).c1, (B53.out.go hby2).c2, (B54.out.go hby2).c0, (B54.out.go hby2).c1, (B54.out.go hby2).c2⟩) ?rm417
  case ry417 => first | exact Or.inl ⟨by rfl, by intro w' hw'; (try dsimp only at hw'); go_simp; first | done | rfl⟩ | exact Or.inr ⟨by rfl, rfl⟩ | exact Or.inr ⟨by rfl, by rfl⟩
  case rm417 =>
  simp only [Act.put, List.setIfInBounds_toArray, List.set_cons_zero, List.set_cons_succ]
  refine anyC_put 19 63 ?rv418 #[true, true, true, true, true, true, true, true, true, true, true, true, true, true, true, true, true, true, true, true, false, false, false, false, false] rfl rfl rfl (by kernel_rfl) (by kernel_rfl) (by kernel_rfl) (fun _ _ _ h => h) ?ry418 (⟨(B53.out.go hby2).c0, (B53.out.go hby2).c1, (B53.out.go hby2).c2, (B54.out.go hby2).c0, (B54.out.go hby2).c1, (B54.out.go hby2).c2⟩) ?rm418
  case ry418 => first | exact Or.inl ⟨by rfl, by intro w'; go_simp; first | done | rfl⟩ | exact Or.inr ⟨by rfl, rfl⟩ | exact Or.inr ⟨by rfl, by rfl⟩
  case rm418 =>
  simp only [Act.put, List.setIfInBounds_toArray, List.set_cons_zero, List.set_cons_succ]
  refine anyC_take 20 64 ?rv419 #[true, true, true, true, true, true, true, true, true, true, true, true, true, true, true, true, true, true, true, true, true, false, false, false, false] rfl rfl rfl (by kernel_rfl) (by kernel_rfl) (by kernel_rfl) (fun _ _ _ h => h) ?ry419 (⟨(B53.out.go hby2).c0, (B53.out.go hby2).c1, (B53.out.go hby2).c2, (B54.out.go hby2).c0, (B54.out.go hby2).c1, (B54.out.go hby2).c2⟩) ?rm419
  case ry419 => first | exact Or.inl ⟨by rfl, by intro w' hw'; (try dsimp only at hw'); go_simp; first | done | rfl⟩ | exact Or.inr ⟨by rfl, rfl⟩ | exact Or.inr ⟨by rfl, by rfl⟩
  case rm419 =>
  simp only [Act.put, List.setIfInBounds_toArray, List.set_cons_zero, List.set_cons_succ]
  refine anyC_put 21 65 ?rv420 #[true, true, true, true, true, true, true, true, true, true, true, true, true, true, true, true, true, true, true, true, true, true, false, false, false] rfl rfl rfl (by kernel_rfl) (by kernel_rfl) (by kernel_rfl) (fun _ _ _ h => h) ?ry420 (⟨(B53.out.go hby2).c0, (B53.out.go hby2).c1, (B53.out.go hby2).c2, (B54.out.go hby2).c0, (B54.out.go hby2).c1, (B54.out.go hby2).c2⟩) ?rm420
  case ry420 => first | exact Or.inl ⟨by rfl, by intro w'; go_simp; first | done | rfl⟩ | exact Or.inr ⟨by rfl, rfl⟩ | exact Or.inr ⟨by rfl, by rfl⟩
  case rm420 =>
  simp only [Act.put, List.setIfInBounds_toArray, List.set_cons_zero, List.set_cons_succ]
  refine anyC_take 22 66 ?rv421 #[true, true, true, true, true, true, true, true, true, true, true, true, true, true, true, true, true, true, true, true, true, true, true, false, false] rfl rfl rfl (by kernel_rfl) (by kernel_rfl) (by kernel_rfl) (fun _ _ _ h => h) ?ry421 (⟨(B53.out.go hby2).c0, (B53.out.go hby2).c1, (B53.out.go hby2).c2, (B54.out.go hby2).c0, (B54.out.go hby2).c1, (B54.out.go hby2).c2⟩) ?rm421
  case ry421 => first | exact Or.inl ⟨by rfl, by intro w' hw'; (try dsimp only at hw'); go_simp; first | done | rfl⟩ | exact Or.inr ⟨by rfl, rfl⟩ | exact Or.inr ⟨by rfl, by rfl⟩
  case rm421 =>
  simp only [Act.put, List.setIfInBounds_toArray, List.set_cons_zero, List.set_cons_succ]
  refine anyC_put 23 67 ?rv422 #[true, true, true, true, true, true, true, true, true, true, true, true, true, true, true, true, true, true, true, true, true, true, true, true, false] rfl rfl rfl (by kernel_rfl) (by kernel_rfl) (by kernel_rfl) (fun _ _ _ h => h) ?ry422 (⟨(B53.out.go hby2).c0, (B53.out.go hby2).c1, (B53.out.go hby2).c2, (B54.out.go hby2).c0, (B54.out.go hby2).c1, (B54.out.go hby2).c2⟩) ?rm422
  case ry422 => first | exact Or.inl ⟨by rfl, by intro w'; go_simp; first | done | rfl⟩ | exact Or.inr ⟨by rfl, rfl⟩ | exact Or.inr ⟨by rfl, by rfl⟩
  case rm422 =>
  simp only [Act.put, List.setIfInBounds_toArray, List.set_cons_zero, List.set_cons_succ]
  refine anyC_put 24 68 ?rv423 #[true, true, true, true, true, true, true, true, true, true, true, true, true, true, true, true, true, true, true, true, true, true, true, true, true] rfl rfl rfl (by kernel_rfl) (by kernel_rfl) (by kernel_rfl) (fun _ _ _ h => h) ?ry423 (⟨(B53.out.go hby2).c0, (B53.out.go hby2).c1, (B53.out.go hby2).c2, (B54.out.go hby2).c0, (B54.out.go hby2).c1, (B54.out.go hby2).c2⟩) ?rm423
  case ry423 => first | exact Or.inl ⟨by rfl, by intro w'; go_simp; first | done | rfl⟩
  case rm423 =>
  simp only [Act.put, List.setIfInBounds_toArray, List.set_cons_zero, List.set_cons_succ]
  refine anyC_done (by kernel_rfl) ?_
  have hB := hby2
  have z59 : wo51.heap.size ≤ y2.heap.size := hB.size
  have B60 : Hid (Abx y2 (w.heap.size) (.bool c1) (.slice sa1 sz1.length sc1) (.slice da1 dz1.length dc1)) := B53.out.go hB
  have B61 : Hid (Abx y2 (w.heap.size + 1) (.bool c2) (.slice sa2 sz2.length sc2) (.slice da2 dz2.length dc2)) := B54.out.go hB
  have hb62 : Hid (Below w.heap.size w y2) := hb58.out.trans (hB.mono hb58.out.size)
  clear hB hb58 B53 B54
  go_wp2_with fail
  go_ret
  exact ⟨rfl, hb62.out⟩
set_option maxRecDepth 100000 in
set_option maxHeartbeats 4000000 in
theorem turned_ab (HNi : CNi) (HFl : CFl) (f g : Int) (hf : In64 f) (hg : In64 g) (c1 : Bool) (sa1 : Option Addr) (sc1 : Nat) (sz1 : List Int) (da1 : Option Addr) (dc1 : Nat) (dz1 : List Int) (c2 : Bool) (sa2 : Option Addr) (sc2 : Nat) (sz2 : List Int) (da2 : Option Addr) (dc2 : Nat) (dz2 : List Int) (w : World) (w8 : IsArrD w sa1 sz1 sc1 da1 dz1 dc1) (w9 : IsArrD w sa2 sz2 sc2 da2 dz2 dc2) (GS : Hid (Srg f g)) (G1 : Hid (GrdP 16 c1 sz1 dz1)) (G2 : Hid (GrdP 16 c2 sz2 dz2)) (E1 : Hid (¬ nth sz1 1 = nth sz2 0)) :
    Calls Try.prog 4 #[.int .i64 f, .int .i64 g, .agg #[.bool c1, .slice sa1 sz1.length sc1, .slice da1 dz1.length dc1], .agg #[.bool c2, .slice sa2 sz2.length sc2, .slice da2 dz2.length dc2]] w fun e w' => e = .returned (.bool true) ∧ Below w.heap.size w w' := by
  obtain ⟨b1, o1, rfl, hq1, hc1⟩ := w8.2.2.1.1.at (q := 0) (by rw [G1.out.2.1]; decide)
  have hcf1 := G1.out.1
  subst hcf1
  obtain ⟨m1, hm1⟩ : ∃ m, m = nth sz1 0 := ⟨_, rfl⟩
  obtain ⟨n1, hn1⟩ : ∃ n, n = nth sz1 1 := ⟨_, rfl⟩
  have HC1 : Hid (b1 < w.heap.size ∧ w.cell? ⟨b1, o1, none⟩ = some (.int .i64 m1) ∧ w.cell? ⟨b1, o1 + 1, none⟩ = some (.int .i64 n1)) := ⟨hq1, by have := hc1 0 (by rw [G1.out.2.1]; decide); rw [Nat.add_zero, ← hm1] at this; exact this, by rw [hn1]; exact hc1 1 (by rw [G1.out.2.1]; decide)⟩
  have HM1 : Hid (m1 = nth sz1 0 ∧ n1 = nth sz1 1) := ⟨hm1, hn1⟩
  have hz1 : sz1.length = 2 := G1.out.2.1
  have HZ1 : Hid (sz1.length = 2) := hz1
  have lz1 : 1 < sz1.length := by omega
  have ly1 : 0 < sz1.length := by omega
  have lw1 : (1 : Int) < (sz1.length : Int) := by omega
  have lv1 : (0 : Int) < (sz1.length : Int) := by omega
  clear hq1 hc1 hm1 hn1 hz1
  obtain ⟨b2, o2, rfl, hq2, hc2⟩ := w9.2.2.1.1.at (q := 0) (by rw [G2.out.2.1]; decide)
  have hcf2 := G2.out.1
  subst hcf2
  obtain ⟨m2, hm2⟩ : ∃ m, m = nth sz2 0 := ⟨_, rfl⟩
  obtain ⟨n2, hn2⟩ : ∃ n, n = nth sz2 1 := ⟨_, rfl⟩
  have HC2 : Hid (b2 < w.heap.size ∧ w.cell? ⟨b2, o2, none⟩ = some (.int .i64 m2) ∧ w.cell? ⟨b2, o2 + 1, none⟩ = some (.int .i64 n2)) := ⟨hq2, by have := hc2 0 (by rw [G2.out.2.1]; decide); rw [Nat.add_zero, ← hm2] at this; exact this, by rw [hn2]; exact hc2 1 (by rw [G2.out.2.1]; decide)⟩
  have HM2 : Hid (m2 = nth sz2 0 ∧ n2 = nth sz2 1) := ⟨hm2, hn2⟩
  have hz2 : sz2.length = 2 := G2.out.2.1
  have HZ2 : Hid (sz2.length = 2) := hz2
  have lz2 : 1 < sz2.length := by omega
  have ly2 : 0 < sz2.length := by omega
  have lw2 : (1 : Int) < (sz2.length : Int) := by omega
  have lv2 : (0 : Int) < (sz2.length : Int) := by omega
  clear hq2 hc2 hm2 hn2 hz2
  have t1 : (n1 != m2) = true := by rw [HM1.out.2, HM2.out.1]; simpa using E1.out
  obtain ⟨x11, x12, x3, x4, s64, T⟩ := w8
  have HI1 : Hid (IsC w.heap.size w (some ⟨b1, o1, none⟩) sz1 sc1 ∧ IsC w.heap.size w da1 dz1 dc1 ∧ (∀ j, In64 (nth sz1 j)) ∧ ∀ j, In64 (nth dz1 j)) := ⟨x3, x4, s64, T⟩
  clear x3 x4 T s64
  obtain ⟨x21, x22, x3, x4, s64, T⟩ := w9
  have HI2 : Hid (IsC w.heap.size w (some ⟨b2, o2, none⟩) sz2 sc2 ∧ IsC w.heap.size w da2 dz2 dc2 ∧ (∀ j, In64 (nth sz2 j)) ∧ ∀ j, In64 (nth dz2 j)) := ⟨x3, x4, s64, T⟩
  clear x3 x4 T s64
  have n1 := Abx.new w (.bool false) (.slice (some ⟨b1, o1, none⟩) sz1.length sc1) (.slice da1 dz1.length dc1)
  have n2 := Abx.new (w.alloc (.cells #[.bool false, .slice (some ⟨b1, o1, none⟩) sz1.length sc1, .slice da1 dz1.length dc1] 25)) (.bool false) (.slice (some ⟨b2, o2, none⟩) sz2.length sc2) (.slice da2 dz2.length dc2)
  simp only [World.size_alloc] at n2
  have n3 := lit_mid ((w.alloc (.cells #[.bool false, .slice (some ⟨b1, o1, none⟩) sz1.length sc1, .slice da1 dz1.length dc1] 25)).alloc (.cells #[.bool false, .slice (some ⟨b2, o2, none⟩) sz2.length sc2, .slice da2 dz2.length dc2] 25)) 3 [1, 5] 2 rfl
  simp only [World.size_alloc, List.map_cons, List.map_nil] at n3
  go_enter Try.func4, Try.ntmps4
  go_wp2_with fail
  obtain ⟨wo4, hwo4⟩ : ∃ wo4, wo4 = (((w.alloc (.cells #[.bool false, .slice (some ⟨b1, o1, none⟩) sz1.length sc1, .slice da1 dz1.length dc1] 25)).alloc (.cells #[.bool false, .slice (some ⟨b2, o2, none⟩) sz2.length sc2, .slice da2 dz2.length dc2] 25)).alloc (.cells #[.int .i64 1, .int .i64 5] 3)) := ⟨_, rfl⟩
  rw [← hwo4]
  have z5 : w.heap.size + 1 + 1 + 1 ≤ wo4.heap.size := by rw [hwo4]; simp only [World.size_alloc]; omega
  have B6 : Hid (Abx wo4 (w.heap.size) (.bool false) (.slice (some ⟨b1, o1, none⟩) sz1.length sc1) (.slice da1 dz1.length dc1)) := by rw [hwo4]; exact ((n1.al (.cells #[.bool false, .slice (some ⟨b2, o2, none⟩) sz2.length sc2, .slice da2 dz2.length dc2] 25)).al (.cells #[.int .i64 1, .int .i64 5] 3))
  have B7 : Hid (Abx wo4 (w.heap.size + 1) (.bool false) (.slice (some ⟨b2, o2, none⟩) sz2.length sc2) (.slice da2 dz2.length dc2)) := by rw [hwo4]; exact (n2.al (.cells #[.int .i64 1, .int .i64 5] 3))
  have L8 : Hid (MidC (w.heap.size + 1 + 1) (w.heap.size + 1 + 1 + 1) wo4 (some ⟨w.heap.size + 1 + 1, 0, none⟩) ([1, 5]) (2)) := by rw [hwo4]; exact n3
  have hb9 : Hid (Below w.heap.size w wo4) := by rw [hwo4]; exact ((((Below.refl w.heap.size w).alloc (by omega) (.cells #[.bool false, .slice (some ⟨b1, o1, none⟩) sz1.length sc1, .slice da1 dz1.length dc1] 25)).alloc (by simp only [World.size_alloc]; omega) (.cells #[.bool false, .slice (some ⟨b2, o2, none⟩) sz2.length sc2, .slice da2 dz2.length dc2] 25)).alloc (by simp only [World.size_alloc]; omega) (.cells #[.int .i64 1, .int .i64 5] 3))
  have zwo4 : w.heap.size ≤ wo4.heap.size := hb9.out.size
  clear hwo4 n1 n2 n3
  refine (vec_c (some ⟨w.heap.size + 1 + 1, 0, none⟩) 2 [1, 5] (by simp) _ (L8.out.is (by omega)).1).mono ?_
  rintro e v1 ⟨vap, vcp, gap, gcp, rfl, hVp, hGp, hB⟩
  have z10 : wo4.heap.size ≤ v1.heap.size := hB.size
  have B11 : Hid (Abx v1 (w.heap.size) (.bool false) (.slice (some ⟨b1, o1, none⟩) sz1.length sc1) (.slice da1 dz1.length dc1)) := B6.out.go hB
  have B12 : Hid (Abx v1 (w.heap.size + 1) (.bool false) (.slice (some ⟨b2, o2, none⟩) sz2.length sc2) (.slice da2 dz2.length dc2)) := B7.out.go hB
  have L13 : Hid (MidC (w.heap.size + 1 + 1) (w.heap.size + 1 + 1 + 1) v1 (some ⟨w.heap.size + 1 + 1, 0, none⟩) ([1, 5]) (2)) := L8.out.go (by omega) hB
  have hb14 : Hid (Below w.heap.size w v1) := hb9.out.trans (hB.mono hb9.out.size)
  have L15 : Hid (MidC (wo4.heap.size) (v1.heap.size) v1 (vap) ([(2 : Int)]) (vcp)) := hVp.midc
  have L16 : Hid (MidC (wo4.heap.size) (v1.heap.size) v1 (gap) ([1, 5]) (gcp)) := hGp.midc
  clear hB hb9 B6 B7 L8 hVp hGp
  clear L13
  have n17 := lit_mid v1 3 [4, 3] 2 rfl
  simp only [List.map_cons, List.map_nil] at n17
  go_wp2_with fail
  obtain ⟨wo18, hwo18⟩ : ∃ wo18, wo18 = (v1.alloc (.cells #[.int .i64 4, .int .i64 3] 3)) := ⟨_, rfl⟩
  rw [← hwo18]
  have z19 : v1.heap.size + 1 ≤ wo18.heap.size := by rw [hwo18]; simp only [World.size_alloc]; omega
  have B20 : Hid (Abx wo18 (w.heap.size) (.bool false) (.slice (some ⟨b1, o1, none⟩) sz1.length sc1) (.slice da1 dz1.length dc1)) := by rw [hwo18]; exact (B11.out.al (.cells #[.int .i64 4, .int .i64 3] 3))
  have B21 : Hid (Abx wo18 (w.heap.size + 1) (.bool false) (.slice (some ⟨b2, o2, none⟩) sz2.length sc2) (.slice da2 dz2.length dc2)) := by rw [hwo18]; exact (B12.out.al (.cells #[.int .i64 4, .int .i64 3] 3))
  have L22 : Hid (MidC (wo4.heap.size) (v1.heap.size) wo18 (vap) ([(2 : Int)]) (vcp)) := by rw [hwo18]; exact (L15.out.al (by omega) (.cells #[.int .i64 4, .int .i64 3] 3))
  have L23 : Hid (MidC (wo4.heap.size) (v1.heap.size) wo18 (gap) ([1, 5]) (gcp)) := by rw [hwo18]; exact (L16.out.al (by omega) (.cells #[.int .i64 4, .int .i64 3] 3))
  have L24 : Hid (MidC (v1.heap.size) (v1.heap.size + 1) wo18 (some ⟨v1.heap.size, 0, none⟩) ([4, 3]) (2)) := by rw [hwo18]; exact n17
  have hb25 : Hid (Below w.heap.size w wo18) := by rw [hwo18]; exact (hb14.out.alloc (by omega) (.cells #[.int .i64 4, .int .i64 3] 3))
  have zwo18 : w.heap.size ≤ wo18.heap.size := hb25.out.size
  clear hwo18 n17 hb14 B11 B12 L15 L16
  refine (vec_c (some ⟨v1.heap.size, 0, none⟩) 2 [4, 3] (by simp) _ (L24.out.is (by omega)).1).mono ?_
  rintro e v2 ⟨vaq, vcq, gaq, gcq, rfl, hVq, hGq, hB⟩
  have z26 : wo18.heap.size ≤ v2.heap.size := hB.size
  have B27 : Hid (Abx v2 (w.heap.size) (.bool false) (.slice (some ⟨b1, o1, none⟩) sz1.length sc1) (.slice da1 dz1.length dc1)) := B20.out.go hB
  have B28 : Hid (Abx v2 (w.heap.size + 1) (.bool false) (.slice (some ⟨b2, o2, none⟩) sz2.length sc2) (.slice da2 dz2.length dc2)) := B21.out.go hB
  have L29 : Hid (MidC (wo4.heap.size) (v1.heap.size) v2 (vap) ([(2 : Int)]) (vcp)) := L22.out.go (by omega) hB
  have L30 : Hid (MidC (wo4.heap.size) (v1.heap.size) v2 (gap) ([1, 5]) (gcp)) := L23.out.go (by omega) hB
  have L31 : Hid (MidC (v1.heap.size) (v1.heap.size + 1) v2 (some ⟨v1.heap.size, 0, none⟩) ([4, 3]) (2)) := L24.out.go (by omega) hB
  have hb32 : Hid (Below w.heap.size w v2) := hb25.out.trans (hB.mono hb25.out.size)
  have L33 : Hid (MidC (wo18.heap.size) (v2.heap.size) v2 (vaq) ([(2 : Int)]) (vcq)) := hVq.midc
  have L34 : Hid (MidC (wo18.heap.size) (v2.heap.size) v2 (gaq) ([4, 3]) (gcq)) := hGq.midc
  clear hB hb25 B20 B21 L22 L23 L24 hVq hGq
  clear L31
  go_wp2_with fail
  refine (niw_ok 6 7 false vap vcp [(2 : Int)] 1 rfl gap gcp [1, 5] 2 rfl false vaq vcq [(2 : Int)] 1 rfl gaq gcq [4, 3] 2 rfl _ (by unfold In64; decide) (by unfold In64; decide) (by decide) (by decide) (L29.out.is (by omega)) (L30.out.is (by omega)).1 (lit12 (by decide)) (by decide) (by decide) (L33.out.is (by omega)) (L34.out.is (by omega)).1 (lit12 (by decide)) [] [3] HNi (by show inE 6 7 false [(2 : Int)] [1, 5] false [(2 : Int)] [4, 3] = 0 ∧ inS [(2 : Int)] [(2 : Int)] = [] ∧ inD 6 7 false [(2 : Int)] [1, 5] false [(2 : Int)] [4, 3] = [3]; decide +kernel)).mono ?_
  rintro e v3 ⟨f1, g1, f2, g2, rfl, hX0, hY0, hB⟩
  have z35 : v2.heap.size ≤ v3.heap.size := hB.size
  have B36 : Hid (Abx v3 (w.heap.size) (.bool false) (.slice (some ⟨b1, o1, none⟩) sz1.length sc1) (.slice da1 dz1.length dc1)) := B27.out.go hB
  have B37 : Hid (Abx v3 (w.heap.size + 1) (.bool false) (.slice (some ⟨b2, o2, none⟩) sz2.length sc2) (.slice da2 dz2.length dc2)) := B28.out.go hB
  have L38 : Hid (MidC (wo4.heap.size) (v1.heap.size) v3 (vap) ([(2 : Int)]) (vcp)) := L29.out.go (by omega) hB
  have L39 : Hid (MidC (wo4.heap.size) (v1.heap.size) v3 (gap) ([1, 5]) (gcp)) := L30.out.go (by omega) hB
  have L40 : Hid (MidC (wo18.heap.size) (v2.heap.size) v3 (vaq) ([(2 : Int)]) (vcq)) := L33.out.go (by omega) hB
  have L41 : Hid (MidC (wo18.heap.size) (v2.heap.size) v3 (gaq) ([4, 3]) (gcq)) := L34.out.go (by omega) hB
  have hb42 : Hid (Below w.heap.size w v3) := hb32.out.trans (hB.mono hb32.out.size)
  have L43 : Hid (MidC (v2.heap.size) (v3.heap.size) v3 (f1) ([]) (g1)) := hX0.midc
  have L44 : Hid (MidC (v2.heap.size) (v3.heap.size) v3 (f2) ([3]) (g2)) := hY0.midc
  clear hB hb32 B27 B28 L29 L30 L33 L34 hX0 hY0
  clear L38 L39 L40 L41
  obtain ⟨b45, ob45, rfl, _, _, _, _⟩ := L44.out.at (i := 0) (by decide)
  have n46 := Abx.new v3 (.bool false) (.slice f1 0 g1) (.slice (some ⟨b45, ob45, none⟩) 1 g2)
  have l47 := (n46).c0
  have l48 := (n46).c1
  have l49 := (n46).c2
  obtain ⟨_, _, l50e, _, _, l50, _⟩ := ((L44.out.al (by omega) (.cells #[.bool false, .slice f1 0 g1, .slice (some ⟨b45, ob45, none⟩) 1 g2] 25))).at (i := 0) (by decide)
  cases l50e
  try simp only [Nat.add_zero] at l50
  go_wp2_with fail
  obtain ⟨wo51, hwo51⟩ : ∃ wo51, wo51 = (v3.alloc (.cells #[.bool false, .slice f1 0 g1, .slice (some ⟨b45, ob45, none⟩) 1 g2] 25)) := ⟨_, rfl⟩
  rw [← hwo51]
  have z52 : v3.heap.size + 1 ≤ wo51.heap.size := by rw [hwo51]; simp only [World.size_alloc]; omega
  have B53 : Hid (Abx wo51 (w.heap.size) (.bool false) (.slice (some ⟨b1, o1, none⟩) sz1.length sc1) (.slice da1 dz1.length dc1)) := by rw [hwo51]; exact (B36.out.al (.cells #[.bool false, .slice f1 0 g1, .slice (some ⟨b45, ob45, none⟩) 1 g2] 25))
  have B54 : Hid (Abx wo51 (w.heap.size + 1) (.bool false) (.slice (some ⟨b2, o2, none⟩) sz2.length sc2) (.slice da2 dz2.length dc2)) := by rw [hwo51]; exact (B37.out.al (.cells #[.bool false, .slice f1 0 g1, .slice (some ⟨b45, ob45, none⟩) 1 g2] 25))
  have B55 : Hid (Abx wo51 (v3.heap.size) (.bool false) (.slice f1 0 g1) (.slice (some ⟨b45, ob45, none⟩) 1 g2)) := by rw [hwo51]; exact n46
  have L56 : Hid (MidC (v2.heap.size) (v3.heap.size) wo51 (f1) ([]) (g1)) := by rw [hwo51]; exact (L43.out.al (by omega) (.cells #[.bool false, .slice f1 0 g1, .slice (some ⟨b45, ob45, none⟩) 1 g2] 25))
  have L57 : Hid (MidC (v2.heap.size) (v3.heap.size) wo51 (some ⟨b45, ob45, none⟩) ([3]) (g2)) := by rw [hwo51]; exact (L44.out.al (by omega) (.cells #[.bool false, .slice f1 0 g1, .slice (some ⟨b45, ob45, none⟩) 1 g2] 25))
  have hb58 : Hid (Below w.heap.size w wo51) := by rw [hwo51]; exact (hb42.out.alloc (by omega) (.cells #[.bool false, .slice f1 0 g1, .slice (some ⟨b45, ob45, none⟩) 1 g2] 25))
  have zwo51 : w.heap.size ≤ wo51.heap.size := hb58.out.size
  clear hwo51 n46 l47 l48 l49 l50 hb42 B36 B37 L43 L44
  clear L56 L57 B55
  have sx11 : wo51.cell? ⟨b1, o1 + 1, none⟩ = some (.int .i64 n1) := (hb58.out.cell (p := ⟨b1, o1 + 1, none⟩) HC1.out.1).trans HC1.out.2.2
  have sx20 : wo51.cell? ⟨b2, o2, none⟩ = some (.int .i64 m2) := (hb58.out.cell (p := ⟨b2, o2, none⟩) HC2.out.1).trans HC2.out.2.1
  have hb0 : Below wo51.heap.size wo51 wo51.drew := (Below.refl _ wo51).drew
  refine anyC_begin (fun w' => w'.cell? ⟨w.heap.size, 0, none⟩ = some (.bool false) ∧ w'.cell? ⟨w.heap.size, 1, none⟩ = some (.slice (some ⟨b1, o1, none⟩) sz1.length sc1) ∧ w'.cell? ⟨w.heap.size, 2, none⟩ = some (.slice da1 dz1.length dc1) ∧ w'.cell? ⟨w.heap.size + 1, 0, none⟩ = some (.bool false) ∧ w'.cell? ⟨w.heap.size + 1, 1, none⟩ = some (.slice (some ⟨b2, o2, none⟩) sz2.length sc2) ∧ w'.cell? ⟨w.heap.size + 1, 2, none⟩ = some (.slice da2 dz2.length dc2) ∧ w'.cell? ⟨b1, o1 + 1, none⟩ = some (.int .i64 n1) ∧ w'.cell? ⟨b2, o2, none⟩ = some (.int .i64 m2)) 25 #[false, false, false, false, false, false, false, false, false, false, false, false, false, false, false, false, false, false, false, false, false, false, false, false, false] (by kernel_rfl) rfl rfl ?_
  refine anyC_put 0 44 ?rv424 #[true, false, false, false, false, false, false, false, false, false, false, false, false, false, false, false, false, false, false, false, false, false, false, false, false] rfl rfl rfl (by kernel_rfl) (by kernel_rfl) (by kernel_rfl) (fun _ _ _ h => h) ?ry424 (⟨(B53.out.go hb0).c0, (B53.out.go hb0).c1, (B53.out.go hb0).c2, (B54.out.go hb0).c0, (B54.out.go hb0).c1, (B54.out.go hb0).c2, cell_to sx11 hb0, cell_to sx20 hb0⟩) ?rm424
  case ry424 => first | exact Or.inl ⟨by rfl, by intro w'; go_simp; first | done | rfl⟩
  case rm424 =>
  simp only [Act.put, List.setIfInBounds_toArray, List.set_cons_zero, List.set_cons_succ]
  refine anyC_put 1 45 ?rv425 #[true, true, false, false, false, false, false, false, false, false, false, false, false, false, false, false, false, false, false, false, false, false, false, false, false] rfl rfl rfl (by kernel_rfl) (by kernel_rfl) (by kernel_rfl) (fun _ _ _ h => h) ?ry425 (⟨(B53.out.go hb0).c0, (B53.out.go hb0).c1, (B53.out.go hb0).c2, (B54.out.go hb0).c0, (B54.out.go hb0).c1, (B54.out.go hb0).c2, cell_to sx11 hb0, cell_to sx20 hb0⟩) ?rm425
  case ry425 => first | exact Or.inl ⟨by rfl, by intro w'; go_simp; first | done | rfl⟩
  case rm425 =>
  simp only [Act.put, List.setIfInBounds_toArray, List.set_cons_zero, List.set_cons_succ]
  refine anyC_one 2 #[true, true, true, false, false, false, false, false, false, false, false, false, false, false, false, false, false, false, false, false, false, false, false, false, false] (by kernel_rfl) rfl rfl (fun K hK => ?_)
  go_simp
  go_wp2_with (go_at_call 9; refine (sring_any f g _).mono ?_; rintro e ysr ⟨rfl, hysr⟩; obtain rfl := hysr.symm; rw [srB_yes GS.out])
  refine hK.out _ _ (⟨(B53.out.go hb0).c0, (B53.out.go hb0).c1, (B53.out.go hb0).c2, (B54.out.go hb0).c0, (B54.out.go hb0).c1, (B54.out.go hb0).c2, cell_to sx11 hb0, cell_to sx20 hb0⟩) ?_
  clear hK K
  refine anyC_put 3 47 ?rv427 #[true, true, true, true, false, false, false, false, false, false, false, false, false, false, false, false, false, false, false, false, false, false, false, false, false] rfl rfl rfl (by kernel_rfl) (by kernel_rfl) (by kernel_rfl) (fun _ _ _ h => h) ?ry427 (⟨(B53.out.go hb0).c0, (B53.out.go hb0).c1, (B53.out.go hb0).c2, (B54.out.go hb0).c0, (B54.out.go hb0).c1, (B54.out.go hb0).c2, cell_to sx11 hb0, cell_to sx20 hb0⟩) ?rm427
  case ry427 => first | exact Or.inl ⟨by rfl, by intro w'; go_simp; first | done | rfl⟩
  case rm427 =>
  simp only [Act.put, List.setIfInBounds_toArray, List.set_cons_zero, List.set_cons_succ]
  refine anyC_put 4 48 ?rv428 #[true, true, true, true, true, false, false, false, false, false, false, false, false, false, false, false, false, false, false, false, false, false, false, false, false] rfl rfl rfl (by kernel_rfl) (by kernel_rfl) (by kernel_rfl) (fun _ _ _ h => h) ?ry428 (⟨(B53.out.go hb0).c0, (B53.out.go hb0).c1, (B53.out.go hb0).c2, (B54.out.go hb0).c0, (B54.out.go hb0).c1, (B54.out.go hb0).c2, cell_to sx11 hb0, cell_to sx20 hb0⟩) ?rm428
  case ry428 => first | exact Or.inl ⟨by rfl, by intro w'; go_simp; first | done | rfl⟩
  case rm428 =>
  simp only [Act.put, List.setIfInBounds_toArray, List.set_cons_zero, List.set_cons_succ]
  refine anyC_take 5 49 ?rv429 #[true, true, true, true, true, true, false, false, false, false, false, false, false, false, false, false, false, false, false, false, false, false, false, false, false] rfl rfl rfl (by kernel_rfl) (by kernel_rfl) (by kernel_rfl) (fun _ _ _ h => h) ?ry429 (⟨(B53.out.go hb0).c0, (B53.out.go hb0).c1, (B53.out.go hb0).c2, (B54.out.go hb0).c0, (B54.out.go hb0).c1, (B54.out.go hb0).c2, cell_to sx11 hb0, cell_to sx20 hb0⟩) ?rm429
  case ry429 => first | exact Or.inl ⟨by rfl, by intro w' hw'; (try dsimp only at hw'); go_simp; first | done | rfl⟩ | exact Or.inr ⟨by rfl, rfl⟩ | exact Or.inr ⟨by rfl, by rfl⟩
  case rm429 =>
  simp only [Act.put, List.setIfInBounds_toArray, List.set_cons_zero, List.set_cons_succ]
  refine anyC_one 6 #[true, true, true, true, true, true, true, false, false, false, false, false, false, false, false, false, false, false, false, false, false, false, false, false, false] (by kernel_rfl) rfl rfl (fun K hK => ?_)
  go_simp
  go_wp2_with (go_at_call 10; refine (grid_yes 16 (by decide) false (some ⟨b1, o1, none⟩) sc1 sz1 da1 dc1 dz1 _ ((HI1.out.1.1.below (hb58.out.trans (hb0.mono hb58.out.size))).mono (hb58.out.trans (hb0.mono hb58.out.size)).size) G1.out).mono ?_; rintro e y1 ⟨rfl, hBy1⟩)
  have hby1 : Below wo51.heap.size wo51 y1 := hb0.trans (hBy1.mono hb0.size)
  refine hK.out _ _ (⟨(B53.out.go hby1).c0, (B53.out.go hby1).c1, (B53.out.go hby1).c2, (B54.out.go hby1).c0, (B54.out.go hby1).c1, (B54.out.go hby1).c2, cell_to sx11 hby1, cell_to sx20 hby1⟩) ?_
  clear hK K
  refine anyC_put 7 51 ?rv431 #[true, true, true, true, true, true, true, true, false, false, false, false, false, false, false, false, false, false, false, false, false, false, false, false, false] rfl rfl rfl (by kernel_rfl) (by kernel_rfl) (by kernel_rfl) (fun _ _ _ h => h) ?ry431 (⟨(B53.out.go hby1).c0, (B53.out.go hby1).c1, (B53.out.go hby1).c2, (B54.out.go hby1).c0, (B54.out.go hby1).c1, (B54.out.go hby1).c2, cell_to sx11 hby1, cell_to sx20 hby1⟩) ?rm431
  case ry431 => first | exact Or.inl ⟨by rfl, by intro w'; go_simp; first | done | rfl⟩ | exact Or.inr ⟨by rfl, rfl⟩ | exact Or.inr ⟨by rfl, by rfl⟩
  case rm431 =>
  simp only [Act.put, List.setIfInBounds_toArray, List.set_cons_zero, List.set_cons_succ]
  refine anyC_put 8 52 ?rv432 #[true, true, true, true, true, true, true, true, true, false, false, false, false, false, false, false, false, false, false, false, false, false, false, false, false] rfl rfl rfl (by kernel_rfl) (by kernel_rfl) (by kernel_rfl) (fun _ _ _ h => h) ?ry432 (⟨(B53.out.go hby1).c0, (B53.out.go hby1).c1, (B53.out.go hby1).c2, (B54.out.go hby1).c0, (B54.out.go hby1).c1, (B54.out.go hby1).c2, cell_to sx11 hby1, cell_to sx20 hby1⟩) ?rm432
  case ry432 => first | exact Or.inl ⟨by rfl, by intro w'; go_simp; first | done | rfl⟩
  case rm432 =>
  simp only [Act.put, List.setIfInBounds_toArray, List.set_cons_zero, List.set_cons_succ]
  refine anyC_put 9 53 ?rv433 #[true, true, true, true, true, true, true, true, true, true, false, false, false, false, false, false, false, false, false, false, false, false, false, false, false] rfl rfl rfl (by kernel_rfl) (by kernel_rfl) (by kernel_rfl) (fun _ _ _ h => h) ?ry433 (⟨(B53.out.go hby1).c0, (B53.out.go hby1).c1, (B53.out.go hby1).c2, (B54.out.go hby1).c0, (B54.out.go hby1).c1, (B54.out.go hby1).c2, cell_to sx11 hby1, cell_to sx20 hby1⟩) ?rm433
  case ry433 => first | exact Or.inl ⟨by rfl, by intro w'; go_simp; first | done | rfl⟩
  case rm433 =>
  simp only [Act.put, List.setIfInBounds_toArray, List.set_cons_zero, List.set_cons_succ]
  refine anyC_take 10 54 ?rv434 #[true, true, true, true, true, true, true, true, true, true, true, false, false, false, false, false, false, false, false, false, false, false, false, false, false] rfl rfl rfl (by kernel_rfl) (by kernel_rfl) (by kernel_rfl) (fun _ _ _ h => h) ?ry434 (⟨(B53.out.go hby1).c0, (B53.out.go hby1).c1, (B53.out.go hby1).c2, (B54.out.go hby1).c0, (B54.out.go hby1).c1, (B54.out.go hby1).c2, cell_to sx11 hby1, cell_to sx20 hby1⟩) ?rm434
  case ry434 => first | exact Or.inl ⟨by rfl, by intro w' hw'; (try dsimp only at hw'); go_simp; first | done | rfl⟩ | exact Or.inr ⟨by rfl, rfl⟩ | exact Or.inr ⟨by rfl, by rfl⟩
  case rm434 =>
  simp only [Act.put, List.setIfInBounds_toArray, List.set_cons_zero, List.set_cons_succ]
  refine anyC_one 11 #[true, true, true, true, true, true, true, true, true, true, true, true, false, false, false, false, false, false, false, false, false, false, false, false, false] (by kernel_rfl) rfl rfl (fun K hK => ?_)
  go_simp
  go_wp2_with (go_at_call 10; refine (grid_yes 16 (by decide) false (some ⟨b2, o2, none⟩) sc2 sz2 da2 dc2 dz2 _ ((HI2.out.1.1.below (hb58.out.trans (hby1.mono hb58.out.size))).mono (hb58.out.trans (hby1.mono hb58.out.size)).size) G2.out).mono ?_; rintro e y2 ⟨rfl, hBy2⟩)
  have hby2 : Below wo51.heap.size wo51 y2 := hby1.trans (hBy2.mono hby1.size)
  refine hK.out _ _ (⟨(B53.out.go hby2).c0, (B53.out.go hby2).c1, (B53.out.go hby2).c2, (B54.out.go hby2).c0, (B54.out.go hby2).c1, (B54.out.go hby2).c2, cell_to sx11 hby2, cell_to sx20 hby2⟩) ?_
  clear hK K
  refine anyC_put 12 56 ?rv436 #[true, true, true, true, true, true, true, true, true, true, true, true, true, false, false, false, false, false, false, false, false, false, false, false, false] rfl rfl rfl (by kernel_rfl) (by kernel_rfl) (by kernel_rfl) (fun _ _ _ h => h) ?ry436 (⟨(B53.out.go hby2).c0, (B53.out.go hby2).c1, (B53.out.go hby2).c2, (B54.out.go hby2).c0, (B54.out.go hby2).c1, (B54.out.go hby2).c2, cell_to sx11 hby2, cell_to sx20 hby2⟩) ?rm436
  case ry436 => first | exact Or.inl ⟨by rfl, by intro w'; go_simp; first | done | rfl⟩ | exact Or.inr ⟨by rfl, rfl⟩ | exact Or.inr ⟨by rfl, by rfl⟩
  case rm436 =>
  simp only [Act.put, List.setIfInBounds_toArray, List.set_cons_zero, List.set_cons_succ]
  refine anyC_put 13 57 ?rv437 #[true, true, true, true, true, true, true, true, true, true, true, true, true, true, false, false, false, false, false, false, false, false, false, false, false] rfl rfl rfl (by kernel_rfl) (by kernel_rfl) (by kernel_rfl) (fun _ _ _ h => h) ?ry437 (⟨(B53.out.go hby2).c0, (B53.out.go hby2).c1, (B53.out.go hby2).c2, (B54.out.go hby2).c0, (B54.out.go hby2).c1, (B54.out.go hby2).c2, cell_to sx11 hby2, cell_to sx20 hby2⟩) ?rm437
  case ry437 => first | exact Or.inl ⟨by rfl, by intro w'; go_simp; first | done | rfl⟩
  case rm437 =>
  simp only [Act.put, List.setIfInBounds_toArray, List.set_cons_zero, List.set_cons_succ]
  refine anyC_put 14 58 ?rv438 #[true, true, true, true, true, true, true, true, true, true, true, true, true, true, true, false, false, false, false, false, false, false, false, false, false] rfl rfl rfl (by kernel_rfl) (by kernel_rfl) (by kernel_rfl) (fun _ _ _ h => h) ?ry438 (⟨(B53.out.go hby2).c0, (B53.out.go hby2).c1, (B53.out.go hby2).c2, (B54.out.go hby2).c0, (B54.out.go hby2).c1, (B54.out.go hby2).c2, cell_to sx11 hby2, cell_to sx20 hby2⟩) ?rm438
  case ry438 => first | exact Or.inl ⟨by rfl, by intro w'; go_simp; first | done | rfl⟩
  case rm438 =>
  simp only [Act.put, List.setIfInBounds_toArray, List.set_cons_zero, List.set_cons_succ]
  refine anyC_put 15 59 ?rv439 #[true, true, true, true, true, true, true, true, true, true, true, true, true, true, true, true, false, false, false, false, false, false, false, false, false] rfl rfl rfl (by kernel_rfl) (by kernel_rfl) (by kernel_rfl) (fun _ _ _ h => h) ?ry439 (⟨(B53.out.go hby2).c0, (B53.out.go hby2).c1, (B53.out.go hby2).c2, (B54.out.go hby2).c0, (B54.out.go hby2).c1, (B54.out.go hby2).c2, cell_to sx11 hby2, cell_to sx20 hby2⟩) ?rm439
  case ry439 => first | exact Or.inl ⟨by rfl, by intro w'; go_simp; first | done | rfl⟩ | exact Or.inr ⟨by rfl, rfl⟩ | exact Or.inr ⟨by rfl, by rfl⟩
  case rm439 =>
  simp only [Act.put, List.setIfInBounds_toArray, List.set_cons_zero, List.set_cons_succ]
  refine anyC_take 16 60 ?rv440 #[true, true, true, true, true, true, true, true, true, true, true, true, true, true, true, true, true, false, false, false, false, false, false, false, false] rfl rfl rfl (by kernel_rfl) (by kernel_rfl) (by kernel_rfl) (fun _ _ _ h => h) ?ry440 (⟨(B53.out.go hby2).c0, (B53.out.go hby2).c1, (B53.out.go hby2).c2, (B54.out.go hby2).c0, (B54.out.go hby2).c1, (B54.out.go hby2).c2, cell_to sx11 hby2, cell_to sx20 hby2⟩) ?rm440
  case ry440 => first | exact Or.inl ⟨by rfl, by intro w' hw'; (try dsimp only at hw'); go_simp; first | done | rfl⟩ | exact Or.inr ⟨by rfl, rfl⟩ | exact Or.inr ⟨by rfl, by rfl⟩
  case rm440 =>
  simp only [Act.put, List.setIfInBounds_toArray, List.set_cons_zero, List.set_cons_succ]
  refine anyC_put 17 61 ?rv441 #[true, true, true, true, true, true, true, true, true, true, true, true, true, true, true, true, true, true, false, false, false, false, false, false, false] rfl rfl rfl (by kernel_rfl) (by kernel_rfl) (by kernel_rfl) (fun _ _ _ h => h) ?ry441 (⟨(B53.out.go hby2).c0, (B53.out.go hby2).c1, (B53.out.go hby2).c2, (B54.out.go hby2).c0, (B54.out.go hby2).c1, (B54.out.go hby2).c2, cell_to sx11 hby2, cell_to sx20 hby2⟩) ?rm441
  case ry441 => first | exact Or.inl ⟨by rfl, by intro w'; go_simp; first | done | rfl⟩ | exact Or.inr ⟨by rfl, rfl⟩ | exact Or.inr ⟨by rfl, by rfl⟩
  case rm441 =>
  simp only [Act.put, List.setIfInBounds_toArray, List.set_cons_zero, List.set_cons_succ]
  refine anyC_take 18 62 ?rv442 #[true, true, true, true, true, true, true, true, true, true, true, true, true, true, true, true, true, true, true, false, false, false, false, false, false] rfl rfl rfl (by kernel_rfl) (by kernel_rfl) (by kernel_rfl) (fun _ _ _ h => h) ?ry442 (⟨(B53.out.go hby2).c0, (B53.out.go hby2).c1, (B53.out.go hby2).c2, (B54.out.go hby2).c0, (B54.out.go hby2).c1, (B54.out.go hby2).c2, cell_to sx11 hby2, cell_to sx20 hby2⟩) ?rm442
  case ry442 => first | exact Or.inl ⟨by rfl, by intro w' hw'; (try dsimp only at hw'); go_simp; first | done | rfl⟩ | exact Or.inr ⟨by rfl, rfl⟩ | exact Or.inr ⟨by rfl, by rfl⟩
  case rm442 =>
  simp only [Act.put, List.setIfInBounds_toArray, List.set_cons_zero, List.set_cons_succ]
  refine anyC_put 19 63 ?rv443 #[true, true, true, true, true, true, true, true, true, true, true, true, true, true, true, true, true, true, true, true, false, false, false, false, false] rfl rfl rfl (by kernel_rfl) (by kernel_rfl) (by kernel_rfl) (fun _ _ _ h => h) ?ry443 (⟨(B53.out.go hby2).c0, (B53.out.go hby2).c1, (B53.out.go hby2).c2, (B54.out.go hby2).c0, (B54.out.go hby2).c1, (B54.out.go hby2).c2, cell_to sx11 hby2, cell_to sx20 hby2⟩) ?rm443
  case ry443 => first | exact Or.inl ⟨by rfl, by intro w'; go_simp; first | done | rfl⟩ | exact Or.inr ⟨by rfl, rfl⟩ | exact Or.inr ⟨by rfl, by rfl⟩
  case rm443 =>
  simp only [Act.put, List.setIfInBounds_toArray, List.set_cons_zero, List.set_cons_succ]
  refine anyC_take 20 64 ?rv444 #[true, true, true, true, true, true, true, true, true, true, true, true, true, true, true, true, true, true, true, true, true, false, false, false, false] rfl rfl rfl (by kernel_rfl) (by kernel_rfl) (by kernel_rfl) (fun _ _ _ h => h) ?ry444 (⟨(B53.out.go hby2).c0, (B53.out.go hby2).c1, (B53.out.go hby2).c2, (B54.out.go hby2).c0, (B54.out.go hby2).c1, (B54.out.go hby2).c2, cell_to sx11 hby2, cell_to sx20 hby2⟩) ?rm444
  case ry444 => first | exact Or.inl ⟨by rfl, by intro w' hw'; (try dsimp only at hw'); go_simp; first | done | rfl⟩ | exact Or.inr ⟨by rfl, rfl⟩ | exact Or.inr ⟨by rfl, by rfl⟩
  case rm444 =>
  simp only [Act.put, List.setIfInBounds_toArray, List.set_cons_zero, List.set_cons_succ]
  refine anyC_put 21 65 ?rv445 #[true, true, true, true, true, true, true, true, true, true, true, true, true, true, true, true, true, true, true, true, true, true, false, false, false] rfl rfl rfl (by kernel_rfl) (by kernel_rfl) (by kernel_rfl) (fun _ _ _ h => h) ?ry445 (⟨(B53.out.go hby2).c0, (B53.out.go hby2).c1, (B53.out.go hby2).c2, (B54.out.go hby2).c0, (B54.out.go hby2).c1, (B54.out.go hby2).c2, cell_to sx11 hby2, cell_to sx20 hby2⟩) ?rm445
  case ry445 => first | exact Or.inl ⟨by rfl, by intro w'; go_simp; first | done | rfl⟩ | exact Or.inr ⟨by rfl, rfl⟩ | exact Or.inr ⟨by rfl, by rfl⟩
  case rm445 =>
  simp only [Act.put, List.setIfInBounds_toArray, List.set_cons_zero, List.set_cons_succ]
  refine anyC_take 22 66 ?rv446 #[true, true, true, true, true, true, true, true, true, true, true, true, true, true, true, true, true, true, true, true, true, true, true, false, false] rfl rfl rfl (by kernel_rfl) (by kernel_rfl) (by kernel_rfl) (fun _ _ _ h => h) ?ry446 (⟨(B53.out.go hby2).c0, (B53.out.go hby2).c1, (B53.out.go hby2).c2, (B54.out.go hby2).c0, (B54.out.go hby2).c1, (B54.out.go hby2).c2, cell_to sx11 hby2, cell_to sx20 hby2⟩) ?rm446
  case ry446 => first | exact Or.inl ⟨by rfl, by intro w' hw'; (try dsimp only at hw'); go_simp; first | done | rfl⟩ | exact Or.inr ⟨by rfl, rfl⟩ | exact Or.inr ⟨by rfl, by rfl⟩
  case rm446 =>
  simp only [Act.put, List.setIfInBounds_toArray, List.set_cons_zero, List.set_cons_succ]
  refine anyC_put 23 67 ?rv447 #[true, true, true, true, true, true, true, true, true, true, true, true, true, true, true, true, true, true, true, true, true, true, true, true, false] rfl rfl rfl (by kernel_rfl) (by kernel_rfl) (by kernel_rfl) (fun _ _ _ h => h) ?ry447 (⟨(B53.out.go hby2).c0, (B53.out.go hby2).c1, (B53.out.go hby2).c2, (B54.out.go hby2).c0, (B54.out.go hby2).c1, (B54.out.go hby2).c2, cell_to sx11 hby2, cell_to sx20 hby2⟩) ?rm447
  case ry447 => first | exact Or.inl ⟨by rfl, by intro w'; go_simp; first | done | rfl⟩ | exact Or.inr ⟨by rfl, rfl⟩ | exact Or.inr ⟨by rfl, by rfl⟩
  case rm447 =>
  simp only [Act.put, List.setIfInBounds_toArray, List.set_cons_zero, List.set_cons_succ]
  refine anyC_put 24 68 ?rv448 #[true, true, true, true, true, true, true, true, true, true, true, true, true, true, true, true, true, true, true, true, true, true, true, true, true] rfl rfl rfl (by kernel_rfl) (by kernel_rfl) (by kernel_rfl) (fun _ _ _ h => h) ?ry448 (⟨(B53.out.go hby2).c0, (B53.out.go hby2).c1, (B53.out.go hby2).c2, (B54.out.go hby2).c0, (B54.out.go hby2).c1, (B54.out.go hby2).c2, cell_to sx11 hby2, cell_to sx20 hby2⟩) ?rm448
  case ry448 => first | exact Or.inl ⟨by rfl, by intro w'; go_simp; first | done | rfl⟩
  case rm448 =>
  simp only [Act.put, List.setIfInBounds_toArray, List.set_cons_zero, List.set_cons_succ]
  refine anyC_done (by kernel_rfl) ?_
  have hB := hby2
  have z59 : wo51.heap.size ≤ y2.heap.size := hB.size
  have B60 : Hid (Abx y2 (w.heap.size) (.bool false) (.slice (some ⟨b1, o1, none⟩) sz1.length sc1) (.slice da1 dz1.length dc1)) := B53.out.go hB
  have B61 : Hid (Abx y2 (w.heap.size + 1) (.bool false) (.slice (some ⟨b2, o2, none⟩) sz2.length sc2) (.slice da2 dz2.length dc2)) := B54.out.go hB
  have hb62 : Hid (Below w.heap.size w y2) := hb58.out.trans (hB.mono hb58.out.size)
  clear hB hb58 B53 B54
  go_wp2_with fail
  go_ret
  exact ⟨rfl, hb62.out⟩
set_option maxRecDepth 100000 in
set_option maxHeartbeats 4000000 in
theorem turned_ok (HNi : CNi) (HFl : CFl) (f g : Int) (hf : In64 f) (hg : In64 g) (c1 : Bool) (sa1 : Option Addr) (sc1 : Nat) (sz1 : List Int) (da1 : Option Addr) (dc1 : Nat) (dz1 : List Int) (c2 : Bool) (sa2 : Option Addr) (sc2 : Nat) (sz2 : List Int) (da2 : Option Addr) (dc2 : Nat) (dz2 : List Int) (w : World) (w8 : IsArrD w sa1 sz1 sc1 da1 dz1 dc1) (w9 : IsArrD w sa2 sz2 sc2 da2 dz2 dc2) (GS : Hid (Srg f g)) (G1 : Hid (GrdP 16 c1 sz1 dz1)) (G2 : Hid (GrdP 16 c2 sz2 dz2)) (E1 : Hid (nth sz1 1 = nth sz2 0)) :
    Calls Try.prog 4 #[.int .i64 f, .int .i64 g, .agg #[.bool c1, .slice sa1 sz1.length sc1, .slice da1 dz1.length dc1], .agg #[.bool c2, .slice sa2 sz2.length sc2, .slice da2 dz2.length dc2]] w fun e w' => e = .returned (.bool true) ∧ Below w.heap.size w w' := by
  obtain ⟨b1, o1, rfl, hq1, hc1⟩ := w8.2.2.1.1.at (q := 0) (by rw [G1.out.2.1]; decide)
  have hcf1 := G1.out.1
  subst hcf1
  obtain ⟨m1, hm1⟩ : ∃ m, m = nth sz1 0 := ⟨_, rfl⟩
  obtain ⟨n1, hn1⟩ : ∃ n, n = nth sz1 1 := ⟨_, rfl⟩
  have HC1 : Hid (b1 < w.heap.size ∧ w.cell? ⟨b1, o1, none⟩ = some (.int .i64 m1) ∧ w.cell? ⟨b1, o1 + 1, none⟩ = some (.int .i64 n1)) := ⟨hq1, by have := hc1 0 (by rw [G1.out.2.1]; decide); rw [Nat.add_zero, ← hm1] at this; exact this, by rw [hn1]; exact hc1 1 (by rw [G1.out.2.1]; decide)⟩
  have HM1 : Hid (m1 = nth sz1 0 ∧ n1 = nth sz1 1) := ⟨hm1, hn1⟩
  have hz1 : sz1.length = 2 := G1.out.2.1
  have HZ1 : Hid (sz1.length = 2) := hz1
  have lz1 : 1 < sz1.length := by omega
  have ly1 : 0 < sz1.length := by omega
  have lw1 : (1 : Int) < (sz1.length : Int) := by omega
  have lv1 : (0 : Int) < (sz1.length : Int) := by omega
  clear hq1 hc1 hm1 hn1 hz1
  obtain ⟨b2, o2, rfl, hq2, hc2⟩ := w9.2.2.1.1.at (q := 0) (by rw [G2.out.2.1]; decide)
  have hcf2 := G2.out.1
  subst hcf2
  obtain ⟨m2, hm2⟩ : ∃ m, m = nth sz2 0 := ⟨_, rfl⟩
  obtain ⟨n2, hn2⟩ : ∃ n, n = nth sz2 1 := ⟨_, rfl⟩
  have HC2 : Hid (b2 < w.heap.size ∧ w.cell? ⟨b2, o2, none⟩ = some (.int .i64 m2) ∧ w.cell? ⟨b2, o2 + 1, none⟩ = some (.int .i64 n2)) := ⟨hq2, by have := hc2 0 (by rw [G2.out.2.1]; decide); rw [Nat.add_zero, ← hm2] at this; exact this, by rw [hn2]; exact hc2 1 (by rw [G2.out.2.1]; decide)⟩
  have HM2 : Hid (m2 = nth sz2 0 ∧ n2 = nth sz2 1) := ⟨hm2, hn2⟩
  have hz2 : sz2.length = 2 := G2.out.2.1
  have HZ2 : Hid (sz2.length = 2) := hz2
  have lz2 : 1 < sz2.length := by omega
  have ly2 : 0 < sz2.length := by omega
  have lw2 : (1 : Int) < (sz2.length : Int) := by omega
  have lv2 : (0 : Int) < (sz2.length : Int) := by omega
  clear hq2 hc2 hm2 hn2 hz2
  have t1 : (n1 != m2) = false := by rw [HM1.out.2, HM2.out.1, E1.out]; simp
  obtain ⟨S1, D1, S2, D2, SP, DP, SQ, DQ, R1, R2, R3, R4, R5, TT, L1, L2, L3, L4⟩ := turned13 GS.out G1.out G2.out E1.out w8.2.2.2.2.2 w9.2.2.2.2.2
  have HR1 : Hid (_) := R1
  have HR2 : Hid (_) := R2
  have HR3 : Hid (_) := R3
  have HR4 : Hid (_) := R4
  have HR5 : Hid (_) := R5
  have HTT : Hid (_) := TT
  clear R1 R2 R3 R4 R5 TT
  obtain ⟨x11, x12, x3, x4, s64, T⟩ := w8
  have HI1 : Hid (IsC w.heap.size w (some ⟨b1, o1, none⟩) sz1 sc1 ∧ IsC w.heap.size w da1 dz1 dc1 ∧ (∀ j, In64 (nth sz1 j)) ∧ ∀ j, In64 (nth dz1 j)) := ⟨x3, x4, s64, T⟩
  clear x3 x4 T s64
  obtain ⟨x21, x22, x3, x4, s64, T⟩ := w9
  have HI2 : Hid (IsC w.heap.size w (some ⟨b2, o2, none⟩) sz2 sc2 ∧ IsC w.heap.size w da2 dz2 dc2 ∧ (∀ j, In64 (nth sz2 j)) ∧ ∀ j, In64 (nth dz2 j)) := ⟨x3, x4, s64, T⟩
  clear x3 x4 T s64
  have n1 := Abx.new w (.bool false) (.slice (some ⟨b1, o1, none⟩) sz1.length sc1) (.slice da1 dz1.length dc1)
  have n2 := Abx.new (w.alloc (.cells #[.bool false, .slice (some ⟨b1, o1, none⟩) sz1.length sc1, .slice da1 dz1.length dc1] 25)) (.bool false) (.slice (some ⟨b2, o2, none⟩) sz2.length sc2) (.slice da2 dz2.length dc2)
  simp only [World.size_alloc] at n2
  have n3 := lit_mid ((w.alloc (.cells #[.bool false, .slice (some ⟨b1, o1, none⟩) sz1.length sc1, .slice da1 dz1.length dc1] 25)).alloc (.cells #[.bool false, .slice (some ⟨b2, o2, none⟩) sz2.length sc2, .slice da2 dz2.length dc2] 25)) 3 [1, 5] 2 rfl
  simp only [World.size_alloc, List.map_cons, List.map_nil] at n3
  go_enter Try.func4, Try.ntmps4
  go_wp2_with fail
  obtain ⟨wo4, hwo4⟩ : ∃ wo4, wo4 = (((w.alloc (.cells #[.bool false, .slice (some ⟨b1, o1, none⟩) sz1.length sc1, .slice da1 dz1.length dc1] 25)).alloc (.cells #[.bool false, .slice (some ⟨b2, o2, none⟩) sz2.length sc2, .slice da2 dz2.length dc2] 25)).alloc (.cells #[.int .i64 1, .int .i64 5] 3)) := ⟨_, rfl⟩
  rw [← hwo4]
  have z5 : w.heap.size + 1 + 1 + 1 ≤ wo4.heap.size := by rw [hwo4]; simp only [World.size_alloc]; omega
  have B6 : Hid (Abx wo4 (w.heap.size) (.bool false) (.slice (some ⟨b1, o1, none⟩) sz1.length sc1) (.slice da1 dz1.length dc1)) := by rw [hwo4]; exact ((n1.al (.cells #[.bool false, .slice (some ⟨b2, o2, none⟩) sz2.length sc2, .slice da2 dz2.length dc2] 25)).al (.cells #[.int .i64 1, .int .i64 5] 3))
  have B7 : Hid (Abx wo4 (w.heap.size + 1) (.bool false) (.slice (some ⟨b2, o2, none⟩) sz2.length sc2) (.slice da2 dz2.length dc2)) := by rw [hwo4]; exact (n2.al (.cells #[.int .i64 1, .int .i64 5] 3))
  have L8 : Hid (MidC (w.heap.size + 1 + 1) (w.heap.size + 1 + 1 + 1) wo4 (some ⟨w.heap.size + 1 + 1, 0, none⟩) ([1, 5]) (2)) := by rw [hwo4]; exact n3
  have hb9 : Hid (Below w.heap.size w wo4) := by rw [hwo4]; exact ((((Below.refl w.heap.size w).alloc (by omega) (.cells #[.bool false, .slice (some ⟨b1, o1, none⟩) sz1.length sc1, .slice da1 dz1.length dc1] 25)).alloc (by simp only [World.size_alloc]; omega) (.cells #[.bool false, .slice (some ⟨b2, o2, none⟩) sz2.length sc2, .slice da2 dz2.length dc2] 25)).alloc (by simp only [World.size_alloc]; omega) (.cells #[.int .i64 1, .int .i64 5] 3))
  have zwo4 : w.heap.size ≤ wo4.heap.size := hb9.out.size
  clear hwo4 n1 n2 n3
  refine (vec_c (some ⟨w.heap.size + 1 + 1, 0, none⟩) 2 [1, 5] (by simp) _ (L8.out.is (by omega)).1).mono ?_
  rintro e v1 ⟨vap, vcp, gap, gcp, rfl, hVp, hGp, hB⟩
  have z10 : wo4.heap.size ≤ v1.heap.size := hB.size
  have B11 : Hid (Abx v1 (w.heap.size) (.bool false) (.slice (some ⟨b1, o1, none⟩) sz1.length sc1) (.slice da1 dz1.length dc1)) := B6.out.go hB
  have B12 : Hid (Abx v1 (w.heap.size + 1) (.bool false) (.slice (some ⟨b2, o2, none⟩) sz2.length sc2) (.slice da2 dz2.length dc2)) := B7.out.go hB
  have L13 : Hid (MidC (w.heap.size + 1 + 1) (w.heap.size + 1 + 1 + 1) v1 (some ⟨w.heap.size + 1 + 1, 0, none⟩) ([1, 5]) (2)) := L8.out.go (by omega) hB
  have hb14 : Hid (Below w.heap.size w v1) := hb9.out.trans (hB.mono hb9.out.size)
  have L15 : Hid (MidC (wo4.heap.size) (v1.heap.size) v1 (vap) ([(2 : Int)]) (vcp)) := hVp.midc
  have L16 : Hid (MidC (wo4.heap.size) (v1.heap.size) v1 (gap) ([1, 5]) (gcp)) := hGp.midc
  clear hB hb9 B6 B7 L8 hVp hGp
  clear L13
  have n17 := lit_mid v1 3 [4, 3] 2 rfl
  simp only [List.map_cons, List.map_nil] at n17
  go_wp2_with fail
  obtain ⟨wo18, hwo18⟩ : ∃ wo18, wo18 = (v1.alloc (.cells #[.int .i64 4, .int .i64 3] 3)) := ⟨_, rfl⟩
  rw [← hwo18]
  have z19 : v1.heap.size + 1 ≤ wo18.heap.size := by rw [hwo18]; simp only [World.size_alloc]; omega
  have B20 : Hid (Abx wo18 (w.heap.size) (.bool false) (.slice (some ⟨b1, o1, none⟩) sz1.length sc1) (.slice da1 dz1.length dc1)) := by rw [hwo18]; exact (B11.out.al (.cells #[.int .i64 4, .int .i64 3] 3))
  have B21 : Hid (Abx wo18 (w.heap.size + 1) (.bool false) (.slice (some ⟨b2, o2, none⟩) sz2.length sc2) (.slice da2 dz2.length dc2)) := by rw [hwo18]; exact (B12.out.al (.cells #[.int .i64 4, .int .i64 3] 3))
  have L22 : Hid (MidC (wo4.heap.size) (v1.heap.size) wo18 (vap) ([(2 : Int)]) (vcp)) := by rw [hwo18]; exact (L15.out.al (by omega) (.cells #[.int .i64 4, .int .i64 3] 3))
  have L23 : Hid (MidC (wo4.heap.size) (v1.heap.size) wo18 (gap) ([1, 5]) (gcp)) := by rw [hwo18]; exact (L16.out.al (by omega) (.cells #[.int .i64 4, .int .i64 3] 3))
  have L24 : Hid (MidC (v1.heap.size) (v1.heap.size + 1) wo18 (some ⟨v1.heap.size, 0, none⟩) ([4, 3]) (2)) := by rw [hwo18]; exact n17
  have hb25 : Hid (Below w.heap.size w wo18) := by rw [hwo18]; exact (hb14.out.alloc (by omega) (.cells #[.int .i64 4, .int .i64 3] 3))
  have zwo18 : w.heap.size ≤ wo18.heap.size := hb25.out.size
  clear hwo18 n17 hb14 B11 B12 L15 L16
  refine (vec_c (some ⟨v1.heap.size, 0, none⟩) 2 [4, 3] (by simp) _ (L24.out.is (by omega)).1).mono ?_
  rintro e v2 ⟨vaq, vcq, gaq, gcq, rfl, hVq, hGq, hB⟩
  have z26 : wo18.heap.size ≤ v2.heap.size := hB.size
  have B27 : Hid (Abx v2 (w.heap.size) (.bool false) (.slice (some ⟨b1, o1, none⟩) sz1.length sc1) (.slice da1 dz1.length dc1)) := B20.out.go hB
  have B28 : Hid (Abx v2 (w.heap.size + 1) (.bool false) (.slice (some ⟨b2, o2, none⟩) sz2.length sc2) (.slice da2 dz2.length dc2)) := B21.out.go hB
  have L29 : Hid (MidC (wo4.heap.size) (v1.heap.size) v2 (vap) ([(2 : Int)]) (vcp)) := L22.out.go (by omega) hB
  have L30 : Hid (MidC (wo4.heap.size) (v1.heap.size) v2 (gap) ([1, 5]) (gcp)) := L23.out.go (by omega) hB
  have L31 : Hid (MidC (v1.heap.size) (v1.heap.size + 1) v2 (some ⟨v1.heap.size, 0, none⟩) ([4, 3]) (2)) := L24.out.go (by omega) hB
  have hb32 : Hid (Below w.heap.size w v2) := hb25.out.trans (hB.mono hb25.out.size)
  have L33 : Hid (MidC (wo18.heap.size) (v2.heap.size) v2 (vaq) ([(2 : Int)]) (vcq)) := hVq.midc
  have L34 : Hid (MidC (wo18.heap.size) (v2.heap.size) v2 (gaq) ([4, 3]) (gcq)) := hGq.midc
  clear hB hb25 B20 B21 L22 L23 L24 hVq hGq
  clear L31
  go_wp2_with fail
  refine (niw_ok 6 7 false vap vcp [(2 : Int)] 1 rfl gap gcp [1, 5] 2 rfl false vaq vcq [(2 : Int)] 1 rfl gaq gcq [4, 3] 2 rfl _ (by unfold In64; decide) (by unfold In64; decide) (by decide) (by decide) (L29.out.is (by omega)) (L30.out.is (by omega)).1 (lit12 (by decide)) (by decide) (by decide) (L33.out.is (by omega)) (L34.out.is (by omega)).1 (lit12 (by decide)) [] [3] HNi (by show inE 6 7 false [(2 : Int)] [1, 5] false [(2 : Int)] [4, 3] = 0 ∧ inS [(2 : Int)] [(2 : Int)] = [] ∧ inD 6 7 false [(2 : Int)] [1, 5] false [(2 : Int)] [4, 3] = [3]; decide +kernel)).mono ?_
  rintro e v3 ⟨f1, g1, f2, g2, rfl, hX0, hY0, hB⟩
  have z35 : v2.heap.size ≤ v3.heap.size := hB.size
  have B36 : Hid (Abx v3 (w.heap.size) (.bool false) (.slice (some ⟨b1, o1, none⟩) sz1.length sc1) (.slice da1 dz1.length dc1)) := B27.out.go hB
  have B37 : Hid (Abx v3 (w.heap.size + 1) (.bool false) (.slice (some ⟨b2, o2, none⟩) sz2.length sc2) (.slice da2 dz2.length dc2)) := B28.out.go hB
  have L38 : Hid (MidC (wo4.heap.size) (v1.heap.size) v3 (vap) ([(2 : Int)]) (vcp)) := L29.out.go (by omega) hB
  have L39 : Hid (MidC (wo4.heap.size) (v1.heap.size) v3 (gap) ([1, 5]) (gcp)) := L30.out.go (by omega) hB
  have L40 : Hid (MidC (wo18.heap.size) (v2.heap.size) v3 (vaq) ([(2 : Int)]) (vcq)) := L33.out.go (by omega) hB
  have L41 : Hid (MidC (wo18.heap.size) (v2.heap.size) v3 (gaq) ([4, 3]) (gcq)) := L34.out.go (by omega) hB
  have hb42 : Hid (Below w.heap.size w v3) := hb32.out.trans (hB.mono hb32.out.size)
  have L43 : Hid (MidC (v2.heap.size) (v3.heap.size) v3 (f1) ([]) (g1)) := hX0.midc
  have L44 : Hid (MidC (v2.heap.size) (v3.heap.size) v3 (f2) ([3]) (g2)) := hY0.midc
  clear hB hb32 B27 B28 L29 L30 L33 L34 hX0 hY0
  clear L38 L39 L40 L41
  obtain ⟨b45, ob45, rfl, _, _, _, _⟩ := L44.out.at (i := 0) (by decide)
  have n46 := Abx.new v3 (.bool false) (.slice f1 0 g1) (.slice (some ⟨b45, ob45, none⟩) 1 g2)
  have l47 := (n46).c0
  have l48 := (n46).c1
  have l49 := (n46).c2
  obtain ⟨_, _, l50e, _, _, l50, _⟩ := ((L44.out.al (by omega) (.cells #[.bool false, .slice f1 0 g1, .slice (some ⟨b45, ob45, none⟩) 1 g2] 25))).at (i := 0) (by decide)
  cases l50e
  try simp only [Nat.add_zero] at l50
  go_wp2_with fail
  obtain ⟨wo51, hwo51⟩ : ∃ wo51, wo51 = (v3.alloc (.cells #[.bool false, .slice f1 0 g1, .slice (some ⟨b45, ob45, none⟩) 1 g2] 25)) := ⟨_, rfl⟩
  rw [← hwo51]
  have z52 : v3.heap.size + 1 ≤ wo51.heap.size := by rw [hwo51]; simp only [World.size_alloc]; omega
  have B53 : Hid (Abx wo51 (w.heap.size) (.bool false) (.slice (some ⟨b1, o1, none⟩) sz1.length sc1) (.slice da1 dz1.length dc1)) := by rw [hwo51]; exact (B36.out.al (.cells #[.bool false, .slice f1 0 g1, .slice (some ⟨b45, ob45, none⟩) 1 g2] 25))
  have B54 : Hid (Abx wo51 (w.heap.size + 1) (.bool false) (.slice (some ⟨b2, o2, none⟩) sz2.length sc2) (.slice da2 dz2.length dc2)) := by rw [hwo51]; exact (B37.out.al (.cells #[.bool false, .slice f1 0 g1, .slice (some ⟨b45, ob45, none⟩) 1 g2] 25))
  have B55 : Hid (Abx wo51 (v3.heap.size) (.bool false) (.slice f1 0 g1) (.slice (some ⟨b45, ob45, none⟩) 1 g2)) := by rw [hwo51]; exact n46
  have L56 : Hid (MidC (v2.heap.size) (v3.heap.size) wo51 (f1) ([]) (g1)) := by rw [hwo51]; exact (L43.out.al (by omega) (.cells #[.bool false, .slice f1 0 g1, .slice (some ⟨b45, ob45, none⟩) 1 g2] 25))
  have L57 : Hid (MidC (v2.heap.size) (v3.heap.size) wo51 (some ⟨b45, ob45, none⟩) ([3]) (g2)) := by rw [hwo51]; exact (L44.out.al (by omega) (.cells #[.bool false, .slice f1 0 g1, .slice (some ⟨b45, ob45, none⟩) 1 g2] 25))
  have hb58 : Hid (Below w.heap.size w wo51) := by rw [hwo51]; exact (hb42.out.alloc (by omega) (.cells #[.bool false, .slice f1 0 g1, .slice (some ⟨b45, ob45, none⟩) 1 g2] 25))
  have zwo51 : w.heap.size ≤ wo51.heap.size := hb58.out.size
  clear hwo51 n46 l47 l48 l49 l50 hb42 B36 B37 L43 L44
  clear L56 L57 B55
  have sx11 : wo51.cell? ⟨b1, o1 + 1, none⟩ = some (.int .i64 n1) := (hb58.out.cell (p := ⟨b1, o1 + 1, none⟩) HC1.out.1).trans HC1.out.2.2
  have sx20 : wo51.cell? ⟨b2, o2, none⟩ = some (.int .i64 m2) := (hb58.out.cell (p := ⟨b2, o2, none⟩) HC2.out.1).trans HC2.out.2.1
  have hb0 : Below wo51.heap.size wo51 wo51.drew := (Below.refl _ wo51).drew
  refine anyC_begin (fun w' => w'.cell? ⟨w.heap.size, 0, none⟩ = some (.bool false) ∧ w'.cell? ⟨w.heap.size, 1, none⟩ = some (.slice (some ⟨b1, o1, none⟩) sz1.length sc1) ∧ w'.cell? ⟨w.heap.size, 2, none⟩ = some (.slice da1 dz1.length dc1) ∧ w'.cell? ⟨w.heap.size + 1, 0, none⟩ = some (.bool false) ∧ w'.cell? ⟨w.heap.size + 1, 1, none⟩ = some (.slice (some ⟨b2, o2, none⟩) sz2.length sc2) ∧ w'.cell? ⟨w.heap.size + 1, 2, none⟩ = some (.slice da2 dz2.length dc2) ∧ w'.cell? ⟨b1, o1 + 1, none⟩ = some (.int .i64 n1) ∧ w'.cell? ⟨b2, o2, none⟩ = some (.int .i64 m2)) 25 #[false, false, false, false, false, false, false, false, false, false, false, false, false, false, false, false, false, false, false, false, false, false, false, false, false] (by kernel_rfl) rfl rfl ?_
  refine anyC_put 0 44 ?rv449 #[true, false, false, false, false, false, false, false, false, false, false, false, false, false, false, false, false, false, false, false, false, false, false, false, false] rfl rfl rfl (by kernel_rfl) (by kernel_rfl) (by kernel_rfl) (fun _ _ _ h => h) ?ry449 (⟨(B53.out.go hb0).c0, (B53.out.go hb0).c1, (B53.out.go hb0).c2, (B54.out.go hb0).c0, (B54.out.go hb0).c1, (B54.out.go hb0).c2, cell_to sx11 hb0, cell_to sx20 hb0⟩) ?rm449
  case ry449 => first | exact Or.inl ⟨by rfl, by intro w'; go_simp; first | done | rfl⟩
  case rm449 =>
  simp only [Act.put, List.setIfInBounds_toArray, List.set_cons_zero, List.set_cons_succ]
  refine anyC_put 1 45 ?rv450 #[true, true, false, false, false, false, false, false, false, false, false, false, false, false, false, false, false, false, false, false, false, false, false, false, false] rfl rfl rfl (by kernel_rfl) (by kernel_rfl) (by kernel_rfl) (fun _ _ _ h => h) ?ry450 (⟨(B53.out.go hb0).c0, (B53.out.go hb0).c1, (B53.out.go hb0).c2, (B54.out.go hb0).c0, (B54.out.go hb0).c1, (B54.out.go hb0).c2, cell_to sx11 hb0, cell_to sx20 hb0⟩) ?rm450
  case ry450 => first | exact Or.inl ⟨by rfl, by intro w'; go_simp; first | done | rfl⟩
  case rm450 =>
  simp only [Act.put, List.setIfInBounds_toArray, List.set_cons_zero, List.set_cons_succ]
  refine anyC_one 2 #[true, true, true, false, false, false, false, false, false, false, false, false, false, false, false, false, false, false, false, false, false, false, false, false, false] (by kernel_rfl) rfl rfl (fun K hK => ?_)
  go_simp
  go_wp2_with (go_at_call 9; refine (sring_any f g _).mono ?_; rintro e ysr ⟨rfl, hysr⟩; obtain rfl := hysr.symm; rw [srB_yes GS.out])
  refine hK.out _ _ (⟨(B53.out.go hb0).c0, (B53.out.go hb0).c1, (B53.out.go hb0).c2, (B54.out.go hb0).c0, (B54.out.go hb0).c1, (B54.out.go hb0).c2, cell_to sx11 hb0, cell_to sx20 hb0⟩) ?_
  clear hK K
  refine anyC_put 3 47 ?rv452 #[true, true, true, true, false, false, false, false, false, false, false, false, false, false, false, false, false, false, false, false, false, false, false, false, false] rfl rfl rfl (by kernel_rfl) (by kernel_rfl) (by kernel_rfl) (fun _ _ _ h => h) ?ry452 (⟨(B53.out.go hb0).c0, (B53.out.go hb0).c1, (B53.out.go hb0).c2, (B54.out.go hb0).c0, (B54.out.go hb0).c1, (B54.out.go hb0).c2, cell_to sx11 hb0, cell_to sx20 hb0⟩) ?rm452
  case ry452 => first | exact Or.inl ⟨by rfl, by intro w'; go_simp; first | done | rfl⟩
  case rm452 =>
  simp only [Act.put, List.setIfInBounds_toArray, List.set_cons_zero, List.set_cons_succ]
  refine anyC_put 4 48 ?rv453 #[true, true, true, true, true, false, false, false, false, false, false, false, false, false, false, false, false, false, false, false, false, false, false, false, false] rfl rfl rfl (by kernel_rfl) (by kernel_rfl) (by kernel_rfl) (fun _ _ _ h => h) ?ry453 (⟨(B53.out.go hb0).c0, (B53.out.go hb0).c1, (B53.out.go hb0).c2, (B54.out.go hb0).c0, (B54.out.go hb0).c1, (B54.out.go hb0).c2, cell_to sx11 hb0, cell_to sx20 hb0⟩) ?rm453
  case ry453 => first | exact Or.inl ⟨by rfl, by intro w'; go_simp; first | done | rfl⟩
  case rm453 =>
  simp only [Act.put, List.setIfInBounds_toArray, List.set_cons_zero, List.set_cons_succ]
  refine anyC_take 5 49 ?rv454 #[true, true, true, true, true, true, false, false, false, false, false, false, false, false, false, false, false, false, false, false, false, false, false, false, false] rfl rfl rfl (by kernel_rfl) (by kernel_rfl) (by kernel_rfl) (fun _ _ _ h => h) ?ry454 (⟨(B53.out.go hb0).c0, (B53.out.go hb0).c1, (B53.out.go hb0).c2, (B54.out.go hb0).c0, (B54.out.go hb0).c1, (B54.out.go hb0).c2, cell_to sx11 hb0, cell_to sx20 hb0⟩) ?rm454
  case ry454 => first | exact Or.inl ⟨by rfl, by intro w' hw'; (try dsimp only at hw'); go_simp; first | done | rfl⟩ | exact Or.inr ⟨by rfl, rfl⟩ | exact Or.inr ⟨by rfl, by rfl⟩
  case rm454 =>
  simp only [Act.put, List.setIfInBounds_toArray, List.set_cons_zero, List.set_cons_succ]
  refine anyC_one 6 #[true, true, true, true, true, true, true, false, false, false, false, false, false, false, false, false, false, false, false, false, false, false, false, false, false] (by kernel_rfl) rfl rfl (fun K hK => ?_)
  go_simp
  go_wp2_with (go_at_call 10; refine (grid_yes 16 (by decide) false (some ⟨b1, o1, none⟩) sc1 sz1 da1 dc1 dz1 _ ((HI1.out.1.1.below (hb58.out.trans (hb0.mono hb58.out.size))).mono (hb58.out.trans (hb0.mono hb58.out.size)).size) G1.out).mono ?_; rintro e y1 ⟨rfl, hBy1⟩)
  have hby1 : Below wo51.heap.size wo51 y1 := hb0.trans (hBy1.mono hb0.size)
  refine hK.out _ _ (⟨(B53.out.go hby1).c0, (B53.out.go hby1).c1, (B53.out.go hby1).c2, (B54.out.go hby1).c0, (B54.out.go hby1).c1, (B54.out.go hby1).c2, cell_to sx11 hby1, cell_to sx20 hby1⟩) ?_
  clear hK K
  refine anyC_put 7 51 ?rv456 #[true, true, true, true, true, true, true, true, false, false, false, false, false, false, false, false, false, false, false, false, false, false, false, false, false] rfl rfl rfl (by kernel_rfl) (by kernel_rfl) (by kernel_rfl) (fun _ _ _ h => h) ?ry456 (⟨(B53.out.go hby1).c0, (B53.out.go hby1).c1, (B53.out.go hby1).c2, (B54.out.go hby1).c0, (B54.out.go hby1).c1, (B54.out.go hby1).c2, cell_to sx11 hby1, cell_to sx20 hby1⟩) ?rm456
  case ry456 => first | exact Or.inl ⟨by rfl, by intro w'; go_simp; first | done | rfl⟩ | exact Or.inr ⟨by rfl, rfl⟩ | exact Or.inr ⟨by rfl, by rfl⟩
  case rm456 =>
  simp only [Act.put, List.setIfInBounds_toArray, List.set_cons_zero, List.set_cons_succ]
  refine anyC_put 8 52 ?rv457 #[true, true, true, true, true, true, true, true, true, false, false, false, false, false, false, false, false, false, false, false, false, false, false, false, false] rfl rfl rfl (by kernel_rfl) (by kernel_rfl) (by kernel_rfl) (fun _ _ _ h => h) ?ry457 (⟨(B53.out.go hby1).c0, (B53.out.go hby1).c1, (B53.out.go hby1).c2, (B54.out.go hby1).c0, (B54.out.go hby1).c1, (B54.out.go hby1).c2, cell_to sx11 hby1, cell_to sx20 hby1⟩) ?rm457
  case ry457 => first | exact Or.inl ⟨by rfl, by intro w'; go_simp; first | done | rfl⟩
  case rm457 =>
  simp only [Act.put, List.setIfInBounds_toArray, List.set_cons_zero, List.set_cons_succ]
  refine anyC_put 9 53 ?rv458 #[true, true, true, true, true, true, true, true, true, true, false, false, false, false, false, false, false, false, false, false, false, false, false, false, false] rfl rfl rfl (by kernel_rfl) (by kernel_rfl) (by kernel_rfl) (fun _ _ _ h => h) ?ry458 (⟨(B53.out.go hby1).c0, (B53.out.go hby1).c1, (B53.out.go hby1).c2, (B54.out.go hby1).c0, (B54.out.go hby1).c1, (B54.out.go hby1).c2, cell_to sx11 hby1, cell_to sx20 hby1⟩) ?rm458
  case ry458 => first | exact Or.inl ⟨by rfl, by intro w'; go_simp; first | done | rfl⟩
  case rm458 =>
  simp only [Act.put, List.setIfInBounds_toArray, List.set_cons_zero, List.set_cons_succ]
  refine anyC_take 10 54 ?rv459 #[true, true, true, true, true, true, true, true, true, true, true, false, false, false, false, false, false, false, false, false, false, false, false, false, false] rfl rfl rfl (by kernel_rfl) (by kernel_rfl) (by kernel_rfl) (fun _ _ _ h => h) ?ry459 (⟨(B53.out.go hby1).c0, (B53.out.go hby1).c1, (B53.out.go hby1).c2, (B54.out.go hby1).c0, (B54.out.go hby1).c1, (B54.out.go hby1).c2, cell_to sx11 hby1, cell_to sx20 hby1⟩) ?rm459
  case ry459 => first | exact Or.inl ⟨by rfl, by intro w' hw'; (try dsimp only at hw'); go_simp; first | done | rfl⟩ | exact Or.inr ⟨by rfl, rfl⟩ | exact Or.inr ⟨by rfl, by rfl⟩
  case rm459 =>
  simp only [Act.put, List.setIfInBounds_toArray, List.set_cons_zero, List.set_cons_succ]
  refine anyC_one 11 #[true, true, true, true, true, true, true, true, true, true, true, true, false, false, false, false, false, false, false, false, false, false, false, false, false] (by kernel_rfl) rfl rfl (fun K hK => ?_)
  go_simp
  go_wp2_with (go_at_call 10; refine (grid_yes 16 (by decide) false (some ⟨b2, o2, none⟩) sc2 sz2 da2 dc2 dz2 _ ((HI2.out.1.1.below (hb58.out.trans (hby1.mono hb58.out.size))).mono (hb58.out.trans (hby1.mono hb58.out.size)).size) G2.out).mono ?_; rintro e y2 ⟨rfl, hBy2⟩)
  have hby2 : Below wo51.heap.size wo51 y2 := hby1.trans (hBy2.mono hby1.size)
  refine hK.out _ _ (⟨(B53.out.go hby2).c0, (B53.out.go hby2).c1, (B53.out.go hby2).c2, (B54.out.go hby2).c0, (B54.out.go hby2).c1, (B54.out.go hby2).c2, cell_to sx11 hby2, cell_to sx20 hby2⟩) ?_
  clear hK K
  refine anyC_put 12 56 ?rv461 #[true, true, true, true, true, true, true, true, true, true, true, true, true, false, false, false, false, false, false, false, false, false, false, false, false] rfl rfl rfl (by kernel_rfl) (by kernel_rfl) (by kernel_rfl) (fun _ _ _ h => h) ?ry461 (⟨(B53.out.go hby2).c0, (B53.out.go hby2).c1, (B53.out.go hby2).c2, (B54.out.go hby2).c0, (B54.out.go hby2).c1, (B54.out.go hby2).c2, cell_to sx11 hby2, cell_to sx20 hby2⟩) ?rm461
  case ry461 => first | exact Or.inl ⟨by rfl, by intro w'; go_simp; first | done | rfl⟩ | exact Or.inr ⟨by rfl, rfl⟩ | exact Or.inr ⟨by rfl, by rfl⟩
  case rm461 =>
  simp only [Act.put, List.setIfInBounds_toArray, List.set_cons_zero, List.set_cons_succ]
  refine anyC_put 13 57 ?rv462 #[true, true, true, true, true, true, true, true, true, true, true, true, true, true, false, false, false, false, false, false, false, false, false, false, false] rfl rfl rfl (by kernel_rfl) (by kernel_rfl) (by kernel_rfl) (fun _ _ _ h => h) ?ry462 (⟨(B53.out.go hby2).c0, (B53.out.go hby2).c1, (B53.out.go hby2).c2, (B54.out.go hby2).c0, (B54.out.go hby2).c1, (B54.out.go hby2).c2, cell_to sx11 hby2, cell_to sx20 hby2⟩) ?rm462
  case ry462 => first | exact Or.inl ⟨by rfl, by intro w'; go_simp; first | done | rfl⟩
  case rm462 =>
  simp only [Act.put, List.setIfInBounds_toArray, List.set_cons_zero, List.set_cons_succ]
  refine anyC_put 14 58 ?rv463 #[true, true, true, true, true, true, true, true, true, true, true, true, true, true, true, false, false, false, false, false, false, false, false, false, false] rfl rfl rfl (by kernel_rfl) (by kernel_rfl) (by kernel_rfl) (fun _ _ _ h => h) ?ry463 (⟨(B53.out.go hby2).c0, (B53.out.go hby2).c1, (B53.out.go hby2).c2, (B54.out.go hby2).c0, (B54.out.go hby2).c1, (B54.out.go hby2).c2, cell_to sx11 hby2, cell_to sx20 hby2⟩) ?rm463
  case ry463 => first | exact Or.inl ⟨by rfl, by intro w'; go_simp; first | done | rfl⟩
  case rm463 =>
  simp only [Act.put, List.setIfInBounds_toArray, List.set_cons_zero, List.set_cons_succ]
  refine anyC_put 15 59 ?rv464 #[true, true, true, true, true, true, true, true, true, true, true, true, true, true, true, true, false, false, false, false, false, false, false, false, false] rfl rfl rfl (by kernel_rfl) (by kernel_rfl) (by kernel_rfl) (fun _ _ _ h => h) ?ry464 (⟨(B53.out.go hby2).c0, (B53.out.go hby2).c1, (B53.out.go hby2).c2, (B54.out.go hby2).c0, (B54.out.go hby2).c1, (B54.out.go hby2).c2, cell_to sx11 hby2, cell_to sx20 hby2⟩) ?rm464
  case ry464 => first | exact Or.inl ⟨by rfl, by intro w'; go_simp; first | done | rfl⟩ | exact Or.inr ⟨by rfl, rfl⟩ | exact Or.inr ⟨by rfl, by rfl⟩
  case rm464 =>
  simp only [Act.put, List.setIfInBounds_toArray, List.set_cons_zero, List.set_cons_succ]
  refine anyC_take 16 60 ?rv465 #[true, true, true, true, true, true, true, true, true, true, true, true, true, true, true, true, true, false, false, false, false, false, false, false, false] rfl rfl rfl (by kernel_rfl) (by kernel_rfl) (by kernel_rfl) (fun _ _ _ h => h) ?ry465 (⟨(B53.out.go hby2).c0, (B53.out.go hby2).c1, (B53.out.go hby2).c2, (B54.out.go hby2).c0, (B54.out.go hby2).c1, (B54.out.go hby2).c2, cell_to sx11 hby2, cell_to sx20 hby2⟩) ?rm465
  case ry465 => first | exact Or.inl ⟨by rfl, by intro w' hw'; (try dsimp only at hw'); go_simp; first | done | rfl⟩ | exact Or.inr ⟨by rfl, rfl⟩ | exact Or.inr ⟨by rfl, by rfl⟩
  case rm465 =>
  simp only [Act.put, List.setIfInBounds_toArray, List.set_cons_zero, List.set_cons_succ]
  refine anyC_put 17 61 ?rv466 #[true, true, true, true, true, true, true, true, true, true, true, true, true, true, true, true, true, true, false, false, false, false, false, false, false] rfl rfl rfl (by kernel_rfl) (by kernel_rfl) (by kernel_rfl) (fun _ _ _ h => h) ?ry466 (⟨(B53.out.go hby2).c0, (B53.out.go hby2).c1, (B53.out.go hby2).c2, (B54.out.go hby2).c0, (B54.out.go hby2).c1, (B54.out.go hby2).c2, cell_to sx11 hby2, cell_to sx20 hby2⟩) ?rm466
  case ry466 => first | exact Or.inl ⟨by rfl, by intro w'; go_simp; first | done | rfl⟩ | exact Or.inr ⟨by rfl, rfl⟩ | exact Or.inr ⟨by rfl, by rfl⟩
  case rm466 =>
  simp only [Act.put, List.setIfInBounds_toArray, List.set_cons_zero, List.set_cons_succ]
  refine anyC_take 18 62 ?rv467 #[true, true, true, true, true, true, true, true, true, true, true, true, true, true, true, true, true, true, true, false, false, false, false, false, false] rfl rfl rfl (by kernel_rfl) (by kernel_rfl) (by kernel_rfl) (fun _ _ _ h => h) ?ry467 (⟨(B53.out.go hby2).c0, (B53.out.go hby2).c1, (B53.out.go hby2).c2, (B54.out.go hby2).c0, (B54.out.go hby2).c1, (B54.out.go hby2).c2, cell_to sx11 hby2, cell_to sx20 hby2⟩) ?rm467
  case ry467 => first | exact Or.inl ⟨by rfl, by intro w' hw'; (try dsimp only at hw'); go_simp; first | done | rfl⟩ | exact Or.inr ⟨by rfl, rfl⟩ | exact Or.inr ⟨by rfl, by rfl⟩
  case rm467 =>
  simp only [Act.put, List.setIfInBounds_toArray, List.set_cons_zero, List.set_cons_succ]
  refine anyC_put 19 63 ?rv468 #[true, true, true, true, true, true, true, true, true, true, true, true, true, true, true, true, true, true, true, true, false, false, false, false, false] rfl rfl rfl (by kernel_rfl) (by kernel_rfl) (by kernel_rfl) (fun _ _ _ h => h) ?ry468 (⟨(B53.out.go hby2).c0, (B53.out.go hby2).c1, (B53.out.go hby2).c2, (B54.out.go hby2).c0, (B54.out.go hby2).c1, (B54.out.go hby2).c2, cell_to sx11 hby2, cell_to sx20 hby2⟩) ?rm468
  case ry468 => first | exact Or.inl ⟨by rfl, by intro w'; go_simp; first | done | rfl⟩ | exact Or.inr ⟨by rfl, rfl⟩ | exact Or.inr ⟨by rfl, by rfl⟩
  case rm468 =>
  simp only [Act.put, List.setIfInBounds_toArray, List.set_cons_zero, List.set_cons_succ]
  refine anyC_take 20 64 ?rv469 #[true, true, true, true, true, true, true, true, true, true, true, true, true, true, true, true, true, true, true, true, true, false, false, false, false] rfl rfl rfl (by kernel_rfl) (by kernel_rfl) (by kernel_rfl) (fun _ _ _ h => h) ?ry469 (⟨(B53.out.go hby2).c0, (B53.out.go hby2).c1, (B53.out.go hby2).c2, (B54.out.go hby2).c0, (B54.out.go hby2).c1, (B54.out.go hby2).c2, cell_to sx11 hby2, cell_to sx20 hby2⟩) ?rm469
  case ry469 => first | exact Or.inl ⟨by rfl, by intro w' hw'; (try dsimp only at hw'); go_simp; first | done | rfl⟩ | exact Or.inr ⟨by rfl, rfl⟩ | exact Or.inr ⟨by rfl, by rfl⟩
  case rm469 =>
  simp only [Act.put, List.setIfInBounds_toArray, List.set_cons_zero, List.set_cons_succ]
  refine anyC_put 21 65 ?rv470 #[true, true, true, true, true, true, true, true, true, true, true, true, true, true, true, true, true, true, true, true, true, true, false, false, false] rfl rfl rfl (by kernel_rfl) (by kernel_rfl) (by kernel_rfl) (fun _ _ _ h => h) ?ry470 (⟨(B53.out.go hby2).c0, (B53.out.go hby2).c1, (B53.out.go hby2).c2, (B54.out.go hby2).c0, (B54.out.go hby2).c1, (B54.out.go hby2).c2, cell_to sx11 hby2, cell_to sx20 hby2⟩) ?rm470
  case ry470 => first | exact Or.inl ⟨by rfl, by intro w'; go_simp; first | done | rfl⟩ | exact Or.inr ⟨by rfl, rfl⟩ | exact Or.inr ⟨by rfl, by rfl⟩
  case rm470 =>
  simp only [Act.put, List.setIfInBounds_toArray, List.set_cons_zero, List.set_cons_succ]
  refine anyC_take 22 66 ?rv471 #[true, true, true, true, true, true, true, true, true, true, true, true, true, true, true, true, true, true, true, true, true, true, true, false, false] rfl rfl rfl (by kernel_rfl) (by kernel_rfl) (by kernel_rfl) (fun _ _ _ h => h) ?ry471 (⟨(B53.out.go hby2).c0, (B53.out.go hby2).c1, (B53.out.go hby2).c2, (B54.out.go hby2).c0, (B54.out.go hby2).c1, (B54.out.go hby2).c2, cell_to sx11 hby2, cell_to sx20 hby2⟩) ?rm471
  case ry471 => first | exact Or.inl ⟨by rfl, by intro w' hw'; (try dsimp only at hw'); go_simp; first | done | rfl⟩ | exact Or.inr ⟨by rfl, rfl⟩ | exact Or.inr ⟨by rfl, by rfl⟩
  case rm471 =>
  simp only [Act.put, List.setIfInBounds_toArray, List.set_cons_zero, List.set_cons_succ]
  refine anyC_put 23 67 ?rv472 #[true, true, true, true, true, true, true, true, true, true, true, true, true, true, true, true, true, true, true, true, true, true, true, true, false] rfl rfl rfl (by kernel_rfl) (by kernel_rfl) (by kernel_rfl) (fun _ _ _ h => h) ?ry472 (⟨(B53.out.go hby2).c0, (B53.out.go hby2).c1, (B53.out.go hby2).c2, (B54.out.go hby2).c0, (B54.out.go hby2).c1, (B54.out.go hby2).c2, cell_to sx11 hby2, cell_to sx20 hby2⟩) ?rm472
  case ry472 => first | exact Or.inl ⟨by rfl, by intro w'; go_simp; first | done | rfl⟩ | exact Or.inr ⟨by rfl, rfl⟩ | exact Or.inr ⟨by rfl, by rfl⟩
  case rm472 =>
  simp only [Act.put, List.setIfInBounds_toArray, List.set_cons_zero, List.set_cons_succ]
  refine anyC_put 24 68 ?rv473 #[true, true, true, true, true, true, true, true, true, true, true, true, true, true, true, true, true, true, true, true, true, true, true, true, true] rfl rfl rfl (by kernel_rfl) (by kernel_rfl) (by kernel_rfl) (fun _ _ _ h => h) ?ry473 (⟨(B53.out.go hby2).c0, (B53.out.go hby2).c1, (B53.out.go hby2).c2, (B54.out.go hby2).c0, (B54.out.go hby2).c1, (B54.out.go hby2).c2, cell_to sx11 hby2, cell_to sx20 hby2⟩) ?rm473
  case ry473 => first | exact Or.inl ⟨by rfl, by intro w'; go_simp; first | done | rfl⟩
  case rm473 =>
  simp only [Act.put, List.setIfInBounds_toArray, List.set_cons_zero, List.set_cons_succ]
  refine anyC_done (by kernel_rfl) ?_
  have hB := hby2
  have z59 : wo51.heap.size ≤ y2.heap.size := hB.size
  have B60 : Hid (Abx y2 (w.heap.size) (.bool false) (.slice (some ⟨b1, o1, none⟩) sz1.length sc1) (.slice da1 dz1.length dc1)) := B53.out.go hB
  have B61 : Hid (Abx y2 (w.heap.size + 1) (.bool false) (.slice (some ⟨b2, o2, none⟩) sz2.length sc2) (.slice da2 dz2.length dc2)) := B54.out.go hB
  have hb62 : Hid (Below w.heap.size w y2) := hb58.out.trans (hB.mono hb58.out.size)
  clear hB hb58 B53 B54
  have l63 := (B60.out).c0
  have l64 := (B60.out).c1
  have l65 := (B60.out).c2
  have l66 := (B61.out).c0
  have l67 := (B61.out).c1
  have l68 := (B61.out).c2
  go_wp2_with fail
  clear l63 l64 l65 l66 l67 l68
  refine (niw_ok f g false (some ⟨b1, o1, none⟩) sc1 sz1 sz1.length rfl da1 dc1 dz1 dz1.length rfl false (some ⟨b2, o2, none⟩) sc2 sz2 sz2.length rfl da2 dc2 dz2 dz2.length rfl _ hf hg x11 x12 ((HI1.out.1.below hb62.out).mono hb62.out.size) ((HI1.out.2.1.1.below hb62.out).mono hb62.out.size) HI1.out.2.2.2 x21 x22 ((HI2.out.1.below hb62.out).mono hb62.out.size) ((HI2.out.2.1.1.below hb62.out).mono hb62.out.size) HI2.out.2.2.2 S1 D1 HNi HR1.out).mono ?_
  rintro e v4 ⟨xa1, xc1, ya1, yc1, rfl, hX1, hY1, hB⟩
  have z69 : y2.heap.size ≤ v4.heap.size := hB.size
  have B70 : Hid (Abx v4 (w.heap.size) (.bool false) (.slice (some ⟨b1, o1, none⟩) sz1.length sc1) (.slice da1 dz1.length dc1)) := B60.out.go hB
  have B71 : Hid (Abx v4 (w.heap.size + 1) (.bool false) (.slice (some ⟨b2, o2, none⟩) sz2.length sc2) (.slice da2 dz2.length dc2)) := B61.out.go hB
  have hb72 : Hid (Below w.heap.size w v4) := hb62.out.trans (hB.mono hb62.out.size)
  have L73 : Hid (MidC (y2.heap.size) (v4.heap.size) v4 (xa1) (S1) (xc1)) := hX1.midc
  have L74 : Hid (MidC (y2.heap.size) (v4.heap.size) v4 (ya1) (D1) (yc1)) := hY1.midc
  clear hB hb62 B60 B61 hX1 hY1
  have n75 := Abx.new v4 (.bool false) (.slice xa1 S1.length xc1) (.slice ya1 D1.length yc1)
  have n76 := lit_mid (v4.alloc (.cells #[.bool false, .slice xa1 S1.length xc1, .slice ya1 D1.length yc1] 25)) 3 [1, 0] 2 rfl
  simp only [World.size_alloc, List.map_cons, List.map_nil] at n76
  have l77 := ((n75.al (.cells #[.int .i64 1, .int .i64 0] 3))).c0
  have l78 := ((n75.al (.cells #[.int .i64 1, .int .i64 0] 3))).c1
  have l79 := ((n75.al (.cells #[.int .i64 1, .int .i64 0] 3))).c2
  go_wp2_with fail
  obtain ⟨wo80, hwo80⟩ : ∃ wo80, wo80 = ((v4.alloc (.cells #[.bool false, .slice xa1 S1.length xc1, .slice ya1 D1.length yc1] 25)).alloc (.cells #[.int .i64 1, .int .i64 0] 3)) := ⟨_, rfl⟩
  rw [← hwo80]
  have z81 : v4.heap.size + 1 + 1 ≤ wo80.heap.size := by rw [hwo80]; simp only [World.size_alloc]; omega
  have B82 : Hid (Abx wo80 (w.heap.size) (.bool false) (.slice (some ⟨b1, o1, none⟩) sz1.length sc1) (.slice da1 dz1.length dc1)) := by rw [hwo80]; exact ((B70.out.al (.cells #[.bool false, .slice xa1 S1.length xc1, .slice ya1 D1.length yc1] 25)).al (.cells #[.int .i64 1, .int .i64 0] 3))
  have B83 : Hid (Abx wo80 (w.heap.size + 1) (.bool false) (.slice (some ⟨b2, o2, none⟩) sz2.length sc2) (.slice da2 dz2.length dc2)) := by rw [hwo80]; exact ((B71.out.al (.cells #[.bool false, .slice xa1 S1.length xc1, .slice ya1 D1.length yc1] 25)).al (.cells #[.int .i64 1, .int .i64 0] 3))
  have B84 : Hid (Abx wo80 (v4.heap.size) (.bool false) (.slice xa1 S1.length xc1) (.slice ya1 D1.length yc1)) := by rw [hwo80]; exact (n75.al (.cells #[.int .i64 1, .int .i64 0] 3))
  have L85 : Hid (MidC (y2.heap.size) (v4.heap.size) wo80 (xa1) (S1) (xc1)) := by rw [hwo80]; exact ((L73.out.al (by omega) (.cells #[.bool false, .slice xa1 S1.length xc1, .slice ya1 D1.length yc1] 25)).al (by simp only [World.size_alloc]; omega) (.cells #[.int .i64 1, .int .i64 0] 3))
  have L86 : Hid (MidC (y2.heap.size) (v4.heap.size) wo80 (ya1) (D1) (yc1)) := by rw [hwo80]; exact ((L74.out.al (by omega) (.cells #[.bool false, .slice xa1 S1.length xc1, .slice ya1 D1.length yc1] 25)).al (by simp only [World.size_alloc]; omega) (.cells #[.int .i64 1, .int .i64 0] 3))
  have L87 : Hid (MidC (v4.heap.size + 1) (v4.heap.size + 1 + 1) wo80 (some ⟨v4.heap.size + 1, 0, none⟩) ([1, 0]) (2)) := by rw [hwo80]; exact n76
  have hb88 : Hid (Below w.heap.size w wo80) := by rw [hwo80]; exact ((hb72.out.alloc (by omega) (.cells #[.bool false, .slice xa1 S1.length xc1, .slice ya1 D1.length yc1] 25)).alloc (by simp only [World.size_alloc]; omega) (.cells #[.int .i64 1, .int .i64 0] 3))
  have zwo80 : w.heap.size ≤ wo80.heap.size := hb88.out.size
  clear hwo80 n75 n76 l77 l78 l79 hb72 B70 B71 L73 L74
  refine (flw13 false xa1 xc1 S1 ya1 yc1 D1 _ (by omega) (by omega) (L85.out.is (by omega)) (L86.out.is (by omega)).1 HTT.out.1 HFl (some ⟨v4.heap.size + 1, 0, none⟩) 2 [1, 0] 2 rfl (by decide) (L87.out.is (by omega)).1 S2 D2 HR2.out).mono ?_
  rintro e v5 ⟨xa2, xc2, ya2, yc2, rfl, hX2, hY2, hB⟩
  have z89 : wo80.heap.size ≤ v5.heap.size := hB.size
  have B90 : Hid (Abx v5 (w.heap.size) (.bool false) (.slice (some ⟨b1, o1, none⟩) sz1.length sc1) (.slice da1 dz1.length dc1)) := B82.out.go hB
  have B91 : Hid (Abx v5 (w.heap.size + 1) (.bool false) (.slice (some ⟨b2, o2, none⟩) sz2.length sc2) (.slice da2 dz2.length dc2)) := B83.out.go hB
  have B92 : Hid (Abx v5 (v4.heap.size) (.bool false) (.slice xa1 S1.length xc1) (.slice ya1 D1.length yc1)) := B84.out.go hB
  have L93 : Hid (MidC (y2.heap.size) (v4.heap.size) v5 (xa1) (S1) (xc1)) := L85.out.go (by omega) hB
  have L94 : Hid (MidC (y2.heap.size) (v4.heap.size) v5 (ya1) (D1) (yc1)) := L86.out.go (by omega) hB
  have L95 : Hid (MidC (v4.heap.size + 1) (v4.heap.size + 1 + 1) v5 (some ⟨v4.heap.size + 1, 0, none⟩) ([1, 0]) (2)) := L87.out.go (by omega) hB
  have hb96 : Hid (Below w.heap.size w v5) := hb88.out.trans (hB.mono hb88.out.size)
  have L97 : Hid (MidC (wo80.heap.size) (v5.heap.size) v5 (xa2) (S2) (xc2)) := hX2.midc
  have L98 : Hid (MidC (wo80.heap.size) (v5.heap.size) v5 (ya2) (D2) (D2.length)) := hY2.midc
  clear hB hb88 B82 B83 B84 L85 L86 L87 hX2 hY2
  clear L93 L94 L95
  have l99 := (B92.out).fr 0
  have l100 := (B92.out).c0
  have l101 := (B92.out).fr 1
  have l102 := (B92.out).c1
  have l103 := (B92.out).fr 2
  have l104 := (B92.out).c2
  have n105 := lit_mid (((v5.setCell ⟨v4.heap.size, 0, none⟩ (.bool false)).setCell ⟨v4.heap.size, 1, none⟩ (.slice xa2 S2.length xc2)).setCell ⟨v4.heap.size, 2, none⟩ (.slice ya2 D2.length yc2)) 3 [1, 0] 2 rfl
  simp only [World.size_setCell, List.map_cons, List.map_nil] at n105
  have l106 := (((abx_o3 B90.out (B := v4.heap.size) (by omega) (.bool false) (.slice xa2 S2.length xc2) (.slice ya2 D2.length yc2)).al (.cells #[.int .i64 1, .int .i64 0] 3))).c0
  have l107 := (((abx_o3 B90.out (B := v4.heap.size) (by omega) (.bool false) (.slice xa2 S2.length xc2) (.slice ya2 D2.length yc2)).al (.cells #[.int .i64 1, .int .i64 0] 3))).c1
  have l108 := (((abx_o3 B90.out (B := v4.heap.size) (by omega) (.bool false) (.slice xa2 S2.length xc2) (.slice ya2 D2.length yc2)).al (.cells #[.int .i64 1, .int .i64 0] 3))).c2
  go_wp2_with fail
  obtain ⟨wo109, hwo109⟩ : ∃ wo109, wo109 = ((((v5.setCell ⟨v4.heap.size, 0, none⟩ (.bool false)).setCell ⟨v4.heap.size, 1, none⟩ (.slice xa2 S2.length xc2)).setCell ⟨v4.heap.size, 2, none⟩ (.slice ya2 D2.length yc2)).alloc (.cells #[.int .i64 1, .int .i64 0] 3)) := ⟨_, rfl⟩
  rw [← hwo109]
  have z110 : v5.heap.size + 1 ≤ wo109.heap.size := by rw [hwo109]; simp only [World.size_alloc, World.size_setCell]; omega
  have B111 : Hid (Abx wo109 (w.heap.size) (.bool false) (.slice (some ⟨b1, o1, none⟩) sz1.length sc1) (.slice da1 dz1.length dc1)) := by rw [hwo109]; exact ((abx_o3 B90.out (B := v4.heap.size) (by omega) (.bool false) (.slice xa2 S2.length xc2) (.slice ya2 D2.length yc2)).al (.cells #[.int .i64 1, .int .i64 0] 3))
  have B112 : Hid (Abx wo109 (w.heap.size + 1) (.bool false) (.slice (some ⟨b2, o2, none⟩) sz2.length sc2) (.slice da2 dz2.length dc2)) := by rw [hwo109]; exact ((abx_o3 B91.out (B := v4.heap.size) (by omega) (.bool false) (.slice xa2 S2.length xc2) (.slice ya2 D2.length yc2)).al (.cells #[.int .i64 1, .int .i64 0] 3))
  have B113 : Hid (Abx wo109 (v4.heap.size) (.bool false) (.slice xa2 S2.length xc2) (.slice ya2 D2.length yc2)) := by rw [hwo109]; exact ((B92.out.set3 (.bool false) (.slice xa2 S2.length xc2) (.slice ya2 D2.length yc2)).al (.cells #[.int .i64 1, .int .i64 0] 3))
  have L114 : Hid (MidC (wo80.heap.size) (v5.heap.size) wo109 (xa2) (S2) (xc2)) := by rw [hwo109]; exact ((L97.out.s3 (b := v4.heap.size) (by omega) (.bool false) (.slice xa2 S2.length xc2) (.slice ya2 D2.length yc2)).al (by simp only [World.size_setCell]; omega) (.cells #[.int .i64 1, .int .i64 0] 3))
  have L115 : Hid (MidC (wo80.heap.size) (v5.heap.size) wo109 (ya2) (D2) (D2.length)) := by rw [hwo109]; exact ((L98.out.s3 (b := v4.heap.size) (by omega) (.bool false) (.slice xa2 S2.length xc2) (.slice ya2 D2.length yc2)).al (by simp only [World.size_setCell]; omega) (.cells #[.int .i64 1, .int .i64 0] 3))
  have L116 : Hid (MidC (v5.heap.size) (v5.heap.size + 1) wo109 (some ⟨v5.heap.size, 0, none⟩) ([1, 0]) (2)) := by rw [hwo109]; exact n105
  have hb117 : Hid (Below w.heap.size w wo109) := by rw [hwo109]; exact ((bel_s3 hb96.out (B := v4.heap.size) (by omega) (.bool false) (.slice xa2 S2.length xc2) (.slice ya2 D2.length yc2)).alloc (by simp only [World.size_setCell]; omega) (.cells #[.int .i64 1, .int .i64 0] 3))
  have zwo109 : w.heap.size ≤ wo109.heap.size := hb117.out.size
  clear hwo109 l99 l100 l101 l102 l103 l104 n105 l106 l107 l108 hb96 B90 B91 B92 L97 L98
  refine (flw13 false (some ⟨b1, o1, none⟩) sc1 sz1 da1 dc1 dz1 _ x11 x12 ((HI1.out.1.below hb117.out).mono hb117.out.size) ((HI1.out.2.1.1.below hb117.out).mono hb117.out.size) HI1.out.2.2.2 HFl (some ⟨v5.heap.size, 0, none⟩) 2 [1, 0] 2 rfl (by decide) (L116.out.is (by omega)).1 SP DP HR3.out).mono ?_
  rintro e v6 ⟨xa3, xc3, ya3, yc3, rfl, hX3, hY3, hB⟩
  have z118 : wo109.heap.size ≤ v6.heap.size := hB.size
  have B119 : Hid (Abx v6 (w.heap.size) (.bool false) (.slice (some ⟨b1, o1, none⟩) sz1.length sc1) (.slice da1 dz1.length dc1)) := B111.out.go hB
  have B120 : Hid (Abx v6 (w.heap.size + 1) (.bool false) (.slice (some ⟨b2, o2, none⟩) sz2.length sc2) (.slice da2 dz2.length dc2)) := B112.out.go hB
  have B121 : Hid (Abx v6 (v4.heap.size) (.bool false) (.slice xa2 S2.length xc2) (.slice ya2 D2.length yc2)) := B113.out.go hB
  have L122 : Hid (MidC (wo80.heap.size) (v5.heap.size) v6 (xa2) (S2) (xc2)) := L114.out.go (by omega) hB
  have L123 : Hid (MidC (wo80.heap.size) (v5.heap.size) v6 (ya2) (D2) (D2.length)) := L115.out.go (by omega) hB
  have L124 : Hid (MidC (v5.heap.size) (v5.heap.size + 1) v6 (some ⟨v5.heap.size, 0, none⟩) ([1, 0]) (2)) := L116.out.go (by omega) hB
  have hb125 : Hid (Below w.heap.size w v6) := hb117.out.trans (hB.mono hb117.out.size)
  have L126 : Hid (MidC (wo109.heap.size) (v6.heap.size) v6 (xa3) (SP) (xc3)) := hX3.midc
  have L127 : Hid (MidC (wo109.heap.size) (v6.heap.size) v6 (ya3) (DP) (DP.length)) := hY3.midc
  clear hB hb117 B111 B112 B113 L114 L115 L116 hX3 hY3
  clear L124
  have n128 := Abx.new v6 (.bool false) (.slice xa3 SP.length xc3) (.slice ya3 DP.length yc3)
  have n129 := lit_mid (v6.alloc (.cells #[.bool false, .slice xa3 SP.length xc3, .slice ya3 DP.length yc3] 25)) 3 [1, 0] 2 rfl
  simp only [World.size_alloc, List.map_cons, List.map_nil] at n129
  have l130 := (((B120.out.al (.cells #[.bool false, .slice xa3 SP.length xc3, .slice ya3 DP.length yc3] 25)).al (.cells #[.int .i64 1, .int .i64 0] 3))).c0
  have l131 := (((B120.out.al (.cells #[.bool false, .slice xa3 SP.length xc3, .slice ya3 DP.length yc3] 25)).al (.cells #[.int .i64 1, .int .i64 0] 3))).c1
  have l132 := (((B120.out.al (.cells #[.bool false, .slice xa3 SP.length xc3, .slice ya3 DP.length yc3] 25)).al (.cells #[.int .i64 1, .int .i64 0] 3))).c2
  go_wp2_with fail
  obtain ⟨wo133, hwo133⟩ : ∃ wo133, wo133 = ((v6.alloc (.cells #[.bool false, .slice xa3 SP.length xc3, .slice ya3 DP.length yc3] 25)).alloc (.cells #[.int .i64 1, .int .i64 0] 3)) := ⟨_, rfl⟩
  rw [← hwo133]
  have z134 : v6.heap.size + 1 + 1 ≤ wo133.heap.size := by rw [hwo133]; simp only [World.size_alloc]; omega
  have B135 : Hid (Abx wo133 (w.heap.size) (.bool false) (.slice (some ⟨b1, o1, none⟩) sz1.length sc1) (.slice da1 dz1.length dc1)) := by rw [hwo133]; exact ((B119.out.al (.cells #[.bool false, .slice xa3 SP.length xc3, .slice ya3 DP.length yc3] 25)).al (.cells #[.int .i64 1, .int .i64 0] 3))
  have B136 : Hid (Abx wo133 (w.heap.size + 1) (.bool false) (.slice (some ⟨b2, o2, none⟩) sz2.length sc2) (.slice da2 dz2.length dc2)) := by rw [hwo133]; exact ((B120.out.al (.cells #[.bool false, .slice xa3 SP.length xc3, .slice ya3 DP.length yc3] 25)).al (.cells #[.int .i64 1, .int .i64 0] 3))
  have B137 : Hid (Abx wo133 (v4.heap.size) (.bool false) (.slice xa2 S2.length xc2) (.slice ya2 D2.length yc2)) := by rw [hwo133]; exact ((B121.out.al (.cells #[.bool false, .slice xa3 SP.length xc3, .slice ya3 DP.length yc3] 25)).al (.cells #[.int .i64 1, .int .i64 0] 3))
  have B138 : Hid (Abx wo133 (v6.heap.size) (.bool false) (.slice xa3 SP.length xc3) (.slice ya3 DP.length yc3)) := by rw [hwo133]; exact (n128.al (.cells #[.int .i64 1, .int .i64 0] 3))
  have L139 : Hid (MidC (wo80.heap.size) (v5.heap.size) wo133 (xa2) (S2) (xc2)) := by rw [hwo133]; exact ((L122.out.al (by omega) (.cells #[.bool false, .slice xa3 SP.length xc3, .slice ya3 DP.length yc3] 25)).al (by simp only [World.size_alloc]; omega) (.cells #[.int .i64 1, .int .i64 0] 3))
  have L140 : Hid (MidC (wo80.heap.size) (v5.heap.size) wo133 (ya2) (D2) (D2.length)) := by rw [hwo133]; exact ((L123.out.al (by omega) (.cells #[.bool false, .slice xa3 SP.length xc3, .slice ya3 DP.length yc3] 25)).al (by simp only [World.size_alloc]; omega) (.cells #[.int .i64 1, .int .i64 0] 3))
  have L141 : Hid (MidC (wo109.heap.size) (v6.heap.size) wo133 (xa3) (SP) (xc3)) := by rw [hwo133]; exact ((L126.out.al (by omega) (.cells #[.bool false, .slice xa3 SP.length xc3, .slice ya3 DP.length yc3] 25)).al (by simp only [World.size_alloc]; omega) (.cells #[.int .i64 1, .int .i64 0] 3))
  have L142 : Hid (MidC (wo109.heap.size) (v6.heap.size) wo133 (ya3) (DP) (DP.length)) := by rw [hwo133]; exact ((L127.out.al (by omega) (.cells #[.bool false, .slice xa3 SP.length xc3, .slice ya3 DP.length yc3] 25)).al (by simp only [World.size_alloc]; omega) (.cells #[.int .i64 1, .int .i64 0] 3))
  have L143 : Hid (MidC (v6.heap.size + 1) (v6.heap.size + 1 + 1) wo133 (some ⟨v6.heap.size + 1, 0, none⟩) ([1, 0]) (2)) := by rw [hwo133]; exact n129
  have hb144 : Hid (Below w.heap.size w wo133) := by rw [hwo133]; exact ((hb125.out.alloc (by omega) (.cells #[.bool false, .slice xa3 SP.length xc3, .slice ya3 DP.length yc3] 25)).alloc (by simp only [World.size_alloc]; omega) (.cells #[.int .i64 1, .int .i64 0] 3))
  have zwo133 : w.heap.size ≤ wo133.heap.size := hb144.out.size
  clear hwo133 n128 n129 l130 l131 l132 hb125 B119 B120 B121 L122 L123 L126 L127
  refine (flw13 false (some ⟨b2, o2, none⟩) sc2 sz2 da2 dc2 dz2 _ x21 x22 ((HI2.out.1.below hb144.out).mono hb144.out.size) ((HI2.out.2.1.1.below hb144.out).mono hb144.out.size) HI2.out.2.2.2 HFl (some ⟨v6.heap.size + 1, 0, none⟩) 2 [1, 0] 2 rfl (by decide) (L143.out.is (by omega)).1 SQ DQ HR4.out).mono ?_
  rintro e v7 ⟨xa4, xc4, ya4, yc4, rfl, hX4, hY4, hB⟩
  have z145 : wo133.heap.size ≤ v7.heap.size := hB.size
  have B146 : Hid (Abx v7 (w.heap.size) (.bool false) (.slice (some ⟨b1, o1, none⟩) sz1.length sc1) (.slice da1 dz1.length dc1)) := B135.out.go hB
  have B147 : Hid (Abx v7 (w.heap.size + 1) (.bool false) (.slice (some ⟨b2, o2, none⟩) sz2.length sc2) (.slice da2 dz2.length dc2)) := B136.out.go hB
  have B148 : Hid (Abx v7 (v4.heap.size) (.bool false) (.slice xa2 S2.length xc2) (.slice ya2 D2.length yc2)) := B137.out.go hB
  have B149 : Hid (Abx v7 (v6.heap.size) (.bool false) (.slice xa3 SP.length xc3) (.slice ya3 DP.length yc3)) := B138.out.go hB
  have L150 : Hid (MidC (wo80.heap.size) (v5.heap.size) v7 (xa2) (S2) (xc2)) := L139.out.go (by omega) hB
  have L151 : Hid (MidC (wo80.heap.size) (v5.heap.size) v7 (ya2) (D2) (D2.length)) := L140.out.go (by omega) hB
  have L152 : Hid (MidC (wo109.heap.size) (v6.heap.size) v7 (xa3) (SP) (xc3)) := L141.out.go (by omega) hB
  have L153 : Hid (MidC (wo109.heap.size) (v6.heap.size) v7 (ya3) (DP) (DP.length)) := L142.out.go (by omega) hB
  have L154 : Hid (MidC (v6.heap.size + 1) (v6.heap.size + 1 + 1) v7 (some ⟨v6.heap.size + 1, 0, none⟩) ([1, 0]) (2)) := L143.out.go (by omega) hB
  have hb155 : Hid (Below w.heap.size w v7) := hb144.out.trans (hB.mono hb144.out.size)
  have L156 : Hid (MidC (wo133.heap.size) (v7.heap.size) v7 (xa4) (SQ) (xc4)) := hX4.midc
  have L157 : Hid (MidC (wo133.heap.size) (v7.heap.size) v7 (ya4) (DQ) (DQ.length)) := hY4.midc
  clear hB hb144 B135 B136 B137 B138 L139 L140 L141 L142 L143 hX4 hY4
  clear L154
  have n158 := Abx.new v7 (.bool false) (.slice xa4 SQ.length xc4) (.slice ya4 DQ.length yc4)
  have l159 := (n158).c0
  have l160 := (n158).c1
  have l161 := (n158).c2
  have l162 := ((B149.out.al (.cells #[.bool false, .slice xa4 SQ.length xc4, .slice ya4 DQ.length yc4] 25))).c0
  have l163 := ((B149.out.al (.cells #[.bool false, .slice xa4 SQ.length xc4, .slice ya4 DQ.length yc4] 25))).c1
  have l164 := ((B149.out.al (.cells #[.bool false, .slice xa4 SQ.length xc4, .slice ya4 DQ.length yc4] 25))).c2
  go_wp2_with fail
  obtain ⟨wo165, hwo165⟩ : ∃ wo165, wo165 = (v7.alloc (.cells #[.bool false, .slice xa4 SQ.length xc4, .slice ya4 DQ.length yc4] 25)) := ⟨_, rfl⟩
  rw [← hwo165]
  have z166 : v7.heap.size + 1 ≤ wo165.heap.size := by rw [hwo165]; simp only [World.size_alloc]; omega
  have B167 : Hid (Abx wo165 (w.heap.size) (.bool false) (.slice (some ⟨b1, o1, none⟩) sz1.length sc1) (.slice da1 dz1.length dc1)) := by rw [hwo165]; exact (B146.out.al (.cells #[.bool false, .slice xa4 SQ.length xc4, .slice ya4 DQ.length yc4] 25))
  have B168 : Hid (Abx wo165 (w.heap.size + 1) (.bool false) (.slice (some ⟨b2, o2, none⟩) sz2.length sc2) (.slice da2 dz2.length dc2)) := by rw [hwo165]; exact (B147.out.al (.cells #[.bool false, .slice xa4 SQ.length xc4, .slice ya4 DQ.length yc4] 25))
  have B169 : Hid (Abx wo165 (v4.heap.size) (.bool false) (.slice xa2 S2.length xc2) (.slice ya2 D2.length yc2)) := by rw [hwo165]; exact (B148.out.al (.cells #[.bool false, .slice xa4 SQ.length xc4, .slice ya4 DQ.length yc4] 25))
  have B170 : Hid (Abx wo165 (v6.heap.size) (.bool false) (.slice xa3 SP.length xc3) (.slice ya3 DP.length yc3)) := by rw [hwo165]; exact (B149.out.al (.cells #[.bool false, .slice xa4 SQ.length xc4, .slice ya4 DQ.length yc4] 25))
  have B171 : Hid (Abx wo165 (v7.heap.size) (.bool false) (.slice xa4 SQ.length xc4) (.slice ya4 DQ.length yc4)) := by rw [hwo165]; exact n158
  have L172 : Hid (MidC (wo80.heap.size) (v5.heap.size) wo165 (xa2) (S2) (xc2)) := by rw [hwo165]; exact (L150.out.al (by omega) (.cells #[.bool false, .slice xa4 SQ.length xc4, .slice ya4 DQ.length yc4] 25))
  have L173 : Hid (MidC (wo80.heap.size) (v5.heap.size) wo165 (ya2) (D2) (D2.length)) := by rw [hwo165]; exact (L151.out.al (by omega) (.cells #[.bool false, .slice xa4 SQ.length xc4, .slice ya4 DQ.length yc4] 25))
  have L174 : Hid (MidC (wo109.heap.size) (v6.heap.size) wo165 (xa3) (SP) (xc3)) := by rw [hwo165]; exact (L152.out.al (by omega) (.cells #[.bool false, .slice xa4 SQ.length xc4, .slice ya4 DQ.length yc4] 25))
  have L175 : Hid (MidC (wo109.heap.size) (v6.heap.size) wo165 (ya3) (DP) (DP.length)) := by rw [hwo165]; exact (L153.out.al (by omega) (.cells #[.bool false, .slice xa4 SQ.length xc4, .slice ya4 DQ.length yc4] 25))
  have L176 : Hid (MidC (wo133.heap.size) (v7.heap.size) wo165 (xa4) (SQ) (xc4)) := by rw [hwo165]; exact (L156.out.al (by omega) (.cells #[.bool false, .slice xa4 SQ.length xc4, .slice ya4 DQ.length yc4] 25))
  have L177 : Hid (MidC (wo133.heap.size) (v7.heap.size) wo165 (ya4) (DQ) (DQ.length)) := by rw [hwo165]; exact (L157.out.al (by omega) (.cells #[.bool false, .slice xa4 SQ.length xc4, .slice ya4 DQ.length yc4] 25))
  have hb178 : Hid (Below w.heap.size w wo165) := by rw [hwo165]; exact (hb155.out.alloc (by omega) (.cells #[.bool false, .slice xa4 SQ.length xc4, .slice ya4 DQ.length yc4] 25))
  have zwo165 : w.heap.size ≤ wo165.heap.size := hb178.out.size
  clear hwo165 n158 l159 l160 l161 l162 l163 l164 hb155 B146 B147 B148 B149 L150 L151 L152 L153 L156 L157
  refine (niw_ok f g false xa4 xc4 SQ SQ.length rfl ya4 yc4 DQ DQ.length rfl false xa3 xc3 SP SP.length rfl ya3 yc3 DP DP.length rfl _ hf hg (by omega) (by omega) (L176.out.is (by omega)) (L177.out.is (by omega)).1 HTT.out.2.2 (by omega) (by omega) (L174.out.is (by omega)) (L175.out.is (by omega)).1 HTT.out.2.1 S2 D2 HNi HR5.out).mono ?_
  rintro e v8 ⟨xa5, xc5, ya5, yc5, rfl, hX5, hY5, hB⟩
  have z179 : wo165.heap.size ≤ v8.heap.size := hB.size
  have B180 : Hid (Abx v8 (w.heap.size) (.bool false) (.slice (some ⟨b1, o1, none⟩) sz1.length sc1) (.slice da1 dz1.length dc1)) := B167.out.go hB
  have B181 : Hid (Abx v8 (w.heap.size + 1) (.bool false) (.slice (some ⟨b2, o2, none⟩) sz2.length sc2) (.slice da2 dz2.length dc2)) := B168.out.go hB
  have B182 : Hid (Abx v8 (v4.heap.size) (.bool false) (.slice xa2 S2.length xc2) (.slice ya2 D2.length yc2)) := B169.out.go hB
  have B183 : Hid (Abx v8 (v6.heap.size) (.bool false) (.slice xa3 SP.length xc3) (.slice ya3 DP.length yc3)) := B170.out.go hB
  have B184 : Hid (Abx v8 (v7.heap.size) (.bool false) (.slice xa4 SQ.length xc4) (.slice ya4 DQ.length yc4)) := B171.out.go hB
  have L185 : Hid (MidC (wo80.heap.size) (v5.heap.size) v8 (xa2) (S2) (xc2)) := L172.out.go (by omega) hB
  have L186 : Hid (MidC (wo80.heap.size) (v5.heap.size) v8 (ya2) (D2) (D2.length)) := L173.out.go (by omega) hB
  have L187 : Hid (MidC (wo109.heap.size) (v6.heap.size) v8 (xa3) (SP) (xc3)) := L174.out.go (by omega) hB
  have L188 : Hid (MidC (wo109.heap.size) (v6.heap.size) v8 (ya3) (DP) (DP.length)) := L175.out.go (by omega) hB
  have L189 : Hid (MidC (wo133.heap.size) (v7.heap.size) v8 (xa4) (SQ) (xc4)) := L176.out.go (by omega) hB
  have L190 : Hid (MidC (wo133.heap.size) (v7.heap.size) v8 (ya4) (DQ) (DQ.length)) := L177.out.go (by omega) hB
  have hb191 : Hid (Below w.heap.size w v8) := hb178.out.trans (hB.mono hb178.out.size)
  have L192 : Hid (MidC (wo165.heap.size) (v8.heap.size) v8 (xa5) (S2) (xc5)) := hX5.midc
  have L193 : Hid (MidC (wo165.heap.size) (v8.heap.size) v8 (ya5) (D2) (yc5)) := hY5.midc
  clear hB hb178 B167 B168 B169 B170 B171 L172 L173 L174 L175 L176 L177 hX5 hY5
  clear L187 L188 L189 L190 B183 B184
  have n194 := Abx.new v8 (.bool false) (.slice xa5 S2.length xc5) (.slice ya5 D2.length yc5)
  have l195 := ((B182.out.al (.cells #[.bool false, .slice xa5 S2.length xc5, .slice ya5 D2.length yc5] 25))).c0
  have l196 := ((B182.out.al (.cells #[.bool false, .slice xa5 S2.length xc5, .slice ya5 D2.length yc5] 25))).c1
  have l197 := ((B182.out.al (.cells #[.bool false, .slice xa5 S2.length xc5, .slice ya5 D2.length yc5] 25))).c2
  have l198 := (n194).c0
  have l199 := (n194).c1
  have l200 := (n194).c2
  go_wp2_with fail
  obtain ⟨wo201, hwo201⟩ : ∃ wo201, wo201 = (v8.alloc (.cells #[.bool false, .slice xa5 S2.length xc5, .slice ya5 D2.length yc5] 25)) := ⟨_, rfl⟩
  rw [← hwo201]
  have z202 : v8.heap.size + 1 ≤ wo201.heap.size := by rw [hwo201]; simp only [World.size_alloc]; omega
  have B203 : Hid (Abx wo201 (w.heap.size) (.bool false) (.slice (some ⟨b1, o1, none⟩) sz1.length sc1) (.slice da1 dz1.length dc1)) := by rw [hwo201]; exact (B180.out.al (.cells #[.bool false, .slice xa5 S2.length xc5, .slice ya5 D2.length yc5] 25))
  have B204 : Hid (Abx wo201 (w.heap.size + 1) (.bool false) (.slice (some ⟨b2, o2, none⟩) sz2.length sc2) (.slice da2 dz2.length dc2)) := by rw [hwo201]; exact (B181.out.al (.cells #[.bool false, .slice xa5 S2.length xc5, .slice ya5 D2.length yc5] 25))
  have B205 : Hid (Abx wo201 (v4.heap.size) (.bool false) (.slice xa2 S2.length xc2) (.slice ya2 D2.length yc2)) := by rw [hwo201]; exact (B182.out.al (.cells #[.bool false, .slice xa5 S2.length xc5, .slice ya5 D2.length yc5] 25))
  have B206 : Hid (Abx wo201 (v8.heap.size) (.bool false) (.slice xa5 S2.length xc5) (.slice ya5 D2.length yc5)) := by rw [hwo201]; exact n194
  have L207 : Hid (MidC (wo80.heap.size) (v5.heap.size) wo201 (xa2) (S2) (xc2)) := by rw [hwo201]; exact (L185.out.al (by omega) (.cells #[.bool false, .slice xa5 S2.length xc5, .slice ya5 D2.length yc5] 25))
  have L208 : Hid (MidC (wo80.heap.size) (v5.heap.size) wo201 (ya2) (D2) (D2.length)) := by rw [hwo201]; exact (L186.out.al (by omega) (.cells #[.bool false, .slice xa5 S2.length xc5, .slice ya5 D2.length yc5] 25))
  have L209 : Hid (MidC (wo165.heap.size) (v8.heap.size) wo201 (xa5) (S2) (xc5)) := by rw [hwo201]; exact (L192.out.al (by omega) (.cells #[.bool false, .slice xa5 S2.length xc5, .slice ya5 D2.length yc5] 25))
  have L210 : Hid (MidC (wo165.heap.size) (v8.heap.size) wo201 (ya5) (D2) (yc5)) := by rw [hwo201]; exact (L193.out.al (by omega) (.cells #[.bool false, .slice xa5 S2.length xc5, .slice ya5 D2.length yc5] 25))
  have hb211 : Hid (Below w.heap.size w wo201) := by rw [hwo201]; exact (hb191.out.alloc (by omega) (.cells #[.bool false, .slice xa5 S2.length xc5, .slice ya5 D2.length yc5] 25))
  have zwo201 : w.heap.size ≤ wo201.heap.size := hb211.out.size
  clear hwo201 n194 l195 l196 l197 l198 l199 l200 hb191 B180 B181 B182 L185 L186 L192 L193
  refine (alike_eq false xa2 xc2 S2 ya2 yc2 D2 xa5 xc5 S2 ya5 yc5 D2 rfl rfl (by omega) (by omega) _ (L207.out.is (by omega)) (L208.out.is (by omega)).1 (L209.out.is (by omega)) (L210.out.is (by omega)).1).mono ?_
  rintro e v9 ⟨rfl, hB⟩
  have z212 : wo201.heap.size ≤ v9.heap.size := hB.size
  have B213 : Hid (Abx v9 (w.heap.size) (.bool false) (.slice (some ⟨b1, o1, none⟩) sz1.length sc1) (.slice da1 dz1.length dc1)) := B203.out.go hB
  have B214 : Hid (Abx v9 (w.heap.size + 1) (.bool false) (.slice (some ⟨b2, o2, none⟩) sz2.length sc2) (.slice da2 dz2.length dc2)) := B204.out.go hB
  have B215 : Hid (Abx v9 (v4.heap.size) (.bool false) (.slice xa2 S2.length xc2) (.slice ya2 D2.length yc2)) := B205.out.go hB
  have B216 : Hid (Abx v9 (v8.heap.size) (.bool false) (.slice xa5 S2.length xc5) (.slice ya5 D2.length yc5)) := B206.out.go hB
  have L217 : Hid (MidC (wo80.heap.size) (v5.heap.size) v9 (xa2) (S2) (xc2)) := L207.out.go (by omega) hB
  have L218 : Hid (MidC (wo80.heap.size) (v5.heap.size) v9 (ya2) (D2) (D2.length)) := L208.out.go (by omega) hB
  have L219 : Hid (MidC (wo165.heap.size) (v8.heap.size) v9 (xa5) (S2) (xc5)) := L209.out.go (by omega) hB
  have L220 : Hid (MidC (wo165.heap.size) (v8.heap.size) v9 (ya5) (D2) (yc5)) := L210.out.go (by omega) hB
  have hb221 : Hid (Below w.heap.size w v9) := hb211.out.trans (hB.mono hb211.out.size)
  clear hB hb211 B203 B204 B205 B206 L207 L208 L209 L210
  go_wp2_with fail
  go_ret
  exact ⟨rfl, hb221.out⟩
theorem pturned_walk (HNi : CNi) (HFl : CFl) (f g : Int) (hf : In64 f) (hg : In64 g) (c1 : Bool) (sa1 : Option Addr) (sc1 : Nat) (sz1 : List Int) (da1 : Option Addr) (dc1 : Nat) (dz1 : List Int) (c2 : Bool) (sa2 : Option Addr) (sc2 : Nat) (sz2 : List Int) (da2 : Option Addr) (dc2 : Nat) (dz2 : List Int) (w : World) (w8 : IsArrD w sa1 sz1 sc1 da1 dz1 dc1) (w9 : IsArrD w sa2 sz2 sc2 da2 dz2 dc2) :
    Calls Try.prog 4 #[.int .i64 f, .int .i64 g, .agg #[.bool c1, .slice sa1 sz1.length sc1, .slice da1 dz1.length dc1], .agg #[.bool c2, .slice sa2 sz2.length sc2, .slice da2 dz2.length dc2]] w fun e w' => e = .returned (.bool true) ∧ Below w.heap.size w w' := by
  by_cases h0 : Srg f g
  · by_cases h1 : GrdP 16 c1 sz1 dz1
    · by_cases h2 : GrdP 16 c2 sz2 dz2
      · by_cases e1 : nth sz1 1 = nth sz2 0
        · exact turned_ok HNi HFl f g hf hg c1 sa1 sc1 sz1 da1 dc1 dz1 c2 sa2 sc2 sz2 da2 dc2 dz2 w w8 w9 h0 h1 h2 e1
        · exact turned_ab HNi HFl f g hf hg c1 sa1 sc1 sz1 da1 dc1 dz1 c2 sa2 sc2 sz2 da2 dc2 dz2 w w8 w9 h0 h1 h2 e1
      · exact turned_g2 HNi HFl f g hf hg c1 sa1 sc1 sz1 da1 dc1 dz1 c2 sa2 sc2 sz2 da2 dc2 dz2 w w8 w9 h0 h1 h2
    · exact turned_g1 HNi HFl f g hf hg c1 sa1 sc1 sz1 da1 dc1 dz1 c2 sa2 sc2 sz2 da2 dc2 dz2 w w8 w9 h0 h1
  · exact turned_s HNi HFl f g hf hg c1 sa1 sc1 sz1 da1 dc1 dz1 c2 sa2 sc2 sz2 da2 dc2 dz2 w w8 w9 h0
end Go.Proofs.Ytcpmendkocnlhaa
