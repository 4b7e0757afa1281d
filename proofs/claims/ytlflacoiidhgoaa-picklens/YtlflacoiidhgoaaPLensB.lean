/-
  The walk of the statement PickLens, given what the program tells.
-/
import Derived.Test.YtlflacoiidhgoaaPatx
import Derived.Test.YtlflacoiidhgoaaPatl
import Derived.Test.YtlflacoiidhgoaaSarr
import Derived.Test.YtlflacoiidhgoaaVec
import Derived.Deep.QuietTactic
import Derived.BigQuiet
import Derived.WalkSmall
import Derived.Deep.RegionWith
namespace Go.Proofs.Ytlflacoiidhgoaa
open Go.RowKit
set_option linter.unusedVariables false

set_option maxRecDepth 100000 in
set_option maxHeartbeats 8000000 in
theorem lens_ok (HA : CAt) (HPt : CPt) (c1 : Bool) (sa1 : Option Addr) (sc1 : Nat) (sz1 : List Int) (da1 : Option Addr) (dc1 : Nat) (dz1 : List Int) (ba : Option Addr) (bc : Nat) (bs : List ArV) (hbl : bs.length ≤ 9223372036854775807) (c2 : Bool) (sa2 : Option Addr) (sc2 : Nat) (sz2 : List Int) (da2 : Option Addr) (dc2 : Nat) (dz2 : List Int) (c3 : Bool) (sa3 : Option Addr) (sc3 : Nat) (sz3 : List Int) (da3 : Option Addr) (dc3 : Nat) (dz3 : List Int) (w : World) (w8 : IsArrD w sa1 sz1 sc1 da1 dz1 dc1) (w9 : IsArrD w sa2 sz2 sc2 da2 dz2 dc2) (w10 : IsArrD w sa3 sz3 sc3 da3 dz3 dc3) (hbs : IsAs w.heap.size w ba bs) (F1 : Hid (pkE c1 sz1 dz1 (bya bs) = 0)) (F2 : Hid (ptE c1 sz1 dz1 (bya bs) c2 sz2 dz2 = 0)) (F3 : Hid (ptE c1 sz1 dz1 (bya bs) c3 sz3 dz3 = 0)) :
    Calls Try.prog 3 #[.agg #[.bool c1, .slice sa1 sz1.length sc1, .slice da1 dz1.length dc1], .slice ba bs.length bc, .agg #[.bool c2, .slice sa2 sz2.length sc2, .slice da2 dz2.length dc2], .agg #[.bool c3, .slice sa3 sz3.length sc3, .slice da3 dz3.length dc3]] w fun e w' => e = .returned (.bool true) ∧ Below w.heap.size w w' := by
  obtain ⟨S, hS⟩ : ∃ S, S = pkS (bya bs) := ⟨_, rfl⟩
  obtain ⟨D, hD⟩ : ∃ D, D = pkD sz1 dz1 (bya bs) := ⟨_, rfl⟩
  have hf0 := (pkE_zero.1 F1.out).1
  have hd4 : dz1.length ≤ 4096 := (flawE_short hf0).2
  have hs6 : sz1.length ≤ 6 := (flawE_short hf0).1
  have HF : Hid (flawE c1 sz1 dz1 = 0 ∧ errOf sz1 = 0) := ⟨hf0, (flawE_zero hf0).1⟩
  have HSD : Hid (S = pkS (bya bs) ∧ D = pkD sz1 dz1 (bya bs) ∧ S.length ≤ 6 ∧ D.length ≤ 4096 ∧ errOf S = 0) := by have h := pk_len F1.out; rw [hS, hD]; exact ⟨rfl, rfl, h.1, h.2, (pkE_zero.1 F1.out).2.2.2.2.1⟩
  have HB1 : Hid (ptE c1 sz1 dz1 (bya bs) c1 S D = 0 ∧ ptV sz1 dz1 (bya bs) S D = dz1) := by rw [hS, hD]; exact lens1 F1.out
  clear hS hD hf0
  obtain ⟨hk0, hv0, hc0, _⟩ := ptE_zero.1 F2.out
  subst hc0
  obtain ⟨Q, hQ⟩ : ∃ Q, Q = ptV sz1 dz1 (bya bs) sz2 dz2 := ⟨_, rfl⟩
  obtain ⟨I0, hI0⟩ : ∃ I0, I0 = iot dz1.length := ⟨_, rfl⟩
  obtain ⟨PL, hPL⟩ : ∃ PL, PL = pkD sz1 I0 (bya bs) := ⟨_, rfl⟩
  obtain ⟨R, hR⟩ : ∃ R, R = ptV sz1 dz1 (bya bs) sz3 dz3 := ⟨_, rfl⟩
  obtain ⟨Z, hZ⟩ : ∃ Z, Z = putW (prod (pkS (bya bs))).toNat sz2 dz2 := ⟨_, rfl⟩
  have HQ : Hid (Q = ptV sz1 dz1 (bya bs) sz2 dz2 ∧ Q.length = dz1.length ∧ flawE c1 sz1 Q = 0) := ⟨hQ, by rw [hQ, ptV_length], by rw [hQ]; exact pt_flaw7 F2.out⟩
  have HI0 : Hid (I0 = iot dz1.length ∧ I0.length = dz1.length ∧ flawE false [(dz1.length : Int)] I0 = 0 ∧ cyc I0 (prod sz1).toNat (fillE false) = I0) := by rw [hI0]; exact ⟨rfl, iot_length _, line_flaw hd4, flat_cyc HF.out.1 _⟩
  have HPL : Hid (pkE false sz1 I0 (bya bs) = 0 ∧ pkS (bya bs) = S ∧ pkD sz1 I0 (bya bs) = PL ∧ PL.length ≤ 4096 ∧ PL.length = (prod (pkS (bya bs))).toNat ∧ ∀ k, k < PL.length → nth PL k = pkP sz1 (bya bs) k) := by have h := flat_pk F1.out; have h2 := pk_len h; have h3 := pkD_length sz1 (iot dz1.length) (bya bs); rw [hPL, hI0]; exact ⟨h, HSD.out.1.symm, rfl, h2.2, h3, fun k hk => flat_nth F1.out (by rw [h3] at hk; exact hk)⟩
  have HZ : Hid ((∀ i j, i < PL.length → j < PL.length → nth PL i = nth PL j → i = j) → pkE c1 sz1 Q (bya bs) = 0 ∧ pkS (bya bs) = S ∧ pkD sz1 Q (bya bs) = Z) := fun ho => by
    have h := lens3 F2.out (fun i k hi hk e => ho i k (by rw [HPL.out.2.2.2.2.1]; exact hi) (by rw [HPL.out.2.2.2.2.1]; exact hk) (by rw [HPL.out.2.2.2.2.2 i (by rw [HPL.out.2.2.2.2.1]; exact hi), HPL.out.2.2.2.2.2 k (by rw [HPL.out.2.2.2.2.1]; exact hk)]; exact e))
    rw [hQ, hZ]; exact ⟨h.1, HSD.out.1.symm, h.2⟩
  have HZ2 : Hid (cyc dz2 (prod S).toNat (fillE c1) = Z ∧ Z.length ≤ 4096) := by rw [HSD.out.1, hZ]; exact ⟨put_cyc F2.out _, by rw [putW_len F2.out, ← HPL.out.2.2.2.2.1]; exact HPL.out.2.2.2.1⟩
  have HW : Hid (ptE c1 sz1 Q (bya bs) c3 sz3 dz3 = 0 ∧ ptV sz1 Q (bya bs) sz3 dz3 = R ∧ R.length = dz1.length) := by have h := lens2 (cw := c3) (sw := sz3) (dw := dz3) F2.out; rw [hQ, hR, h.1, h.2]; exact ⟨F3.out, rfl, by rw [ptV_length]⟩
  have HR : Hid (ptV sz1 dz1 (bya bs) sz3 dz3 = R) := hR.symm
  have HV : Hid (flawE c1 sz2 dz2 = 0) := hv0
  clear hk0 hv0 hQ hI0 hPL hR hZ
  obtain ⟨x11, x12, x3, x4, s64, T⟩ := w8
  have HI1 : Hid (IsC w.heap.size w sa1 sz1 sc1 ∧ IsC w.heap.size w da1 dz1 dc1 ∧ (∀ j, In64 (nth sz1 j)) ∧ ∀ j, In64 (nth dz1 j)) := ⟨x3, x4, s64, T⟩
  clear x3 x4 T s64
  obtain ⟨x21, x22, x3, x4, s64, T⟩ := w9
  have HI2 : Hid (IsC w.heap.size w sa2 sz2 sc2 ∧ IsC w.heap.size w da2 dz2 dc2 ∧ (∀ j, In64 (nth sz2 j)) ∧ ∀ j, In64 (nth dz2 j)) := ⟨x3, x4, s64, T⟩
  clear x3 x4 T s64
  obtain ⟨x31, x32, x3, x4, s64, T⟩ := w10
  have HI3 : Hid (IsC w.heap.size w sa3 sz3 sc3 ∧ IsC w.heap.size w da3 dz3 dc3 ∧ (∀ j, In64 (nth sz3 j)) ∧ ∀ j, In64 (nth dz3 j)) := ⟨x3, x4, s64, T⟩
  clear x3 x4 T s64
  have HM : Hid (IsAs w.heap.size w ba bs) := hbs
  clear hbs
  have n1 := Abx.new w (.bool c1) (.slice sa1 sz1.length sc1) (.slice da1 dz1.length dc1)
  have n2 := Abx.new (w.alloc (.cells #[.bool c1, .slice sa1 sz1.length sc1, .slice da1 dz1.length dc1] 24)) (.bool c1) (.slice sa2 sz2.length sc2) (.slice da2 dz2.length dc2)
  simp only [World.size_alloc] at n2
  have n3 := Abx.new ((w.alloc (.cells #[.bool c1, .slice sa1 sz1.length sc1, .slice da1 dz1.length dc1] 24)).alloc (.cells #[.bool c1, .slice sa2 sz2.length sc2, .slice da2 dz2.length dc2] 24)) (.bool c3) (.slice sa3 sz3.length sc3) (.slice da3 dz3.length dc3)
  simp only [World.size_alloc] at n3
  have n4 := lit_mid (((w.alloc (.cells #[.bool c1, .slice sa1 sz1.length sc1, .slice da1 dz1.length dc1] 24)).alloc (.cells #[.bool c1, .slice sa2 sz2.length sc2, .slice da2 dz2.length dc2] 24)).alloc (.cells #[.bool c3, .slice sa3 sz3.length sc3, .slice da3 dz3.length dc3] 24)) 3 [1, 2, 3] 3 rfl
  simp only [World.size_alloc, List.map_cons, List.map_nil] at n4
  go_enter Try.func3, Try.ntmps3
  go_wp2_with fail
  obtain ⟨wo5, hwo5⟩ : ∃ wo5, wo5 = ((((w.alloc (.cells #[.bool c1, .slice sa1 sz1.length sc1, .slice da1 dz1.length dc1] 24)).alloc (.cells #[.bool c1, .slice sa2 sz2.length sc2, .slice da2 dz2.length dc2] 24)).alloc (.cells #[.bool c3, .slice sa3 sz3.length sc3, .slice da3 dz3.length dc3] 24)).alloc (.cells #[.int .i64 1, .int .i64 2, .int .i64 3] 3)) := ⟨_, rfl⟩
  rw [← hwo5]
  have z6 : w.heap.size + 1 + 1 + 1 + 1 ≤ wo5.heap.size := by rw [hwo5]; simp only [World.size_alloc]; omega
  have B7 : Hid (Abx wo5 (w.heap.size) (.bool c1) (.slice sa1 sz1.length sc1) (.slice da1 dz1.length dc1)) := by rw [hwo5]; exact (((n1.al (.cells #[.bool c1, .slice sa2 sz2.length sc2, .slice da2 dz2.length dc2] 24)).al (.cells #[.bool c3, .slice sa3 sz3.length sc3, .slice da3 dz3.length dc3] 24)).al (.cells #[.int .i64 1, .int .i64 2, .int .i64 3] 3))
  have B8 : Hid (Abx wo5 (w.heap.size + 1) (.bool c1) (.slice sa2 sz2.length sc2) (.slice da2 dz2.length dc2)) := by rw [hwo5]; exact ((n2.al (.cells #[.bool c3, .slice sa3 sz3.length sc3, .slice da3 dz3.length dc3] 24)).al (.cells #[.int .i64 1, .int .i64 2, .int .i64 3] 3))
  have B9 : Hid (Abx wo5 (w.heap.size + 1 + 1) (.bool c3) (.slice sa3 sz3.length sc3) (.slice da3 dz3.length dc3)) := by rw [hwo5]; exact (n3.al (.cells #[.int .i64 1, .int .i64 2, .int .i64 3] 3))
  have L10 : Hid (MidC (w.heap.size + 1 + 1 + 1) (w.heap.size + 1 + 1 + 1 + 1) wo5 (some ⟨w.heap.size + 1 + 1 + 1, 0, none⟩) ([1, 2, 3]) (3)) := by rw [hwo5]; exact n4
  have hb11 : Hid (Below w.heap.size w wo5) := by rw [hwo5]; exact (((((Below.refl w.heap.size w).alloc (by omega) (.cells #[.bool c1, .slice sa1 sz1.length sc1, .slice da1 dz1.length dc1] 24)).alloc (by simp only [World.size_alloc]; omega) (.cells #[.bool c1, .slice sa2 sz2.length sc2, .slice da2 dz2.length dc2] 24)).alloc (by simp only [World.size_alloc]; omega) (.cells #[.bool c3, .slice sa3 sz3.length sc3, .slice da3 dz3.length dc3] 24)).alloc (by simp only [World.size_alloc]; omega) (.cells #[.int .i64 1, .int .i64 2, .int .i64 3] 3))
  have zwo5 : w.heap.size ≤ wo5.heap.size := hb11.out.size
  clear hwo5 n1 n2 n3 n4
  refine (vec_c (some ⟨w.heap.size + 1 + 1 + 1, 0, none⟩) 3 [1, 2, 3] (by simp) _ (L10.out.is (by omega)).1).mono ?_
  rintro e v1 ⟨vap, vcp, gap, gcp, rfl, hVp, hGp, hB⟩
  have z12 : wo5.heap.size ≤ v1.heap.size := hB.size
  have B13 : Hid (Abx v1 (w.heap.size) (.bool c1) (.slice sa1 sz1.length sc1) (.slice da1 dz1.length dc1)) := B7.out.go hB
  have B14 : Hid (Abx v1 (w.heap.size + 1) (.bool c1) (.slice sa2 sz2.length sc2) (.slice da2 dz2.length dc2)) := B8.out.go hB
  have B15 : Hid (Abx v1 (w.heap.size + 1 + 1) (.bool c3) (.slice sa3 sz3.length sc3) (.slice da3 dz3.length dc3)) := B9.out.go hB
  have L16 : Hid (MidC (w.heap.size + 1 + 1 + 1) (w.heap.size + 1 + 1 + 1 + 1) v1 (some ⟨w.heap.size + 1 + 1 + 1, 0, none⟩) ([1, 2, 3]) (3)) := L10.out.go (by omega) hB
  have hb17 : Hid (Below w.heap.size w v1) := hb11.out.trans (hB.mono hb11.out.size)
  have L18 : Hid (MidC (wo5.heap.size) (v1.heap.size) v1 (vap) ([(3 : Int)]) (vcp)) := hVp.midc
  have L19 : Hid (MidC (wo5.heap.size) (v1.heap.size) v1 (gap) ([1, 2, 3]) (gcp)) := hGp.midc
  clear hB hb11 B7 B8 B9 L10 hVp hGp
  clear L16
  have n20 := lit_mid v1 3 [2] 1 rfl
  simp only [List.map_cons, List.map_nil] at n20
  go_wp2_with fail
  obtain ⟨wo21, hwo21⟩ : ∃ wo21, wo21 = (v1.alloc (.cells #[.int .i64 2] 3)) := ⟨_, rfl⟩
  rw [← hwo21]
  have z22 : v1.heap.size + 1 ≤ wo21.heap.size := by rw [hwo21]; simp only [World.size_alloc]; omega
  have B23 : Hid (Abx wo21 (w.heap.size) (.bool c1) (.slice sa1 sz1.length sc1) (.slice da1 dz1.length dc1)) := by rw [hwo21]; exact (B13.out.al (.cells #[.int .i64 2] 3))
  have B24 : Hid (Abx wo21 (w.heap.size + 1) (.bool c1) (.slice sa2 sz2.length sc2) (.slice da2 dz2.length dc2)) := by rw [hwo21]; exact (B14.out.al (.cells #[.int .i64 2] 3))
  have B25 : Hid (Abx wo21 (w.heap.size + 1 + 1) (.bool c3) (.slice sa3 sz3.length sc3) (.slice da3 dz3.length dc3)) := by rw [hwo21]; exact (B15.out.al (.cells #[.int .i64 2] 3))
  have L26 : Hid (MidC (wo5.heap.size) (v1.heap.size) wo21 (vap) ([(3 : Int)]) (vcp)) := by rw [hwo21]; exact (L18.out.al (by omega) (.cells #[.int .i64 2] 3))
  have L27 : Hid (MidC (wo5.heap.size) (v1.heap.size) wo21 (gap) ([1, 2, 3]) (gcp)) := by rw [hwo21]; exact (L19.out.al (by omega) (.cells #[.int .i64 2] 3))
  have L28 : Hid (MidC (v1.heap.size) (v1.heap.size + 1) wo21 (some ⟨v1.heap.size, 0, none⟩) ([2]) (1)) := by rw [hwo21]; exact n20
  have hb29 : Hid (Below w.heap.size w wo21) := by rw [hwo21]; exact (hb17.out.alloc (by omega) (.cells #[.int .i64 2] 3))
  have zwo21 : w.heap.size ≤ wo21.heap.size := hb29.out.size
  clear hwo21 n20 hb17 B13 B14 B15 L18 L19
  refine (vec_c (some ⟨v1.heap.size, 0, none⟩) 1 [2] (by simp) _ (L28.out.is (by omega)).1).mono ?_
  rintro e v2 ⟨vaq, vcq, gaq, gcq, rfl, hVq, hGq, hB⟩
  have z30 : wo21.heap.size ≤ v2.heap.size := hB.size
  have B31 : Hid (Abx v2 (w.heap.size) (.bool c1) (.slice sa1 sz1.length sc1) (.slice da1 dz1.length dc1)) := B23.out.go hB
  have B32 : Hid (Abx v2 (w.heap.size + 1) (.bool c1) (.slice sa2 sz2.length sc2) (.slice da2 dz2.length dc2)) := B24.out.go hB
  have B33 : Hid (Abx v2 (w.heap.size + 1 + 1) (.bool c3) (.slice sa3 sz3.length sc3) (.slice da3 dz3.length dc3)) := B25.out.go hB
  have L34 : Hid (MidC (wo5.heap.size) (v1.heap.size) v2 (vap) ([(3 : Int)]) (vcp)) := L26.out.go (by omega) hB
  have L35 : Hid (MidC (wo5.heap.size) (v1.heap.size) v2 (gap) ([1, 2, 3]) (gcp)) := L27.out.go (by omega) hB
  have L36 : Hid (MidC (v1.heap.size) (v1.heap.size + 1) v2 (some ⟨v1.heap.size, 0, none⟩) ([2]) (1)) := L28.out.go (by omega) hB
  have hb37 : Hid (Below w.heap.size w v2) := hb29.out.trans (hB.mono hb29.out.size)
  have L38 : Hid (MidC (wo21.heap.size) (v2.heap.size) v2 (vaq) ([(1 : Int)]) (vcq)) := hVq.midc
  have L39 : Hid (MidC (wo21.heap.size) (v2.heap.size) v2 (gaq) ([2]) (gcq)) := hGq.midc
  clear hB hb29 B23 B24 B25 L26 L27 L28 hVq hGq
  clear L36
  have n40 := Abx.new v2 (.bool false) (.slice vaq 1 vcq) (.slice gaq 1 gcq)
  have n41 := lit_mid (v2.alloc (.cells #[.bool false, .slice vaq 1 vcq, .slice gaq 1 gcq] 24)) 3 [9] 1 rfl
  simp only [World.size_alloc, List.map_cons, List.map_nil] at n41
  go_wp2_with fail
  obtain ⟨wo42, hwo42⟩ : ∃ wo42, wo42 = ((v2.alloc (.cells #[.bool false, .slice vaq 1 vcq, .slice gaq 1 gcq] 24)).alloc (.cells #[.int .i64 9] 3)) := ⟨_, rfl⟩
  rw [← hwo42]
  have z43 : v2.heap.size + 1 + 1 ≤ wo42.heap.size := by rw [hwo42]; simp only [World.size_alloc]; omega
  have B44 : Hid (Abx wo42 (w.heap.size) (.bool c1) (.slice sa1 sz1.length sc1) (.slice da1 dz1.length dc1)) := by rw [hwo42]; exact ((B31.out.al (.cells #[.bool false, .slice vaq 1 vcq, .slice gaq 1 gcq] 24)).al (.cells #[.int .i64 9] 3))
  have B45 : Hid (Abx wo42 (w.heap.size + 1) (.bool c1) (.slice sa2 sz2.length sc2) (.slice da2 dz2.length dc2)) := by rw [hwo42]; exact ((B32.out.al (.cells #[.bool false, .slice vaq 1 vcq, .slice gaq 1 gcq] 24)).al (.cells #[.int .i64 9] 3))
  have B46 : Hid (Abx wo42 (w.heap.size + 1 + 1) (.bool c3) (.slice sa3 sz3.length sc3) (.slice da3 dz3.length dc3)) := by rw [hwo42]; exact ((B33.out.al (.cells #[.bool false, .slice vaq 1 vcq, .slice gaq 1 gcq] 24)).al (.cells #[.int .i64 9] 3))
  have B47 : Hid (Abx wo42 (v2.heap.size) (.bool false) (.slice vaq 1 vcq) (.slice gaq 1 gcq)) := by rw [hwo42]; exact (n40.al (.cells #[.int .i64 9] 3))
  have L48 : Hid (MidC (wo5.heap.size) (v1.heap.size) wo42 (vap) ([(3 : Int)]) (vcp)) := by rw [hwo42]; exact ((L34.out.al (by omega) (.cells #[.bool false, .slice vaq 1 vcq, .slice gaq 1 gcq] 24)).al (by simp only [World.size_alloc]; omega) (.cells #[.int .i64 9] 3))
  have L49 : Hid (MidC (wo5.heap.size) (v1.heap.size) wo42 (gap) ([1, 2, 3]) (gcp)) := by rw [hwo42]; exact ((L35.out.al (by omega) (.cells #[.bool false, .slice vaq 1 vcq, .slice gaq 1 gcq] 24)).al (by simp only [World.size_alloc]; omega) (.cells #[.int .i64 9] 3))
  have L50 : Hid (MidC (wo21.heap.size) (v2.heap.size) wo42 (vaq) ([(1 : Int)]) (vcq)) := by rw [hwo42]; exact ((L38.out.al (by omega) (.cells #[.bool false, .slice vaq 1 vcq, .slice gaq 1 gcq] 24)).al (by simp only [World.size_alloc]; omega) (.cells #[.int .i64 9] 3))
  have L51 : Hid (MidC (wo21.heap.size) (v2.heap.size) wo42 (gaq) ([2]) (gcq)) := by rw [hwo42]; exact ((L39.out.al (by omega) (.cells #[.bool false, .slice vaq 1 vcq, .slice gaq 1 gcq] 24)).al (by simp only [World.size_alloc]; omega) (.cells #[.int .i64 9] 3))
  have L52 : Hid (MidC (v2.heap.size + 1) (v2.heap.size + 1 + 1) wo42 (some ⟨v2.heap.size + 1, 0, none⟩) ([9]) (1)) := by rw [hwo42]; exact n41
  have hb53 : Hid (Below w.heap.size w wo42) := by rw [hwo42]; exact ((hb37.out.alloc (by omega) (.cells #[.bool false, .slice vaq 1 vcq, .slice gaq 1 gcq] 24)).alloc (by simp only [World.size_alloc]; omega) (.cells #[.int .i64 9] 3))
  have zwo42 : w.heap.size ≤ wo42.heap.size := hb53.out.size
  clear hwo42 n40 n41 hb37 B31 B32 B33 L34 L35 L38 L39
  refine (vec_c (some ⟨v2.heap.size + 1, 0, none⟩) 1 [9] (by simp) _ (L52.out.is (by omega)).1).mono ?_
  rintro e v3 ⟨vat, vct, gat, gct, rfl, hVt, hGt, hB⟩
  have z54 : wo42.heap.size ≤ v3.heap.size := hB.size
  have B55 : Hid (Abx v3 (w.heap.size) (.bool c1) (.slice sa1 sz1.length sc1) (.slice da1 dz1.length dc1)) := B44.out.go hB
  have B56 : Hid (Abx v3 (w.heap.size + 1) (.bool c1) (.slice sa2 sz2.length sc2) (.slice da2 dz2.length dc2)) := B45.out.go hB
  have B57 : Hid (Abx v3 (w.heap.size + 1 + 1) (.bool c3) (.slice sa3 sz3.length sc3) (.slice da3 dz3.length dc3)) := B46.out.go hB
  have B58 : Hid (Abx v3 (v2.heap.size) (.bool false) (.slice vaq 1 vcq) (.slice gaq 1 gcq)) := B47.out.go hB
  have L59 : Hid (MidC (wo5.heap.size) (v1.heap.size) v3 (vap) ([(3 : Int)]) (vcp)) := L48.out.go (by omega) hB
  have L60 : Hid (MidC (wo5.heap.size) (v1.heap.size) v3 (gap) ([1, 2, 3]) (gcp)) := L49.out.go (by omega) hB
  have L61 : Hid (MidC (wo21.heap.size) (v2.heap.size) v3 (vaq) ([(1 : Int)]) (vcq)) := L50.out.go (by omega) hB
  have L62 : Hid (MidC (wo21.heap.size) (v2.heap.size) v3 (gaq) ([2]) (gcq)) := L51.out.go (by omega) hB
  have L63 : Hid (MidC (v2.heap.size + 1) (v2.heap.size + 1 + 1) v3 (some ⟨v2.heap.size + 1, 0, none⟩) ([9]) (1)) := L52.out.go (by omega) hB
  have hb64 : Hid (Below w.heap.size w v3) := hb53.out.trans (hB.mono hb53.out.size)
  have L65 : Hid (MidC (wo42.heap.size) (v3.heap.size) v3 (vat) ([(1 : Int)]) (vct)) := hVt.midc
  have L66 : Hid (MidC (wo42.heap.size) (v3.heap.size) v3 (gat) ([9]) (gct)) := hGt.midc
  clear hB hb53 B44 B45 B46 B47 L48 L49 L50 L51 L52 hVt hGt
  clear L63
  go_wp2_with fail
  refine (pt_ok false vap vcp [(3 : Int)] gap gcp [1, 2, 3] (some ⟨v2.heap.size, 0, none⟩) 1 [(false, (((vaq, vcq), [(1 : Int)]), ((gaq, gcq), [2])))] 1 rfl false vat vct [(1 : Int)] gat gct [9] _ (by simp) (by simp) (by decide) (by simp) (by simp) (L59.out.is (by omega)).1 (L60.out.is (by omega)).1 (as_one (c := false) (sa := vaq) (sc := vcq) (sz := [(1 : Int)]) (da := gaq) (dc := gcq) (dz := [2]) B58.out (by simp) (by simp) (L61.out.is (by omega)) (L62.out.is (by omega)) (lit_all (by decide)) (lit_all (by decide))) (L65.out.is (by omega)).1 (L66.out.is (by omega)).1 [3] [1, 2, 9] HPt (by show ptE false [(3 : Int)] [1, 2, 3] [(false, ([(1 : Int)], [2]))] false [(1 : Int)] [9] = 0 ∧ [(3 : Int)] = [3] ∧ ptV [(3 : Int)] [1, 2, 3] [(false, ([(1 : Int)], [2]))] [(1 : Int)] [9] = [1, 2, 9]; decide)).mono ?_
  rintro e v4 ⟨f1, g1, f2, g2, rfl, hX0, hY0, hB⟩
  have z67 : v3.heap.size ≤ v4.heap.size := hB.size
  have B68 : Hid (Abx v4 (w.heap.size) (.bool c1) (.slice sa1 sz1.length sc1) (.slice da1 dz1.length dc1)) := B55.out.go hB
  have B69 : Hid (Abx v4 (w.heap.size + 1) (.bool c1) (.slice sa2 sz2.length sc2) (.slice da2 dz2.length dc2)) := B56.out.go hB
  have B70 : Hid (Abx v4 (w.heap.size + 1 + 1) (.bool c3) (.slice sa3 sz3.length sc3) (.slice da3 dz3.length dc3)) := B57.out.go hB
  have B71 : Hid (Abx v4 (v2.heap.size) (.bool false) (.slice vaq 1 vcq) (.slice gaq 1 gcq)) := B58.out.go hB
  have L72 : Hid (MidC (wo5.heap.size) (v1.heap.size) v4 (vap) ([(3 : Int)]) (vcp)) := L59.out.go (by omega) hB
  have L73 : Hid (MidC (wo5.heap.size) (v1.heap.size) v4 (gap) ([1, 2, 3]) (gcp)) := L60.out.go (by omega) hB
  have L74 : Hid (MidC (wo21.heap.size) (v2.heap.size) v4 (vaq) ([(1 : Int)]) (vcq)) := L61.out.go (by omega) hB
  have L75 : Hid (MidC (wo21.heap.size) (v2.heap.size) v4 (gaq) ([2]) (gcq)) := L62.out.go (by omega) hB
  have L76 : Hid (MidC (wo42.heap.size) (v3.heap.size) v4 (vat) ([(1 : Int)]) (vct)) := L65.out.go (by omega) hB
  have L77 : Hid (MidC (wo42.heap.size) (v3.heap.size) v4 (gat) ([9]) (gct)) := L66.out.go (by omega) hB
  have hb78 : Hid (Below w.heap.size w v4) := hb64.out.trans (hB.mono hb64.out.size)
  have L79 : Hid (MidC (v3.heap.size) (v4.heap.size) v4 (f1) ([3]) (g1)) := hX0.midc
  have L80 : Hid (MidC (v3.heap.size) (v4.heap.size) v4 (f2) ([1, 2, 9]) (g2)) := hY0.midc
  clear hB hb64 B55 B56 B57 B58 L59 L60 L61 L62 L65 L66 hX0 hY0
  clear L72 L73 L74 L75 B71 L76 L77
  have n81 := Abx.new v4 (.bool false) (.slice f1 1 g1) (.slice f2 3 g2)
  have l82 := (n81).c0
  have l83 := (n81).c1
  have l84 := (n81).c2
  have n85 := lit_mid (v4.alloc (.cells #[.bool false, .slice f1 1 g1, .slice f2 3 g2] 24)) 3 [1, 2, 9] 3 rfl
  simp only [World.size_alloc, List.map_cons, List.map_nil] at n85
  go_wp2_with fail
  obtain ⟨wo86, hwo86⟩ : ∃ wo86, wo86 = ((v4.alloc (.cells #[.bool false, .slice f1 1 g1, .slice f2 3 g2] 24)).alloc (.cells #[.int .i64 1, .int .i64 2, .int .i64 9] 3)) := ⟨_, rfl⟩
  rw [← hwo86]
  have z87 : v4.heap.size + 1 + 1 ≤ wo86.heap.size := by rw [hwo86]; simp only [World.size_alloc]; omega
  have B88 : Hid (Abx wo86 (w.heap.size) (.bool c1) (.slice sa1 sz1.length sc1) (.slice da1 dz1.length dc1)) := by rw [hwo86]; exact ((B68.out.al (.cells #[.bool false, .slice f1 1 g1, .slice f2 3 g2] 24)).al (.cells #[.int .i64 1, .int .i64 2, .int .i64 9] 3))
  have B89 : Hid (Abx wo86 (w.heap.size + 1) (.bool c1) (.slice sa2 sz2.length sc2) (.slice da2 dz2.length dc2)) := by rw [hwo86]; exact ((B69.out.al (.cells #[.bool false, .slice f1 1 g1, .slice f2 3 g2] 24)).al (.cells #[.int .i64 1, .int .i64 2, .int .i64 9] 3))
  have B90 : Hid (Abx wo86 (w.heap.size + 1 + 1) (.bool c3) (.slice sa3 sz3.length sc3) (.slice da3 dz3.length dc3)) := by rw [hwo86]; exact ((B70.out.al (.cells #[.bool false, .slice f1 1 g1, .slice f2 3 g2] 24)).al (.cells #[.int .i64 1, .int .i64 2, .int .i64 9] 3))
  have B91 : Hid (Abx wo86 (v4.heap.size) (.bool false) (.slice f1 1 g1) (.slice f2 3 g2)) := by rw [hwo86]; exact (n81.al (.cells #[.int .i64 1, .int .i64 2, .int .i64 9] 3))
  have L92 : Hid (MidC (v3.heap.size) (v4.heap.size) wo86 (f1) ([3]) (g1)) := by rw [hwo86]; exact ((L79.out.al (by omega) (.cells #[.bool false, .slice f1 1 g1, .slice f2 3 g2] 24)).al (by simp only [World.size_alloc]; omega) (.cells #[.int .i64 1, .int .i64 2, .int .i64 9] 3))
  have L93 : Hid (MidC (v3.heap.size) (v4.heap.size) wo86 (f2) ([1, 2, 9]) (g2)) := by rw [hwo86]; exact ((L80.out.al (by omega) (.cells #[.bool false, .slice f1 1 g1, .slice f2 3 g2] 24)).al (by simp only [World.size_alloc]; omega) (.cells #[.int .i64 1, .int .i64 2, .int .i64 9] 3))
  have L94 : Hid (MidC (v4.heap.size + 1) (v4.heap.size + 1 + 1) wo86 (some ⟨v4.heap.size + 1, 0, none⟩) ([1, 2, 9]) (3)) := by rw [hwo86]; exact n85
  have hb95 : Hid (Below w.heap.size w wo86) := by rw [hwo86]; exact ((hb78.out.alloc (by omega) (.cells #[.bool false, .slice f1 1 g1, .slice f2 3 g2] 24)).alloc (by simp only [World.size_alloc]; omega) (.cells #[.int .i64 1, .int .i64 2, .int .i64 9] 3))
  have zwo86 : w.heap.size ≤ wo86.heap.size := hb95.out.size
  clear hwo86 n81 l82 l83 l84 n85 hb78 B68 B69 B70 L79 L80
  refine (ints_any f2 g2 [1, 2, 9] (some ⟨v4.heap.size + 1, 0, none⟩) 3 [1, 2, 9] (by simp) _ _ (L93.out.is (by omega)).1 (L94.out.is (by omega)).1).mono ?_
  rintro e v5 ⟨rfl, hB⟩
  have z96 : wo86.heap.size ≤ v5.heap.size := hB.size
  have B97 : Hid (Abx v5 (w.heap.size) (.bool c1) (.slice sa1 sz1.length sc1) (.slice da1 dz1.length dc1)) := B88.out.go hB
  have B98 : Hid (Abx v5 (w.heap.size + 1) (.bool c1) (.slice sa2 sz2.length sc2) (.slice da2 dz2.length dc2)) := B89.out.go hB
  have B99 : Hid (Abx v5 (w.heap.size + 1 + 1) (.bool c3) (.slice sa3 sz3.length sc3) (.slice da3 dz3.length dc3)) := B90.out.go hB
  have B100 : Hid (Abx v5 (v4.heap.size) (.bool false) (.slice f1 1 g1) (.slice f2 3 g2)) := B91.out.go hB
  have L101 : Hid (MidC (v3.heap.size) (v4.heap.size) v5 (f1) ([3]) (g1)) := L92.out.go (by omega) hB
  have L102 : Hid (MidC (v3.heap.size) (v4.heap.size) v5 (f2) ([1, 2, 9]) (g2)) := L93.out.go (by omega) hB
  have L103 : Hid (MidC (v4.heap.size + 1) (v4.heap.size + 1 + 1) v5 (some ⟨v4.heap.size + 1, 0, none⟩) ([1, 2, 9]) (3)) := L94.out.go (by omega) hB
  have hb104 : Hid (Below w.heap.size w v5) := hb95.out.trans (hB.mono hb95.out.size)
  clear hB hb95 B88 B89 B90 B91 L92 L93 L94
  rw [eqB_true rfl]
  clear L101 L102 L103 B100
  have l105 := (B97.out).c0
  have l106 := (B97.out).c1
  have l107 := (B97.out).c2
  go_wp2_with fail
  clear l105 l106 l107
  refine (at_ok c1 sa1 sc1 sz1 da1 dc1 dz1 ba bc bs bs.length rfl _ x11 x12 hbl ((HI1.out.1.1.below hb104.out).mono hb104.out.size) ((HI1.out.2.1.1.below hb104.out).mono hb104.out.size) ((HM.out.below hb104.out).mono hb104.out.size) S D HA ⟨F1.out, HSD.out.1.symm, HSD.out.2.1.symm⟩).mono ?_
  rintro e v6 ⟨xa1, xc1, ya1, yc1, rfl, hX1, hY1, hB⟩
  have z108 : v5.heap.size ≤ v6.heap.size := hB.size
  have B109 : Hid (Abx v6 (w.heap.size) (.bool c1) (.slice sa1 sz1.length sc1) (.slice da1 dz1.length dc1)) := B97.out.go hB
  have B110 : Hid (Abx v6 (w.heap.size + 1) (.bool c1) (.slice sa2 sz2.length sc2) (.slice da2 dz2.length dc2)) := B98.out.go hB
  have B111 : Hid (Abx v6 (w.heap.size + 1 + 1) (.bool c3) (.slice sa3 sz3.length sc3) (.slice da3 dz3.length dc3)) := B99.out.go hB
  have hb112 : Hid (Below w.heap.size w v6) := hb104.out.trans (hB.mono hb104.out.size)
  have L113 : Hid (MidC (v5.heap.size) (v6.heap.size) v6 (xa1) (S) (xc1)) := hX1.midc
  have L114 : Hid (MidC (v5.heap.size) (v6.heap.size) v6 (ya1) (D) (yc1)) := hY1.midc
  clear hB hb104 B97 B98 B99 hX1 hY1
  have n115 := Abx.new v6 (.bool c1) (.slice xa1 S.length xc1) (.slice ya1 D.length yc1)
  have l116 := ((B109.out.al (.cells #[.bool c1, .slice xa1 S.length xc1, .slice ya1 D.length yc1] 24))).c0
  have l117 := ((B109.out.al (.cells #[.bool c1, .slice xa1 S.length xc1, .slice ya1 D.length yc1] 24))).c1
  have l118 := ((B109.out.al (.cells #[.bool c1, .slice xa1 S.length xc1, .slice ya1 D.length yc1] 24))).c2
  have l119 := (n115).c0
  have l120 := (n115).c1
  have l121 := (n115).c2
  go_wp2_with fail
  obtain ⟨wo122, hwo122⟩ : ∃ wo122, wo122 = (v6.alloc (.cells #[.bool c1, .slice xa1 S.length xc1, .slice ya1 D.length yc1] 24)) := ⟨_, rfl⟩
  rw [← hwo122]
  have z123 : v6.heap.size + 1 ≤ wo122.heap.size := by rw [hwo122]; simp only [World.size_alloc]; omega
  have B124 : Hid (Abx wo122 (w.heap.size) (.bool c1) (.slice sa1 sz1.length sc1) (.slice da1 dz1.length dc1)) := by rw [hwo122]; exact (B109.out.al (.cells #[.bool c1, .slice xa1 S.length xc1, .slice ya1 D.length yc1] 24))
  have B125 : Hid (Abx wo122 (w.heap.size + 1) (.bool c1) (.slice sa2 sz2.length sc2) (.slice da2 dz2.length dc2)) := by rw [hwo122]; exact (B110.out.al (.cells #[.bool c1, .slice xa1 S.length xc1, .slice ya1 D.length yc1] 24))
  have B126 : Hid (Abx wo122 (w.heap.size + 1 + 1) (.bool c3) (.slice sa3 sz3.length sc3) (.slice da3 dz3.length dc3)) := by rw [hwo122]; exact (B111.out.al (.cells #[.bool c1, .slice xa1 S.length xc1, .slice ya1 D.length yc1] 24))
  have B127 : Hid (Abx wo122 (v6.heap.size) (.bool c1) (.slice xa1 S.length xc1) (.slice ya1 D.length yc1)) := by rw [hwo122]; exact n115
  have L128 : Hid (MidC (v5.heap.size) (v6.heap.size) wo122 (xa1) (S) (xc1)) := by rw [hwo122]; exact (L113.out.al (by omega) (.cells #[.bool c1, .slice xa1 S.length xc1, .slice ya1 D.length yc1] 24))
  have L129 : Hid (MidC (v5.heap.size) (v6.heap.size) wo122 (ya1) (D) (yc1)) := by rw [hwo122]; exact (L114.out.al (by omega) (.cells #[.bool c1, .slice xa1 S.length xc1, .slice ya1 D.length yc1] 24))
  have hb130 : Hid (Below w.heap.size w wo122) := by rw [hwo122]; exact (hb112.out.alloc (by omega) (.cells #[.bool c1, .slice xa1 S.length xc1, .slice ya1 D.length yc1] 24))
  have zwo122 : w.heap.size ≤ wo122.heap.size := hb130.out.size
  clear hwo122 n115 l116 l117 l118 l119 l120 l121 hb112 B109 B110 B111 L113 L114
  refine (pt_ok c1 sa1 sc1 sz1 da1 dc1 dz1 ba bc bs bs.length rfl c1 xa1 xc1 S ya1 yc1 D _ x11 x12 hbl (by have := HSD.out.2.2.1; omega) (by have := HSD.out.2.2.2.1; omega) ((HI1.out.1.1.below hb130.out).mono hb130.out.size) ((HI1.out.2.1.1.below hb130.out).mono hb130.out.size) ((HM.out.below hb130.out).mono hb130.out.size) (L128.out.is (by omega)).1 (L129.out.is (by omega)).1 sz1 dz1 HPt ⟨HB1.out.1, rfl, HB1.out.2⟩).mono ?_
  rintro e v7 ⟨xa2, xc2, ya2, yc2, rfl, hX2, hY2, hB⟩
  have z131 : wo122.heap.size ≤ v7.heap.size := hB.size
  have B132 : Hid (Abx v7 (w.heap.size) (.bool c1) (.slice sa1 sz1.length sc1) (.slice da1 dz1.length dc1)) := B124.out.go hB
  have B133 : Hid (Abx v7 (w.heap.size + 1) (.bool c1) (.slice sa2 sz2.length sc2) (.slice da2 dz2.length dc2)) := B125.out.go hB
  have B134 : Hid (Abx v7 (w.heap.size + 1 + 1) (.bool c3) (.slice sa3 sz3.length sc3) (.slice da3 dz3.length dc3)) := B126.out.go hB
  have B135 : Hid (Abx v7 (v6.heap.size) (.bool c1) (.slice xa1 S.length xc1) (.slice ya1 D.length yc1)) := B127.out.go hB
  have L136 : Hid (MidC (v5.heap.size) (v6.heap.size) v7 (xa1) (S) (xc1)) := L128.out.go (by omega) hB
  have L137 : Hid (MidC (v5.heap.size) (v6.heap.size) v7 (ya1) (D) (yc1)) := L129.out.go (by omega) hB
  have hb138 : Hid (Below w.heap.size w v7) := hb130.out.trans (hB.mono hb130.out.size)
  have L139 : Hid (MidC (wo122.heap.size) (v7.heap.size) v7 (xa2) (sz1) (xc2)) := hX2.midc
  have L140 : Hid (MidC (wo122.heap.size) (v7.heap.size) v7 (ya2) (dz1) (yc2)) := hY2.midc
  clear hB hb130 B124 B125 B126 B127 L128 L129 hX2 hY2
  have n141 := Abx.new v7 (.bool c1) (.slice xa2 sz1.length xc2) (.slice ya2 dz1.length yc2)
  have l142 := (n141).c0
  have l143 := (n141).c1
  have l144 := (n141).c2
  have l145 := ((B132.out.al (.cells #[.bool c1, .slice xa2 sz1.length xc2, .slice ya2 dz1.length yc2] 24))).c0
  have l146 := ((B132.out.al (.cells #[.bool c1, .slice xa2 sz1.length xc2, .slice ya2 dz1.length yc2] 24))).c1
  have l147 := ((B132.out.al (.cells #[.bool c1, .slice xa2 sz1.length xc2, .slice ya2 dz1.length yc2] 24))).c2
  go_wp2_with fail
  obtain ⟨wo148, hwo148⟩ : ∃ wo148, wo148 = (v7.alloc (.cells #[.bool c1, .slice xa2 sz1.length xc2, .slice ya2 dz1.length yc2] 24)) := ⟨_, rfl⟩
  rw [← hwo148]
  have z149 : v7.heap.size + 1 ≤ wo148.heap.size := by rw [hwo148]; simp only [World.size_alloc]; omega
  have B150 : Hid (Abx wo148 (w.heap.size) (.bool c1) (.slice sa1 sz1.length sc1) (.slice da1 dz1.length dc1)) := by rw [hwo148]; exact (B132.out.al (.cells #[.bool c1, .slice xa2 sz1.length xc2, .slice ya2 dz1.length yc2] 24))
  have B151 : Hid (Abx wo148 (w.heap.size + 1) (.bool c1) (.slice sa2 sz2.length sc2) (.slice da2 dz2.length dc2)) := by rw [hwo148]; exact (B133.out.al (.cells #[.bool c1, .slice xa2 sz1.length xc2, .slice ya2 dz1.length yc2] 24))
  have B152 : Hid (Abx wo148 (w.heap.size + 1 + 1) (.bool c3) (.slice sa3 sz3.length sc3) (.slice da3 dz3.length dc3)) := by rw [hwo148]; exact (B134.out.al (.cells #[.bool c1, .slice xa2 sz1.length xc2, .slice ya2 dz1.length yc2] 24))
  have B153 : Hid (Abx wo148 (v6.heap.size) (.bool c1) (.slice xa1 S.length xc1) (.slice ya1 D.length yc1)) := by rw [hwo148]; exact (B135.out.al (.cells #[.bool c1, .slice xa2 sz1.length xc2, .slice ya2 dz1.length yc2] 24))
  have B154 : Hid (Abx wo148 (v7.heap.size) (.bool c1) (.slice xa2 sz1.length xc2) (.slice ya2 dz1.length yc2)) := by rw [hwo148]; exact n141
  have L155 : Hid (MidC (v5.heap.size) (v6.heap.size) wo148 (xa1) (S) (xc1)) := by rw [hwo148]; exact (L136.out.al (by omega) (.cells #[.bool c1, .slice xa2 sz1.length xc2, .slice ya2 dz1.length yc2] 24))
  have L156 : Hid (MidC (v5.heap.size) (v6.heap.size) wo148 (ya1) (D) (yc1)) := by rw [hwo148]; exact (L137.out.al (by omega) (.cells #[.bool c1, .slice xa2 sz1.length xc2, .slice ya2 dz1.length yc2] 24))
  have L157 : Hid (MidC (wo122.heap.size) (v7.heap.size) wo148 (xa2) (sz1) (xc2)) := by rw [hwo148]; exact (L139.out.al (by omega) (.cells #[.bool c1, .slice xa2 sz1.length xc2, .slice ya2 dz1.length yc2] 24))
  have L158 : Hid (MidC (wo122.heap.size) (v7.heap.size) wo148 (ya2) (dz1) (yc2)) := by rw [hwo148]; exact (L140.out.al (by omega) (.cells #[.bool c1, .slice xa2 sz1.length xc2, .slice ya2 dz1.length yc2] 24))
  have hb159 : Hid (Below w.heap.size w wo148) := by rw [hwo148]; exact (hb138.out.alloc (by omega) (.cells #[.bool c1, .slice xa2 sz1.length xc2, .slice ya2 dz1.length yc2] 24))
  have zwo148 : w.heap.size ≤ wo148.heap.size := hb159.out.size
  clear hwo148 n141 l142 l143 l144 l145 l146 l147 hb138 B132 B133 B134 B135 L136 L137 L139 L140
  refine (alike_eq c1 xa2 xc2 sz1 ya2 yc2 dz1 sa1 sc1 sz1 da1 dc1 dz1 rfl rfl x11 x12 _ (L157.out.is (by omega)) (L158.out.is (by omega)).1 ((HI1.out.1.below hb159.out).mono hb159.out.size) ((HI1.out.2.1.1.below hb159.out).mono hb159.out.size)).mono ?_
  rintro e v8 ⟨rfl, hB⟩
  have z160 : wo148.heap.size ≤ v8.heap.size := hB.size
  have B161 : Hid (Abx v8 (w.heap.size) (.bool c1) (.slice sa1 sz1.length sc1) (.slice da1 dz1.length dc1)) := B150.out.go hB
  have B162 : Hid (Abx v8 (w.heap.size + 1) (.bool c1) (.slice sa2 sz2.length sc2) (.slice da2 dz2.length dc2)) := B151.out.go hB
  have B163 : Hid (Abx v8 (w.heap.size + 1 + 1) (.bool c3) (.slice sa3 sz3.length sc3) (.slice da3 dz3.length dc3)) := B152.out.go hB
  have B164 : Hid (Abx v8 (v6.heap.size) (.bool c1) (.slice xa1 S.length xc1) (.slice ya1 D.length yc1)) := B153.out.go hB
  have B165 : Hid (Abx v8 (v7.heap.size) (.bool c1) (.slice xa2 sz1.length xc2) (.slice ya2 dz1.length yc2)) := B154.out.go hB
  have L166 : Hid (MidC (v5.heap.size) (v6.heap.size) v8 (xa1) (S) (xc1)) := L155.out.go (by omega) hB
  have L167 : Hid (MidC (v5.heap.size) (v6.heap.size) v8 (ya1) (D) (yc1)) := L156.out.go (by omega) hB
  have L168 : Hid (MidC (wo122.heap.size) (v7.heap.size) v8 (xa2) (sz1) (xc2)) := L157.out.go (by omega) hB
  have L169 : Hid (MidC (wo122.heap.size) (v7.heap.size) v8 (ya2) (dz1) (yc2)) := L158.out.go (by omega) hB
  have hb170 : Hid (Below w.heap.size w v8) := hb159.out.trans (hB.mono hb159.out.size)
  clear hB hb159 B150 B151 B152 B153 B154 L155 L156 L157 L158
  clear L168 L169 B165
  have l171 := (B161.out).c0
  have l172 := (B161.out).c1
  have l173 := (B161.out).c2
  have l174 := (B162.out).c0
  have l175 := (B162.out).c1
  have l176 := (B162.out).c2
  go_wp2_with fail
  clear l171 l172 l173 l174 l175 l176
  refine (pt_ok c1 sa1 sc1 sz1 da1 dc1 dz1 ba bc bs bs.length rfl c1 sa2 sc2 sz2 da2 dc2 dz2 _ x11 x12 hbl x21 x22 ((HI1.out.1.1.below hb170.out).mono hb170.out.size) ((HI1.out.2.1.1.below hb170.out).mono hb170.out.size) ((HM.out.below hb170.out).mono hb170.out.size) ((HI2.out.1.1.below hb170.out).mono hb170.out.size) ((HI2.out.2.1.1.below hb170.out).mono hb170.out.size) sz1 Q HPt ⟨F2.out, rfl, HQ.out.1.symm⟩).mono ?_
  rintro e v9 ⟨xa3, xc3, ya3, yc3, rfl, hX3, hY3, hB⟩
  have z177 : v8.heap.size ≤ v9.heap.size := hB.size
  have B178 : Hid (Abx v9 (w.heap.size) (.bool c1) (.slice sa1 sz1.length sc1) (.slice da1 dz1.length dc1)) := B161.out.go hB
  have B179 : Hid (Abx v9 (w.heap.size + 1) (.bool c1) (.slice sa2 sz2.length sc2) (.slice da2 dz2.length dc2)) := B162.out.go hB
  have B180 : Hid (Abx v9 (w.heap.size + 1 + 1) (.bool c3) (.slice sa3 sz3.length sc3) (.slice da3 dz3.length dc3)) := B163.out.go hB
  have B181 : Hid (Abx v9 (v6.heap.size) (.bool c1) (.slice xa1 S.length xc1) (.slice ya1 D.length yc1)) := B164.out.go hB
  have L182 : Hid (MidC (v5.heap.size) (v6.heap.size) v9 (xa1) (S) (xc1)) := L166.out.go (by omega) hB
  have L183 : Hid (MidC (v5.heap.size) (v6.heap.size) v9 (ya1) (D) (yc1)) := L167.out.go (by omega) hB
  have hb184 : Hid (Below w.heap.size w v9) := hb170.out.trans (hB.mono hb170.out.size)
  have L185 : Hid (MidC (v8.heap.size) (v9.heap.size) v9 (xa3) (sz1) (xc3)) := hX3.midc
  have L186 : Hid (MidC (v8.heap.size) (v9.heap.size) v9 (ya3) (Q) (yc3)) := hY3.midc
  clear hB hb170 B161 B162 B163 B164 L166 L167 hX3 hY3
  have n187 := Abx.new v9 (.bool c1) (.slice xa3 sz1.length xc3) (.slice ya3 Q.length yc3)
  have l188 := (n187).c0
  have l189 := (n187).c1
  have l190 := (n187).c2
  have l191 := ((B180.out.al (.cells #[.bool c1, .slice xa3 sz1.length xc3, .slice ya3 Q.length yc3] 24))).c0
  have l192 := ((B180.out.al (.cells #[.bool c1, .slice xa3 sz1.length xc3, .slice ya3 Q.length yc3] 24))).c1
  have l193 := ((B180.out.al (.cells #[.bool c1, .slice xa3 sz1.length xc3, .slice ya3 Q.length yc3] 24))).c2
  go_wp2_with fail
  obtain ⟨wo194, hwo194⟩ : ∃ wo194, wo194 = (v9.alloc (.cells #[.bool c1, .slice xa3 sz1.length xc3, .slice ya3 Q.length yc3] 24)) := ⟨_, rfl⟩
  rw [← hwo194]
  have z195 : v9.heap.size + 1 ≤ wo194.heap.size := by rw [hwo194]; simp only [World.size_alloc]; omega
  have B196 : Hid (Abx wo194 (w.heap.size) (.bool c1) (.slice sa1 sz1.length sc1) (.slice da1 dz1.length dc1)) := by rw [hwo194]; exact (B178.out.al (.cells #[.bool c1, .slice xa3 sz1.length xc3, .slice ya3 Q.length yc3] 24))
  have B197 : Hid (Abx wo194 (w.heap.size + 1) (.bool c1) (.slice sa2 sz2.length sc2) (.slice da2 dz2.length dc2)) := by rw [hwo194]; exact (B179.out.al (.cells #[.bool c1, .slice xa3 sz1.length xc3, .slice ya3 Q.length yc3] 24))
  have B198 : Hid (Abx wo194 (w.heap.size + 1 + 1) (.bool c3) (.slice sa3 sz3.length sc3) (.slice da3 dz3.length dc3)) := by rw [hwo194]; exact (B180.out.al (.cells #[.bool c1, .slice xa3 sz1.length xc3, .slice ya3 Q.length yc3] 24))
  have B199 : Hid (Abx wo194 (v6.heap.size) (.bool c1) (.slice xa1 S.length xc1) (.slice ya1 D.length yc1)) := by rw [hwo194]; exact (B181.out.al (.cells #[.bool c1, .slice xa3 sz1.length xc3, .slice ya3 Q.length yc3] 24))
  have B200 : Hid (Abx wo194 (v9.heap.size) (.bool c1) (.slice xa3 sz1.length xc3) (.slice ya3 Q.length yc3)) := by rw [hwo194]; exact n187
  have L201 : Hid (MidC (v5.heap.size) (v6.heap.size) wo194 (xa1) (S) (xc1)) := by rw [hwo194]; exact (L182.out.al (by omega) (.cells #[.bool c1, .slice xa3 sz1.length xc3, .slice ya3 Q.length yc3] 24))
  have L202 : Hid (MidC (v5.heap.size) (v6.heap.size) wo194 (ya1) (D) (yc1)) := by rw [hwo194]; exact (L183.out.al (by omega) (.cells #[.bool c1, .slice xa3 sz1.length xc3, .slice ya3 Q.length yc3] 24))
  have L203 : Hid (MidC (v8.heap.size) (v9.heap.size) wo194 (xa3) (sz1) (xc3)) := by rw [hwo194]; exact (L185.out.al (by omega) (.cells #[.bool c1, .slice xa3 sz1.length xc3, .slice ya3 Q.length yc3] 24))
  have L204 : Hid (MidC (v8.heap.size) (v9.heap.size) wo194 (ya3) (Q) (yc3)) := by rw [hwo194]; exact (L186.out.al (by omega) (.cells #[.bool c1, .slice xa3 sz1.length xc3, .slice ya3 Q.length yc3] 24))
  have hb205 : Hid (Below w.heap.size w wo194) := by rw [hwo194]; exact (hb184.out.alloc (by omega) (.cells #[.bool c1, .slice xa3 sz1.length xc3, .slice ya3 Q.length yc3] 24))
  have zwo194 : w.heap.size ≤ wo194.heap.size := hb205.out.size
  clear hwo194 n187 l188 l189 l190 l191 l192 l193 hb184 B178 B179 B180 B181 L182 L183 L185 L186
  refine (pt_ok c1 xa3 xc3 sz1 ya3 yc3 Q ba bc bs bs.length rfl c3 sa3 sc3 sz3 da3 dc3 dz3 _ x11 (by have := HQ.out.2.1; omega) hbl x31 x32 (L203.out.is (by omega)).1 (L204.out.is (by omega)).1 ((HM.out.below hb205.out).mono hb205.out.size) ((HI3.out.1.1.below hb205.out).mono hb205.out.size) ((HI3.out.2.1.1.below hb205.out).mono hb205.out.size) sz1 R HPt ⟨HW.out.1, rfl, HW.out.2.1⟩).mono ?_
  rintro e v10 ⟨xa4, xc4, ya4, yc4, rfl, hX4, hY4, hB⟩
  have z206 : wo194.heap.size ≤ v10.heap.size := hB.size
  have B207 : Hid (Abx v10 (w.heap.size) (.bool c1) (.slice sa1 sz1.length sc1) (.slice da1 dz1.length dc1)) := B196.out.go hB
  have B208 : Hid (Abx v10 (w.heap.size + 1) (.bool c1) (.slice sa2 sz2.length sc2) (.slice da2 dz2.length dc2)) := B197.out.go hB
  have B209 : Hid (Abx v10 (w.heap.size + 1 + 1) (.bool c3) (.slice sa3 sz3.length sc3) (.slice da3 dz3.length dc3)) := B198.out.go hB
  have B210 : Hid (Abx v10 (v6.heap.size) (.bool c1) (.slice xa1 S.length xc1) (.slice ya1 D.length yc1)) := B199.out.go hB
  have B211 : Hid (Abx v10 (v9.heap.size) (.bool c1) (.slice xa3 sz1.length xc3) (.slice ya3 Q.length yc3)) := B200.out.go hB
  have L212 : Hid (MidC (v5.heap.size) (v6.heap.size) v10 (xa1) (S) (xc1)) := L201.out.go (by omega) hB
  have L213 : Hid (MidC (v5.heap.size) (v6.heap.size) v10 (ya1) (D) (yc1)) := L202.out.go (by omega) hB
  have L214 : Hid (MidC (v8.heap.size) (v9.heap.size) v10 (xa3) (sz1) (xc3)) := L203.out.go (by omega) hB
  have L215 : Hid (MidC (v8.heap.size) (v9.heap.size) v10 (ya3) (Q) (yc3)) := L204.out.go (by omega) hB
  have hb216 : Hid (Below w.heap.size w v10) := hb205.out.trans (hB.mono hb205.out.size)
  have L217 : Hid (MidC (wo194.heap.size) (v10.heap.size) v10 (xa4) (sz1) (xc4)) := hX4.midc
  have L218 : Hid (MidC (wo194.heap.size) (v10.heap.size) v10 (ya4) (R) (yc4)) := hY4.midc
  clear hB hb205 B196 B197 B198 B199 B200 L201 L202 L203 L204 hX4 hY4
  have n219 := Abx.new v10 (.bool c1) (.slice xa4 sz1.length xc4) (.slice ya4 R.length yc4)
  have l220 := ((B207.out.al (.cells #[.bool c1, .slice xa4 sz1.length xc4, .slice ya4 R.length yc4] 24))).c0
  have l221 := ((B207.out.al (.cells #[.bool c1, .slice xa4 sz1.length xc4, .slice ya4 R.length yc4] 24))).c1
  have l222 := ((B207.out.al (.cells #[.bool c1, .slice xa4 sz1.length xc4, .slice ya4 R.length yc4] 24))).c2
  have l223 := ((B209.out.al (.cells #[.bool c1, .slice xa4 sz1.length xc4, .slice ya4 R.length yc4] 24))).c0
  have l224 := ((B209.out.al (.cells #[.bool c1, .slice xa4 sz1.length xc4, .slice ya4 R.length yc4] 24))).c1
  have l225 := ((B209.out.al (.cells #[.bool c1, .slice xa4 sz1.length xc4, .slice ya4 R.length yc4] 24))).c2
  go_wp2_with fail
  obtain ⟨wo226, hwo226⟩ : ∃ wo226, wo226 = (v10.alloc (.cells #[.bool c1, .slice xa4 sz1.length xc4, .slice ya4 R.length yc4] 24)) := ⟨_, rfl⟩
  rw [← hwo226]
  have z227 : v10.heap.size + 1 ≤ wo226.heap.size := by rw [hwo226]; simp only [World.size_alloc]; omega
  have B228 : Hid (Abx wo226 (w.heap.size) (.bool c1) (.slice sa1 sz1.length sc1) (.slice da1 dz1.length dc1)) := by rw [hwo226]; exact (B207.out.al (.cells #[.bool c1, .slice xa4 sz1.length xc4, .slice ya4 R.length yc4] 24))
  have B229 : Hid (Abx wo226 (w.heap.size + 1) (.bool c1) (.slice sa2 sz2.length sc2) (.slice da2 dz2.length dc2)) := by rw [hwo226]; exact (B208.out.al (.cells #[.bool c1, .slice xa4 sz1.length xc4, .slice ya4 R.length yc4] 24))
  have B230 : Hid (Abx wo226 (w.heap.size + 1 + 1) (.bool c3) (.slice sa3 sz3.length sc3) (.slice da3 dz3.length dc3)) := by rw [hwo226]; exact (B209.out.al (.cells #[.bool c1, .slice xa4 sz1.length xc4, .slice ya4 R.length yc4] 24))
  have B231 : Hid (Abx wo226 (v6.heap.size) (.bool c1) (.slice xa1 S.length xc1) (.slice ya1 D.length yc1)) := by rw [hwo226]; exact (B210.out.al (.cells #[.bool c1, .slice xa4 sz1.length xc4, .slice ya4 R.length yc4] 24))
  have B232 : Hid (Abx wo226 (v9.heap.size) (.bool c1) (.slice xa3 sz1.length xc3) (.slice ya3 Q.length yc3)) := by rw [hwo226]; exact (B211.out.al (.cells #[.bool c1, .slice xa4 sz1.length xc4, .slice ya4 R.length yc4] 24))
  have B233 : Hid (Abx wo226 (v10.heap.size) (.bool c1) (.slice xa4 sz1.length xc4) (.slice ya4 R.length yc4)) := by rw [hwo226]; exact n219
  have L234 : Hid (MidC (v5.heap.size) (v6.heap.size) wo226 (xa1) (S) (xc1)) := by rw [hwo226]; exact (L212.out.al (by omega) (.cells #[.bool c1, .slice xa4 sz1.length xc4, .slice ya4 R.length yc4] 24))
  have L235 : Hid (MidC (v5.heap.size) (v6.heap.size) wo226 (ya1) (D) (yc1)) := by rw [hwo226]; exact (L213.out.al (by omega) (.cells #[.bool c1, .slice xa4 sz1.length xc4, .slice ya4 R.length yc4] 24))
  have L236 : Hid (MidC (v8.heap.size) (v9.heap.size) wo226 (xa3) (sz1) (xc3)) := by rw [hwo226]; exact (L214.out.al (by omega) (.cells #[.bool c1, .slice xa4 sz1.length xc4, .slice ya4 R.length yc4] 24))
  have L237 : Hid (MidC (v8.heap.size) (v9.heap.size) wo226 (ya3) (Q) (yc3)) := by rw [hwo226]; exact (L215.out.al (by omega) (.cells #[.bool c1, .slice xa4 sz1.length xc4, .slice ya4 R.length yc4] 24))
  have L238 : Hid (MidC (wo194.heap.size) (v10.heap.size) wo226 (xa4) (sz1) (xc4)) := by rw [hwo226]; exact (L217.out.al (by omega) (.cells #[.bool c1, .slice xa4 sz1.length xc4, .slice ya4 R.length yc4] 24))
  have L239 : Hid (MidC (wo194.heap.size) (v10.heap.size) wo226 (ya4) (R) (yc4)) := by rw [hwo226]; exact (L218.out.al (by omega) (.cells #[.bool c1, .slice xa4 sz1.length xc4, .slice ya4 R.length yc4] 24))
  have hb240 : Hid (Below w.heap.size w wo226) := by rw [hwo226]; exact (hb216.out.alloc (by omega) (.cells #[.bool c1, .slice xa4 sz1.length xc4, .slice ya4 R.length yc4] 24))
  have zwo226 : w.heap.size ≤ wo226.heap.size := hb240.out.size
  clear hwo226 n219 l220 l221 l222 l223 l224 l225 hb216 B207 B208 B209 B210 B211 L212 L213 L214 L215 L217 L218
  refine (pt_ok c1 sa1 sc1 sz1 da1 dc1 dz1 ba bc bs bs.length rfl c3 sa3 sc3 sz3 da3 dc3 dz3 _ x11 x12 hbl x31 x32 ((HI1.out.1.1.below hb240.out).mono hb240.out.size) ((HI1.out.2.1.1.below hb240.out).mono hb240.out.size) ((HM.out.below hb240.out).mono hb240.out.size) ((HI3.out.1.1.below hb240.out).mono hb240.out.size) ((HI3.out.2.1.1.below hb240.out).mono hb240.out.size) sz1 R HPt ⟨F3.out, rfl, HR.out⟩).mono ?_
  rintro e v11 ⟨xa5, xc5, ya5, yc5, rfl, hX5, hY5, hB⟩
  have z241 : wo226.heap.size ≤ v11.heap.size := hB.size
  have B242 : Hid (Abx v11 (w.heap.size) (.bool c1) (.slice sa1 sz1.length sc1) (.slice da1 dz1.length dc1)) := B228.out.go hB
  have B243 : Hid (Abx v11 (w.heap.size + 1) (.bool c1) (.slice sa2 sz2.length sc2) (.slice da2 dz2.length dc2)) := B229.out.go hB
  have B244 : Hid (Abx v11 (w.heap.size + 1 + 1) (.bool c3) (.slice sa3 sz3.length sc3) (.slice da3 dz3.length dc3)) := B230.out.go hB
  have B245 : Hid (Abx v11 (v6.heap.size) (.bool c1) (.slice xa1 S.length xc1) (.slice ya1 D.length yc1)) := B231.out.go hB
  have B246 : Hid (Abx v11 (v9.heap.size) (.bool c1) (.slice xa3 sz1.length xc3) (.slice ya3 Q.length yc3)) := B232.out.go hB
  have B247 : Hid (Abx v11 (v10.heap.size) (.bool c1) (.slice xa4 sz1.length xc4) (.slice ya4 R.length yc4)) := B233.out.go hB
  have L248 : Hid (MidC (v5.heap.size) (v6.heap.size) v11 (xa1) (S) (xc1)) := L234.out.go (by omega) hB
  have L249 : Hid (MidC (v5.heap.size) (v6.heap.size) v11 (ya1) (D) (yc1)) := L235.out.go (by omega) hB
  have L250 : Hid (MidC (v8.heap.size) (v9.heap.size) v11 (xa3) (sz1) (xc3)) := L236.out.go (by omega) hB
  have L251 : Hid (MidC (v8.heap.size) (v9.heap.size) v11 (ya3) (Q) (yc3)) := L237.out.go (by omega) hB
  have L252 : Hid (MidC (wo194.heap.size) (v10.heap.size) v11 (xa4) (sz1) (xc4)) := L238.out.go (by omega) hB
  have L253 : Hid (MidC (wo194.heap.size) (v10.heap.size) v11 (ya4) (R) (yc4)) := L239.out.go (by omega) hB
  have hb254 : Hid (Below w.heap.size w v11) := hb240.out.trans (hB.mono hb240.out.size)
  have L255 : Hid (MidC (wo226.heap.size) (v11.heap.size) v11 (xa5) (sz1) (xc5)) := hX5.midc
  have L256 : Hid (MidC (wo226.heap.size) (v11.heap.size) v11 (ya5) (R) (yc5)) := hY5.midc
  clear hB hb240 B228 B229 B230 B231 B232 B233 L234 L235 L236 L237 L238 L239 hX5 hY5
  have n257 := Abx.new v11 (.bool c1) (.slice xa5 sz1.length xc5) (.slice ya5 R.length yc5)
  have l258 := ((B247.out.al (.cells #[.bool c1, .slice xa5 sz1.length xc5, .slice ya5 R.length yc5] 24))).c0
  have l259 := ((B247.out.al (.cells #[.bool c1, .slice xa5 sz1.length xc5, .slice ya5 R.length yc5] 24))).c1
  have l260 := ((B247.out.al (.cells #[.bool c1, .slice xa5 sz1.length xc5, .slice ya5 R.length yc5] 24))).c2
  have l261 := (n257).c0
  have l262 := (n257).c1
  have l263 := (n257).c2
  go_wp2_with fail
  obtain ⟨wo264, hwo264⟩ : ∃ wo264, wo264 = (v11.alloc (.cells #[.bool c1, .slice xa5 sz1.length xc5, .slice ya5 R.length yc5] 24)) := ⟨_, rfl⟩
  rw [← hwo264]
  have z265 : v11.heap.size + 1 ≤ wo264.heap.size := by rw [hwo264]; simp only [World.size_alloc]; omega
  have B266 : Hid (Abx wo264 (w.heap.size) (.bool c1) (.slice sa1 sz1.length sc1) (.slice da1 dz1.length dc1)) := by rw [hwo264]; exact (B242.out.al (.cells #[.bool c1, .slice xa5 sz1.length xc5, .slice ya5 R.length yc5] 24))
  have B267 : Hid (Abx wo264 (w.heap.size + 1) (.bool c1) (.slice sa2 sz2.length sc2) (.slice da2 dz2.length dc2)) := by rw [hwo264]; exact (B243.out.al (.cells #[.bool c1, .slice xa5 sz1.length xc5, .slice ya5 R.length yc5] 24))
  have B268 : Hid (Abx wo264 (w.heap.size + 1 + 1) (.bool c3) (.slice sa3 sz3.length sc3) (.slice da3 dz3.length dc3)) := by rw [hwo264]; exact (B244.out.al (.cells #[.bool c1, .slice xa5 sz1.length xc5, .slice ya5 R.length yc5] 24))
  have B269 : Hid (Abx wo264 (v6.heap.size) (.bool c1) (.slice xa1 S.length xc1) (.slice ya1 D.length yc1)) := by rw [hwo264]; exact (B245.out.al (.cells #[.bool c1, .slice xa5 sz1.length xc5, .slice ya5 R.length yc5] 24))
  have B270 : Hid (Abx wo264 (v9.heap.size) (.bool c1) (.slice xa3 sz1.length xc3) (.slice ya3 Q.length yc3)) := by rw [hwo264]; exact (B246.out.al (.cells #[.bool c1, .slice xa5 sz1.length xc5, .slice ya5 R.length yc5] 24))
  have B271 : Hid (Abx wo264 (v10.heap.size) (.bool c1) (.slice xa4 sz1.length xc4) (.slice ya4 R.length yc4)) := by rw [hwo264]; exact (B247.out.al (.cells #[.bool c1, .slice xa5 sz1.length xc5, .slice ya5 R.length yc5] 24))
  have B272 : Hid (Abx wo264 (v11.heap.size) (.bool c1) (.slice xa5 sz1.length xc5) (.slice ya5 R.length yc5)) := by rw [hwo264]; exact n257
  have L273 : Hid (MidC (v5.heap.size) (v6.heap.size) wo264 (xa1) (S) (xc1)) := by rw [hwo264]; exact (L248.out.al (by omega) (.cells #[.bool c1, .slice xa5 sz1.length xc5, .slice ya5 R.length yc5] 24))
  have L274 : Hid (MidC (v5.heap.size) (v6.heap.size) wo264 (ya1) (D) (yc1)) := by rw [hwo264]; exact (L249.out.al (by omega) (.cells #[.bool c1, .slice xa5 sz1.length xc5, .slice ya5 R.length yc5] 24))
  have L275 : Hid (MidC (v8.heap.size) (v9.heap.size) wo264 (xa3) (sz1) (xc3)) := by rw [hwo264]; exact (L250.out.al (by omega) (.cells #[.bool c1, .slice xa5 sz1.length xc5, .slice ya5 R.length yc5] 24))
  have L276 : Hid (MidC (v8.heap.size) (v9.heap.size) wo264 (ya3) (Q) (yc3)) := by rw [hwo264]; exact (L251.out.al (by omega) (.cells #[.bool c1, .slice xa5 sz1.length xc5, .slice ya5 R.length yc5] 24))
  have L277 : Hid (MidC (wo194.heap.size) (v10.heap.size) wo264 (xa4) (sz1) (xc4)) := by rw [hwo264]; exact (L252.out.al (by omega) (.cells #[.bool c1, .slice xa5 sz1.length xc5, .slice ya5 R.length yc5] 24))
  have L278 : Hid (MidC (wo194.heap.size) (v10.heap.size) wo264 (ya4) (R) (yc4)) := by rw [hwo264]; exact (L253.out.al (by omega) (.cells #[.bool c1, .slice xa5 sz1.length xc5, .slice ya5 R.length yc5] 24))
  have L279 : Hid (MidC (wo226.heap.size) (v11.heap.size) wo264 (xa5) (sz1) (xc5)) := by rw [hwo264]; exact (L255.out.al (by omega) (.cells #[.bool c1, .slice xa5 sz1.length xc5, .slice ya5 R.length yc5] 24))
  have L280 : Hid (MidC (wo226.heap.size) (v11.heap.size) wo264 (ya5) (R) (yc5)) := by rw [hwo264]; exact (L256.out.al (by omega) (.cells #[.bool c1, .slice xa5 sz1.length xc5, .slice ya5 R.length yc5] 24))
  have hb281 : Hid (Below w.heap.size w wo264) := by rw [hwo264]; exact (hb254.out.alloc (by omega) (.cells #[.bool c1, .slice xa5 sz1.length xc5, .slice ya5 R.length yc5] 24))
  have zwo264 : w.heap.size ≤ wo264.heap.size := hb281.out.size
  clear hwo264 n257 l258 l259 l260 l261 l262 l263 hb254 B242 B243 B244 B245 B246 B247 L248 L249 L250 L251 L252 L253 L255 L256
  refine (alike_eq c1 xa4 xc4 sz1 ya4 yc4 R xa5 xc5 sz1 ya5 yc5 R rfl rfl x11 (by have := HW.out.2.2; omega) _ (L277.out.is (by omega)) (L278.out.is (by omega)).1 (L279.out.is (by omega)) (L280.out.is (by omega)).1).mono ?_
  rintro e v12 ⟨rfl, hB⟩
  have z282 : wo264.heap.size ≤ v12.heap.size := hB.size
  have B283 : Hid (Abx v12 (w.heap.size) (.bool c1) (.slice sa1 sz1.length sc1) (.slice da1 dz1.length dc1)) := B266.out.go hB
  have B284 : Hid (Abx v12 (w.heap.size + 1) (.bool c1) (.slice sa2 sz2.length sc2) (.slice da2 dz2.length dc2)) := B267.out.go hB
  have B285 : Hid (Abx v12 (w.heap.size + 1 + 1) (.bool c3) (.slice sa3 sz3.length sc3) (.slice da3 dz3.length dc3)) := B268.out.go hB
  have B286 : Hid (Abx v12 (v6.heap.size) (.bool c1) (.slice xa1 S.length xc1) (.slice ya1 D.length yc1)) := B269.out.go hB
  have B287 : Hid (Abx v12 (v9.heap.size) (.bool c1) (.slice xa3 sz1.length xc3) (.slice ya3 Q.length yc3)) := B270.out.go hB
  have B288 : Hid (Abx v12 (v10.heap.size) (.bool c1) (.slice xa4 sz1.length xc4) (.slice ya4 R.length yc4)) := B271.out.go hB
  have B289 : Hid (Abx v12 (v11.heap.size) (.bool c1) (.slice xa5 sz1.length xc5) (.slice ya5 R.length yc5)) := B272.out.go hB
  have L290 : Hid (MidC (v5.heap.size) (v6.heap.size) v12 (xa1) (S) (xc1)) := L273.out.go (by omega) hB
  have L291 : Hid (MidC (v5.heap.size) (v6.heap.size) v12 (ya1) (D) (yc1)) := L274.out.go (by omega) hB
  have L292 : Hid (MidC (v8.heap.size) (v9.heap.size) v12 (xa3) (sz1) (xc3)) := L275.out.go (by omega) hB
  have L293 : Hid (MidC (v8.heap.size) (v9.heap.size) v12 (ya3) (Q) (yc3)) := L276.out.go (by omega) hB
  have L294 : Hid (MidC (wo194.heap.size) (v10.heap.size) v12 (xa4) (sz1) (xc4)) := L277.out.go (by omega) hB
  have L295 : Hid (MidC (wo194.heap.size) (v10.heap.size) v12 (ya4) (R) (yc4)) := L278.out.go (by omega) hB
  have L296 : Hid (MidC (wo226.heap.size) (v11.heap.size) v12 (xa5) (sz1) (xc5)) := L279.out.go (by omega) hB
  have L297 : Hid (MidC (wo226.heap.size) (v11.heap.size) v12 (ya5) (R) (yc5)) := L280.out.go (by omega) hB
  have hb298 : Hid (Below w.heap.size w v12) := hb281.out.trans (hB.mono hb281.out.size)
  clear hB hb281 B266 B267 B268 B269 B270 B271 B272 L273 L274 L275 L276 L277 L278 L279 L280
  clear L294 L295 L296 L297 B288 B289
  have l299 := (B283.out).c0
  have l300 := (B283.out).c1
  have l301 := (B283.out).c2
  go_wp2_with fail
  clear l299 l300 l301
  refine (io_ok dz1.length hd4 I0 HI0.out.1 _).mono ?_
  rintro e v13 ⟨xaI, xcI, yaI, ycI, rfl, hXI, hYI, hB⟩
  have z302 : v12.heap.size ≤ v13.heap.size := hB.size
  have B303 : Hid (Abx v13 (w.heap.size) (.bool c1) (.slice sa1 sz1.length sc1) (.slice da1 dz1.length dc1)) := B283.out.go hB
  have B304 : Hid (Abx v13 (w.heap.size + 1) (.bool c1) (.slice sa2 sz2.length sc2) (.slice da2 dz2.length dc2)) := B284.out.go hB
  have B305 : Hid (Abx v13 (w.heap.size + 1 + 1) (.bool c3) (.slice sa3 sz3.length sc3) (.slice da3 dz3.length dc3)) := B285.out.go hB
  have B306 : Hid (Abx v13 (v6.heap.size) (.bool c1) (.slice xa1 S.length xc1) (.slice ya1 D.length yc1)) := B286.out.go hB
  have B307 : Hid (Abx v13 (v9.heap.size) (.bool c1) (.slice xa3 sz1.length xc3) (.slice ya3 Q.length yc3)) := B287.out.go hB
  have L308 : Hid (MidC (v5.heap.size) (v6.heap.size) v13 (xa1) (S) (xc1)) := L290.out.go (by omega) hB
  have L309 : Hid (MidC (v5.heap.size) (v6.heap.size) v13 (ya1) (D) (yc1)) := L291.out.go (by omega) hB
  have L310 : Hid (MidC (v8.heap.size) (v9.heap.size) v13 (xa3) (sz1) (xc3)) := L292.out.go (by omega) hB
  have L311 : Hid (MidC (v8.heap.size) (v9.heap.size) v13 (ya3) (Q) (yc3)) := L293.out.go (by omega) hB
  have hb312 : Hid (Below w.heap.size w v13) := hb298.out.trans (hB.mono hb298.out.size)
  have L313 : Hid (MidC (v12.heap.size) (v13.heap.size) v13 (xaI) ([(dz1.length : Int)]) (1)) := hXI.midc
  have L314 : Hid (MidC (v12.heap.size) (v13.heap.size) v13 (yaI) (I0) (I0.length)) := hYI.midc
  clear hB hb298 B283 B284 B285 B286 B287 L290 L291 L292 L293 hXI hYI
  have n315 := Abx.new v13 (.bool false) (.slice xaI 1 xcI) (.slice yaI I0.length ycI)
  have l316 := ((B303.out.al (.cells #[.bool false, .slice xaI 1 xcI, .slice yaI I0.length ycI] 24))).c0
  have l317 := ((B303.out.al (.cells #[.bool false, .slice xaI 1 xcI, .slice yaI I0.length ycI] 24))).c1
  have l318 := ((B303.out.al (.cells #[.bool false, .slice xaI 1 xcI, .slice yaI I0.length ycI] 24))).c2
  have l319 := (n315).c0
  have l320 := (n315).c1
  have l321 := (n315).c2
  go_wp2_with fail
  obtain ⟨wo322, hwo322⟩ : ∃ wo322, wo322 = (v13.alloc (.cells #[.bool false, .slice xaI 1 xcI, .slice yaI I0.length ycI] 24)) := ⟨_, rfl⟩
  rw [← hwo322]
  have z323 : v13.heap.size + 1 ≤ wo322.heap.size := by rw [hwo322]; simp only [World.size_alloc]; omega
  have B324 : Hid (Abx wo322 (w.heap.size) (.bool c1) (.slice sa1 sz1.length sc1) (.slice da1 dz1.length dc1)) := by rw [hwo322]; exact (B303.out.al (.cells #[.bool false, .slice xaI 1 xcI, .slice yaI I0.length ycI] 24))
  have B325 : Hid (Abx wo322 (w.heap.size + 1) (.bool c1) (.slice sa2 sz2.length sc2) (.slice da2 dz2.length dc2)) := by rw [hwo322]; exact (B304.out.al (.cells #[.bool false, .slice xaI 1 xcI, .slice yaI I0.length ycI] 24))
  have B326 : Hid (Abx wo322 (w.heap.size + 1 + 1) (.bool c3) (.slice sa3 sz3.length sc3) (.slice da3 dz3.length dc3)) := by rw [hwo322]; exact (B305.out.al (.cells #[.bool false, .slice xaI 1 xcI, .slice yaI I0.length ycI] 24))
  have B327 : Hid (Abx wo322 (v6.heap.size) (.bool c1) (.slice xa1 S.length xc1) (.slice ya1 D.length yc1)) := by rw [hwo322]; exact (B306.out.al (.cells #[.bool false, .slice xaI 1 xcI, .slice yaI I0.length ycI] 24))
  have B328 : Hid (Abx wo322 (v9.heap.size) (.bool c1) (.slice xa3 sz1.length xc3) (.slice ya3 Q.length yc3)) := by rw [hwo322]; exact (B307.out.al (.cells #[.bool false, .slice xaI 1 xcI, .slice yaI I0.length ycI] 24))
  have B329 : Hid (Abx wo322 (v13.heap.size) (.bool false) (.slice xaI 1 xcI) (.slice yaI I0.length ycI)) := by rw [hwo322]; exact n315
  have L330 : Hid (MidC (v5.heap.size) (v6.heap.size) wo322 (xa1) (S) (xc1)) := by rw [hwo322]; exact (L308.out.al (by omega) (.cells #[.bool false, .slice xaI 1 xcI, .slice yaI I0.length ycI] 24))
  have L331 : Hid (MidC (v5.heap.size) (v6.heap.size) wo322 (ya1) (D) (yc1)) := by rw [hwo322]; exact (L309.out.al (by omega) (.cells #[.bool false, .slice xaI 1 xcI, .slice yaI I0.length ycI] 24))
  have L332 : Hid (MidC (v8.heap.size) (v9.heap.size) wo322 (xa3) (sz1) (xc3)) := by rw [hwo322]; exact (L310.out.al (by omega) (.cells #[.bool false, .slice xaI 1 xcI, .slice yaI I0.length ycI] 24))
  have L333 : Hid (MidC (v8.heap.size) (v9.heap.size) wo322 (ya3) (Q) (yc3)) := by rw [hwo322]; exact (L311.out.al (by omega) (.cells #[.bool false, .slice xaI 1 xcI, .slice yaI I0.length ycI] 24))
  have L334 : Hid (MidC (v12.heap.size) (v13.heap.size) wo322 (xaI) ([(dz1.length : Int)]) (1)) := by rw [hwo322]; exact (L313.out.al (by omega) (.cells #[.bool false, .slice xaI 1 xcI, .slice yaI I0.length ycI] 24))
  have L335 : Hid (MidC (v12.heap.size) (v13.heap.size) wo322 (yaI) (I0) (I0.length)) := by rw [hwo322]; exact (L314.out.al (by omega) (.cells #[.bool false, .slice xaI 1 xcI, .slice yaI I0.length ycI] 24))
  have hb336 : Hid (Below w.heap.size w wo322) := by rw [hwo322]; exact (hb312.out.alloc (by omega) (.cells #[.bool false, .slice xaI 1 xcI, .slice yaI I0.length ycI] 24))
  have zwo322 : w.heap.size ≤ wo322.heap.size := hb336.out.size
  clear hwo322 n315 l316 l317 l318 l319 l320 l321 hb312 B303 B304 B305 B306 B307 L308 L309 L310 L311 L313 L314
  refine (rs_ok sa1 sc1 sz1 false xaI xcI [(dz1.length : Int)] 1 rfl yaI ycI I0 x11 (by decide) (by have := HI0.out.2.1; omega) _ ((HI1.out.1.1.below hb336.out).mono hb336.out.size) (L334.out.is (by omega)).1 (L335.out.is (by omega)).1 I0 HF.out.2 HI0.out.2.2.1 HI0.out.2.2.2).mono ?_
  rintro e v14 ⟨xaR, xcR, yaR, ycR, rfl, hXR, hYR, hB⟩
  have z337 : wo322.heap.size ≤ v14.heap.size := hB.size
  have B338 : Hid (Abx v14 (w.heap.size) (.bool c1) (.slice sa1 sz1.length sc1) (.slice da1 dz1.length dc1)) := B324.out.go hB
  have B339 : Hid (Abx v14 (w.heap.size + 1) (.bool c1) (.slice sa2 sz2.length sc2) (.slice da2 dz2.length dc2)) := B325.out.go hB
  have B340 : Hid (Abx v14 (w.heap.size + 1 + 1) (.bool c3) (.slice sa3 sz3.length sc3) (.slice da3 dz3.length dc3)) := B326.out.go hB
  have B341 : Hid (Abx v14 (v6.heap.size) (.bool c1) (.slice xa1 S.length xc1) (.slice ya1 D.length yc1)) := B327.out.go hB
  have B342 : Hid (Abx v14 (v9.heap.size) (.bool c1) (.slice xa3 sz1.length xc3) (.slice ya3 Q.length yc3)) := B328.out.go hB
  have B343 : Hid (Abx v14 (v13.heap.size) (.bool false) (.slice xaI 1 xcI) (.slice yaI I0.length ycI)) := B329.out.go hB
  have L344 : Hid (MidC (v5.heap.size) (v6.heap.size) v14 (xa1) (S) (xc1)) := L330.out.go (by omega) hB
  have L345 : Hid (MidC (v5.heap.size) (v6.heap.size) v14 (ya1) (D) (yc1)) := L331.out.go (by omega) hB
  have L346 : Hid (MidC (v8.heap.size) (v9.heap.size) v14 (xa3) (sz1) (xc3)) := L332.out.go (by omega) hB
  have L347 : Hid (MidC (v8.heap.size) (v9.heap.size) v14 (ya3) (Q) (yc3)) := L333.out.go (by omega) hB
  have L348 : Hid (MidC (v12.heap.size) (v13.heap.size) v14 (xaI) ([(dz1.length : Int)]) (1)) := L334.out.go (by omega) hB
  have L349 : Hid (MidC (v12.heap.size) (v13.heap.size) v14 (yaI) (I0) (I0.length)) := L335.out.go (by omega) hB
  have hb350 : Hid (Below w.heap.size w v14) := hb336.out.trans (hB.mono hb336.out.size)
  have L351 : Hid (MidC (wo322.heap.size) (v14.heap.size) v14 (xaR) (sz1) (sz1.length)) := hXR.midc
  have L352 : Hid (MidC (wo322.heap.size) (v14.heap.size) v14 (yaR) (I0) (I0.length)) := hYR.midc
  clear hB hb336 B324 B325 B326 B327 B328 B329 L330 L331 L332 L333 L334 L335 hXR hYR
  clear L348 L349
  have l353 := (B343.out).fr 0
  have l354 := (B343.out).c0
  have l355 := (B343.out).fr 1
  have l356 := (B343.out).c1
  have l357 := (B343.out).fr 2
  have l358 := (B343.out).c2
  have l359 := ((B343.out.set3 (.bool false) (.slice xaR sz1.length xcR) (.slice yaR I0.length ycR))).c0
  have l360 := ((B343.out.set3 (.bool false) (.slice xaR sz1.length xcR) (.slice yaR I0.length ycR))).c1
  have l361 := ((B343.out.set3 (.bool false) (.slice xaR sz1.length xcR) (.slice yaR I0.length ycR))).c2
  go_wp2_with fail
  obtain ⟨wo362, hwo362⟩ : ∃ wo362, wo362 = (((v14.setCell ⟨v13.heap.size, 0, none⟩ (.bool false)).setCell ⟨v13.heap.size, 1, none⟩ (.slice xaR sz1.length xcR)).setCell ⟨v13.heap.size, 2, none⟩ (.slice yaR I0.length ycR)) := ⟨_, rfl⟩
  rw [← hwo362]
  have z363 : v14.heap.size ≤ wo362.heap.size := by rw [hwo362]; simp only [World.size_setCell]; omega
  have B364 : Hid (Abx wo362 (w.heap.size) (.bool c1) (.slice sa1 sz1.length sc1) (.slice da1 dz1.length dc1)) := by rw [hwo362]; exact (abx_o3 B338.out (B := v13.heap.size) (by omega) (.bool false) (.slice xaR sz1.length xcR) (.slice yaR I0.length ycR))
  have B365 : Hid (Abx wo362 (w.heap.size + 1) (.bool c1) (.slice sa2 sz2.length sc2) (.slice da2 dz2.length dc2)) := by rw [hwo362]; exact (abx_o3 B339.out (B := v13.heap.size) (by omega) (.bool false) (.slice xaR sz1.length xcR) (.slice yaR I0.length ycR))
  have B366 : Hid (Abx wo362 (w.heap.size + 1 + 1) (.bool c3) (.slice sa3 sz3.length sc3) (.slice da3 dz3.length dc3)) := by rw [hwo362]; exact (abx_o3 B340.out (B := v13.heap.size) (by omega) (.bool false) (.slice xaR sz1.length xcR) (.slice yaR I0.length ycR))
  have B367 : Hid (Abx wo362 (v6.heap.size) (.bool c1) (.slice xa1 S.length xc1) (.slice ya1 D.length yc1)) := by rw [hwo362]; exact (abx_o3 B341.out (B := v13.heap.size) (by omega) (.bool false) (.slice xaR sz1.length xcR) (.slice yaR I0.length ycR))
  have B368 : Hid (Abx wo362 (v9.heap.size) (.bool c1) (.slice xa3 sz1.length xc3) (.slice ya3 Q.length yc3)) := by rw [hwo362]; exact (abx_o3 B342.out (B := v13.heap.size) (by omega) (.bool false) (.slice xaR sz1.length xcR) (.slice yaR I0.length ycR))
  have B369 : Hid (Abx wo362 (v13.heap.size) (.bool false) (.slice xaR sz1.length xcR) (.slice yaR I0.length ycR)) := by rw [hwo362]; exact (B343.out.set3 (.bool false) (.slice xaR sz1.length xcR) (.slice yaR I0.length ycR))
  have L370 : Hid (MidC (v5.heap.size) (v6.heap.size) wo362 (xa1) (S) (xc1)) := by rw [hwo362]; exact (L344.out.s3 (b := v13.heap.size) (by omega) (.bool false) (.slice xaR sz1.length xcR) (.slice yaR I0.length ycR))
  have L371 : Hid (MidC (v5.heap.size) (v6.heap.size) wo362 (ya1) (D) (yc1)) := by rw [hwo362]; exact (L345.out.s3 (b := v13.heap.size) (by omega) (.bool false) (.slice xaR sz1.length xcR) (.slice yaR I0.length ycR))
  have L372 : Hid (MidC (v8.heap.size) (v9.heap.size) wo362 (xa3) (sz1) (xc3)) := by rw [hwo362]; exact (L346.out.s3 (b := v13.heap.size) (by omega) (.bool false) (.slice xaR sz1.length xcR) (.slice yaR I0.length ycR))
  have L373 : Hid (MidC (v8.heap.size) (v9.heap.size) wo362 (ya3) (Q) (yc3)) := by rw [hwo362]; exact (L347.out.s3 (b := v13.heap.size) (by omega) (.bool false) (.slice xaR sz1.length xcR) (.slice yaR I0.length ycR))
  have L374 : Hid (MidC (wo322.heap.size) (v14.heap.size) wo362 (xaR) (sz1) (sz1.length)) := by rw [hwo362]; exact (L351.out.s3 (b := v13.heap.size) (by omega) (.bool false) (.slice xaR sz1.length xcR) (.slice yaR I0.length ycR))
  have L375 : Hid (MidC (wo322.heap.size) (v14.heap.size) wo362 (yaR) (I0) (I0.length)) := by rw [hwo362]; exact (L352.out.s3 (b := v13.heap.size) (by omega) (.bool false) (.slice xaR sz1.length xcR) (.slice yaR I0.length ycR))
  have hb376 : Hid (Below w.heap.size w wo362) := by rw [hwo362]; exact (bel_s3 hb350.out (B := v13.heap.size) (by omega) (.bool false) (.slice xaR sz1.length xcR) (.slice yaR I0.length ycR))
  have zwo362 : w.heap.size ≤ wo362.heap.size := hb376.out.size
  clear hwo362 l353 l354 l355 l356 l357 l358 l359 l360 l361 hb350 B338 B339 B340 B341 B342 B343 L344 L345 L346 L347 L351 L352
  refine (at_ok false xaR xcR sz1 yaR ycR I0 ba bc bs bs.length rfl _ x11 (by have := HI0.out.2.1; omega) hbl (L374.out.is (by omega)).1 (L375.out.is (by omega)).1 ((HM.out.below hb376.out).mono hb376.out.size) S PL HA ⟨HPL.out.1, HPL.out.2.1, HPL.out.2.2.1⟩).mono ?_
  rintro e v15 ⟨xaA, xcA, yaA, ycA, rfl, hXA, hYA, hB⟩
  have z377 : wo362.heap.size ≤ v15.heap.size := hB.size
  have B378 : Hid (Abx v15 (w.heap.size) (.bool c1) (.slice sa1 sz1.length sc1) (.slice da1 dz1.length dc1)) := B364.out.go hB
  have B379 : Hid (Abx v15 (w.heap.size + 1) (.bool c1) (.slice sa2 sz2.length sc2) (.slice da2 dz2.length dc2)) := B365.out.go hB
  have B380 : Hid (Abx v15 (w.heap.size + 1 + 1) (.bool c3) (.slice sa3 sz3.length sc3) (.slice da3 dz3.length dc3)) := B366.out.go hB
  have B381 : Hid (Abx v15 (v6.heap.size) (.bool c1) (.slice xa1 S.length xc1) (.slice ya1 D.length yc1)) := B367.out.go hB
  have B382 : Hid (Abx v15 (v9.heap.size) (.bool c1) (.slice xa3 sz1.length xc3) (.slice ya3 Q.length yc3)) := B368.out.go hB
  have B383 : Hid (Abx v15 (v13.heap.size) (.bool false) (.slice xaR sz1.length xcR) (.slice yaR I0.length ycR)) := B369.out.go hB
  have L384 : Hid (MidC (v5.heap.size) (v6.heap.size) v15 (xa1) (S) (xc1)) := L370.out.go (by omega) hB
  have L385 : Hid (MidC (v5.heap.size) (v6.heap.size) v15 (ya1) (D) (yc1)) := L371.out.go (by omega) hB
  have L386 : Hid (MidC (v8.heap.size) (v9.heap.size) v15 (xa3) (sz1) (xc3)) := L372.out.go (by omega) hB
  have L387 : Hid (MidC (v8.heap.size) (v9.heap.size) v15 (ya3) (Q) (yc3)) := L373.out.go (by omega) hB
  have L388 : Hid (MidC (wo322.heap.size) (v14.heap.size) v15 (xaR) (sz1) (sz1.length)) := L374.out.go (by omega) hB
  have L389 : Hid (MidC (wo322.heap.size) (v14.heap.size) v15 (yaR) (I0) (I0.length)) := L375.out.go (by omega) hB
  have hb390 : Hid (Below w.heap.size w v15) := hb376.out.trans (hB.mono hb376.out.size)
  have L391 : Hid (MidC (wo362.heap.size) (v15.heap.size) v15 (xaA) (S) (xcA)) := hXA.midc
  have L392 : Hid (MidC (wo362.heap.size) (v15.heap.size) v15 (yaA) (PL) (ycA)) := hYA.midc
  clear hB hb376 B364 B365 B366 B367 B368 B369 L370 L371 L372 L373 L374 L375 hXA hYA
  clear L388 L389 B383
  have n393 := Abx.new v15 (.bool false) (.slice xaA S.length xcA) (.slice yaA PL.length ycA)
  go_wp2_with fail
  obtain ⟨wo394, hwo394⟩ : ∃ wo394, wo394 = (v15.alloc (.cells #[.bool false, .slice xaA S.length xcA, .slice yaA PL.length ycA] 24)) := ⟨_, rfl⟩
  rw [← hwo394]
  have z395 : v15.heap.size + 1 ≤ wo394.heap.size := by rw [hwo394]; simp only [World.size_alloc]; omega
  have B396 : Hid (Abx wo394 (w.heap.size) (.bool c1) (.slice sa1 sz1.length sc1) (.slice da1 dz1.length dc1)) := by rw [hwo394]; exact (B378.out.al (.cells #[.bool false, .slice xaA S.length xcA, .slice yaA PL.length ycA] 24))
  have B397 : Hid (Abx wo394 (w.heap.size + 1) (.bool c1) (.slice sa2 sz2.length sc2) (.slice da2 dz2.length dc2)) := by rw [hwo394]; exact (B379.out.al (.cells #[.bool false, .slice xaA S.length xcA, .slice yaA PL.length ycA] 24))
  have B398 : Hid (Abx wo394 (w.heap.size + 1 + 1) (.bool c3) (.slice sa3 sz3.length sc3) (.slice da3 dz3.length dc3)) := by rw [hwo394]; exact (B380.out.al (.cells #[.bool false, .slice xaA S.length xcA, .slice yaA PL.length ycA] 24))
  have B399 : Hid (Abx wo394 (v6.heap.size) (.bool c1) (.slice xa1 S.length xc1) (.slice ya1 D.length yc1)) := by rw [hwo394]; exact (B381.out.al (.cells #[.bool false, .slice xaA S.length xcA, .slice yaA PL.length ycA] 24))
  have B400 : Hid (Abx wo394 (v9.heap.size) (.bool c1) (.slice xa3 sz1.length xc3) (.slice ya3 Q.length yc3)) := by rw [hwo394]; exact (B382.out.al (.cells #[.bool false, .slice xaA S.length xcA, .slice yaA PL.length ycA] 24))
  have B401 : Hid (Abx wo394 (v15.heap.size) (.bool false) (.slice xaA S.length xcA) (.slice yaA PL.length ycA)) := by rw [hwo394]; exact n393
  have L402 : Hid (MidC (v5.heap.size) (v6.heap.size) wo394 (xa1) (S) (xc1)) := by rw [hwo394]; exact (L384.out.al (by omega) (.cells #[.bool false, .slice xaA S.length xcA, .slice yaA PL.length ycA] 24))
  have L403 : Hid (MidC (v5.heap.size) (v6.heap.size) wo394 (ya1) (D) (yc1)) := by rw [hwo394]; exact (L385.out.al (by omega) (.cells #[.bool false, .slice xaA S.length xcA, .slice yaA PL.length ycA] 24))
  have L404 : Hid (MidC (v8.heap.size) (v9.heap.size) wo394 (xa3) (sz1) (xc3)) := by rw [hwo394]; exact (L386.out.al (by omega) (.cells #[.bool false, .slice xaA S.length xcA, .slice yaA PL.length ycA] 24))
  have L405 : Hid (MidC (v8.heap.size) (v9.heap.size) wo394 (ya3) (Q) (yc3)) := by rw [hwo394]; exact (L387.out.al (by omega) (.cells #[.bool false, .slice xaA S.length xcA, .slice yaA PL.length ycA] 24))
  have L406 : Hid (MidC (wo362.heap.size) (v15.heap.size) wo394 (xaA) (S) (xcA)) := by rw [hwo394]; exact (L391.out.al (by omega) (.cells #[.bool false, .slice xaA S.length xcA, .slice yaA PL.length ycA] 24))
  have L407 : Hid (MidC (wo362.heap.size) (v15.heap.size) wo394 (yaA) (PL) (ycA)) := by rw [hwo394]; exact (L392.out.al (by omega) (.cells #[.bool false, .slice xaA S.length xcA, .slice yaA PL.length ycA] 24))
  have hb408 : Hid (Below w.heap.size w wo394) := by rw [hwo394]; exact (hb390.out.alloc (by omega) (.cells #[.bool false, .slice xaA S.length xcA, .slice yaA PL.length ycA] 24))
  have zwo394 : w.heap.size ≤ wo394.heap.size := hb408.out.size
  clear hwo394 n393 hb390 B378 B379 B380 B381 B382 L384 L385 L386 L387 L391 L392
  have ca := B401.out.c2
  have HLA : Hid (IsInts wo394.heap.size wo394 yaA PL) := (L407.out.is (by omega)).1
  have hP4 : PL.length ≤ 4096 := HPL.out.2.2.2.1
  go_loopw [29] (fun i wr => ∃ k m : Nat, k ≤ PL.length ∧ i = .int .i64 k ∧ Hid (∀ i j, i < k → j < i → nth PL i ≠ nth PL j) ∧ wr = wo394.drewN m) (fun i _ => PL.length - (intOf i).toNat)
  case atStart => exact ⟨0, 0, Nat.zero_le _, rfl, fun i j hi => absurd hi (Nat.not_lt_zero i), rfl⟩
  case round =>
    obtain ⟨k, m, hk, rfl, HK, hv⟩ := hrel
    subst hv
    by_cases hlt : k < PL.length
    · go_wp2_with fail
      go_loopw [30] (fun j wr => ∃ l n : Nat, l ≤ k ∧ j = .int .i64 l ∧ Hid (∀ j, j < l → nth PL k ≠ nth PL j) ∧ wr = wo394.drewN n) (fun j _ => k - (intOf j).toNat)
      case atStart => exact ⟨0, m, Nat.zero_le _, rfl, fun j hj => absurd hj (Nat.not_lt_zero j), rfl⟩
      case round =>
        obtain ⟨l, n, hl, rfl, HL, hv⟩ := hrel
        subst hv
        by_cases hll : l < k
        · obtain ⟨bA, oA, rfl, _, hcA⟩ := HLA.out.at hlt
          have cA1 := hcA k hlt
          have cA2 := hcA l (by omega)
          have hlP : l < PL.length := by omega
          clear hcA
          by_cases he : nth PL k = nth PL l
          · have te : (nth PL k == nth PL l) = true := by simp [he]
            clear he
            go_wp2_with fail
            go_quiet (fail)
            go_wp2_with fail
            go_ret
            exact ⟨rfl, by first | exact bel_drewN hb408.out _ | exact bel_drewN (bel_drewN hb408.out _) _⟩
          · have te : (nth PL k == nth PL l) = false := by simp [he]
            have HL2 : Hid (∀ j, j < l + 1 → nth PL k ≠ nth PL j) := fun j hj => by
              by_cases e : j = l
              · subst e; exact he
              · exact HL.out j (by omega)
            clear he
            go_wp2_with fail
            go_quiet (fail)
            go_wp2_with fail
            exact ⟨⟨l + 1, _, by omega, by go_num, HL2, rfl⟩, by simp [intOf]; omega⟩
        · obtain rfl : l = k := by omega
          have HK2 : Hid (∀ i j, i < l + 1 → j < i → nth PL i ≠ nth PL j) := fun i j hi hj => by
            by_cases e : i = l
            · subst e; exact HL.out j hj
            · exact HK.out i j (by omega) hj
          go_wp2_with fail
          exact ⟨⟨l + 1, n, by omega, by go_num, HK2, rfl⟩, by simp [intOf]; omega⟩
    · obtain rfl : k = PL.length := by omega
      have HU : Hid (pkE c1 sz1 Q (bya bs) = 0 ∧ pkS (bya bs) = S ∧ pkD sz1 Q (bya bs) = Z) := HZ.out fun i j hi hj e => by
        by_cases h1 : j < i
        · exact absurd e (HK.out i j hi h1)
        · by_cases h2 : i < j
          · exact absurd e.symm (HK.out j i hj h2)
          · omega
      clear HZ HK ca
      obtain ⟨y0, hy0⟩ : ∃ y0, y0 = wo394.drewN m := ⟨_, rfl⟩
      have hBy : Below wo394.heap.size wo394 y0 := by rw [hy0]; exact bel_drewN (Below.refl _ _) _
      rw [← hy0]
      have z409 : wo394.heap.size ≤ y0.heap.size := hBy.size
      have B410 : Hid (Abx y0 (w.heap.size) (.bool c1) (.slice sa1 sz1.length sc1) (.slice da1 dz1.length dc1)) := B396.out.go hBy
      have B411 : Hid (Abx y0 (w.heap.size + 1) (.bool c1) (.slice sa2 sz2.length sc2) (.slice da2 dz2.length dc2)) := B397.out.go hBy
      have B412 : Hid (Abx y0 (w.heap.size + 1 + 1) (.bool c3) (.slice sa3 sz3.length sc3) (.slice da3 dz3.length dc3)) := B398.out.go hBy
      have B413 : Hid (Abx y0 (v6.heap.size) (.bool c1) (.slice xa1 S.length xc1) (.slice ya1 D.length yc1)) := B399.out.go hBy
      have B414 : Hid (Abx y0 (v9.heap.size) (.bool c1) (.slice xa3 sz1.length xc3) (.slice ya3 Q.length yc3)) := B400.out.go hBy
      have B415 : Hid (Abx y0 (v15.heap.size) (.bool false) (.slice xaA S.length xcA) (.slice yaA PL.length ycA)) := B401.out.go hBy
      have L416 : Hid (MidC (v5.heap.size) (v6.heap.size) y0 (xa1) (S) (xc1)) := L402.out.go (by omega) hBy
      have L417 : Hid (MidC (v5.heap.size) (v6.heap.size) y0 (ya1) (D) (yc1)) := L403.out.go (by omega) hBy
      have L418 : Hid (MidC (v8.heap.size) (v9.heap.size) y0 (xa3) (sz1) (xc3)) := L404.out.go (by omega) hBy
      have L419 : Hid (MidC (v8.heap.size) (v9.heap.size) y0 (ya3) (Q) (yc3)) := L405.out.go (by omega) hBy
      have L420 : Hid (MidC (wo362.heap.size) (v15.heap.size) y0 (xaA) (S) (xcA)) := L406.out.go (by omega) hBy
      have L421 : Hid (MidC (wo362.heap.size) (v15.heap.size) y0 (yaA) (PL) (ycA)) := L407.out.go (by omega) hBy
      have hb422 : Hid (Below w.heap.size w y0) := hb408.out.trans (hBy.mono hb408.out.size)
      clear hBy hy0 HLA hb408 B396 B397 B398 B399 B400 B401 L402 L403 L404 L405 L406 L407
      clear L420 L421
      have l423 := (B415.out).c0
      have l424 := (B415.out).c1
      have l425 := (B415.out).c2
      have l426 := (B414.out).c0
      have l427 := (B414.out).c1
      have l428 := (B414.out).c2
      go_wp2_with fail
      clear l423 l424 l425 l426 l427 l428
      clear B415
      refine (at_ok c1 xa3 xc3 sz1 ya3 yc3 Q ba bc bs bs.length rfl _ x11 (by have := HQ.out.2.1; omega) hbl (L418.out.is (by omega)).1 (L419.out.is (by omega)).1 ((HM.out.below hb422.out).mono hb422.out.size) S Z HA HU.out).mono ?_
      rintro e v16 ⟨xa6, xc6, ya6, yc6, rfl, hX6, hY6, hB⟩
      have z429 : y0.heap.size ≤ v16.heap.size := hB.size
      have B430 : Hid (Abx v16 (w.heap.size) (.bool c1) (.slice sa1 sz1.length sc1) (.slice da1 dz1.length dc1)) := B410.out.go hB
      have B431 : Hid (Abx v16 (w.heap.size + 1) (.bool c1) (.slice sa2 sz2.length sc2) (.slice da2 dz2.length dc2)) := B411.out.go hB
      have B432 : Hid (Abx v16 (w.heap.size + 1 + 1) (.bool c3) (.slice sa3 sz3.length sc3) (.slice da3 dz3.length dc3)) := B412.out.go hB
      have B433 : Hid (Abx v16 (v6.heap.size) (.bool c1) (.slice xa1 S.length xc1) (.slice ya1 D.length yc1)) := B413.out.go hB
      have B434 : Hid (Abx v16 (v9.heap.size) (.bool c1) (.slice xa3 sz1.length xc3) (.slice ya3 Q.length yc3)) := B414.out.go hB
      have L435 : Hid (MidC (v5.heap.size) (v6.heap.size) v16 (xa1) (S) (xc1)) := L416.out.go (by omega) hB
      have L436 : Hid (MidC (v5.heap.size) (v6.heap.size) v16 (ya1) (D) (yc1)) := L417.out.go (by omega) hB
      have L437 : Hid (MidC (v8.heap.size) (v9.heap.size) v16 (xa3) (sz1) (xc3)) := L418.out.go (by omega) hB
      have L438 : Hid (MidC (v8.heap.size) (v9.heap.size) v16 (ya3) (Q) (yc3)) := L419.out.go (by omega) hB
      have hb439 : Hid (Below w.heap.size w v16) := hb422.out.trans (hB.mono hb422.out.size)
      have L440 : Hid (MidC (y0.heap.size) (v16.heap.size) v16 (xa6) (S) (xc6)) := hX6.midc
      have L441 : Hid (MidC (y0.heap.size) (v16.heap.size) v16 (ya6) (Z) (yc6)) := hY6.midc
      clear hB hb422 B410 B411 B412 B413 B414 L416 L417 L418 L419 hX6 hY6
      clear L437 L438
      have n442 := Abx.new v16 (.bool c1) (.slice xa6 S.length xc6) (.slice ya6 Z.length yc6)
      have l443 := ((B433.out.al (.cells #[.bool c1, .slice xa6 S.length xc6, .slice ya6 Z.length yc6] 24))).c0
      have l444 := ((B433.out.al (.cells #[.bool c1, .slice xa6 S.length xc6, .slice ya6 Z.length yc6] 24))).c1
      have l445 := ((B433.out.al (.cells #[.bool c1, .slice xa6 S.length xc6, .slice ya6 Z.length yc6] 24))).c2
      have l446 := ((B431.out.al (.cells #[.bool c1, .slice xa6 S.length xc6, .slice ya6 Z.length yc6] 24))).c0
      have l447 := ((B431.out.al (.cells #[.bool c1, .slice xa6 S.length xc6, .slice ya6 Z.length yc6] 24))).c1
      have l448 := ((B431.out.al (.cells #[.bool c1, .slice xa6 S.length xc6, .slice ya6 Z.length yc6] 24))).c2
      go_wp2_with fail
      obtain ⟨wo449, hwo449⟩ : ∃ wo449, wo449 = (v16.alloc (.cells #[.bool c1, .slice xa6 S.length xc6, .slice ya6 Z.length yc6] 24)) := ⟨_, rfl⟩
      rw [← hwo449]
      have z450 : v16.heap.size + 1 ≤ wo449.heap.size := by rw [hwo449]; simp only [World.size_alloc]; omega
      have B451 : Hid (Abx wo449 (w.heap.size) (.bool c1) (.slice sa1 sz1.length sc1) (.slice da1 dz1.length dc1)) := by rw [hwo449]; exact (B430.out.al (.cells #[.bool c1, .slice xa6 S.length xc6, .slice ya6 Z.length yc6] 24))
      have B452 : Hid (Abx wo449 (w.heap.size + 1) (.bool c1) (.slice sa2 sz2.length sc2) (.slice da2 dz2.length dc2)) := by rw [hwo449]; exact (B431.out.al (.cells #[.bool c1, .slice xa6 S.length xc6, .slice ya6 Z.length yc6] 24))
      have B453 : Hid (Abx wo449 (w.heap.size + 1 + 1) (.bool c3) (.slice sa3 sz3.length sc3) (.slice da3 dz3.length dc3)) := by rw [hwo449]; exact (B432.out.al (.cells #[.bool c1, .slice xa6 S.length xc6, .slice ya6 Z.length yc6] 24))
      have B454 : Hid (Abx wo449 (v6.heap.size) (.bool c1) (.slice xa1 S.length xc1) (.slice ya1 D.length yc1)) := by rw [hwo449]; exact (B433.out.al (.cells #[.bool c1, .slice xa6 S.length xc6, .slice ya6 Z.length yc6] 24))
      have B455 : Hid (Abx wo449 (v9.heap.size) (.bool c1) (.slice xa3 sz1.length xc3) (.slice ya3 Q.length yc3)) := by rw [hwo449]; exact (B434.out.al (.cells #[.bool c1, .slice xa6 S.length xc6, .slice ya6 Z.length yc6] 24))
      have B456 : Hid (Abx wo449 (v16.heap.size) (.bool c1) (.slice xa6 S.length xc6) (.slice ya6 Z.length yc6)) := by rw [hwo449]; exact n442
      have L457 : Hid (MidC (v5.heap.size) (v6.heap.size) wo449 (xa1) (S) (xc1)) := by rw [hwo449]; exact (L435.out.al (by omega) (.cells #[.bool c1, .slice xa6 S.length xc6, .slice ya6 Z.length yc6] 24))
      have L458 : Hid (MidC (v5.heap.size) (v6.heap.size) wo449 (ya1) (D) (yc1)) := by rw [hwo449]; exact (L436.out.al (by omega) (.cells #[.bool c1, .slice xa6 S.length xc6, .slice ya6 Z.length yc6] 24))
      have L459 : Hid (MidC (y0.heap.size) (v16.heap.size) wo449 (xa6) (S) (xc6)) := by rw [hwo449]; exact (L440.out.al (by omega) (.cells #[.bool c1, .slice xa6 S.length xc6, .slice ya6 Z.length yc6] 24))
      have L460 : Hid (MidC (y0.heap.size) (v16.heap.size) wo449 (ya6) (Z) (yc6)) := by rw [hwo449]; exact (L441.out.al (by omega) (.cells #[.bool c1, .slice xa6 S.length xc6, .slice ya6 Z.length yc6] 24))
      have hb461 : Hid (Below w.heap.size w wo449) := by rw [hwo449]; exact (hb439.out.alloc (by omega) (.cells #[.bool c1, .slice xa6 S.length xc6, .slice ya6 Z.length yc6] 24))
      have zwo449 : w.heap.size ≤ wo449.heap.size := hb461.out.size
      clear hwo449 n442 l443 l444 l445 l446 l447 l448 hb439 B430 B431 B432 B433 B434 L435 L436 L440 L441
      refine (rs_ok xa1 xc1 S c1 sa2 sc2 sz2 sz2.length rfl da2 dc2 dz2 (by have := HSD.out.2.2.1; omega) x21 x22 _ (L457.out.is (by omega)).1 ((HI2.out.1.1.below hb461.out).mono hb461.out.size) ((HI2.out.2.1.1.below hb461.out).mono hb461.out.size) Z HSD.out.2.2.2.2 HV.out HZ2.out.1).mono ?_
      rintro e v17 ⟨xa7, xc7, ya7, yc7, rfl, hX7, hY7, hB⟩
      have z462 : wo449.heap.size ≤ v17.heap.size := hB.size
      have B463 : Hid (Abx v17 (w.heap.size) (.bool c1) (.slice sa1 sz1.length sc1) (.slice da1 dz1.length dc1)) := B451.out.go hB
      have B464 : Hid (Abx v17 (w.heap.size + 1) (.bool c1) (.slice sa2 sz2.length sc2) (.slice da2 dz2.length dc2)) := B452.out.go hB
      have B465 : Hid (Abx v17 (w.heap.size + 1 + 1) (.bool c3) (.slice sa3 sz3.length sc3) (.slice da3 dz3.length dc3)) := B453.out.go hB
      have B466 : Hid (Abx v17 (v6.heap.size) (.bool c1) (.slice xa1 S.length xc1) (.slice ya1 D.length yc1)) := B454.out.go hB
      have B467 : Hid (Abx v17 (v9.heap.size) (.bool c1) (.slice xa3 sz1.length xc3) (.slice ya3 Q.length yc3)) := B455.out.go hB
      have B468 : Hid (Abx v17 (v16.heap.size) (.bool c1) (.slice xa6 S.length xc6) (.slice ya6 Z.length yc6)) := B456.out.go hB
      have L469 : Hid (MidC (v5.heap.size) (v6.heap.size) v17 (xa1) (S) (xc1)) := L457.out.go (by omega) hB
      have L470 : Hid (MidC (v5.heap.size) (v6.heap.size) v17 (ya1) (D) (yc1)) := L458.out.go (by omega) hB
      have L471 : Hid (MidC (y0.heap.size) (v16.heap.size) v17 (xa6) (S) (xc6)) := L459.out.go (by omega) hB
      have L472 : Hid (MidC (y0.heap.size) (v16.heap.size) v17 (ya6) (Z) (yc6)) := L460.out.go (by omega) hB
      have hb473 : Hid (Below w.heap.size w v17) := hb461.out.trans (hB.mono hb461.out.size)
      have L474 : Hid (MidC (wo449.heap.size) (v17.heap.size) v17 (xa7) (S) (S.length)) := hX7.midc
      have L475 : Hid (MidC (wo449.heap.size) (v17.heap.size) v17 (ya7) (Z) (Z.length)) := hY7.midc
      clear hB hb461 B451 B452 B453 B454 B455 B456 L457 L458 L459 L460 hX7 hY7
      have n476 := Abx.new v17 (.bool c1) (.slice xa7 S.length xc7) (.slice ya7 Z.length yc7)
      have l477 := ((B468.out.al (.cells #[.bool c1, .slice xa7 S.length xc7, .slice ya7 Z.length yc7] 24))).c0
      have l478 := ((B468.out.al (.cells #[.bool c1, .slice xa7 S.length xc7, .slice ya7 Z.length yc7] 24))).c1
      have l479 := ((B468.out.al (.cells #[.bool c1, .slice xa7 S.length xc7, .slice ya7 Z.length yc7] 24))).c2
      have l480 := (n476).c0
      have l481 := (n476).c1
      have l482 := (n476).c2
      go_wp2_with fail
      obtain ⟨wo483, hwo483⟩ : ∃ wo483, wo483 = (v17.alloc (.cells #[.bool c1, .slice xa7 S.length xc7, .slice ya7 Z.length yc7] 24)) := ⟨_, rfl⟩
      rw [← hwo483]
      have z484 : v17.heap.size + 1 ≤ wo483.heap.size := by rw [hwo483]; simp only [World.size_alloc]; omega
      have B485 : Hid (Abx wo483 (w.heap.size) (.bool c1) (.slice sa1 sz1.length sc1) (.slice da1 dz1.length dc1)) := by rw [hwo483]; exact (B463.out.al (.cells #[.bool c1, .slice xa7 S.length xc7, .slice ya7 Z.length yc7] 24))
      have B486 : Hid (Abx wo483 (w.heap.size + 1) (.bool c1) (.slice sa2 sz2.length sc2) (.slice da2 dz2.length dc2)) := by rw [hwo483]; exact (B464.out.al (.cells #[.bool c1, .slice xa7 S.length xc7, .slice ya7 Z.length yc7] 24))
      have B487 : Hid (Abx wo483 (w.heap.size + 1 + 1) (.bool c3) (.slice sa3 sz3.length sc3) (.slice da3 dz3.length dc3)) := by rw [hwo483]; exact (B465.out.al (.cells #[.bool c1, .slice xa7 S.length xc7, .slice ya7 Z.length yc7] 24))
      have B488 : Hid (Abx wo483 (v6.heap.size) (.bool c1) (.slice xa1 S.length xc1) (.slice ya1 D.length yc1)) := by rw [hwo483]; exact (B466.out.al (.cells #[.bool c1, .slice xa7 S.length xc7, .slice ya7 Z.length yc7] 24))
      have B489 : Hid (Abx wo483 (v9.heap.size) (.bool c1) (.slice xa3 sz1.length xc3) (.slice ya3 Q.length yc3)) := by rw [hwo483]; exact (B467.out.al (.cells #[.bool c1, .slice xa7 S.length xc7, .slice ya7 Z.length yc7] 24))
      have B490 : Hid (Abx wo483 (v16.heap.size) (.bool c1) (.slice xa6 S.length xc6) (.slice ya6 Z.length yc6)) := by rw [hwo483]; exact (B468.out.al (.cells #[.bool c1, .slice xa7 S.length xc7, .slice ya7 Z.length yc7] 24))
      have B491 : Hid (Abx wo483 (v17.heap.size) (.bool c1) (.slice xa7 S.length xc7) (.slice ya7 Z.length yc7)) := by rw [hwo483]; exact n476
      have L492 : Hid (MidC (v5.heap.size) (v6.heap.size) wo483 (xa1) (S) (xc1)) := by rw [hwo483]; exact (L469.out.al (by omega) (.cells #[.bool c1, .slice xa7 S.length xc7, .slice ya7 Z.length yc7] 24))
      have L493 : Hid (MidC (v5.heap.size) (v6.heap.size) wo483 (ya1) (D) (yc1)) := by rw [hwo483]; exact (L470.out.al (by omega) (.cells #[.bool c1, .slice xa7 S.length xc7, .slice ya7 Z.length yc7] 24))
      have L494 : Hid (MidC (y0.heap.size) (v16.heap.size) wo483 (xa6) (S) (xc6)) := by rw [hwo483]; exact (L471.out.al (by omega) (.cells #[.bool c1, .slice xa7 S.length xc7, .slice ya7 Z.length yc7] 24))
      have L495 : Hid (MidC (y0.heap.size) (v16.heap.size) wo483 (ya6) (Z) (yc6)) := by rw [hwo483]; exact (L472.out.al (by omega) (.cells #[.bool c1, .slice xa7 S.length xc7, .slice ya7 Z.length yc7] 24))
      have L496 : Hid (MidC (wo449.heap.size) (v17.heap.size) wo483 (xa7) (S) (S.length)) := by rw [hwo483]; exact (L474.out.al (by omega) (.cells #[.bool c1, .slice xa7 S.length xc7, .slice ya7 Z.length yc7] 24))
      have L497 : Hid (MidC (wo449.heap.size) (v17.heap.size) wo483 (ya7) (Z) (Z.length)) := by rw [hwo483]; exact (L475.out.al (by omega) (.cells #[.bool c1, .slice xa7 S.length xc7, .slice ya7 Z.length yc7] 24))
      have hb498 : Hid (Below w.heap.size w wo483) := by rw [hwo483]; exact (hb473.out.alloc (by omega) (.cells #[.bool c1, .slice xa7 S.length xc7, .slice ya7 Z.length yc7] 24))
      have zwo483 : w.heap.size ≤ wo483.heap.size := hb498.out.size
      clear hwo483 n476 l477 l478 l479 l480 l481 l482 hb473 B463 B464 B465 B466 B467 B468 L469 L470 L471 L472 L474 L475
      refine (alike_i c1 xa6 xc6 S ya6 yc6 Z xa7 xc7 S ya7 yc7 Z rfl rfl (by have := HSD.out.2.2.1; omega) (by have := HZ2.out.2; omega) _ (L494.out.is (by omega)).1 (L495.out.is (by omega)).1 (L496.out.is (by omega)).1 (L497.out.is (by omega)).1).mono ?_
      rintro e v18 ⟨rfl, hB⟩
      have z499 : wo483.heap.size ≤ v18.heap.size := hB.size
      have B500 : Hid (Abx v18 (w.heap.size) (.bool c1) (.slice sa1 sz1.length sc1) (.slice da1 dz1.length dc1)) := B485.out.go hB
      have B501 : Hid (Abx v18 (w.heap.size + 1) (.bool c1) (.slice sa2 sz2.length sc2) (.slice da2 dz2.length dc2)) := B486.out.go hB
      have B502 : Hid (Abx v18 (w.heap.size + 1 + 1) (.bool c3) (.slice sa3 sz3.length sc3) (.slice da3 dz3.length dc3)) := B487.out.go hB
      have B503 : Hid (Abx v18 (v6.heap.size) (.bool c1) (.slice xa1 S.length xc1) (.slice ya1 D.length yc1)) := B488.out.go hB
      have B504 : Hid (Abx v18 (v9.heap.size) (.bool c1) (.slice xa3 sz1.length xc3) (.slice ya3 Q.length yc3)) := B489.out.go hB
      have B505 : Hid (Abx v18 (v16.heap.size) (.bool c1) (.slice xa6 S.length xc6) (.slice ya6 Z.length yc6)) := B490.out.go hB
      have B506 : Hid (Abx v18 (v17.heap.size) (.bool c1) (.slice xa7 S.length xc7) (.slice ya7 Z.length yc7)) := B491.out.go hB
      have L507 : Hid (MidC (v5.heap.size) (v6.heap.size) v18 (xa1) (S) (xc1)) := L492.out.go (by omega) hB
      have L508 : Hid (MidC (v5.heap.size) (v6.heap.size) v18 (ya1) (D) (yc1)) := L493.out.go (by omega) hB
      have L509 : Hid (MidC (y0.heap.size) (v16.heap.size) v18 (xa6) (S) (xc6)) := L494.out.go (by omega) hB
      have L510 : Hid (MidC (y0.heap.size) (v16.heap.size) v18 (ya6) (Z) (yc6)) := L495.out.go (by omega) hB
      have L511 : Hid (MidC (wo449.heap.size) (v17.heap.size) v18 (xa7) (S) (S.length)) := L496.out.go (by omega) hB
      have L512 : Hid (MidC (wo449.heap.size) (v17.heap.size) v18 (ya7) (Z) (Z.length)) := L497.out.go (by omega) hB
      have hb513 : Hid (Below w.heap.size w v18) := hb498.out.trans (hB.mono hb498.out.size)
      clear hB hb498 B485 B486 B487 B488 B489 B490 B491 L492 L493 L494 L495 L496 L497
      clear L509 L510 L511 L512 B505 B506
      go_wp2_with fail
      go_ret
      exact ⟨rfl, hb513.out⟩
end Go.Proofs.Ytlflacoiidhgoaa
