/-
  What an array has that another one has not, as the program finds it.
-/
import Derived.Test.YteieliajdfbipaaSka
import Derived.Test.YteieliajdfbipaaTurnq
namespace Go.Proofs.Yteieliajdfbipaa
open Go.RowKit
set_option linter.unusedVariables false

theorem blk_go8 {w w' : World} {b : Nat} {o : Obj} (h : w.heap[b]? = some o) (hB : Below w.heap.size w w') : w'.heap[b]? = some o := by
  obtain ⟨hlt, _⟩ := Array.getElem?_eq_some_iff.1 h
  exact (hB.block b hlt).trans h
theorem kpQ_sh {c : Bool} {dz : List Int} {c' : Bool} {dz' : List Int} {has : Bool} : ∀ k, k ≤ dz.length → kpQ (fun i => hsB c' dz' c (nth dz i) == has) dz k = shD c (dz.take k) c' dz' has
  | 0, _ => by simp [kpQ, shD]
  | k + 1, hk => by
    rw [shD_next (by omega), ← kpQ_sh k (by omega)]
    rfl
theorem kpQ_all {c : Bool} {dz : List Int} {c' : Bool} {dz' : List Int} {has : Bool} {Q : Nat → Bool} (h : ∀ i, Q i = (hsB c' dz' c (nth dz i) == has)) : kpQ Q dz dz.length = shD c dz c' dz' has := by
  have e : Q = fun i => hsB c' dz' c (nth dz i) == has := funext h
  rw [e, kpQ_sh _ (Nat.le_refl _), List.take_length]
theorem kpQ_nb {dz : List Int} {c : Bool} : ∀ k, k ≤ dz.length → kpQ (fun i => fdV c c (nth dz i) dz == (i : Int)) dz k = nbK dz k
  | 0, _ => rfl
  | k + 1, hk => by
    have hm := nbK_sub (dz := dz) k (by omega)
    have hs : hsB c dz c (nth dz k) = true := hsB_iff.2 ⟨rfl, nth_mem dz k (by omega)⟩
    have e : ((fdV c c (nth dz k) dz == (k : Int)) = true) ↔ ¬ nth dz k ∈ nbK dz k := by
      unfold fdV
      rw [if_pos hs, beq_iff_eq, hm]
      constructor
      · rintro e ⟨j, hj, ej⟩
        have e' : fdN c c (nth dz k) dz = k := by omega
        exact fdN_before (c := c) (ch := c) (v := nth dz k) dz j (by rw [e']; exact hj) ⟨rfl, ej⟩
      · intro h
        have := fdN_is (c := c) (ch := c) (v := nth dz k) (dz := dz) (k := k) (by omega) (fun j hj q => h ⟨j, hj, q.2⟩) (fun _ => ⟨rfl, rfl⟩)
        rw [this]
    simp only [kpQ, nbK]
    rw [kpQ_nb k (by omega)]
    by_cases h : nth dz k ∈ nbK dz k
    · rw [if_pos h, if_neg (fun q => e.1 q h)]
    · rw [if_neg h, if_pos (e.2 h)]
set_option maxRecDepth 100000 in
set_option maxHeartbeats 2000000 in
theorem apart_any (c : Bool) (sa : Option Addr) (sc : Nat) (sz : List Int) (da : Option Addr) (dc : Nat) (dz : List Int) (c' : Bool) (sa' : Option Addr) (sc' : Nat) (sz' : List Int) (da' : Option Addr) (dc' : Nat) (dz' : List Int) (h2 : dz.length ≤ 4096) (h2' : dz'.length ≤ 4096) (w : World) (hd : IsInts w.heap.size w da dz) (hd' : IsInts w.heap.size w da' dz') (T : ∀ j, In64 (nth dz j)) (T' : ∀ j, In64 (nth dz' j)) :
    Calls Try.prog 27 #[.agg #[.bool c, .slice sa sz.length sc, .slice da dz.length dc], .agg #[.bool c', .slice sa' sz'.length sc', .slice da' dz'.length dc']] w (KeptP (shD c dz c' dz' false) w) := by
  have HI : Hid (IsInts w.heap.size w da dz ∧ IsInts w.heap.size w da' dz') := ⟨hd, hd'⟩
  have HT : Hid ((∀ j, In64 (nth dz j)) ∧ (∀ j, In64 (nth dz' j))) := ⟨T, T'⟩
  clear hd hd' T T'
  obtain ⟨W0, hW0⟩ : ∃ W0, W0 = (w.alloc (.cells #[.bool c, .slice sa sz.length sc, .slice da dz.length dc] 24)).alloc (.cells #[.bool c', .slice sa' sz'.length sc', .slice da' dz'.length dc'] 24) := ⟨_, rfl⟩
  have HB0 : Hid (Below w.heap.size w W0) := by rw [hW0]; exact ((Below.refl _ w).alloc (Nat.le_refl _) _).alloc (by simp) _
  have PA : Hid (Abx W0 w.heap.size (.bool c) (.slice sa sz.length sc) (.slice da dz.length dc)) := by rw [hW0]; exact (Abx.new w _ _ _).al _
  have PB : Hid (Abx W0 (w.heap.size + 1) (.bool c') (.slice sa' sz'.length sc') (.slice da' dz'.length dc')) := by rw [hW0]; exact Abx.new1 w _ _ _ _
  go_enter Try.func27, Try.ntmps27
  go_wp2_with fail
  rw [← hW0]
  clear hW0
  refine (finder_any c' (.slice sa' sz'.length sc') da' dc' dz' c h2' W0 ((HI.out.2.below HB0.out).mono HB0.out.size) HT.out.2).mono ?_
  rintro e w1 ⟨p, rfl, hF, hB1⟩
  have HB1 : Hid (Below w.heap.size w w1) := HB0.out.trans (hB1.mono HB0.out.size)
  have HF : Hid (Finds W0.heap.size w1 p c' c dz') := hF
  have PA1 : Hid (Abx w1 w.heap.size (.bool c) (.slice sa sz.length sc) (.slice da dz.length dc)) := PA.out.go hB1
  clear hF hB1 PB PA
  obtain ⟨W2, hW2⟩ : ∃ W2, W2 = w1.alloc (.cells #[FindV p] 38) := ⟨_, rfl⟩
  have HB2 : Hid (Below w.heap.size w W2) := by rw [hW2]; exact HB1.out.alloc HB1.out.size _
  have HF2 : Hid (Finds W0.heap.size W2 p c' c dz') := by rw [hW2]; exact HF.out.go ((Below.refl _ w1).alloc (Nat.le_refl _) _)
  have PA2 : Hid (Abx W2 w.heap.size (.bool c) (.slice sa sz.length sc) (.slice da dz.length dc)) := by rw [hW2]; exact PA1.out.al _
  have HQ : Hid (W2.heap[w1.heap.size]? = some (.cells #[FindV p] 38 (0, 0))) := by rw [hW2]; exact heap_alloc_new w1 _
  unfold FindV at hW2
  have pb := PA1.out.al (.cells #[.func (.func 30) #[] #[.pointer (some ⟨p, 0, none⟩)]] 38)
  have b0 := pb.c0
  have b1 := pb.c1
  have b2 := pb.c2
  clear pb
  go_wp2_with fail
  rw [← hW2]
  clear hW2 b0 b1 b2
  refine (kept_any c (.slice sa sz.length sc) da dc dz 31 [.pointer (some ⟨w1.heap.size, 0, none⟩)] (enters_of Try.func31 (by kernel_rfl) rfl) (fun i => !hsB c' dz' c (nth dz i)) h2 W2 ((HI.out.1.below HB2.out).mono HB2.out.size) (fun i hi w' hB => apart1_any _ p w1.heap.size c' c dz' _ _ (HT.out.1 i) w' (HF2.out.go hB) (cell_of_one (blk_go8 HQ.out hB)))).mono ?_
  rintro e w3 ⟨g, gc, rfl, hN, hB3⟩
  rw [kpQ_all (has := false) (c := c) (c' := c') (dz' := dz') (fun i => by cases hsB c' dz' c (nth dz i) <;> rfl)] at hN ⊢
  have HN : Hid (NewC W2.heap.size w3 g (shD c dz c' dz' false) gc) := hN
  have HB3 : Hid (Below W2.heap.size W2 w3) := hB3
  clear hN hB3
  go_wp2_with fail
  go_ret
  exact ⟨g, gc, rfl, HN.out.low HB2.out.size, HB2.out.trans (HB3.out.mono HB2.out.size)⟩
end Go.Proofs.Yteieliajdfbipaa
