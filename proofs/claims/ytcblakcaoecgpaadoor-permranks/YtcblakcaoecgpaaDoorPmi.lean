/-
  The program's cycles: one of them; what goes over them; the walk of a loop over them.
-/
import Derived.RangeFuncNested
import Derived.RangeFuncBound
import Derived.RangeFuncCalls
import Derived.RangeFuncLeaves
import Derived.RangeFuncBox
import Derived.Shelf.Abstract
import Derived.Shelf.RegionOpen
import Derived.WalkKit
import Derived.OwnWalkIn
import Derived.TacticsInMore
import Derived.LoopNIn
import Derived.LoopIn
import Derived.Test.YtcblakcaoecgpaaDoorChecked
import Derived.Test.YtcblakcaoecgpaaDoorPmm
import Derived.Test.YtcblakcaoecgpaaDoorPmc1
import Derived.Test.YtcblakcaoecgpaaDoorApps
namespace Go.Proofs.YtcblakcaoecgpaaDoor
open Go.RowKit Go.Shelf
set_option linter.unusedVariables false
attribute [local go_sem] Oper.semAt_some

def lnV9 : Value → Nat
  | .slice _ n _ => n
  | _ => 0
/-- One cycle that is told, and what else has turned. -/
def CyP (p : List Int) (f S : Nat) (w : World) (r : Ending) (w' : World) : Prop :=
  ∃ g gc, r = .returned (.slice g (orb p f).length gc) ∧ NewC w.heap.size w' g (orb p f) gc ∧ w'.rowIs S 4 p.length (fun j => .bool (snB p (f + 1) j)) ∧ w.grownBy w' (some S)
theorem grown_t9 {a w w' : World} {row : Option Nat} (h : a.grownBy w row) (k : w.grownBy w' row) : a.grownBy w' row :=
  ⟨k.os.trans h.os, k.tape.trans h.tape, k.output.trans h.output, Nat.le_trans h.size k.size, fun i hi hr => (k.block i (Nat.lt_of_lt_of_le hi h.size) hr).trans (h.block i hi hr)⟩
theorem grown_set9 (w : World) (b i : Nat) (v : Value) : w.grownBy (w.setCell ⟨b, i, none⟩ v) (some b) :=
  ⟨rfl, rfl, rfl, by simp [World.setCell], fun k _ hk => Below.heap_setCell _ _ _ _ (fun e => hk (by simp [e]))⟩
theorem grown_bel9 {w w' : World} (row : Option Nat) (h : Below w.heap.size w w') : w.grownBy w' row := ⟨h.os, h.tape, h.output, h.size, fun k hk _ => h.block k hk⟩
theorem grown_bel {a w w' : World} {row : Option Nat} (h : a.grownBy w row) (k : Below a.heap.size w w') : a.grownBy w' row :=
  ⟨k.os.trans h.os, k.tape.trans h.tape, k.output.trans h.output, Nat.le_trans h.size k.size, fun i hi hr => (k.block i hi).trans (h.block i hi hr)⟩
theorem ints_grown {n₀ : Nat} {A B : World} {S : Nat} (hg : A.grownBy B (some S)) (hn : n₀ ≤ S) (hs : n₀ ≤ A.heap.size) {a : Option Addr} {zs : List Int} : IsInts n₀ A a zs → IsInts n₀ B a zs
  | .inl e => .inl e
  | .inr ⟨b, off, e, hb, hc⟩ => .inr ⟨b, off, e, hb, fun j hj => (World.cell?_of_block (w := A) (a := ⟨b, off + j, none⟩) (hg.block b (by omega) (fun e2 => by cases e2; omega))).trans (hc j hj)⟩

set_option maxRecDepth 100000 in
set_option maxHeartbeats 4000000 in
theorem cf_any (a : Option Addr) (cap : Nat) (p : List Int) (hp : IsOrd p) (h4 : p.length ≤ 4096) (f : Nat) (hf : f < p.length) (hd : hdB p f = true) (S sc n₀ : Nat) (w : World) (hn : n₀ ≤ S) (hI : IsInts n₀ w a p) (hrow : w.rowIs S 4 p.length (fun j => .bool (snB p f j))) :
    Calls Tryd.prog 40 #[.slice a p.length cap, .int .i64 (f : Nat), .slice (some ⟨S, 0, none⟩) p.length sc] w (CyP p f S w) := by
  have hSw : S < w.heap.size := hrow.lt
  have HI : Hid (IsInts n₀ w a p) := hI
  have HP : Hid (IsOrd p) := hp
  have HD : Hid (hdB p f = true) := hd
  have HR : Hid (w.rowIs S 4 p.length (fun j => .bool (snT p f 0 j))) := hrow.congr fun j _ => by rw [snT_zero]
  have hper := (per_fact hp hf).1
  clear hI hp hd hrow
  go_enter Tryd.func40, Tryd.ntmps40
  go_wp2_with fail
  go_loopw [7, 8] (fun c i wr => ∃ t : Nat, t ≤ per p f ∧ i = .int .i64 (itr p t f : Nat) ∧ wr.ownsRow w.heap.size 3 1 c (oT p f t).length ((oT p f t).map (Value.int .i64)) ∧ wr.rowIs S 4 p.length (fun j => .bool (snT p f t j)) ∧ w.grownBy wr (some S)) (fun c _ _ => per p f - lnV9 c)
  case atStart => exact ⟨0, Nat.zero_le _, rfl, World.ownsRow_nil _ _ _ _, HR.out, grown_bel9 _ (Below.refl _ w)⟩
  case round =>
    obtain ⟨t, ht, rfl, hown, hrow, hG⟩ := hrel
    obtain ⟨g7, c7, rfl, hN7⟩ := own_cap hown
    have HW : Hid (wr.ownsRow w.heap.size 3 1 (.slice g7 (oT p f t).length c7) (oT p f t).length ((oT p f t).map (Value.int .i64))) := hown
    have HN : Hid (NewC w.heap.size wr g7 (oT p f t) c7) := hN7
    have HG : Hid (w.grownBy wr (some S)) := hG
    have HR2 : Hid (wr.rowIs S 4 p.length (fun j => .bool (snT p f t j))) := hrow
    have hzw : w.heap.size ≤ wr.heap.size := hG.size
    have hml := itr_lt HP.out hf t
    have hcs := hrow.cell hml
    have hfs := hrow.frozen (itr p t f)
    clear hown hN7 hG hrow HR
    by_cases hlt : t < per p f
    · rw [snT_new HP.out hf HD.out hlt] at hcs
      have HNx : Hid (nth p (itr p t f) = (itr p (t + 1) f : Nat)) := itr_step HP.out hf t
      have HO : Hid (oT p f (t + 1) = oT p f t ++ [(itr p t f : Int)]) := oT_next f t
      have HL : Hid ((oT p f t).length = t) := oT_len f t
      have HS : Hid (∀ j, snT p f (t + 1) j = (snT p f t j || j == itr p t f)) := fun j => snT_next f t j
      obtain ⟨b, off, rfl, hb, hcell⟩ := (ints_grown HG.out hn (by omega) HI.out).at hml
      have HC : Hid (∀ W, Below w.heap.size wr W ∨ (∃ v, Below w.heap.size (wr.setCell ⟨S, itr p t f, none⟩ v) W) → W.cell? ⟨b, off + itr p t f, none⟩ = some (.int .i64 (itr p (t + 1) f : Nat))) := by
        rintro W (hW | ⟨v, hW⟩)
        · rw [← HNx.out]; exact (hW.cell (p := ⟨b, off + itr p t f, none⟩) (by show b < _; omega)).trans (hcell _ hml)
        · rw [← HNx.out]; exact ((hW.cell (p := ⟨b, off + itr p t f, none⟩) (by show b < _; omega)).trans (World.cell?_setCell_other wr _ _ _ (by intro e; simp only [Addr.mk.injEq] at e; omega))).trans (hcell _ hml)
      clear hcell HNx
      generalize hM1 : itr p (t + 1) f = M1 at *
      have HM1 : Hid (itr p (t + 1) f = M1) := hM1
      clear hM1
      generalize itr p t f = M at *
      generalize oT p f t = L at *
      have hLl : L.length ≤ 4096 := by have := HL.out; omega
      obtain ⟨V, hV⟩ : ∃ V, V = wr.setCell ⟨S, M, none⟩ (.bool true) := ⟨_, rfl⟩
      have HV : Hid (V = wr.setCell ⟨S, M, none⟩ (.bool true)) := hV
      have hzV : V.heap.size = wr.heap.size := by rw [hV]; simp [World.setCell]
      have HWV : Hid (V.ownsRow w.heap.size 3 1 (.slice g7 L.length c7) L.length (L.map (Value.int .i64))) := by rw [hV]; exact ownsRow_setCell_below HW.out (show S < _ from hSw) _
      have HRV : Hid (V.rowIs S 4 p.length (fun j => .bool (snT p f (t + 1) j))) := by
        rw [hV]
        refine (HR2.out.set M (.bool true)).congr fun j hj => ?_
        rw [HS.out j]
        by_cases e : j = M
        · subst e; simp
        · simp [e]
      have HGV : Hid (w.grownBy V (some S)) := by rw [hV]; exact grown_t9 HG.out (grown_set9 _ _ _ _)
      have HCV : Hid (∀ W, Below w.heap.size V W → W.cell? ⟨b, off + M, none⟩ = some (.int .i64 (M1 : Nat))) := fun W hW => HC.out W (.inr ⟨.bool true, by rw [← HV.out]; exact hW⟩)
      clear HW HR2 HG HC hV
      go_wp2_with (at_builtin; rw [← HV.out]; refine app_list rfl _ _ rfl _ w.heap.size V.heap.size _ L (M : Int) rfl (by simp [Act.eval, hzV]) (HWV.out.alloc _) (heap_alloc_new V _) (by omega) (by simp; omega) ?_; intro g1 gc1 w3 hown1 hB3; have hB4 : Below w.heap.size V w3 := ((Below.refl _ V).alloc (by omega) _).trans hB3; have hc4 := HCV.out w3 hB4)
      refine ⟨⟨t + 1, hlt, by rw [HM1.out], ?_, HRV.out.of_block (hB4.block S hSw), grown_bel HGV.out hB4⟩, by simp [lnV9]; have := HL.out; omega⟩
      rw [HO.out, List.length_append]
      exact hown1
    · obtain rfl : t = per p f := by omega
      have hbk := snT_back (p := p) HP.out hf
      rw [hbk] at hcs
      have HRf : Hid (wr.rowIs S 4 p.length (fun j => .bool (snB p (f + 1) j))) := HR2.out.congr fun j _ => by rw [snT_all HD.out]
      have eO : oT p f (per p f) = orb p f := rfl
      rw [eO] at HN ⊢
      clear hbk HW HR2 eO
      generalize hD : orb p f = D at *
      have HDD : Hid (orb p f = D) := hD
      clear hD
      go_wp2_with fail
      go_ret
      unfold CyP
      rw [HDD.out]
      exact ⟨g7, c7, rfl, HN.out, HRf.out, HG.out⟩
/-- What a round keeps for the iterator: what lay below n₀, the box of the list, and what it has seen. -/
def Kpy (n₀ Bp S : Nat) (W W' : World) : Prop := ∀ k, k < n₀ ∨ k = Bp ∨ k = S → W'.heap[k]? = W.heap[k]?
set_option maxRecDepth 100000 in
set_option maxHeartbeats 4000000 in
/-- The iterator's closure. -/
theorem cy1_in (n : Nat) (hn : 1 ≤ n) (l Bp n₀ S : Nat) (a : Option Addr) (cap : Nat) (p : List Int) (hp : IsOrd p) (h4 : p.length ≤ 4096) (J : List Nat → World → Prop)
    (hJ : ∀ hs A B, J hs A → A.grownBy B (some S) → J hs B)
    (hY : ∀ f A B g gc, f < p.length → hdB p f = true → J (hdT p f) A → S < A.heap.size → A.grownBy B (some S) → NewC A.heap.size B g (orb p f) gc → YieldAt Fence.wide (n - 1) Tryd.prog l #[.slice g (orb p f).length gc] B fun e C =>
      e = .returned (.bool true) ∧ J (hdT p f ++ [f]) C ∧ Kpy n₀ Bp S B C)
    (W : World) (hS : W.heap.size = S) (hBp : W.cell? ⟨Bp, 0, none⟩ = some (.slice a p.length cap)) (hBl : Bp < S) (hI : IsInts n₀ W a p) (hn₀ : n₀ ≤ S) (h0 : J [] W) :
    CallsIn Fence.wide n Tryd.prog 39 #[.func (.yield l) #[] #[], .pointer (some ⟨Bp, 0, none⟩)] W fun e W' => (∃ v, e = .returned v) ∧ J (heads p) W' := by
  have hmk := run_make_row' (P := Tryd.prog) 61 4 (.bool false) 1 Tryd.underlying61 Tryd.infoBool rfl .i64 .i64 p.length (by omega) (by omega)
  have HJ : Hid (∀ hs A B, J hs A → A.grownBy B (some S) → J hs B) := hJ
  have HY : Hid (∀ f A B g gc, f < p.length → hdB p f = true → J (hdT p f) A → S < A.heap.size → A.grownBy B (some S) → NewC A.heap.size B g (orb p f) gc → YieldAt Fence.wide (n - 1) Tryd.prog l #[.slice g (orb p f).length gc] B fun e C =>
      e = .returned (.bool true) ∧ J (hdT p f ++ [f]) C ∧ Kpy n₀ Bp S B C) := hY
  have HP : Hid (IsOrd p) := hp
  have HI : Hid (IsInts n₀ W a p) := hI
  have HBp : Hid (W.cell? ⟨Bp, 0, none⟩ = some (.slice a p.length cap)) := hBp
  have HS : Hid (W.heap.size = S) := hS
  have HR0 : Hid ((W.alloc (.cells (madeCells #[.bool false] p.length) 4)).rowIs S 4 p.length (fun _ => .bool false)) := by rw [← hS]; exact World.rowIs_made W (.bool false) p.length 4
  have HJ0 : Hid (J [] (W.alloc (.cells (madeCells #[.bool false] p.length) 4))) := hJ _ _ _ h0 (World.grownBy_alloc W _ _)
  have hBp1 : (W.alloc (.cells (madeCells #[.bool false] p.length) 4)).cell? ⟨Bp, 0, none⟩ = some (.slice a p.length cap) := (World.cell?_of_block (w := W) (Below.heap_alloc _ _ _ (by show Bp < _; omega))).trans hBp
  have HK0 : Hid (∀ k, k < n₀ ∨ k = Bp → (W.alloc (.cells (madeCells #[.bool false] p.length) 4)).heap[k]? = W.heap[k]?) := fun k hk => Below.heap_alloc _ _ _ (by omega)
  have hS2 : (W.alloc (.cells (madeCells #[.bool false] p.length) 4)).heap.size = S + 1 := by simp [hS]
  clear hJ hY hI h0 hp
  refine callsIn_of_wp Tryd.func39 rfl trivial ?_ rfl
  simp only [Tryd.ntmps39, List.size_toArray, List.length_cons, List.length_nil, Nat.reduceAdd, Nat.reduceSub, Array.replicate_succ, Array.replicate_zero, List.push_toArray, List.append_toArray, List.nil_append, List.cons_append]
  gi_wp2_with fail
  clear hmk hBp hS
  gi_loopw [11] (fun i wr => ∃ f : Nat, f ≤ p.length ∧ i = .int .i64 f ∧ J (hdT p f) wr ∧ wr.rowIs S 4 p.length (fun j => .bool (snB p f j)) ∧ ∀ k, k < n₀ ∨ k = Bp → wr.heap[k]? = W.heap[k]?) (fun i _ => p.length - (intOf i).toNat)
  case atStart => exact ⟨0, Nat.zero_le _, rfl, HJ0.out, HR0.out.congr (fun j _ => by rw [snB_zero]), HK0.out⟩
  case round =>
    obtain ⟨f, hf, rfl, hJf, hrow, hkp⟩ := hrel
    have HJf : Hid (J (hdT p f) wr) := hJf
    have HRf : Hid (wr.rowIs S 4 p.length (fun j => .bool (snB p f j))) := hrow
    have HKf : Hid (∀ k, k < n₀ ∨ k = Bp → wr.heap[k]? = W.heap[k]?) := hkp
    have hSl : S < wr.heap.size := hrow.lt
    clear hJf hkp
    by_cases hlt : f < p.length
    · have hIw : IsInts n₀ wr a p := by
        rcases HI.out with e | ⟨b, off, e, hb, hc⟩
        · exact .inl e
        · exact .inr ⟨b, off, e, hb, fun j hj => (World.cell?_of_block (w := W) (a := ⟨b, off + j, none⟩) (HKf.out b (.inl hb))).trans (hc j hj)⟩
      have HIw : Hid (IsInts n₀ wr a p) := hIw
      obtain ⟨b, off, rfl, hb, hcell⟩ := hIw.at hlt
      have hc := hcell f hlt
      have hcs := hrow.cell hlt
      have hBw : wr.cell? ⟨Bp, 0, none⟩ = some (.slice (some ⟨b, off, none⟩) p.length cap) := (World.cell?_of_block (w := W) (HKf.out Bp (.inr rfl))).trans HBp.out
      have HH := hd_not_seen HP.out hlt
      have HHd : Hid (hdB p f = true ↔ snB p f f = false ∧ nth p f ≠ (f : Int)) := HH
      have hm0 := HP.out.1 f hlt
      obtain ⟨m, hm⟩ : ∃ m : Nat, nth p f = m := ⟨(nth p f).toNat, by omega⟩
      have HM : Hid (nth p f = m) := hm
      rw [hm] at hc
      clear hcell HH hrow hm0 hm
      cases hsn : snB p f f with
      | true =>
        rw [hsn] at hcs
        have HF : Hid (hdB p f = false) := by rw [← Bool.not_eq_true]; intro e; have := (HHd.out.1 e).1; rw [hsn] at this; cases this
        clear hsn
        gi_wp2_with fail
        refine ⟨⟨f + 1, by omega, by go_num, by rw [hdT_next, if_neg (by rw [HF.out]; decide)]; exact HJf.out, HRf.out.congr (fun j _ => by rw [snB_skip HF.out]), HKf.out⟩, by simp [intOf]; omega⟩
      | false =>
        rw [hsn] at hcs
        by_cases hmf : m = f
        · have HF : Hid (hdB p f = false) := by rw [← Bool.not_eq_true]; intro e; have := (HHd.out.1 e).2; rw [HM.out, hmf] at this; exact this rfl
          have he : ((m : Int) == (f : Int)) = true := by rw [hmf]; simp
          clear hsn hmf
          gi_wp2_with fail
          refine ⟨⟨f + 1, by omega, by go_num, by rw [hdT_next, if_neg (by rw [HF.out]; decide)]; exact HJf.out, HRf.out.congr (fun j _ => by rw [snB_skip HF.out]), HKf.out⟩, by simp [intOf]; omega⟩
        · have HF : Hid (hdB p f = true) := HHd.out.2 ⟨hsn, by rw [HM.out]; omega⟩
          have he : ((m : Int) == (f : Int)) = false := by rw [beq_eq_false_iff_ne]; omega
          clear hsn hmf
          gi_wp2_with fail
          refine ⟨trivial, (callsIn_wide.2 (cf_any (some ⟨b, off, none⟩) cap p HP.out h4 f hlt HF.out S p.length n₀ wr hn₀ HIw.out HRf.out)).mono ?_⟩
          rintro e w1 ⟨g, gc, rfl, hN1, hrow1, hg1⟩
          have HR1 : Hid (w1.rowIs S 4 p.length (fun j => .bool (snB p (f + 1) j))) := hrow1
          have HG1 : Hid (wr.grownBy w1 (some S)) := hg1
          obtain ⟨fn, tmps, assign, body, hy, hR⟩ := HY.out f wr w1 g gc hlt HF.out HJf.out hSl hg1 hN1
          clear hrow1 hg1 hN1 hcs hc hBw
          gi_wp2_with fail
          refine hR.mono ?_
          rintro e W3 ⟨rfl, hJ3, hk3⟩
          have HJ3 : Hid (J (hdT p f ++ [f]) W3) := hJ3
          have HK3 : Hid (Kpy n₀ Bp S w1 W3) := hk3
          clear hJ3 hk3 hy hR
          gi_wp2_with fail
          refine ⟨⟨f + 1, by omega, by go_num, by rw [hdT_next, if_pos HF.out]; exact HJ3.out, HR1.out.of_block (HK3.out S (.inr (.inr rfl))), fun k hk => ?_⟩, by simp [intOf]; omega⟩
          refine ((HK3.out k (by omega)).trans (HG1.out.block k (by omega) (fun e => ?_))).trans (HKf.out k hk)
          cases e; omega
    · obtain rfl : f = p.length := by omega
      gi_wp2_with fail
      go_end0
      exact ⟨⟨_, rfl⟩, HJf.out⟩
end Go.Proofs.YtcblakcaoecgpaaDoor
