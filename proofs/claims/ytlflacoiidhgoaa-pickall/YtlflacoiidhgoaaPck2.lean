/-
  The shapes of arrays one behind the other; are all numbers below a length; does an array fit: what the program tells.
-/
import Derived.Test.YtlflacoiidhgoaaPapp
import Derived.Test.YtlflacoiidhgoaaPck1
import Derived.Test.YtlflacoiidhgoaaEqual
namespace Go.Proofs.Ytlflacoiidhgoaa
open Go.RowKit
set_option linter.unusedVariables false

set_option maxRecDepth 100000 in
set_option maxHeartbeats 2000000 in
theorem joined_new (ba : Option Addr) (bc : Nat) (bs : List ArV) (h3 : bs.length ≤ 6) (hf : flL (bya bs) = 0) (w : World) (hb : IsAs w.heap.size w ba bs) :
    Calls Try.prog 31 #[.slice ba bs.length bc] w fun e w' => ∃ g gc, e = .returned (.slice g (pkS (bya bs)).length gc) ∧ NewC w.heap.size w' g (pkS (bya bs)) gc ∧ Below w.heap.size w w' := by
  have HI : Hid (IsAs w.heap.size w ba bs) := hb
  have HF : Hid (∀ k, k < bs.length → (arz bs k).2.1.2.length ≤ 6 ∧ offs bs k ≤ 36) := fun k hk => by
    have h1 := (flawE_short (fl_at bs hf hk)).1
    have h2 := pkS_short (bya bs) hf
    have h4 := offs_le bs hk
    rw [bya_length] at h2
    omega
  clear hb hf
  obtain ⟨S, hS⟩ : ∃ S, S = pkS (bya bs) := ⟨_, rfl⟩
  rw [← hS]
  have HS0 : Hid (S = pkS (bya bs)) := hS
  clear hS
  go_enter Try.func31, Try.ntmps31
  go_wp2_with fail
  go_loopw [3, 8] (fun v i wr => ∃ k : Nat, k ≤ bs.length ∧ i = .int .i64 k ∧ wr.ownsRow w.heap.size 3 1 v (offs bs k) ((pkS ((bya bs).take k)).map (Value.int .i64)) ∧ Below w.heap.size w wr) (fun _ i _ => bs.length - (intOf i).toNat)
  case atStart => exact ⟨0, Nat.zero_le _, rfl, World.ownsRow_nil _ _ _ _, Below.refl _ _⟩
  case round =>
    obtain ⟨k, hk, rfl, hown, hB⟩ := hrel
    by_cases hlt : k < bs.length
    · have hav := (HI.out.below hB).2 k hlt
      obtain ⟨b, off, rfl, hbb, hcell⟩ := (HI.out.below hB).at hlt
      obtain ⟨c0, c1, c2⟩ := hcell k hlt
      obtain ⟨hl6, ho6⟩ := HF.out k hlt
      have HO : Hid (offs bs (k + 1) = offs bs k + (arz bs k).2.1.2.length ∧ pkS ((bya bs).take (k + 1)) = pkS ((bya bs).take k) ++ (arz bs k).2.1.2) := ⟨offs_succ bs hlt, by rw [bya_take bs hlt, pkS_append]; simp [pkS, ArV.ar]⟩
      have HAV : Hid (IsAv w.heap.size wr (arz bs k)) := hav
      have HBw : Hid (Below w.heap.size w wr) := hB
      have hLo : (pkS ((bya bs).take k)).length = offs bs k := rfl
      clear hcell hav hB
      generalize arz bs k = B at *
      obtain ⟨cb, ⟨⟨sb, scb⟩, szb⟩, ⟨⟨db, dcb⟩, dzb⟩⟩ := B
      unfold ArV.s at c1
      unfold ArV.d at c2
      dsimp only at c0 c1 c2 HAV HO hl6
      have HBx : Hid (Below w.heap.size wr (wr.alloc (.cells #[.bool cb, .slice sb szb.length scb, .slice db dzb.length dcb] 24))) := (Below.refl _ wr).alloc HBw.out.size _
      have pb := Abx.new wr (.bool cb) (.slice sb szb.length scb) (.slice db dzb.length dcb)
      have q0 := pb.c0
      have q1 := pb.c1
      have q2 := pb.c2
      have HW : Hid ((wr.alloc (.cells #[.bool cb, .slice sb szb.length scb, .slice db dzb.length dcb] 24)).ownsRow w.heap.size 3 1 u3 (offs bs k) ((pkS ((bya bs).take k)).map (Value.int .i64))) := hown.alloc _
      have HS : Hid (IsInts (wr.alloc (.cells #[.bool cb, .slice sb szb.length scb, .slice db dzb.length dcb] 24)).heap.size (wr.alloc (.cells #[.bool cb, .slice sb szb.length scb, .slice db dzb.length dcb] 24)) sb szb) := (HAV.out.2.2.1.1.below HBx.out).mono (HBw.out.trans HBx.out).size
      have HL : Hid ((pkS ((bya bs).take k)).length = offs bs k) := hLo
      clear hown hLo
      generalize pkS ((bya bs).take k) = L at *
      generalize offs bs k = m at *
      go_wp2_with (at_builtin; refine app_all rfl _ _ rfl _ w.heap.size u3 L m HL.out sb szb szb.length scb rfl rfl rfl HW.out HS.out (by omega) (HBw.out.trans HBx.out).size ?_; intro g gc w1 hown1 hN1 hB1)
      refine ⟨⟨k + 1, by omega, by go_num, ?_, (HBw.out.trans HBx.out).trans hB1⟩, by simp [intOf]; omega⟩
      rw [HO.out.1, HO.out.2]
      exact hown1
    · obtain rfl : k = bs.length := by omega
      rw [offs_all, List.take_of_length_le (by rw [bya_length]; exact Nat.le_refl _), ← HS0.out] at hown
      obtain ⟨g, gc, rfl, hN⟩ := own_cap hown
      clear hown
      go_wp2_with fail
      go_ret
      exact ⟨g, gc, rfl, hN, hB⟩
theorem bel_drewN7 {B : Nat} {A W : World} (h : Below B A W) : ∀ m, Below B A (W.drewN m)
  | 0 => h
  | m + 1 => (bel_drewN7 h m).drew
theorem ret_bool7 {b b' : Bool} (h : b' = b) : Ending.returned (.bool b) = .returned (.bool b') := by rw [h]
def lowB (zs : List Int) (l : Int) : Bool := zs.all fun i => decide (0 ≤ i ∧ i < l)
theorem lowB_ok {zs : List Int} {l : Int} (h : ∀ j, j < zs.length → 0 ≤ nth zs j ∧ nth zs j < l) : lowB zs l = true := by
  unfold lowB
  rw [List.all_eq_true]
  intro y hy
  obtain ⟨i, hi, e⟩ := List.mem_iff_getElem.1 hy
  have := h i hi
  rw [nth_get _ _ hi, e] at this
  exact decide_eq_true this
theorem lowB_at {zs : List Int} {l : Int} (h : lowB zs l = true) {j : Nat} (hj : j < zs.length) : 0 ≤ nth zs j ∧ nth zs j < l := by
  unfold lowB at h
  exact of_decide_eq_true (List.all_eq_true.1 h _ (nth_mem zs j hj))
theorem lowB_no {zs : List Int} {l : Int} {j : Nat} (hj : j < zs.length) (h : ¬ (0 ≤ nth zs j ∧ nth zs j < l)) : lowB zs l = false := by
  cases e : lowB zs l
  · rfl
  · exact absurd (lowB_at e hj) h
set_option maxRecDepth 100000 in
set_option maxHeartbeats 1000000 in
theorem below_any (a : Option Addr) (cap : Nat) (zs : List Int) (l : Int) (h1 : zs.length ≤ 9223372036854775807) (n₀ : Nat) (w : World) (hI : IsInts n₀ w a zs) :
    Calls Try.prog 32 #[.slice a zs.length cap, .int .i64 l] w fun e w' => e = .returned (.bool (lowB zs l)) ∧ w' = w := by
  go_enter Try.func32, Try.ntmps32
  go_wp2_with fail
  go_loopw [9] (fun i wr => ∃ k : Nat, k ≤ zs.length ∧ i = .int .i64 k ∧ Hid (∀ j, j < k → 0 ≤ nth zs j ∧ nth zs j < l) ∧ wr = w) (fun i _ => zs.length - (intOf i).toNat)
  case atStart => exact ⟨0, Nat.zero_le _, rfl, fun j hj => absurd hj (Nat.not_lt_zero j), rfl⟩
  case round =>
    obtain ⟨k, hk, rfl, HA, hv⟩ := hrel
    obtain rfl := hv.symm
    by_cases hlt : k < zs.length
    · obtain ⟨b, off, rfl, hb, hc⟩ := hI.at hlt
      have ck := hc k hlt
      clear hc
      by_cases hn : nth zs k < 0
      · have HN : Hid (lowB zs l = false) := lowB_no hlt (by omega)
        go_wp2_with fail
        go_ret
        exact ⟨ret_bool7 HN.out, rfl⟩
      · by_cases hm : l ≤ nth zs k
        · have HN : Hid (lowB zs l = false) := lowB_no hlt (by omega)
          go_wp2_with fail
          go_ret
          exact ⟨ret_bool7 HN.out, rfl⟩
        · have HA2 : Hid (∀ j, j < k + 1 → 0 ≤ nth zs j ∧ nth zs j < l) := fun j hj => by
            by_cases e : j = k
            · subst e; exact ⟨by omega, by omega⟩
            · exact HA.out j (by omega)
          go_wp2_with fail
          exact ⟨⟨k + 1, by omega, by go_num, HA2, by first | rfl | trivial⟩, by simp [intOf]; omega⟩
    · obtain rfl : k = zs.length := by omega
      have HN : Hid (lowB zs l = true) := lowB_ok HA.out
      go_wp2_with fail
      go_ret
      exact ⟨ret_bool7 HN.out, rfl⟩
/-- Why an array cannot stand at the cells that are told. -/
def fiE (c : Bool) (S : List Int) (cv : Bool) (sv : List Int) : Int := if c ≠ cv then 6 else if sv.length = 0 then 0 else if sv.length ≠ S.length then 3 else if sv ≠ S then 4 else 0
set_option maxRecDepth 100000 in
set_option maxHeartbeats 1000000 in
theorem fit7_any (c : Bool) (ga : Option Addr) (gc : Nat) (S : List Int) (cv : Bool) (sa : Option Addr) (sc : Nat) (sz : List Int) (da : Option Addr) (dc : Nat) (dz : List Int) (h0 : S.length ≤ 9223372036854775807) (h1 : sz.length ≤ 9223372036854775807) (w : World) (hg : IsInts w.heap.size w ga S) (hs : IsInts w.heap.size w sa sz) :
    Calls Try.prog 19 #[.bool c, .slice ga S.length gc, .agg #[.bool cv, .slice sa sz.length sc, .slice da dz.length dc]] w fun e w' => e = .returned (errV (fiE c S cv sz)) ∧ Below w.heap.size w w' := by
  have HB0 : Hid (Below w.heap.size w (w.alloc (.cells #[.bool cv, .slice sa sz.length sc, .slice da dz.length dc] 24))) := (Below.refl _ w).alloc (Nat.le_refl _) _
  have pa := Abx.new w (.bool cv) (.slice sa sz.length sc) (.slice da dz.length dc)
  have p0 := pa.c0
  have p1 := pa.c1
  have p2 := pa.c2
  have HI : Hid (IsInts w.heap.size w ga S ∧ IsInts w.heap.size w sa sz) := ⟨hg, hs⟩
  clear hg hs
  by_cases hc : c = cv
  · have tc : (cv == c) = true := by subst hc; simp
    by_cases hl0 : sz.length = 0
    · have HE : Hid (fiE c S cv sz = 0) := by show fiE _ _ _ _ = _; unfold fiE; rw [if_neg (not_not_intro hc), if_pos hl0]
      have tz : ((sz.length : Int) == 0) = true := by simp [hl0]
      clear hc hl0
      go_enter Try.func19, Try.ntmps19
      go_wp2_with fail
      go_ret
      exact ⟨ret_nil7 HE.out, HB0.out⟩
    · have tz : ((sz.length : Int) == 0) = false := by simp; intro e; rw [e] at hl0; exact hl0 rfl
      by_cases hl : sz.length = S.length
      · have tl : ((sz.length : Int) != (S.length : Int)) = false := by simp [hl]
        have HE : Hid (fiE c S cv sz = if sz = S then 0 else 4) := by
          show fiE _ _ _ _ = _
          unfold fiE
          rw [if_neg (not_not_intro hc), if_neg hl0, if_neg (not_not_intro hl)]
          by_cases e : sz = S
          · rw [if_neg (not_not_intro e), if_pos e]
          · rw [if_pos e, if_neg e]
        clear hc hl0 hl
        go_enter Try.func19, Try.ntmps19
        go_wp2_with fail
        refine (equal_any sa sc sz ga gc S h1 w.heap.size _ (HI.out.2.below HB0.out) (HI.out.1.below HB0.out)).mono ?_
        rintro e v1 ⟨rfl, m, rfl⟩
        have HB1 : Hid (Below w.heap.size w ((w.alloc (.cells #[.bool cv, .slice sa sz.length sc, .slice da dz.length dc] 24)).drewN m)) := bel_drewN7 HB0.out m
        by_cases e : sz = S
        · have te : eqB sz S = true := by rw [e]; exact eqB_true rfl
          rw [te]
          have HE2 : Hid (fiE c S cv sz = 0) := by show _ = _; rw [HE.out, if_pos e]
          clear e HE te
          go_wp2_with fail
          go_ret
          exact ⟨ret_nil7 HE2.out, HB1.out⟩
        · have te : eqB sz S = false := eqB_false e
          rw [te]
          have HE2 : Hid (fiE c S cv sz = 4) := by show _ = _; rw [HE.out, if_neg e]
          clear e HE te
          go_wp2_with fail
          go_ret
          exact ⟨ret_err7 (by decide) HE2.out, HB1.out⟩
      · have tl : ((sz.length : Int) != (S.length : Int)) = true := by simp; omega
        have HE : Hid (fiE c S cv sz = 3) := by show fiE _ _ _ _ = _; unfold fiE; rw [if_neg (not_not_intro hc), if_neg hl0, if_pos hl]
        clear hc hl0 hl
        go_enter Try.func19, Try.ntmps19
        go_wp2_with fail
        go_ret
        exact ⟨ret_err7 (by decide) HE.out, HB0.out⟩
  · have tc : (cv == c) = false := by cases c <;> cases cv <;> simp_all
    have HE : Hid (fiE c S cv sz = 6) := by show fiE _ _ _ _ = _; unfold fiE; rw [if_pos hc]
    clear hc
    go_enter Try.func19, Try.ntmps19
    go_wp2_with fail
    go_ret
    exact ⟨ret_err7 (by decide) HE.out, HB0.out⟩
end Go.Proofs.Ytlflacoiidhgoaa
