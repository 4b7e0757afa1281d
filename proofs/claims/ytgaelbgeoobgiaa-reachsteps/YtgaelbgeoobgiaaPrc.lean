/-
  The parts of the package prod: what is wrong with functions and two arrays; how long both axes are; how far cells are apart; what is told of so many places.
-/
import Derived.Test.YtgaelbgeoobgiaaChka
import Derived.Test.YtgaelbgeoobgiaaTwos
import Derived.Test.YtgaelbgeoobgiaaCutn
import Derived.Test.YtgaelbgeoobgiaaPrdn
namespace Go.Proofs.Ytgaelbgeoobgiaa
open Go.RowKit
set_option linter.unusedVariables false

/-! ### Functions and two arrays -/
def pcB (fs : List Int) : Bool := fs.all fun f => decide (1 ≤ f ∧ f ≤ 16)
def pcE (fs : List Int) (c : Bool) (sz dz : List Int) (c' : Bool) (sz' dz' : List Int) : Int := if pcB fs = true then flawsE c sz dz c' sz' dz' else 1
theorem pcB_bad {fs : List Int} {k : Nat} (hk : k < fs.length) (h : ¬ (1 ≤ nth fs k ∧ nth fs k ≤ 16)) : pcB fs = false := by
  unfold pcB
  rw [List.all_eq_false]
  refine ⟨nth fs k, ?_, by simpa using h⟩
  rw [nth_get fs k hk]
  exact List.getElem_mem hk
theorem pcB_good {fs : List Int} (h : ∀ j, j < fs.length → 1 ≤ nth fs j ∧ nth fs j ≤ 16) : pcB fs = true := by
  unfold pcB
  rw [List.all_eq_true]
  intro x hx
  obtain ⟨j, hj, rfl⟩ := List.getElem_of_mem hx
  have := h j hj
  rw [nth_get fs j hj] at this
  exact decide_eq_true this
set_option maxRecDepth 100000 in
set_option maxHeartbeats 2000000 in
theorem pcheck_any (c : Bool) (sa : Option Addr) (sc : Nat) (sz : List Int) (da : Option Addr) (dc : Nat) (dz : List Int) (c' : Bool) (sa' : Option Addr) (sc' : Nat) (sz' : List Int) (da' : Option Addr) (dc' : Nat) (dz' : List Int) (fa : Option Addr) (fc : Nat) (fs : List Int) (n : Nat) (hn : fs.length = n) (hn4 : n ≤ 100)
    (h1 : sz.length ≤ 9223372036854775807) (h2 : dz.length ≤ 9223372036854775807) (h1' : sz'.length ≤ 9223372036854775807) (h2' : dz'.length ≤ 9223372036854775807) (w : World) (hs : IsInts w.heap.size w sa sz) (hd : IsInts w.heap.size w da dz) (hs' : IsInts w.heap.size w sa' sz') (hd' : IsInts w.heap.size w da' dz') (hf : IsInts w.heap.size w fa fs) :
    Calls Try.prog 20 #[.agg #[.bool c, .slice sa sz.length sc, .slice da dz.length dc], .agg #[.bool c', .slice sa' sz'.length sc', .slice da' dz'.length dc'], .slice fa n fc] w fun e w' => e = .returned (errV (pcE fs c sz dz c' sz' dz')) ∧ Below w.heap.size w w' := by
  have HI : Hid ((IsInts w.heap.size w sa sz ∧ IsInts w.heap.size w da dz) ∧ (IsInts w.heap.size w sa' sz' ∧ IsInts w.heap.size w da' dz') ∧ IsInts w.heap.size w fa fs) := ⟨⟨hs, hd⟩, ⟨hs', hd'⟩, hf⟩
  have HN : Hid (fs.length = n) := hn
  clear hs hd hs' hd' hf hn
  go_enter Try.func20, Try.ntmps20
  go_wp2_with fail
  go_loopw [13] (fun i wr => ∃ k : Nat, k ≤ n ∧ i = .int .i64 k ∧ Hid (∀ j, j < k → 1 ≤ nth fs j ∧ nth fs j ≤ 16) ∧ Abx wr w.heap.size (.bool c) (.slice sa sz.length sc) (.slice da dz.length dc) ∧ Abx wr (w.heap.size + 1) (.bool c') (.slice sa' sz'.length sc') (.slice da' dz'.length dc') ∧ Below w.heap.size w wr) (fun i _ => n - (intOf i).toNat)
  case atStart => exact ⟨0, Nat.zero_le _, rfl, fun j hj => absurd hj (by omega), (Abx.new w _ _ _).al _, Abx.new1 w _ _ _ _, ((Below.refl _ w).alloc (Nat.le_refl _) _).alloc (by simp) _⟩
  case round =>
    obtain ⟨k, hk, rfl, HG, hA, hR, hB⟩ := hrel
    have HA : Hid (Abx wr w.heap.size (.bool c) (.slice sa sz.length sc) (.slice da dz.length dc) ∧ Abx wr (w.heap.size + 1) (.bool c') (.slice sa' sz'.length sc') (.slice da' dz'.length dc') ∧ Below w.heap.size w wr) := ⟨hA, hR, hB⟩
    clear hA hR hB
    by_cases hlt : k < n
    · obtain ⟨b, off, rfl, hb, hcell⟩ := (HI.out.2.2.below HA.out.2.2).at (q := k) (by rw [HN.out]; exact hlt)
      have ck := hcell k (by rw [HN.out]; exact hlt)
      clear hcell
      obtain ⟨x, hx⟩ : ∃ x, x = nth fs k := ⟨_, rfl⟩
      have HX : Hid (x = nth fs k) := hx
      rw [← hx] at ck
      clear hx
      have h2w := two_any x 1 1 (by unfold In64; decide) (by unfold In64; decide) wr
      by_cases hg : x < 1 ∨ 16 < x
      · have ht : errV (twoE x 1 1) = .iface 76 (.int .i64 1) := by unfold twoE; rw [if_pos hg]; rfl
        have HE : Hid (pcE fs c sz dz c' sz' dz' = 1) := by show _ = _; unfold pcE; rw [pcB_bad (k := k) (by rw [HN.out]; exact hlt) (by rw [← HX.out]; omega)]; rfl
        rw [ht] at h2w
        clear ht hg
        go_wp2_with fail
        refine h2w.mono ?_
        rintro e v1 ⟨rfl, hB⟩
        have HB : Hid (Below w.heap.size w v1) := HA.out.2.2.trans (hB.mono HA.out.2.2.size)
        clear hB h2w
        go_wp2_with fail
        go_ret
        exact ⟨by rw [HE.out]; rfl, HB.out⟩
      · have ht : errV (twoE x 1 1) = .nilIface := by rw [te0 (by omega) (by omega) (fun _ => by decide) (fun _ => by decide)]; rfl
        have HE : Hid (∀ j, j < k + 1 → 1 ≤ nth fs j ∧ nth fs j ≤ 16) := fun j hj => by
          by_cases e : j = k
          · subst e; rw [← HX.out]; omega
          · exact HG.out j (by omega)
        rw [ht] at h2w
        clear ht hg
        go_wp2_with fail
        refine h2w.mono ?_
        rintro e v1 ⟨rfl, hB⟩
        have HB : Hid (Below wr.heap.size wr v1) := hB
        clear hB h2w
        go_wp2_with fail
        exact ⟨⟨k + 1, by omega, by go_num, HE.out, HA.out.1.go HB.out, HA.out.2.1.go HB.out, HA.out.2.2.trans (HB.out.mono HA.out.2.2.size)⟩, by simp [intOf]; omega⟩
    · obtain rfl : k = n := by omega
      have HE : Hid (pcE fs c sz dz c' sz' dz' = flawsE c sz dz c' sz' dz') := by show _ = _; unfold pcE; rw [pcB_good (fun j hj => HG.out j (by rw [← HN.out]; exact hj))]; rfl
      have p0 := HA.out.1.c0
      have p1 := HA.out.1.c1
      have p2 := HA.out.1.c2
      have q0 := HA.out.2.1.c0
      have q1 := HA.out.2.1.c1
      have q2 := HA.out.2.1.c2
      have hb1 : Below w.heap.size w (wr.alloc (.cells #[.bool c', .slice sa' sz'.length sc', .slice da' dz'.length dc'] 24)) := HA.out.2.2.alloc HA.out.2.2.size _
      have hall := chkall8 c sa sc sz da dc dz (some ⟨wr.heap.size, 0, none⟩) 1 [(c', (((sa', sc'), sz'), ((da', dc'), dz')))] h1 h2 (by simp) (wr.alloc (.cells #[.bool c', .slice sa' sz'.length sc', .slice da' dz'.length dc'] 24)) ((HI.out.1.1.below hb1).mono hb1.size) ((HI.out.1.2.below hb1).mono hb1.size) (isBs_one (Abx.new wr _ _ _) h1' h2' ((HI.out.2.1.1.below hb1).mono hb1.size) ((HI.out.2.1.2.below hb1).mono hb1.size))
      rw [bsE_one, ← HE.out] at hall
      have HB1 : Hid (Below w.heap.size w (wr.alloc (.cells #[.bool c', .slice sa' sz'.length sc', .slice da' dz'.length dc'] 24))) := hb1
      clear hb1
      go_wp2_with fail
      refine hall.mono ?_
      rintro e v1 ⟨rfl, hB⟩
      have HB : Hid (Below w.heap.size w v1) := HB1.out.trans (hB.mono HB1.out.size)
      clear hB hall
      go_wp2_with fail
      go_ret
      exact ⟨rfl, HB.out⟩
/-! ### How long both axes are -/
def cmE (sz sz' : List Int) : Int := if sz.length = 0 ∨ sz'.length = 0 then 3 else if inN sz ≠ nth sz' 0 then 4 else 0
def CmP (sz sz' : List Int) (w : World) (e : Ending) (w' : World) : Prop := ∃ v, e = .returned (.tuple #[.int .i64 v, errV (cmE sz sz')]) ∧ (cmE sz sz' = 0 → v = inN sz) ∧ w' = w
theorem CmP.mk {sz sz' : List Int} {w : World} (E v : Int) (V : Value) (hV : V = errV E) (h : cmE sz sz' = E) (hv : E = 0 → v = inN sz) : CmP sz sz' w (.returned (.tuple #[.int .i64 v, V])) w := ⟨v, by rw [hV, h], fun h0 => hv (by rw [← h]; exact h0), rfl⟩
set_option maxRecDepth 100000 in
set_option maxHeartbeats 2000000 in
theorem pcommon_any (sa : Option Addr) (sc : Nat) (sz : List Int) (sa' : Option Addr) (sc' : Nat) (sz' : List Int) (h1 : sz.length ≤ 9223372036854775807) (h1' : sz'.length ≤ 9223372036854775807) (w : World) (hs : IsInts w.heap.size w sa sz) (hs' : IsInts w.heap.size w sa' sz') :
    Calls Try.prog 21 #[.slice sa sz.length sc, .slice sa' sz'.length sc'] w (CmP sz sz' w) := by
  by_cases h0 : sz.length = 0
  · have HE : Hid (cmE sz sz' = 3) := by show _ = _; unfold cmE; rw [if_pos (.inl h0)]
    have t0 : ((sz.length : Int) == 0) = true := by simp; simpa using h0
    clear hs hs' h0
    go_enter Try.func21, Try.ntmps21
    go_wp2_with fail
    go_ret2
    exact CmP.mk 3 0 _ rfl HE.out (fun h => absurd h (by decide))
  · have t0 : ((sz.length : Int) == 0) = false := by simp; simpa using h0
    by_cases h0' : sz'.length = 0
    · have HE : Hid (cmE sz sz' = 3) := by show _ = _; unfold cmE; rw [if_pos (.inr h0')]
      have t0' : ((sz'.length : Int) == 0) = true := by simp; simpa using h0'
      clear hs hs' h0 h0'
      go_enter Try.func21, Try.ntmps21
      go_wp2_with fail
      go_ret2
      exact CmP.mk 3 0 _ rfl HE.out (fun h => absurd h (by decide))
    · have t0' : ((sz'.length : Int) == 0) = false := by simp; simpa using h0'
      have HL : Hid (¬ (sz.length = 0 ∨ sz'.length = 0)) := by rintro (h | h); exact h0 h; exact h0' h
      obtain ⟨m, hm⟩ : ∃ m, sz.length = m + 1 := ⟨sz.length - 1, by omega⟩
      obtain ⟨m', hm'⟩ : ∃ m', sz'.length = m' + 1 := ⟨sz'.length - 1, by omega⟩
      obtain ⟨b, off, rfl, hb, hc⟩ := hs.at (q := m) (by omega)
      obtain ⟨b', off', rfl, hb', hc'⟩ := hs'.at (q := 0) (by omega)
      have k0 := hc m (by omega)
      have k1 := hc' 0 (by omega)
      rw [Nat.add_zero] at k1
      have HM : Hid (nth sz m = inN sz) := by show _ = _; unfold inN; rw [hm, Nat.add_sub_cancel]
      obtain ⟨x, hx⟩ : ∃ x, x = nth sz m := ⟨_, rfl⟩
      obtain ⟨y, hy⟩ : ∃ y, y = nth sz' 0 := ⟨_, rfl⟩
      rw [← hx] at k0
      rw [← hy] at k1
      have HX : Hid (x = nth sz m ∧ y = nth sz' 0) := ⟨hx, hy⟩
      have hm4 : m + 1 ≤ 9223372036854775807 := by omega
      have hm4' : m' + 1 ≤ 9223372036854775807 := by omega
      have w1 : wrap64 (((m + 1 : Nat) : Int) - 1) = (m : Int) := by rw [wrap64_small (by omega) (by omega)]; omega
      rw [hm, hm']
      clear hs hs' h0 h0' hc hc' hx hy hm hm' h1 h1' t0 t0'
      have t0 : ((m : Int) + 1 == 0) = false := by simp; omega
      have t0' : ((m' : Int) + 1 == 0) = false := by simp; omega
      by_cases he : x = y
      · have te : (x != y) = false := by simp [he]
        have HE : Hid (cmE sz sz' = 0 ∧ x = inN sz) := ⟨by unfold cmE; rw [if_neg HL.out, if_neg]; rw [← HM.out, ← HX.out.1, ← HX.out.2, he]; exact fun h => h rfl, by rw [HX.out.1]; exact HM.out⟩
        clear he
        go_enter Try.func21, Try.ntmps21
        go_wp2_with fail
        go_ret2
        exact CmP.mk 0 x _ rfl HE.out.1 (fun _ => HE.out.2)
      · have te : (x != y) = true := by simp [he]
        have HE : Hid (cmE sz sz' = 4) := by show _ = _; unfold cmE; rw [if_neg HL.out, if_pos]; rw [← HM.out, ← HX.out.1, ← HX.out.2]; exact he
        clear he
        go_enter Try.func21, Try.ntmps21
        go_wp2_with fail
        go_ret2
        exact CmP.mk 4 0 _ rfl HE.out (fun h => absurd h (by decide))
/-! ### How far cells are apart -/
set_option maxRecDepth 100000 in
set_option maxHeartbeats 1000000 in
theorem pstep_any (a : Option Addr) (cap : Nat) (zs : List Int) (hx : 0 < zs.length) (he : errOf zs = 0) (n₀ : Nat) (w : World) (hI : IsC n₀ w a zs cap) :
    Calls Try.prog 26 #[.slice a zs.length cap] w fun e w' => e = .returned (.int .i64 (stp zs 0)) ∧ w' = w := by
  obtain ⟨hI, hcap⟩ := hI
  obtain ⟨b, off, rfl, hb, hcell⟩ := hI.at hx
  have hz := errOf_zero.1 he
  have hl6 : zs.length ≤ 6 := hz.1
  have HA : Hid (AllIn zs) := hz.2.1
  have HC : Hid (∀ j, j < zs.length → w.cell? ⟨b, off + j, none⟩ = some (.int .i64 (nth zs j))) := hcell
  obtain ⟨m, hm⟩ : ∃ m, zs.length = 1 + m := ⟨zs.length - 1, by omega⟩
  obtain ⟨s, hs⟩ : ∃ s, s = zs.drop (0 + 1) := ⟨_, rfl⟩
  have hsl : s.length = m := by rw [hs, List.length_drop]; omega
  have HS : Hid (s.length = m ∧ (∀ j, j < m → nth s j = nth zs (0 + 1 + j)) ∧ AllIn s ∧ prod s = stp zs 0) := ⟨hsl, fun j hj => by rw [hs]; simp [nth, Nat.add_comm], by rw [hs]; exact HA.out.drop _, by rw [hs]; rfl⟩
  clear hs hsl hcell HA
  have HF : Hid (m ≤ 5) := by show m ≤ 5; omega
  by_cases hne : cap = 1
  · have hm0 : m = 0 := by omega
    subst hm0
    have hfin : Hid (stp zs 0 = 1) := by
      have h := HS.out
      have e : s = [] := List.eq_nil_of_length_eq_zero h.1
      rw [e] at h
      exact h.2.2.2.symm
    go_enter Try.func26, Try.ntmps26
    go_wp2_with fail
    go_loop [3, 9] (fun pv i => pv = .int .i64 1 ∧ i = .int .i64 0) (fun _ i => 0)
    case atStart => exact ⟨rfl, rfl⟩
    case round =>
      obtain ⟨rfl, rfl⟩ := hrel
      go_wp2_with fail
      go_ret
      exact ⟨ret_int hfin.out.symm, rfl⟩
  · go_enter Try.func26, Try.ntmps26
    go_wp2_with fail
    go_loop [3, 9] (fun pv i => ∃ k : Nat, k ≤ m ∧ i = .int .i64 k ∧ pv = .int .i64 (prod (s.take k))) (fun _ i => m - (intOf i).toNat)
    case atStart => exact ⟨0, Nat.zero_le _, rfl, rfl⟩
    case round =>
      obtain ⟨k, hk, rfl, rfl⟩ := hrel
      by_cases hlt : k < m
      · have hc : w.cell? ⟨b, off + 1 + k, none⟩ = some (.int .i64 (nth s k)) := by
          rw [HS.out.2.1 k hlt, ← HC.out (0 + 1 + k) (by omega), Nat.add_assoc]
        have HP : Hid (prod (s.take k) * nth s k = prod (s.take (k + 1)) ∧ 0 ≤ prod (s.take (k + 1)) ∧ prod (s.take (k + 1)) ≤ 1152921504606846976) := by
          refine ⟨(prod_take1 s k (by rw [HS.out.1]; exact hlt)).symm, prod_60 (fun y hy => HS.out.2.2.1 y (List.mem_of_mem_take hy)) ?_⟩
          have := HF.out
          rw [List.length_take]; omega
        obtain ⟨P, hP⟩ : ∃ P, P = prod (s.take k) := ⟨_, rfl⟩
        obtain ⟨Q, hQ⟩ : ∃ Q, Q = prod (s.take (k + 1)) := ⟨_, rfl⟩
        rw [← hP]
        have HPQ : Hid (P * nth s k = Q ∧ 0 ≤ Q ∧ Q ≤ 1152921504606846976) := by rw [hP, hQ]; exact HP.out
        have HQ : Hid (Q = prod (s.take (k + 1))) := hQ
        have hw : IntKind.i64.wrap (P * nth s k) = Q := by rw [HPQ.out.1]; exact IntWalk.i64_in _ (by have := HPQ.out.2; omega)
        clear hP hQ HP
        go_wp2_with fail
        exact ⟨⟨k + 1, by omega, by go_num, int_eq HQ.out⟩, by simp [intOf]; omega⟩
      · obtain rfl : k = m := by omega
        have hfin : Hid (prod (s.take k) = stp zs 0) := by
          have h := HS.out
          rw [List.take_of_length_le (by omega)]
          exact h.2.2.2
        go_wp2_with fail
        go_ret
        exact ⟨ret_int hfin.out, rfl⟩
/-! ### What is told of so many places -/
def upP (V : Nat → Int) (n : Nat) : List Int := (List.range n).map V
theorem upP_length (V : Nat → Int) (n : Nat) : (upP V n).length = n := by simp [upP]
theorem upP_nth (V : Nat → Int) (n : Nat) {j : Nat} (h : j < n) : nth (upP V n) j = V j := by simp [upP, nth, h]
/-- What is asked at a place, in a world of which J is so; blocks from n0 on stay. -/
def AskJ (J : World → Prop) (V E : Nat → Int) (i n0 : Nat) (w : World) (e : Ending) (w' : World) : Prop :=
  ∃ v, e = .returned (.tuple #[.int .i64 v, errV (E i)]) ∧ (E i = 0 → v = V i) ∧ J w' ∧ w.heap.size ≤ w'.heap.size ∧ ∀ b, n0 ≤ b → b < w.heap.size → w'.heap[b]? = w.heap[b]?
theorem askj_ok {J : World → Prop} {V E : Nat → Int} {i n0 : Nat} (h : E i = 0) {w w' : World} {e : Ending} (H : AskJ J V E i n0 w e w') : e = .returned (.tuple #[.int .i64 (V i), .nilIface]) ∧ J w' ∧ w.heap.size ≤ w'.heap.size ∧ ∀ b, n0 ≤ b → b < w.heap.size → w'.heap[b]? = w.heap[b]? := by
  obtain ⟨v, rfl, hv, r⟩ := H
  exact ⟨by rw [hv h, h]; rfl, r⟩
theorem askj_no {J : World → Prop} {V E : Nat → Int} {i n0 : Nat} (h : E i ≠ 0) {w w' : World} {e : Ending} (H : AskJ J V E i n0 w e w') : ∃ v, e = .returned (.tuple #[.int .i64 v, .iface 76 (.int .i64 (E i))]) ∧ J w' ∧ w.heap.size ≤ w'.heap.size ∧ ∀ b, n0 ≤ b → b < w.heap.size → w'.heap[b]? = w.heap[b]? := by
  obtain ⟨v, rfl, hv, r⟩ := H
  exact ⟨v, by rw [errV_pos h], r⟩
def TlP (J : World → Prop) (N : Nat) (V E : Nat → Int) (sa : Option Addr) (n sc : Nat) (w : World) (e : Ending) (w' : World) : Prop :=
  (∃ i, i < N ∧ E i ≠ 0 ∧ e = .returned (.tuple #[.agg #[.bool false, .slice none 0 0, .slice none 0 0], .iface 76 (.int .i64 (E i))]) ∧ J w') ∨
  ((∀ i, i < N → E i = 0) ∧ ∃ ya yc, e = .returned (.tuple #[.agg #[.bool false, .slice sa n sc, .slice ya N yc], .nilIface]) ∧ NewC w.heap.size w' ya (upP V N) yc ∧ J w')
theorem all13 {P : Nat → Prop} {k : Nat} (h : ∀ j, j < k → P j) (hk : P k) : ∀ j, j < k + 1 → P j := fun j hj => by
  by_cases e : j = k
  · subst e; exact hk
  · exact h j (by omega)
set_option maxRecDepth 100000 in
set_option maxHeartbeats 2000000 in
theorem ptell_any (sa : Option Addr) (n sc : Nat) (N : Nat) (f : Nat) (cs : List Value) (hE : ∀ args w, (callFunc f args).run Try.prog w = .ok (.enter f args) w) (V E : Nat → Int) (h2 : N ≤ 4096) (w : World) (J : World → Prop) (hJ : J w) (hgo : ∀ w1 w2, J w1 → Below w.heap.size w1 w2 → J w2)
    (H : ∀ i, i < N → ∀ w', J w' → Calls Try.prog f (.int .i64 (i : Nat) :: cs).toArray w' (AskJ J V E i w.heap.size w')) :
    Calls Try.prog 27 #[.slice sa n sc, .int .i64 (N : Nat), .func (.func f) #[] cs.toArray] w (TlP J N V E sa n sc w) := by
  have hmk := run_make_row' (P := Try.prog) 22 3 (.int .i64 0) 8 Try.underlying22 Try.infoInt rfl .i64 .i64 N (by omega) (by omega)
  have HJ : Hid (J w ∧ ∀ w1 w2, J w1 → Below w.heap.size w1 w2 → J w2) := ⟨hJ, hgo⟩
  have HH : Hid (∀ i, i < N → ∀ w', J w' → Calls Try.prog f (.int .i64 (i : Nat) :: cs).toArray w' (AskJ J V E i w.heap.size w')) := H
  clear H hJ hgo
  go_enter Try.func27, Try.ntmps27
  go_wp2_with fail
  clear hmk
  go_loopw [16] (fun i wr => ∃ k : Nat, k ≤ N ∧ i = .int .i64 k ∧ Hid (∀ j, j < k → E j = 0) ∧ wr.rowIs (w.heap.size + 1) 3 N (upTo V k) ∧ Abx wr w.heap.size (.bool false) (.slice none 0 0) (.slice none 0 0) ∧ Hid (J wr)) (fun i _ => N - (intOf i).toNat)
  case atStart =>
    refine ⟨0, Nat.zero_le _, rfl, fun j hj => absurd hj (by omega), ?_, (Abx.new w _ _ _).al _, HJ.out.2 _ _ HJ.out.1 (((Below.refl _ w).alloc (Nat.le_refl _) _).alloc (by simp) _)⟩
    have := World.rowIs_made (w.alloc (.cells #[.bool false, .slice none 0 0, .slice none 0 0] 24)) (.int .i64 0) N 3
    rw [World.size_alloc] at this
    exact this.congr (fun j _ => by simp [upTo])
  case round =>
    obtain ⟨k, hk, rfl, HZ, hrow, hR, HJr⟩ := hrel
    have HR : Hid (Abx wr w.heap.size (.bool false) (.slice none 0 0) (.slice none 0 0) ∧ wr.rowIs (w.heap.size + 1) 3 N (upTo V k)) := ⟨hR, hrow⟩
    clear hR hrow
    by_cases hlt : k < N
    · by_cases he : E k = 0
      · have HE : Hid (E k = 0) := he
        clear he
        go_wp2_with fail
        refine (HH.out k hlt wr HJr.out).mono ?_
        intro e w1 ha
        obtain ⟨rfl, hJ1, hsz, hkp⟩ := askj_ok HE.out ha
        have hrow := HR.out.2.of_block (hkp _ (by omega) HR.out.2.lt)
        have hA := HR.out.1.of (hkp _ (Nat.le_refl _) HR.out.1.lt)
        have c2 := hrow.cell hlt
        have f2 := hrow.frozen k
        have HW1 : Hid (w1.rowIs (w.heap.size + 1) 3 N (upTo V k) ∧ Abx w1 w.heap.size (.bool false) (.slice none 0 0) (.slice none 0 0) ∧ J w1) := ⟨hrow, hA, hJ1⟩
        clear ha hsz hkp hrow hA hJ1
        go_wp2_with fail
        exact ⟨⟨k + 1, by omega, by go_num, all13 HZ.out HE.out, upTo_set HW1.out.1 _ rfl, HW1.out.2.1.ot (a := ⟨w.heap.size + 1, k, none⟩) (by show w.heap.size ≠ w.heap.size + 1; omega) _,
          HJ.out.2 _ _ HW1.out.2.2 ((Below.refl _ w1).setCell (p := ⟨w.heap.size + 1, k, none⟩) (by show w.heap.size ≤ w.heap.size + 1; omega) _)⟩, by simp [intOf]; omega⟩
      · have HE : Hid (E k ≠ 0) := he
        clear he
        go_wp2_with fail
        refine (HH.out k hlt wr HJr.out).mono ?_
        intro e w1 ha
        obtain ⟨v, rfl, hJ1, hsz, hkp⟩ := askj_no HE.out ha
        have R4 : Hid (Abx w1 w.heap.size (.bool false) (.slice none 0 0) (.slice none 0 0) ∧ J w1) := ⟨HR.out.1.of (hkp _ (Nat.le_refl _) HR.out.1.lt), hJ1⟩
        clear ha hsz hkp hJ1
        have r0 := R4.out.1.c0
        have r1 := R4.out.1.c1
        have r2 := R4.out.1.c2
        have f0 := R4.out.1.fr 0
        have f1 := R4.out.1.fr 1
        have f2 := R4.out.1.fr 2
        go_wp2_with fail
        have F := R4.out.1.set3 (.bool false) (.slice none 0 0) (.slice none 0 0)
        have q0 := F.c0
        have q1 := F.c1
        have q2 := F.c2
        exact bodyPost_ret (v := .tuple #[.agg #[.bool false, .slice none 0 0, .slice none 0 0], .iface 76 (.int .i64 (E k))]) (by simp [results, Try.results27, go_sem, q0, q1, q2]) rfl (.inl ⟨k, hlt, HE.out, rfl, HJ.out.2 _ _ R4.out.2 (bel_set3 (Below.refl _ w1) (Nat.le_refl _) _ _ _)⟩)
    · obtain rfl : k = N := by omega
      have HX : Hid (NewInts (w.heap.size + 1) wr (some ⟨w.heap.size + 1, 0, none⟩) (upP V k)) := upTo_new HR.out.2 (Nat.le_refl _) _ (upP_length V k) (fun j hj => upP_nth V k hj)
      have r0 := HR.out.1.c0
      have r1 := HR.out.1.c1
      have r2 := HR.out.1.c2
      have f0 := HR.out.1.fr 0
      have f1 := HR.out.1.fr 1
      have f2 := HR.out.1.fr 2
      go_wp2_with fail
      have F := HR.out.1.set3 (.bool false) (.slice sa n sc) (.slice (some ⟨w.heap.size + 1, 0, none⟩) k k)
      have q0 := F.c0
      have q1 := F.c1
      have q2 := F.c2
      exact bodyPost_ret (v := .tuple #[.agg #[.bool false, .slice sa n sc, .slice (some ⟨w.heap.size + 1, 0, none⟩) k k], .nilIface]) (by simp [results, Try.results27, go_sem, q0, q1, q2]) rfl (.inr ⟨HZ.out, some ⟨w.heap.size + 1, 0, none⟩, k, rfl, ⟨(HX.out.set3 (by omega) _ _ _).low (by omega), by rw [upP_length]; exact Nat.le_refl _⟩, HJ.out.2 _ _ HJr.out (bel_set3 (Below.refl _ wr) (Nat.le_refl _) _ _ _)⟩)
end Go.Proofs.Ytgaelbgeoobgiaa
