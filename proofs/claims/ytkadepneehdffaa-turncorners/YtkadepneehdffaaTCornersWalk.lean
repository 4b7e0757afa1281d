/-
  The walk of the statement TurnCorners, given what the program tells.
-/
import Derived.Test.YtkadepneehdffaaTurng
import Derived.Test.YtkadepneehdffaaBase
namespace Go.Proofs.Ytkadepneehdffaa
open Go.RowKit
set_option linter.unusedVariables false

theorem lit_all {xs : List Int} (h : xs.all (fun x => decide (-9223372036854775808 ≤ x ∧ x ≤ 9223372036854775807)) = true) : ∀ j, In64 (nth xs j) := fun j => by
  by_cases hj : j < xs.length
  · have : nth xs j ∈ xs := by simp [nth, hj]
    exact of_decide_eq_true (p := -9223372036854775808 ≤ nth xs j ∧ nth xs j ≤ 9223372036854775807) (List.all_eq_true.1 h _ this)
  · have : nth xs j = 0 := by simp [nth, List.getElem?_eq_none (Nat.le_of_not_lt hj)]
    rw [this]; unfold In64; decide
theorem fact_v : flG [1, 0] [1, 2] [1, 2] = [1, 2] := by decide
theorem fact_s : axVal [1, 2] [1, 0] = [2, 1] := by decide
/-- A slice that leads to these integers, in no cell of block B. -/
def OffI (B : Nat) (W : World) (a : Option Addr) (zs : List Int) : Prop := zs = [] ∨ ∃ b off, a = some ⟨b, off, none⟩ ∧ b ≠ B ∧ b < W.heap.size ∧ ∀ j, j < zs.length → W.cell? ⟨b, off + j, none⟩ = some (.int .i64 (nth zs j))
theorem OffI.ints {B : Nat} {W : World} {a : Option Addr} {zs : List Int} : OffI B W a zs → IsInts W.heap.size W a zs
  | .inl e => .inl e
  | .inr ⟨b, off, e, _, hb, hc⟩ => .inr ⟨b, off, e, hb, hc⟩
theorem OffI.of_new {B lo : Nat} {W : World} {a : Option Addr} {zs : List Int} (h : NewInts lo W a zs) (hB : B < lo) : OffI B W a zs := by
  rcases h with e | ⟨b, off, e, h0, hb, hc, _⟩
  · exact .inl e
  · exact .inr ⟨b, off, e, by omega, hb, hc⟩
theorem OffI.of_ints {B n : Nat} {W : World} {a : Option Addr} {zs : List Int} (h : IsInts n W a zs) (hB : n ≤ B) (hn : n ≤ W.heap.size) : OffI B W a zs := by
  rcases h with e | ⟨b, off, e, hb, hc⟩
  · exact .inl e
  · exact .inr ⟨b, off, e, by omega, by omega, hc⟩
def cF (m n : Int) (d : List Int) (k : Nat) : List Int := flG [1, 0] (cS m n k) (cD m n d k)
theorem cn_fl {c : Bool} {m n : Int} {d : List Int} (h : flawE c [m, n] d = 0) (k : Nat) : flE [1, 0] c (cS m n k) (cD m n d k) = 0 ∧ axVal (cS m n k) [1, 0] = cS m n (k + 1) ∧ axE 1 c (cS m n (k + 1)) (cF m n d k) = 0 ∧ rvG 1 (cS m n (k + 1)) (cF m n d k) = cD m n d (k + 1) := by
  have hf := cD_flaw k h
  obtain ⟨a, b, h1, h2, h3⟩ := cD_step k (m := m) (n := n) (d := d)
  unfold cF
  rw [h1] at hf
  rw [h1, h2, h3]
  have ht := trn_flaw hf
  exact ⟨ht.1, ax2 (flawE_zero hf).1, ht.2.1, rfl⟩
theorem corner_fl (HF : CFl) {c : Bool} {m n : Int} {d : List Int} (h : flawE c [m, n] d = 0) (T : ∀ j, In64 (nth d j)) (k : Nat) (pa : Option Addr) (pc : Nat) (xa : Option Addr) (xc : Nat) (ya : Option Addr) (yc : Nat) (w : World) (hp : IsInts w.heap.size w pa [1, 0]) (hs : IsC w.heap.size w xa (cS m n k) xc) (hd : IsInts w.heap.size w ya (cD m n d k)) :
    Calls Try.prog 11 #[.slice pa 2 pc, .agg #[.bool c, .slice xa (cS m n k).length xc, .slice ya (cD m n d k).length yc]] w (OkA c (cS m n (k + 1)) (cF m n d k) w) := by
  have hl := tu_len (cD_flaw k h)
  have h' := fl_ok c xa xc (cS m n k) ya yc (cD m n d k) w hl.1 hl.2 hs hd (cD_64 (T := fun d => ∀ j, In64 (nth d j)) (fun m n d h => GA_64 (GA_64 h)) k T) HF pa pc [1, 0] (by simp) hp (cn_fl h k).1
  rw [(cn_fl h k).2.1] at h'
  exact h'
theorem cF_64 {m n : Int} {d : List Int} (T : ∀ j, In64 (nth d j)) (k : Nat) : ∀ j, In64 (nth (cF m n d k) j) := GA_64 (cD_64 (T := fun d => ∀ j, In64 (nth d j)) (fun m n d h => GA_64 (GA_64 h)) k T)
theorem corner_rv (HR : CRv) {c : Bool} {m n : Int} {d : List Int} (h : flawE c [m, n] d = 0) (T : ∀ j, In64 (nth d j)) (k : Nat) (xa : Option Addr) (xc : Nat) (ya : Option Addr) (yc : Nat) (w : World) (hs : IsC w.heap.size w xa (cS m n (k + 1)) xc) (hd : IsInts w.heap.size w ya (cF m n d k)) :
    Calls Try.prog 15 #[.int .i64 1, .agg #[.bool c, .slice xa (cS m n (k + 1)).length xc, .slice ya (cF m n d k).length yc]] w (OkA c (cS m n (k + 1)) (cD m n d (k + 1)) w) := by
  have h3 := (cn_fl h k).2.2
  have hl := tu_len (axE_zero.1 h3.1).1
  have h' := rv_ok c xa xc (cS m n (k + 1)) ya yc (cF m n d k) w hl.1 hl.2 hs hd (cF_64 T k) HR 1 (by unfold In64; decide) h3.1
  rw [h3.2] at h'
  exact h'
theorem corner_sa (c : Bool) (m n : Int) {sz dz : List Int} (h : flawE c [m, n] dz = 0) (hs : sz = [m, n]) (xa : Option Addr) (xc : Nat) (ya : Option Addr) (yc : Nat) (sa : Option Addr) (sc : Nat) (da : Option Addr) (dc : Nat) (w : World) (h1 : IsInts w.heap.size w xa (cS m n 4)) (h2 : IsInts w.heap.size w ya (cD m n dz 4)) (h3 : IsInts w.heap.size w sa sz) (h4 : IsInts w.heap.size w da dz) :
    Calls Try.prog 16 #[.agg #[.bool c, .slice xa (cS m n 4).length xc, .slice ya (cD m n dz 4).length yc], .agg #[.bool c, .slice sa sz.length sc, .slice da dz.length dc]] w fun e w' => e = .returned (.bool true) ∧ Below w.heap.size w w' := by
  have e1 : cS m n 4 = sz := hs.symm
  have hz := flawE_zero h
  have e2 : cD m n dz 4 = dz := trn_four hz.1 hz.2.1
  rw [e1] at h1 ⊢
  rw [e2] at h2 ⊢
  have hl := tu_len h
  exact (sarr_any c c xa xc sz ya yc dz sa sc sz da dc dz (by rw [hs]; exact hl.1) hl.2 w h1 h2 h3 h4).mono fun e w' ⟨h, hB⟩ => ⟨by rw [h, arrB_self], hB⟩
theorem corner_ax {c : Bool} {m n : Int} {sz dz : List Int} (hs : sz = [m, n]) (h : flawE c sz dz = 0) : axE 0 c sz dz = 0 ∧ flawE c sz (rvG 0 sz dz) = 0 ∧ flE [1, 0] c sz (rvG 0 sz dz) = 0 ∧ flE [1, 0] c sz dz = 0 ∧ axE 1 c (axVal sz [1, 0]) (flG [1, 0] sz dz) = 0 ∧ rvG 1 (axVal sz [1, 0]) (flG [1, 0] sz dz) = flG [1, 0] sz (rvG 0 sz dz) := by
  subst hs
  have he := (flawE_zero h).1
  have h1 : axE 0 c [m, n] dz = 0 := axE_zero.2 ⟨h, by decide, by simp⟩
  have h2 := rv_flaw h1
  have ht := trn_flaw h
  refine ⟨h1, h2, flE_zero.2 ⟨h2, rfl, ord2⟩, ht.1, ?_, ?_⟩
  · rw [ax2 he]; exact ht.2.1
  · rw [trn_same he, ax2 he]; rfl
set_option maxRecDepth 100000 in
set_option maxHeartbeats 8000000 in
theorem corners_no (HF : CFl) (HR : CRv) (c1 : Bool) (sa1 : Option Addr) (sc1 : Nat) (sz1 : List Int) (da1 : Option Addr) (dc1 : Nat) (dz1 : List Int) (w : World) (w9 : IsArrC w sa1 sz1 sc1 da1 dz1) (F1 : Hid (flawE c1 sz1 dz1 ≠ 0)) :
    Calls Try.prog 5 #[.agg #[.bool c1, .slice sa1 sz1.length sc1, .slice da1 dz1.length dc1]] w fun e w' => e = .returned (.bool true) ∧ Below w.heap.size w w' := by
  obtain ⟨x1, x2, x3, x4, s64, T⟩ := w9
  have HI : Hid (IsC w.heap.size w sa1 sz1 sc1 ∧ IsInts w.heap.size w da1 dz1 ∧ ∀ j, In64 (nth dz1 j)) := ⟨x3, x4, T⟩
  clear x3 x4 T s64
  have p1 : Abx (w.alloc (.cells #[.bool c1, .slice sa1 sz1.length sc1, .slice da1 dz1.length dc1] 32)) w.heap.size (.bool c1) (.slice sa1 sz1.length sc1) (.slice da1 dz1.length dc1) := Abx.new w _ _ _
  have hb : Hid (Below w.heap.size w (w.alloc (.cells #[.bool c1, .slice sa1 sz1.length sc1, .slice da1 dz1.length dc1] 32))) := (Below.refl _ w).alloc (Nat.le_refl _) _
  have p1_0 := p1.c0
  have p1_1 := p1.c1
  have p1_2 := p1.c2
  have n0 : NewInts (w.alloc (.cells #[.bool c1, .slice sa1 sz1.length sc1, .slice da1 dz1.length dc1] 32)).heap.size ((((w.alloc (.cells #[.bool c1, .slice sa1 sz1.length sc1, .slice da1 dz1.length dc1] 32)).alloc (.cells #[.int .i64 1, .int .i64 0] 3)).alloc (.cells #[.int .i64 1, .int .i64 2] 3)).alloc (.cells #[.int .i64 1, .int .i64 2] 3)) (some ⟨(w.alloc (.cells #[.bool c1, .slice sa1 sz1.length sc1, .slice da1 dz1.length dc1] 32)).heap.size, 0, none⟩) [1, 0] := (((new_lit (w.alloc (.cells #[.bool c1, .slice sa1 sz1.length sc1, .slice da1 dz1.length dc1] 32)) 3 [1, 0]).al (.cells #[.int .i64 1, .int .i64 2] 3)).al (.cells #[.int .i64 1, .int .i64 2] 3))
  have n1 : NewInts ((w.alloc (.cells #[.bool c1, .slice sa1 sz1.length sc1, .slice da1 dz1.length dc1] 32)).alloc (.cells #[.int .i64 1, .int .i64 0] 3)).heap.size ((((w.alloc (.cells #[.bool c1, .slice sa1 sz1.length sc1, .slice da1 dz1.length dc1] 32)).alloc (.cells #[.int .i64 1, .int .i64 0] 3)).alloc (.cells #[.int .i64 1, .int .i64 2] 3)).alloc (.cells #[.int .i64 1, .int .i64 2] 3)) (some ⟨((w.alloc (.cells #[.bool c1, .slice sa1 sz1.length sc1, .slice da1 dz1.length dc1] 32)).alloc (.cells #[.int .i64 1, .int .i64 0] 3)).heap.size, 0, none⟩) [1, 2] := ((new_lit ((w.alloc (.cells #[.bool c1, .slice sa1 sz1.length sc1, .slice da1 dz1.length dc1] 32)).alloc (.cells #[.int .i64 1, .int .i64 0] 3)) 3 [1, 2]).al (.cells #[.int .i64 1, .int .i64 2] 3))
  have n2 : NewInts (((w.alloc (.cells #[.bool c1, .slice sa1 sz1.length sc1, .slice da1 dz1.length dc1] 32)).alloc (.cells #[.int .i64 1, .int .i64 0] 3)).alloc (.cells #[.int .i64 1, .int .i64 2] 3)).heap.size ((((w.alloc (.cells #[.bool c1, .slice sa1 sz1.length sc1, .slice da1 dz1.length dc1] 32)).alloc (.cells #[.int .i64 1, .int .i64 0] 3)).alloc (.cells #[.int .i64 1, .int .i64 2] 3)).alloc (.cells #[.int .i64 1, .int .i64 2] 3)) (some ⟨(((w.alloc (.cells #[.bool c1, .slice sa1 sz1.length sc1, .slice da1 dz1.length dc1] 32)).alloc (.cells #[.int .i64 1, .int .i64 0] 3)).alloc (.cells #[.int .i64 1, .int .i64 2] 3)).heap.size, 0, none⟩) [1, 2] := (new_lit (((w.alloc (.cells #[.bool c1, .slice sa1 sz1.length sc1, .slice da1 dz1.length dc1] 32)).alloc (.cells #[.int .i64 1, .int .i64 0] 3)).alloc (.cells #[.int .i64 1, .int .i64 2] 3)) 3 [1, 2])
  simp only [World.size_alloc] at n0 n1 n2
  replace hb : Hid (Below w.heap.size w ((w.alloc (.cells #[.bool c1, .slice sa1 sz1.length sc1, .slice da1 dz1.length dc1] 32)).alloc (.cells #[.int .i64 1, .int .i64 0] 3))) := hb.out.alloc hb.out.size _
  replace p1 := p1.al (.cells #[.int .i64 1, .int .i64 0] 3)
  replace p1_0 := p1.c0
  replace p1_1 := p1.c1
  replace p1_2 := p1.c2
  replace hb : Hid (Below w.heap.size w (((w.alloc (.cells #[.bool c1, .slice sa1 sz1.length sc1, .slice da1 dz1.length dc1] 32)).alloc (.cells #[.int .i64 1, .int .i64 0] 3)).alloc (.cells #[.int .i64 1, .int .i64 2] 3))) := hb.out.alloc hb.out.size _
  replace p1 := p1.al (.cells #[.int .i64 1, .int .i64 2] 3)
  replace p1_0 := p1.c0
  replace p1_1 := p1.c1
  replace p1_2 := p1.c2
  replace hb : Hid (Below w.heap.size w ((((w.alloc (.cells #[.bool c1, .slice sa1 sz1.length sc1, .slice da1 dz1.length dc1] 32)).alloc (.cells #[.int .i64 1, .int .i64 0] 3)).alloc (.cells #[.int .i64 1, .int .i64 2] 3)).alloc (.cells #[.int .i64 1, .int .i64 2] 3))) := hb.out.alloc hb.out.size _
  replace p1 := p1.al (.cells #[.int .i64 1, .int .i64 2] 3)
  replace p1_0 := p1.c0
  replace p1_1 := p1.c1
  replace p1_2 := p1.c2
  go_enter Try.func5, Try.ntmps5
  go_wp2_with fail
  refine (fl_ok false (some ⟨w.heap.size + 1 + 1, 0, none⟩) 2 [1, 2] (some ⟨w.heap.size + 1 + 1 + 1, 0, none⟩) 2 [1, 2] _ (by simp) (by simp) (n1.ints.c (by decide)) n2.ints (lit_all (by decide)) HF (some ⟨w.heap.size + 1, 0, none⟩) 2 [1, 0] (by simp) n0.ints (by decide)).mono ?_
  rintro e v1 ⟨f1, g1, f2, g2, he, hZ, hY, hB⟩
  replace hb : Hid (Below w.heap.size w v1) := hb.out.trans (hB.mono hb.out.size)
  replace p1 := p1.go hB
  replace p1_0 := p1.c0
  replace p1_1 := p1.c1
  replace p1_2 := p1.c2
  clear hB
  clear n0 n1 n2
  rw [fact_v, fact_s] at he
  rw [fact_v] at hY
  rw [fact_s] at hZ
  subst he
  replace hb : Hid (Below w.heap.size w (v1.alloc (.cells #[.bool false, .slice f1 2 g1, .slice f2 2 g2] 32))) := hb.out.alloc hb.out.size _
  replace p1 := p1.al (.cells #[.bool false, .slice f1 2 g1, .slice f2 2 g2] 32)
  replace hY := hY.al (.cells #[.bool false, .slice f1 2 g1, .slice f2 2 g2] 32)
  replace hZ := hZ.al (.cells #[.bool false, .slice f1 2 g1, .slice f2 2 g2] 32)
  replace p1_0 := p1.c0
  replace p1_1 := p1.c1
  replace p1_2 := p1.c2
  replace hb : Hid (Below w.heap.size w ((v1.alloc (.cells #[.bool false, .slice f1 2 g1, .slice f2 2 g2] 32)).alloc (.cells #[.int .i64 2, .int .i64 1] 3))) := hb.out.alloc hb.out.size _
  replace p1 := p1.al (.cells #[.int .i64 2, .int .i64 1] 3)
  replace hY := hY.al (.cells #[.int .i64 2, .int .i64 1] 3)
  replace hZ := hZ.al (.cells #[.int .i64 2, .int .i64 1] 3)
  replace p1_0 := p1.c0
  replace p1_1 := p1.c1
  replace p1_2 := p1.c2
  have nl := new_lit (v1.alloc (.cells #[.bool false, .slice f1 2 g1, .slice f2 2 g2] 32)) 3 [2, 1]
  simp only [World.size_alloc] at nl
  go_wp2_with fail
  refine (ints_any f1 g1 [2, 1] (some ⟨v1.heap.size + 1, 0, none⟩) 2 [2, 1] (by simp) _ _ hZ.1.ints nl.ints).mono ?_
  rintro e v2 ⟨rfl, hB⟩
  replace hb : Hid (Below w.heap.size w v2) := hb.out.trans (hB.mono hb.out.size)
  replace p1 := p1.go hB
  replace hY := hY.go hB
  replace hZ := hZ.go hB
  replace p1_0 := p1.c0
  replace p1_1 := p1.c1
  replace p1_2 := p1.c2
  clear hB
  clear nl hY hZ
  rw [eqB_true rfl]
  go_wp2_with fail
  refine (check_no c1 sa1 sc1 sz1 da1 dc1 dz1 x1 x2 _ ((HI.out.1.1.below hb.out).mono hb.out.size) ((HI.out.2.1.below hb.out).mono hb.out.size) F1.out).mono ?_
  rintro e v3 ⟨rfl, hB⟩
  replace hb : Hid (Below w.heap.size w v3) := hb.out.trans (hB.mono hb.out.size)
  replace p1 := p1.go hB
  replace p1_0 := p1.c0
  replace p1_1 := p1.c1
  replace p1_2 := p1.c2
  clear hB
  go_wp2_with fail
  go_ret
  exact ⟨rfl, hb.out⟩
set_option maxRecDepth 100000 in
set_option maxHeartbeats 8000000 in
theorem corners_two (HF : CFl) (HR : CRv) (c1 : Bool) (sa1 : Option Addr) (sc1 : Nat) (sz1 : List Int) (da1 : Option Addr) (dc1 : Nat) (dz1 : List Int) (w : World) (w9 : IsArrC w sa1 sz1 sc1 da1 dz1) (F1 : Hid (flawE c1 sz1 dz1 = 0)) (L1 : Hid (sz1.length ≠ 2)) :
    Calls Try.prog 5 #[.agg #[.bool c1, .slice sa1 sz1.length sc1, .slice da1 dz1.length dc1]] w fun e w' => e = .returned (.bool true) ∧ Below w.heap.size w w' := by
  have tl : ((sz1.length : Int) != 2) = true := by simp; have := L1.out; omega
  obtain ⟨x1, x2, x3, x4, s64, T⟩ := w9
  have HI : Hid (IsC w.heap.size w sa1 sz1 sc1 ∧ IsInts w.heap.size w da1 dz1 ∧ ∀ j, In64 (nth dz1 j)) := ⟨x3, x4, T⟩
  clear x3 x4 T s64
  have p1 : Abx (w.alloc (.cells #[.bool c1, .slice sa1 sz1.length sc1, .slice da1 dz1.length dc1] 32)) w.heap.size (.bool c1) (.slice sa1 sz1.length sc1) (.slice da1 dz1.length dc1) := Abx.new w _ _ _
  have hb : Hid (Below w.heap.size w (w.alloc (.cells #[.bool c1, .slice sa1 sz1.length sc1, .slice da1 dz1.length dc1] 32))) := (Below.refl _ w).alloc (Nat.le_refl _) _
  have p1_0 := p1.c0
  have p1_1 := p1.c1
  have p1_2 := p1.c2
  have n0 : NewInts (w.alloc (.cells #[.bool c1, .slice sa1 sz1.length sc1, .slice da1 dz1.length dc1] 32)).heap.size ((((w.alloc (.cells #[.bool c1, .slice sa1 sz1.length sc1, .slice da1 dz1.length dc1] 32)).alloc (.cells #[.int .i64 1, .int .i64 0] 3)).alloc (.cells #[.int .i64 1, .int .i64 2] 3)).alloc (.cells #[.int .i64 1, .int .i64 2] 3)) (some ⟨(w.alloc (.cells #[.bool c1, .slice sa1 sz1.length sc1, .slice da1 dz1.length dc1] 32)).heap.size, 0, none⟩) [1, 0] := (((new_lit (w.alloc (.cells #[.bool c1, .slice sa1 sz1.length sc1, .slice da1 dz1.length dc1] 32)) 3 [1, 0]).al (.cells #[.int .i64 1, .int .i64 2] 3)).al (.cells #[.int .i64 1, .int .i64 2] 3))
  have n1 : NewInts ((w.alloc (.cells #[.bool c1, .slice sa1 sz1.length sc1, .slice da1 dz1.length dc1] 32)).alloc (.cells #[.int .i64 1, .int .i64 0] 3)).heap.size ((((w.alloc (.cells #[.bool c1, .slice sa1 sz1.length sc1, .slice da1 dz1.length dc1] 32)).alloc (.cells #[.int .i64 1, .int .i64 0] 3)).alloc (.cells #[.int .i64 1, .int .i64 2] 3)).alloc (.cells #[.int .i64 1, .int .i64 2] 3)) (some ⟨((w.alloc (.cells #[.bool c1, .slice sa1 sz1.length sc1, .slice da1 dz1.length dc1] 32)).alloc (.cells #[.int .i64 1, .int .i64 0] 3)).heap.size, 0, none⟩) [1, 2] := ((new_lit ((w.alloc (.cells #[.bool c1, .slice sa1 sz1.length sc1, .slice da1 dz1.length dc1] 32)).alloc (.cells #[.int .i64 1, .int .i64 0] 3)) 3 [1, 2]).al (.cells #[.int .i64 1, .int .i64 2] 3))
  have n2 : NewInts (((w.alloc (.cells #[.bool c1, .slice sa1 sz1.length sc1, .slice da1 dz1.length dc1] 32)).alloc (.cells #[.int .i64 1, .int .i64 0] 3)).alloc (.cells #[.int .i64 1, .int .i64 2] 3)).heap.size ((((w.alloc (.cells #[.bool c1, .slice sa1 sz1.length sc1, .slice da1 dz1.length dc1] 32)).alloc (.cells #[.int .i64 1, .int .i64 0] 3)).alloc (.cells #[.int .i64 1, .int .i64 2] 3)).alloc (.cells #[.int .i64 1, .int .i64 2] 3)) (some ⟨(((w.alloc (.cells #[.bool c1, .slice sa1 sz1.length sc1, .slice da1 dz1.length dc1] 32)).alloc (.cells #[.int .i64 1, .int .i64 0] 3)).alloc (.cells #[.int .i64 1, .int .i64 2] 3)).heap.size, 0, none⟩) [1, 2] := (new_lit (((w.alloc (.cells #[.bool c1, .slice sa1 sz1.length sc1, .slice da1 dz1.length dc1] 32)).alloc (.cells #[.int .i64 1, .int .i64 0] 3)).alloc (.cells #[.int .i64 1, .int .i64 2] 3)) 3 [1, 2])
  simp only [World.size_alloc] at n0 n1 n2
  replace hb : Hid (Below w.heap.size w ((w.alloc (.cells #[.bool c1, .slice sa1 sz1.length sc1, .slice da1 dz1.length dc1] 32)).alloc (.cells #[.int .i64 1, .int .i64 0] 3))) := hb.out.alloc hb.out.size _
  replace p1 := p1.al (.cells #[.int .i64 1, .int .i64 0] 3)
  replace p1_0 := p1.c0
  replace p1_1 := p1.c1
  replace p1_2 := p1.c2
  replace hb : Hid (Below w.heap.size w (((w.alloc (.cells #[.bool c1, .slice sa1 sz1.length sc1, .slice da1 dz1.length dc1] 32)).alloc (.cells #[.int .i64 1, .int .i64 0] 3)).alloc (.cells #[.int .i64 1, .int .i64 2] 3))) := hb.out.alloc hb.out.size _
  replace p1 := p1.al (.cells #[.int .i64 1, .int .i64 2] 3)
  replace p1_0 := p1.c0
  replace p1_1 := p1.c1
  replace p1_2 := p1.c2
  replace hb : Hid (Below w.heap.size w ((((w.alloc (.cells #[.bool c1, .slice sa1 sz1.length sc1, .slice da1 dz1.length dc1] 32)).alloc (.cells #[.int .i64 1, .int .i64 0] 3)).alloc (.cells #[.int .i64 1, .int .i64 2] 3)).alloc (.cells #[.int .i64 1, .int .i64 2] 3))) := hb.out.alloc hb.out.size _
  replace p1 := p1.al (.cells #[.int .i64 1, .int .i64 2] 3)
  replace p1_0 := p1.c0
  replace p1_1 := p1.c1
  replace p1_2 := p1.c2
  go_enter Try.func5, Try.ntmps5
  go_wp2_with fail
  refine (fl_ok false (some ⟨w.heap.size + 1 + 1, 0, none⟩) 2 [1, 2] (some ⟨w.heap.size + 1 + 1 + 1, 0, none⟩) 2 [1, 2] _ (by simp) (by simp) (n1.ints.c (by decide)) n2.ints (lit_all (by decide)) HF (some ⟨w.heap.size + 1, 0, none⟩) 2 [1, 0] (by simp) n0.ints (by decide)).mono ?_
  rintro e v1 ⟨f1, g1, f2, g2, he, hZ, hY, hB⟩
  replace hb : Hid (Below w.heap.size w v1) := hb.out.trans (hB.mono hb.out.size)
  replace p1 := p1.go hB
  replace p1_0 := p1.c0
  replace p1_1 := p1.c1
  replace p1_2 := p1.c2
  clear hB
  clear n0 n1 n2
  rw [fact_v, fact_s] at he
  rw [fact_v] at hY
  rw [fact_s] at hZ
  subst he
  replace hb : Hid (Below w.heap.size w (v1.alloc (.cells #[.bool false, .slice f1 2 g1, .slice f2 2 g2] 32))) := hb.out.alloc hb.out.size _
  replace p1 := p1.al (.cells #[.bool false, .slice f1 2 g1, .slice f2 2 g2] 32)
  replace hY := hY.al (.cells #[.bool false, .slice f1 2 g1, .slice f2 2 g2] 32)
  replace hZ := hZ.al (.cells #[.bool false, .slice f1 2 g1, .slice f2 2 g2] 32)
  replace p1_0 := p1.c0
  replace p1_1 := p1.c1
  replace p1_2 := p1.c2
  replace hb : Hid (Below w.heap.size w ((v1.alloc (.cells #[.bool false, .slice f1 2 g1, .slice f2 2 g2] 32)).alloc (.cells #[.int .i64 2, .int .i64 1] 3))) := hb.out.alloc hb.out.size _
  replace p1 := p1.al (.cells #[.int .i64 2, .int .i64 1] 3)
  replace hY := hY.al (.cells #[.int .i64 2, .int .i64 1] 3)
  replace hZ := hZ.al (.cells #[.int .i64 2, .int .i64 1] 3)
  replace p1_0 := p1.c0
  replace p1_1 := p1.c1
  replace p1_2 := p1.c2
  have nl := new_lit (v1.alloc (.cells #[.bool false, .slice f1 2 g1, .slice f2 2 g2] 32)) 3 [2, 1]
  simp only [World.size_alloc] at nl
  go_wp2_with fail
  refine (ints_any f1 g1 [2, 1] (some ⟨v1.heap.size + 1, 0, none⟩) 2 [2, 1] (by simp) _ _ hZ.1.ints nl.ints).mono ?_
  rintro e v2 ⟨rfl, hB⟩
  replace hb : Hid (Below w.heap.size w v2) := hb.out.trans (hB.mono hb.out.size)
  replace p1 := p1.go hB
  replace hY := hY.go hB
  replace hZ := hZ.go hB
  replace p1_0 := p1.c0
  replace p1_1 := p1.c1
  replace p1_2 := p1.c2
  clear hB
  clear nl hY hZ
  rw [eqB_true rfl]
  go_wp2_with fail
  refine (check_ok c1 sa1 sc1 sz1 da1 dc1 dz1 x1 x2 _ ((HI.out.1.1.below hb.out).mono hb.out.size) ((HI.out.2.1.below hb.out).mono hb.out.size) F1.out).mono ?_
  rintro e v3 ⟨rfl, hB⟩
  replace hb : Hid (Below w.heap.size w v3) := hb.out.trans (hB.mono hb.out.size)
  replace p1 := p1.go hB
  replace p1_0 := p1.c0
  replace p1_1 := p1.c1
  replace p1_2 := p1.c2
  clear hB
  go_wp2_with fail
  go_ret
  exact ⟨rfl, hb.out⟩
set_option maxRecDepth 100000 in
set_option maxHeartbeats 20000000 in
theorem corners_ok (HF : CFl) (HR : CRv) (c1 : Bool) (sa1 : Option Addr) (sc1 : Nat) (sz1 : List Int) (da1 : Option Addr) (dc1 : Nat) (dz1 : List Int) (w : World) (w9 : IsArrC w sa1 sz1 sc1 da1 dz1) (m n : Int) (F1 : Hid (flawE c1 sz1 dz1 = 0)) (L1 : Hid (sz1 = [m, n])) :
    Calls Try.prog 5 #[.agg #[.bool c1, .slice sa1 sz1.length sc1, .slice da1 dz1.length dc1]] w fun e w' => e = .returned (.bool true) ∧ Below w.heap.size w w' := by
  have tl : ((sz1.length : Int) != 2) = false := by simp; have h := congrArg List.length L1.out; simp at h; omega
  have HF2 : Hid (flawE c1 [m, n] dz1 = 0) := by show _ = _; rw [← L1.out]; exact F1.out
  obtain ⟨x1, x2, x3, x4, s64, T⟩ := w9
  have HI : Hid (IsC w.heap.size w sa1 sz1 sc1 ∧ IsInts w.heap.size w da1 dz1 ∧ ∀ j, In64 (nth dz1 j)) := ⟨x3, x4, T⟩
  clear x3 x4 T s64
  have p1 : Abx (w.alloc (.cells #[.bool c1, .slice sa1 sz1.length sc1, .slice da1 dz1.length dc1] 32)) w.heap.size (.bool c1) (.slice sa1 sz1.length sc1) (.slice da1 dz1.length dc1) := Abx.new w _ _ _
  have hb : Hid (Below w.heap.size w (w.alloc (.cells #[.bool c1, .slice sa1 sz1.length sc1, .slice da1 dz1.length dc1] 32))) := (Below.refl _ w).alloc (Nat.le_refl _) _
  have p1_0 := p1.c0
  have p1_1 := p1.c1
  have p1_2 := p1.c2
  have n0 : NewInts (w.alloc (.cells #[.bool c1, .slice sa1 sz1.length sc1, .slice da1 dz1.length dc1] 32)).heap.size ((((w.alloc (.cells #[.bool c1, .slice sa1 sz1.length sc1, .slice da1 dz1.length dc1] 32)).alloc (.cells #[.int .i64 1, .int .i64 0] 3)).alloc (.cells #[.int .i64 1, .int .i64 2] 3)).alloc (.cells #[.int .i64 1, .int .i64 2] 3)) (some ⟨(w.alloc (.cells #[.bool c1, .slice sa1 sz1.length sc1, .slice da1 dz1.length dc1] 32)).heap.size, 0, none⟩) [1, 0] := (((new_lit (w.alloc (.cells #[.bool c1, .slice sa1 sz1.length sc1, .slice da1 dz1.length dc1] 32)) 3 [1, 0]).al (.cells #[.int .i64 1, .int .i64 2] 3)).al (.cells #[.int .i64 1, .int .i64 2] 3))
  have n1 : NewInts ((w.alloc (.cells #[.bool c1, .slice sa1 sz1.length sc1, .slice da1 dz1.length dc1] 32)).alloc (.cells #[.int .i64 1, .int .i64 0] 3)).heap.size ((((w.alloc (.cells #[.bool c1, .slice sa1 sz1.length sc1, .slice da1 dz1.length dc1] 32)).alloc (.cells #[.int .i64 1, .int .i64 0] 3)).alloc (.cells #[.int .i64 1, .int .i64 2] 3)).alloc (.cells #[.int .i64 1, .int .i64 2] 3)) (some ⟨((w.alloc (.cells #[.bool c1, .slice sa1 sz1.length sc1, .slice da1 dz1.length dc1] 32)).alloc (.cells #[.int .i64 1, .int .i64 0] 3)).heap.size, 0, none⟩) [1, 2] := ((new_lit ((w.alloc (.cells #[.bool c1, .slice sa1 sz1.length sc1, .slice da1 dz1.length dc1] 32)).alloc (.cells #[.int .i64 1, .int .i64 0] 3)) 3 [1, 2]).al (.cells #[.int .i64 1, .int .i64 2] 3))
  have n2 : NewInts (((w.alloc (.cells #[.bool c1, .slice sa1 sz1.length sc1, .slice da1 dz1.length dc1] 32)).alloc (.cells #[.int .i64 1, .int .i64 0] 3)).alloc (.cells #[.int .i64 1, .int .i64 2] 3)).heap.size ((((w.alloc (.cells #[.bool c1, .slice sa1 sz1.length sc1, .slice da1 dz1.length dc1] 32)).alloc (.cells #[.int .i64 1, .int .i64 0] 3)).alloc (.cells #[.int .i64 1, .int .i64 2] 3)).alloc (.cells #[.int .i64 1, .int .i64 2] 3)) (some ⟨(((w.alloc (.cells #[.bool c1, .slice sa1 sz1.length sc1, .slice da1 dz1.length dc1] 32)).alloc (.cells #[.int .i64 1, .int .i64 0] 3)).alloc (.cells #[.int .i64 1, .int .i64 2] 3)).heap.size, 0, none⟩) [1, 2] := (new_lit (((w.alloc (.cells #[.bool c1, .slice sa1 sz1.length sc1, .slice da1 dz1.length dc1] 32)).alloc (.cells #[.int .i64 1, .int .i64 0] 3)).alloc (.cells #[.int .i64 1, .int .i64 2] 3)) 3 [1, 2])
  simp only [World.size_alloc] at n0 n1 n2
  replace hb : Hid (Below w.heap.size w ((w.alloc (.cells #[.bool c1, .slice sa1 sz1.length sc1, .slice da1 dz1.length dc1] 32)).alloc (.cells #[.int .i64 1, .int .i64 0] 3))) := hb.out.alloc hb.out.size _
  replace p1 := p1.al (.cells #[.int .i64 1, .int .i64 0] 3)
  replace p1_0 := p1.c0
  replace p1_1 := p1.c1
  replace p1_2 := p1.c2
  replace hb : Hid (Below w.heap.size w (((w.alloc (.cells #[.bool c1, .slice sa1 sz1.length sc1, .slice da1 dz1.length dc1] 32)).alloc (.cells #[.int .i64 1, .int .i64 0] 3)).alloc (.cells #[.int .i64 1, .int .i64 2] 3))) := hb.out.alloc hb.out.size _
  replace p1 := p1.al (.cells #[.int .i64 1, .int .i64 2] 3)
  replace p1_0 := p1.c0
  replace p1_1 := p1.c1
  replace p1_2 := p1.c2
  replace hb : Hid (Below w.heap.size w ((((w.alloc (.cells #[.bool c1, .slice sa1 sz1.length sc1, .slice da1 dz1.length dc1] 32)).alloc (.cells #[.int .i64 1, .int .i64 0] 3)).alloc (.cells #[.int .i64 1, .int .i64 2] 3)).alloc (.cells #[.int .i64 1, .int .i64 2] 3))) := hb.out.alloc hb.out.size _
  replace p1 := p1.al (.cells #[.int .i64 1, .int .i64 2] 3)
  replace p1_0 := p1.c0
  replace p1_1 := p1.c1
  replace p1_2 := p1.c2
  go_enter Try.func5, Try.ntmps5
  go_wp2_with fail
  refine (fl_ok false (some ⟨w.heap.size + 1 + 1, 0, none⟩) 2 [1, 2] (some ⟨w.heap.size + 1 + 1 + 1, 0, none⟩) 2 [1, 2] _ (by simp) (by simp) (n1.ints.c (by decide)) n2.ints (lit_all (by decide)) HF (some ⟨w.heap.size + 1, 0, none⟩) 2 [1, 0] (by simp) n0.ints (by decide)).mono ?_
  rintro e v1 ⟨f1, g1, f2, g2, he, hZ, hY, hB⟩
  replace hb : Hid (Below w.heap.size w v1) := hb.out.trans (hB.mono hb.out.size)
  replace p1 := p1.go hB
  replace p1_0 := p1.c0
  replace p1_1 := p1.c1
  replace p1_2 := p1.c2
  clear hB
  clear n0 n1 n2
  rw [fact_v, fact_s] at he
  rw [fact_v] at hY
  rw [fact_s] at hZ
  subst he
  replace hb : Hid (Below w.heap.size w (v1.alloc (.cells #[.bool false, .slice f1 2 g1, .slice f2 2 g2] 32))) := hb.out.alloc hb.out.size _
  replace p1 := p1.al (.cells #[.bool false, .slice f1 2 g1, .slice f2 2 g2] 32)
  replace hY := hY.al (.cells #[.bool false, .slice f1 2 g1, .slice f2 2 g2] 32)
  replace hZ := hZ.al (.cells #[.bool false, .slice f1 2 g1, .slice f2 2 g2] 32)
  replace p1_0 := p1.c0
  replace p1_1 := p1.c1
  replace p1_2 := p1.c2
  replace hb : Hid (Below w.heap.size w ((v1.alloc (.cells #[.bool false, .slice f1 2 g1, .slice f2 2 g2] 32)).alloc (.cells #[.int .i64 2, .int .i64 1] 3))) := hb.out.alloc hb.out.size _
  replace p1 := p1.al (.cells #[.int .i64 2, .int .i64 1] 3)
  replace hY := hY.al (.cells #[.int .i64 2, .int .i64 1] 3)
  replace hZ := hZ.al (.cells #[.int .i64 2, .int .i64 1] 3)
  replace p1_0 := p1.c0
  replace p1_1 := p1.c1
  replace p1_2 := p1.c2
  have nl := new_lit (v1.alloc (.cells #[.bool false, .slice f1 2 g1, .slice f2 2 g2] 32)) 3 [2, 1]
  simp only [World.size_alloc] at nl
  go_wp2_with fail
  refine (ints_any f1 g1 [2, 1] (some ⟨v1.heap.size + 1, 0, none⟩) 2 [2, 1] (by simp) _ _ hZ.1.ints nl.ints).mono ?_
  rintro e v2 ⟨rfl, hB⟩
  replace hb : Hid (Below w.heap.size w v2) := hb.out.trans (hB.mono hb.out.size)
  replace p1 := p1.go hB
  replace hY := hY.go hB
  replace hZ := hZ.go hB
  replace p1_0 := p1.c0
  replace p1_1 := p1.c1
  replace p1_2 := p1.c2
  clear hB
  clear nl hY hZ
  rw [eqB_true rfl]
  go_wp2_with fail
  refine (check_ok c1 sa1 sc1 sz1 da1 dc1 dz1 x1 x2 _ ((HI.out.1.1.below hb.out).mono hb.out.size) ((HI.out.2.1.below hb.out).mono hb.out.size) F1.out).mono ?_
  rintro e v3 ⟨rfl, hB⟩
  replace hb : Hid (Below w.heap.size w v3) := hb.out.trans (hB.mono hb.out.size)
  replace p1 := p1.go hB
  replace p1_0 := p1.c0
  replace p1_1 := p1.c1
  replace p1_2 := p1.c2
  clear hB
  have hB0 : w.heap.size ≤ v3.heap.size := hb.out.size
  have hB1 : w.heap.size < v3.heap.size := p1.lt
  have q_0 := p1_0
  have q_1 := p1_1
  have q_2 := p1_2
  replace hb : Hid (Below w.heap.size w (v3.alloc (.cells #[.bool c1, .slice sa1 sz1.length sc1, .slice da1 dz1.length dc1] 32))) := hb.out.alloc hb.out.size _
  replace p1 := p1.al (.cells #[.bool c1, .slice sa1 sz1.length sc1, .slice da1 dz1.length dc1] 32)
  replace p1_0 := p1.c0
  replace p1_1 := p1.c1
  replace p1_2 := p1.c2
  have HX0 : Hid (Abx (v3.alloc (.cells #[.bool c1, .slice sa1 sz1.length sc1, .slice da1 dz1.length dc1] 32)) v3.heap.size (.bool c1) (.slice sa1 sz1.length sc1) (.slice da1 dz1.length dc1)) := Abx.new v3 _ _ _
  have HP0 : Hid (Abx (v3.alloc (.cells #[.bool c1, .slice sa1 sz1.length sc1, .slice da1 dz1.length dc1] 32)) w.heap.size (.bool c1) (.slice sa1 sz1.length sc1) (.slice da1 dz1.length dc1)) := p1
  have HU : Hid (v3.heap.size ≤ (v3.alloc (.cells #[.bool c1, .slice sa1 sz1.length sc1, .slice da1 dz1.length dc1] 32)).heap.size ∧ w.heap.size ≤ (v3.alloc (.cells #[.bool c1, .slice sa1 sz1.length sc1, .slice da1 dz1.length dc1] 32)).heap.size) := ⟨by simp, hb.out.size⟩
  clear p1
  go_wp2_with fail
  clear q_0 q_1 q_2 p1_0 p1_1 p1_2
  go_loopw [7] (fun i wx => ∃ (k : Nat) (xa : Option Addr) (xc : Nat) (ya : Option Addr) (yc : Nat), k ≤ 4 ∧ i = .int .i64 k ∧ Abx wx w.heap.size (.bool c1) (.slice sa1 sz1.length sc1) (.slice da1 dz1.length dc1) ∧ Abx wx v3.heap.size (.bool c1) (.slice xa (cS m n k).length xc) (.slice ya (cD m n dz1 k).length yc) ∧ (OffI (v3.heap.size) wx xa (cS m n k) ∧ (cS m n k).length ≤ xc) ∧ OffI (v3.heap.size) wx ya (cD m n dz1 k) ∧ v3.heap.size < wx.heap.size ∧ Below w.heap.size w wx) (fun i _ => 4 - (intOf i).toNat)
  case atStart =>
    refine ⟨0, sa1, sc1, da1, dc1, by omega, rfl, HP0.out, ?_, ?_, ?_, HX0.out.lt, hb.out⟩
    · show Abx _ _ _ (.slice sa1 [m, n].length sc1) _
      rw [← L1.out]; exact HX0.out
    · show OffI _ _ sa1 [m, n] ∧ [m, n].length ≤ sc1
      rw [← L1.out]; exact ⟨OffI.of_ints (HI.out.1.1.below hb.out) (by omega) HU.out.2, HI.out.1.2⟩
    · exact OffI.of_ints (HI.out.2.1.below hb.out) (by omega) HU.out.2
  case round =>
    obtain ⟨k, xa, xc, ya, yc, hk, rfl, hP, hX, hO, hO', hsz, hBx⟩ := hrel
    have HBx : Hid (Below w.heap.size w wr) := hBx
    by_cases hlt : k < 4
    · have hb : Hid (Below w.heap.size w wr) := hBx
      have p1 := hP
      have p1_0 := p1.c0
      have p1_1 := p1.c1
      have p1_2 := p1.c2
      have bx := hX
      have bx_0 := bx.c0
      have bx_1 := bx.c1
      have bx_2 := bx.c2
      have HO : Hid ((OffI (v3.heap.size) wr xa (cS m n k) ∧ (cS m n k).length ≤ xc) ∧ OffI (v3.heap.size) wr ya (cD m n dz1 k)) := ⟨hO, hO'⟩
      clear hP hX hO hO' hBx
      replace hb : Hid (Below w.heap.size w (wr.alloc (.cells #[.int .i64 1, .int .i64 0] 3))) := hb.out.alloc hb.out.size _
      replace p1 := p1.al (.cells #[.int .i64 1, .int .i64 0] 3)
      replace bx := bx.al (.cells #[.int .i64 1, .int .i64 0] 3)
      replace p1_0 := p1.c0
      replace p1_1 := p1.c1
      replace p1_2 := p1.c2
      replace bx_0 := bx.c0
      replace bx_1 := bx.c1
      replace bx_2 := bx.c2
      have nl := new_lit wr 3 [1, 0]
      have HOi : Hid (IsC ((wr.alloc (.cells #[.int .i64 1, .int .i64 0] 3))).heap.size ((wr.alloc (.cells #[.int .i64 1, .int .i64 0] 3))) xa (cS m n k) xc ∧ IsInts ((wr.alloc (.cells #[.int .i64 1, .int .i64 0] 3))).heap.size ((wr.alloc (.cells #[.int .i64 1, .int .i64 0] 3))) ya (cD m n dz1 k)) := ⟨⟨(HO.out.1.1.ints.below ((Below.refl _ wr).alloc (Nat.le_refl _) _)).mono (by simp), HO.out.1.2⟩, (HO.out.2.ints.below ((Below.refl _ wr).alloc (Nat.le_refl _) _)).mono (by simp)⟩
      go_wp2_with fail
      refine (corner_fl HF HF2.out HI.out.2.2 k (some ⟨wr.heap.size, 0, none⟩) 2 xa xc ya yc _ nl.ints HOi.out.1 HOi.out.2).mono ?_
      rintro e v11 ⟨ea, ec, ha, hc, rfl, hE, hH, hB⟩
      replace hb : Hid (Below w.heap.size w v11) := hb.out.trans (hB.mono hb.out.size)
      replace p1 := p1.go hB
      replace bx := bx.go hB
      replace p1_0 := p1.c0
      replace p1_1 := p1.c1
      replace p1_2 := p1.c2
      replace bx_0 := bx.c0
      replace bx_1 := bx.c1
      replace bx_2 := bx.c2
      clear hB
      clear nl HOi
      replace hb : Hid (Below w.heap.size w (v11.alloc (.cells #[.bool c1, .slice ea (cS m n (k + 1)).length ec, .slice ha (cF m n dz1 k).length hc] 32))) := hb.out.alloc hb.out.size _
      replace p1 := p1.al (.cells #[.bool c1, .slice ea (cS m n (k + 1)).length ec, .slice ha (cF m n dz1 k).length hc] 32)
      replace bx := bx.al (.cells #[.bool c1, .slice ea (cS m n (k + 1)).length ec, .slice ha (cF m n dz1 k).length hc] 32)
      replace hE := hE.al (.cells #[.bool c1, .slice ea (cS m n (k + 1)).length ec, .slice ha (cF m n dz1 k).length hc] 32)
      replace hH := hH.al (.cells #[.bool c1, .slice ea (cS m n (k + 1)).length ec, .slice ha (cF m n dz1 k).length hc] 32)
      replace p1_0 := p1.c0
      replace p1_1 := p1.c1
      replace p1_2 := p1.c2
      replace bx_0 := bx.c0
      replace bx_1 := bx.c1
      replace bx_2 := bx.c2
      have b2 := Abx.new v11 (.bool c1) (.slice ea (cS m n (k + 1)).length ec) (.slice ha (cF m n dz1 k).length hc)
      have b2_0 := b2.c0
      have b2_1 := b2.c1
      have b2_2 := b2.c2
      go_wp2_with fail
      have hlo := bx.lt
      refine (corner_rv HR HF2.out HI.out.2.2 k ea ec ha hc _ hE.ints hH.ints).mono ?_
      rintro e v12 ⟨ia, ic, ja, jc, rfl, hI3, hJ3, hB⟩
      replace hb : Hid (Below w.heap.size w v12) := hb.out.trans (hB.mono hb.out.size)
      replace p1 := p1.go hB
      replace bx := bx.go hB
      replace hE := hE.go hB
      replace hH := hH.go hB
      replace b2 := b2.go hB
      replace p1_0 := p1.c0
      replace p1_1 := p1.c1
      replace p1_2 := p1.c2
      replace bx_0 := bx.c0
      replace bx_1 := bx.c1
      replace bx_2 := bx.c2
      replace b2_0 := b2.c0
      replace b2_1 := b2.c1
      replace b2_2 := b2.c2
      clear hB
      replace hb : Hid (Below w.heap.size w (v12.alloc (.cells #[.bool c1, .slice ia (cS m n (k + 1)).length ic, .slice ja (cD m n dz1 (k + 1)).length jc] 32))) := hb.out.alloc hb.out.size _
      replace p1 := p1.al (.cells #[.bool c1, .slice ia (cS m n (k + 1)).length ic, .slice ja (cD m n dz1 (k + 1)).length jc] 32)
      replace bx := bx.al (.cells #[.bool c1, .slice ia (cS m n (k + 1)).length ic, .slice ja (cD m n dz1 (k + 1)).length jc] 32)
      replace hE := hE.al (.cells #[.bool c1, .slice ia (cS m n (k + 1)).length ic, .slice ja (cD m n dz1 (k + 1)).length jc] 32)
      replace hH := hH.al (.cells #[.bool c1, .slice ia (cS m n (k + 1)).length ic, .slice ja (cD m n dz1 (k + 1)).length jc] 32)
      replace b2 := b2.al (.cells #[.bool c1, .slice ia (cS m n (k + 1)).length ic, .slice ja (cD m n dz1 (k + 1)).length jc] 32)
      replace hI3 := hI3.al (.cells #[.bool c1, .slice ia (cS m n (k + 1)).length ic, .slice ja (cD m n dz1 (k + 1)).length jc] 32)
      replace hJ3 := hJ3.al (.cells #[.bool c1, .slice ia (cS m n (k + 1)).length ic, .slice ja (cD m n dz1 (k + 1)).length jc] 32)
      replace p1_0 := p1.c0
      replace p1_1 := p1.c1
      replace p1_2 := p1.c2
      replace bx_0 := bx.c0
      replace bx_1 := bx.c1
      replace bx_2 := bx.c2
      replace b2_0 := b2.c0
      replace b2_1 := b2.c1
      replace b2_2 := b2.c2
      have b3 := Abx.new v12 (.bool c1) (.slice ia (cS m n (k + 1)).length ic) (.slice ja (cD m n dz1 (k + 1)).length jc)
      have b3_0 := b3.c0
      have b3_1 := b3.c1
      have b3_2 := b3.c2
      have z0 := bx.fr 0
      have z1 := bx.fr 1
      have z2 := bx.fr 2
      go_wp2_with fail
      exact ⟨⟨k + 1, ia, ic, ja, jc, by omega, by go_num, p1.ot3 hB1 _ _ _, bx.set3 _ _ _, ⟨OffI.of_new (hI3.1.set3 hlo _ _ _) hlo, hI3.2⟩, OffI.of_new (hJ3.set3 hlo _ _ _) hlo, by rw [size_set3]; exact bx.lt, bel_set3 hb.out hB0 _ _ _⟩, by simp [intOf]; omega⟩
    · obtain rfl : k = 4 := by omega
      have hb : Hid (Below w.heap.size w wr) := hBx
      have p1 := hP
      have p1_0 := p1.c0
      have p1_1 := p1.c1
      have p1_2 := p1.c2
      have y0 := hX.c0
      have y1 := hX.c1
      have y2 := hX.c2
      have HO : Hid (IsInts wr.heap.size wr xa (cS m n 4) ∧ IsInts wr.heap.size wr ya (cD m n dz1 4)) := ⟨hO.1.ints, hO'.ints⟩
      clear hP hX hO hO' hBx
      go_wp2_with fail
      refine (corner_sa c1 m n HF2.out L1.out xa xc ya yc sa1 sc1 da1 dc1 _ HO.out.1 HO.out.2 ((HI.out.1.1.below hb.out).mono hb.out.size) ((HI.out.2.1.below hb.out).mono hb.out.size)).mono ?_
      rintro e v21 ⟨rfl, hB⟩
      replace hb : Hid (Below w.heap.size w v21) := hb.out.trans (hB.mono hb.out.size)
      replace p1 := p1.go hB
      replace p1_0 := p1.c0
      replace p1_1 := p1.c1
      replace p1_2 := p1.c2
      clear hB
      clear HO y0 y1 y2
      go_wp2_with fail
      refine (rv_ok c1 sa1 sc1 sz1 da1 dc1 dz1 _ x1 x2 ((HI.out.1.below hb.out).mono hb.out.size) ((HI.out.2.1.below hb.out).mono hb.out.size) HI.out.2.2 HR 0 (by unfold In64; decide) (corner_ax L1.out F1.out).1).mono ?_
      rintro e v22 ⟨xa5, xc5, ya5, yc5, rfl, hX5, hY5, hB⟩
      replace hb : Hid (Below w.heap.size w v22) := hb.out.trans (hB.mono hb.out.size)
      replace p1 := p1.go hB
      replace p1_0 := p1.c0
      replace p1_1 := p1.c1
      replace p1_2 := p1.c2
      clear hB
      have l_p1 := p1.lt
      have l_s := hb.out.size
      replace hb : Hid (Below w.heap.size w (v22.alloc (.cells #[.bool c1, .slice xa5 (sz1).length xc5, .slice ya5 (rvG 0 sz1 dz1).length yc5] 32))) := hb.out.alloc hb.out.size _
      replace p1 := p1.al (.cells #[.bool c1, .slice xa5 (sz1).length xc5, .slice ya5 (rvG 0 sz1 dz1).length yc5] 32)
      replace hX5 := hX5.al (.cells #[.bool c1, .slice xa5 (sz1).length xc5, .slice ya5 (rvG 0 sz1 dz1).length yc5] 32)
      replace hY5 := hY5.al (.cells #[.bool c1, .slice xa5 (sz1).length xc5, .slice ya5 (rvG 0 sz1 dz1).length yc5] 32)
      replace p1_0 := p1.c0
      replace p1_1 := p1.c1
      replace p1_2 := p1.c2
      have b5 := Abx.new v22 (.bool c1) (.slice xa5 (sz1).length xc5) (.slice ya5 (rvG 0 sz1 dz1).length yc5)
      have b5_0 := b5.c0
      have b5_1 := b5.c1
      have b5_2 := b5.c2
      replace hb : Hid (Below w.heap.size w ((v22.alloc (.cells #[.bool c1, .slice xa5 (sz1).length xc5, .slice ya5 (rvG 0 sz1 dz1).length yc5] 32)).alloc (.cells #[.int .i64 1, .int .i64 0] 3))) := hb.out.alloc hb.out.size _
      replace p1 := p1.al (.cells #[.int .i64 1, .int .i64 0] 3)
      replace hX5 := hX5.al (.cells #[.int .i64 1, .int .i64 0] 3)
      replace hY5 := hY5.al (.cells #[.int .i64 1, .int .i64 0] 3)
      replace b5 := b5.al (.cells #[.int .i64 1, .int .i64 0] 3)
      replace p1_0 := p1.c0
      replace p1_1 := p1.c1
      replace p1_2 := p1.c2
      replace b5_0 := b5.c0
      replace b5_1 := b5.c1
      replace b5_2 := b5.c2
      have nl := new_lit (v22.alloc (.cells #[.bool c1, .slice xa5 (sz1).length xc5, .slice ya5 (rvG 0 sz1 dz1).length yc5] 32)) 3 [1, 0]
      simp only [World.size_alloc] at nl
      go_wp2_with fail
      have hlo5 := b5.lt
      refine (fl_ok c1 xa5 xc5 sz1 ya5 yc5 (rvG 0 sz1 dz1) _ x1 (tu_len (corner_ax L1.out F1.out).2.1).2 hX5.ints hY5.ints (GA_64 HI.out.2.2) HF (some ⟨v22.heap.size + 1, 0, none⟩) 2 [1, 0] (by simp) nl.ints (corner_ax L1.out F1.out).2.2.1).mono ?_
      rintro e v23 ⟨xa6, xc6, ya6, yc6, rfl, hX6, hY6, hB⟩
      replace hb : Hid (Below w.heap.size w v23) := hb.out.trans (hB.mono hb.out.size)
      replace p1 := p1.go hB
      replace hX5 := hX5.go hB
      replace hY5 := hY5.go hB
      replace b5 := b5.go hB
      replace p1_0 := p1.c0
      replace p1_1 := p1.c1
      replace p1_2 := p1.c2
      replace b5_0 := b5.c0
      replace b5_1 := b5.c1
      replace b5_2 := b5.c2
      clear hB
      clear nl hX5 hY5
      have N_p1 := p1.ot3 l_p1 (.bool c1) (.slice xa6 (axVal sz1 [1, 0]).length xc6) (.slice ya6 (flG [1, 0] sz1 (rvG 0 sz1 dz1)).length yc6)
      have N_b5 := b5.set3 (.bool c1) (.slice xa6 (axVal sz1 [1, 0]).length xc6) (.slice ya6 (flG [1, 0] sz1 (rvG 0 sz1 dz1)).length yc6)
      have N_X6 := hX6.set3 hlo5 (.bool c1) (.slice xa6 (axVal sz1 [1, 0]).length xc6) (.slice ya6 (flG [1, 0] sz1 (rvG 0 sz1 dz1)).length yc6)
      have N_Y6 := hY6.set3 hlo5 (.bool c1) (.slice xa6 (axVal sz1 [1, 0]).length xc6) (.slice ya6 (flG [1, 0] sz1 (rvG 0 sz1 dz1)).length yc6)
      have N_hb : Hid (Below w.heap.size w _) := bel_set3 hb.out l_s (.bool c1) (.slice xa6 (axVal sz1 [1, 0]).length xc6) (.slice ya6 (flG [1, 0] sz1 (rvG 0 sz1 dz1)).length yc6)
      have z0 := b5.fr 0
      have z1 := b5.fr 1
      have z2 := b5.fr 2
      have N0 := N_p1.c0
      have N1 := N_p1.c1
      have N2 := N_p1.c2
      have nl := new_lit (((v23.setCell ⟨v22.heap.size, 0, none⟩ (.bool c1)).setCell ⟨v22.heap.size, 1, none⟩ (.slice xa6 (axVal sz1 [1, 0]).length xc6)).setCell ⟨v22.heap.size, 2, none⟩ (.slice ya6 (flG [1, 0] sz1 (rvG 0 sz1 dz1)).length yc6)) 3 [1, 0]
      rw [size_set3] at nl
      have M_p1 := N_p1.al (.cells #[.int .i64 1, .int .i64 0] 3)
      have M_b5 := N_b5.al (.cells #[.int .i64 1, .int .i64 0] 3)
      have M_X6 := N_X6.al (.cells #[.int .i64 1, .int .i64 0] 3)
      have M_Y6 := N_Y6.al (.cells #[.int .i64 1, .int .i64 0] 3)
      have M_hb : Hid (Below w.heap.size w ((((v23.setCell ⟨v22.heap.size, 0, none⟩ (.bool c1)).setCell ⟨v22.heap.size, 1, none⟩ (.slice xa6 (axVal sz1 [1, 0]).length xc6)).setCell ⟨v22.heap.size, 2, none⟩ (.slice ya6 (flG [1, 0] sz1 (rvG 0 sz1 dz1)).length yc6)).alloc (.cells #[.int .i64 1, .int .i64 0] 3))) := N_hb.out.alloc N_hb.out.size _
      have M0 := M_p1.c0
      have M1 := M_p1.c1
      have M2 := M_p1.c2
      go_wp2_with fail
      refine (fl_ok c1 sa1 sc1 sz1 da1 dc1 dz1 _ x1 x2 ((HI.out.1.below M_hb.out).mono M_hb.out.size) ((HI.out.2.1.below M_hb.out).mono M_hb.out.size) HI.out.2.2 HF (some ⟨v23.heap.size, 0, none⟩) 2 [1, 0] (by simp) nl.ints (corner_ax L1.out F1.out).2.2.2.1).mono ?_
      rintro e v24 ⟨xa7, xc7, ya7, yc7, rfl, hX7, hY7, hB⟩
      have hb24 : Hid (Below w.heap.size w v24) := M_hb.out.trans (hB.mono M_hb.out.size)
      have B5x : Hid (Abx v24 v22.heap.size (.bool c1) (.slice xa6 (axVal sz1 [1, 0]).length xc6) (.slice ya6 (flG [1, 0] sz1 (rvG 0 sz1 dz1)).length yc6)) := M_b5.go hB
      have I6 : Hid (IsC v24.heap.size v24 xa6 (axVal sz1 [1, 0]) xc6 ∧ IsInts v24.heap.size v24 ya6 (flG [1, 0] sz1 (rvG 0 sz1 dz1))) := ⟨(M_X6.go hB).ints, (M_Y6.go hB).ints⟩
      have X7 : Hid (NewC _ (v24.alloc (.cells #[.bool c1, .slice xa7 (axVal sz1 [1, 0]).length xc7, .slice ya7 (flG [1, 0] sz1 dz1).length yc7] 32)) xa7 (axVal sz1 [1, 0]) xc7 ∧ NewInts _ (v24.alloc (.cells #[.bool c1, .slice xa7 (axVal sz1 [1, 0]).length xc7, .slice ya7 (flG [1, 0] sz1 dz1).length yc7] 32)) ya7 (flG [1, 0] sz1 dz1)) := ⟨hX7.al _, hY7.al _⟩
      have b7 := Abx.new v24 (.bool c1) (.slice xa7 (axVal sz1 [1, 0]).length xc7) (.slice ya7 (flG [1, 0] sz1 dz1).length yc7)
      have c0 := b7.c0
      have c1q := b7.c1
      have c2q := b7.c2
      clear hB hX7 hY7 nl M0 M1 M2 N0 N1 N2 z0 z1 z2 M_p1 M_b5 M_X6 M_Y6 N_p1 N_b5 N_X6 N_Y6 b5 p1 b5_0 b5_1 b5_2 p1_0 p1_1 p1_2 hX6 hY6
      go_wp2_with fail
      have hf7 := (axE_zero.1 (corner_ax L1.out F1.out).2.2.2.2.1).1
      have HF7 : Hid (_ ≤ _ ∧ _ ≤ _) := tu_len hf7
      clear hf7
      refine (rv_ok c1 xa7 xc7 (axVal sz1 [1, 0]) ya7 yc7 (flG [1, 0] sz1 dz1) _ HF7.out.1 HF7.out.2 X7.out.1.ints X7.out.2.ints (GA_64 HI.out.2.2) HR 1 (by unfold In64; decide) (corner_ax L1.out F1.out).2.2.2.2.1).mono ?_
      rintro e v25 ⟨xa8, xc8, ya8, yc8, rfl, hX8, hY8, hB⟩
      have b8 := b7.go hB
      have e0 := b8.c0
      have e1 := b8.c1
      have e2 := b8.c2
      have z0 := b8.fr 0
      have z1 := b8.fr 1
      have z2 := b8.fr 2
      have HB25 : Hid (Below v24.heap.size v24 (((v25.setCell ⟨v24.heap.size, 0, none⟩ (.bool c1)).setCell ⟨v24.heap.size, 1, none⟩ (.slice xa8 (axVal sz1 [1, 0]).length xc8)).setCell ⟨v24.heap.size, 2, none⟩ (.slice ya8 (rvG 1 (axVal sz1 [1, 0]) (flG [1, 0] sz1 dz1)).length yc8))) := bel_set3 (((Below.refl _ v24).alloc (Nat.le_refl _) _).trans (hB.mono (by simp))) (Nat.le_refl _) (.bool c1) (.slice xa8 (axVal sz1 [1, 0]).length xc8) (.slice ya8 (rvG 1 (axVal sz1 [1, 0]) (flG [1, 0] sz1 dz1)).length yc8)
      have N_b7 := b8.set3 (.bool c1) (.slice xa8 (axVal sz1 [1, 0]).length xc8) (.slice ya8 (rvG 1 (axVal sz1 [1, 0]) (flG [1, 0] sz1 dz1)).length yc8)
      have N_b5 := B5x.out.go HB25.out
      have N_X8 := hX8.set3 (b := v24.heap.size) (by simp) (.bool c1) (.slice xa8 (axVal sz1 [1, 0]).length xc8) (.slice ya8 (rvG 1 (axVal sz1 [1, 0]) (flG [1, 0] sz1 dz1)).length yc8)
      have N_Y8 := hY8.set3 (b := v24.heap.size) (by simp) (.bool c1) (.slice xa8 (axVal sz1 [1, 0]).length xc8) (.slice ya8 (rvG 1 (axVal sz1 [1, 0]) (flG [1, 0] sz1 dz1)).length yc8)
      have g0 := N_b5.c0
      have g1 := N_b5.c1
      have g2 := N_b5.c2
      have h0 := N_b7.c0
      have h1 := N_b7.c1
      have h2 := N_b7.c2
      clear c0 c1q c2q hB
      go_wp2_with fail
      have hl6 := tu_len (fl_flaw (corner_ax L1.out F1.out).2.2.1)
      refine (alike_eq c1 xa6 xc6 (axVal sz1 [1, 0]) ya6 yc6 (flG [1, 0] sz1 (rvG 0 sz1 dz1)) xa8 xc8 (axVal sz1 [1, 0]) ya8 yc8 (rvG 1 (axVal sz1 [1, 0]) (flG [1, 0] sz1 dz1)) rfl (corner_ax L1.out F1.out).2.2.2.2.2 hl6.1 hl6.2 _ ((I6.out.1.below HB25.out).mono HB25.out.size) ((I6.out.2.below HB25.out).mono HB25.out.size) N_X8.ints N_Y8.ints).mono ?_
      rintro e v26 ⟨rfl, hBz⟩
      have hbz : Hid (Below w.heap.size w v26) := hb24.out.trans ((HB25.out.trans (hBz.mono HB25.out.size)).mono hb24.out.size)
      clear hBz
      go_wp2_with fail
      go_ret
      exact ⟨rfl, hbz.out⟩
theorem tcorners_walk (HF : CFl) (HR : CRv) (c1 : Bool) (sa1 : Option Addr) (sc1 : Nat) (sz1 : List Int) (da1 : Option Addr) (dc1 : Nat) (dz1 : List Int) (w : World) (w9 : IsArrC w sa1 sz1 sc1 da1 dz1) :
    Calls Try.prog 5 #[.agg #[.bool c1, .slice sa1 sz1.length sc1, .slice da1 dz1.length dc1]] w fun e w' => e = .returned (.bool true) ∧ Below w.heap.size w w' := by
  by_cases f1 : flawE c1 sz1 dz1 = 0
  · by_cases l1 : sz1.length = 2
    · obtain ⟨m, n, hs⟩ : ∃ m n, sz1 = [m, n] := by
        match sz1, l1 with
        | [m, n], _ => exact ⟨m, n, rfl⟩
      exact corners_ok HF HR c1 sa1 sc1 sz1 da1 dc1 dz1 w w9 m n f1 hs
    · exact corners_two HF HR c1 sa1 sc1 sz1 da1 dc1 dz1 w w9 f1 l1
  · exact corners_no HF HR c1 sa1 sc1 sz1 da1 dc1 dz1 w w9 f1
end Go.Proofs.Ytkadepneehdffaa
