/-
  Tqa Tpu, together.
-/
import Derived.Test.YtgjgbgllhbdodaaGreatDoorTpt
/-! Tqa: Nodes told by a part at indices. -/
namespace Go.Proofs.YtgjgbgllhbdodaaGreatDoor
open Go.RowKit Go.Lib
set_option linter.unusedVariables false

set_option maxRecDepth 100000 in
set_option maxHeartbeats 8000000 in
theorem nd_pick (f : Nat) (A : Nat → Prop) (w : World) (hP : ∀ v ns, PartM A w f v ns → ns.length ≤ 1000 → ns ≠ [] ∧ NdC A w v ns) (sa : Option Addr) (n sc : Nat) (nss : List (List Nod)) (hn : nss.length = n) (hR0 : RowX (PartM A w f) A w sa nss) (Tl : TypeId) (xl : Value) (nl : List Nod) (hlp : PartM A w f (.iface Tl xl) nl) (hl : (⟨8, ac0, (n : Int), [], []⟩ :: (nl ++ nss.flatten)).length ≤ 1000) (wk : World) (hkk : Below w.heap.size w wk) :
    Calls Tryz.prog 217 #[.agg #[.iface Tl xl, .slice sa n sc]] wk (NdsP A w (⟨8, ac0, (n : Int), [], []⟩ :: (nl ++ nss.flatten)) wk) := by
  have hn1 : n ≤ 1000 := by have := flat_le hR0.ne; simp only [List.length_cons, List.length_append] at hl; omega
  have HR0 : Hid (RowX (PartM A w f) A w sa nss) := hR0
  have HP : Hid (∀ v ns, PartM A w f v ns → ns.length ≤ 1000 → ns ≠ [] ∧ NdC A w v ns) := hP
  subst hn
  generalize hnn : nss.length = n at *
  obtain ⟨LL, hLL⟩ : ∃ LL : Nat → List (List Nod), LL = fun j => if j = 0 then [nl] else nss := ⟨_, rfl⟩
  have hcat2 : catN LL 2 = nl :: nss := by rw [hLL]; rfl
  have HLe0 : Hid (LL 0 = [nl]) := by rw [hLL]; rfl
  have HLe1 : Hid (LL 1 = nss) := by rw [hLL]; rfl
  have Hnn : Hid (nss.length = n) := hnn
  have HEQ : Hid ((⟨8, ac0, (n : Int), [], []⟩ :: (nl ++ nss.flatten)) = ⟨8, ac0, (n : Int), [], []⟩ :: (catN LL 2).flatten) := by show _ = _; rw [hcat2]; simp
  have HLL : Hid ((catN LL 2).length ≤ 1000 ∧ (catN LL 2).flatten.length < 1000) := by
    have h1 : (⟨8, ac0, (n : Int), [], []⟩ :: (nl ++ nss.flatten)).length = (catN LL 2).flatten.length + 1 := by rw [HEQ.out, List.length_cons]
    have h2 : (catN LL 2).length ≤ (catN LL 2).flatten.length := flat_le (by rw [hcat2]; exact ne_cons hR0.ne (pm_iface hlp).1)
    exact ⟨by omega, by omega⟩
  obtain ⟨W1, hW1⟩ : ∃ W, W = (wk.alloc (.cells #[.iface Tl xl, .slice sa n sc] 128)).alloc (.cells #[.int .i64 8, .int .i64 0, .int .i64 0, .int .i64 0, .int .i64 (n : Nat), .slice none 0 0, .string ⟨#[]⟩] 35) := ⟨_, rfl⟩
  have HK1 : Hid (Kbn 128 W1 wk.heap.size #[.iface Tl xl, .slice sa n sc]) := by rw [hW1]; exact (Below.heap_alloc _ _ _ (by simp)).trans (World.alloc_heap_new wk _)
  have HK1o : Hid (Kbn 35 W1 (wk.heap.size + 1) #[.int .i64 8, .int .i64 0, .int .i64 0, .int .i64 0, .int .i64 (n : Nat), .slice none 0 0, .string ⟨#[]⟩]) := by
    rw [hW1]
    have h := World.alloc_heap_new (wk.alloc (.cells #[.iface Tl xl, .slice sa n sc] 128)) (.cells #[.int .i64 8, .int .i64 0, .int .i64 0, .int .i64 0, .int .i64 (n : Nat), .slice none 0 0, .string ⟨#[]⟩] 35)
    rw [World.size_alloc] at h
    exact h
  have HS1 : Hid (W1.heap.size = wk.heap.size + 2) := by show _ = _; rw [hW1]; simp
  have HBk : Hid (Below wk.heap.size wk W1) := by rw [hW1]; exact ((Below.refl _ wk).alloc (Nat.le_refl _) _).alloc (by simp) _
  have HB1 : Hid (Below (wk.heap.size + 2) W1 W1.drew) := (Below.refl _ W1).drew
  have HK1d : Hid (Kbn 128 W1.drew wk.heap.size #[.iface Tl xl, .slice sa n sc]) := HK1.out
  have HK1do : Hid (Kbn 35 W1.drew (wk.heap.size + 1) #[.int .i64 8, .int .i64 0, .int .i64 0, .int .i64 0, .int .i64 (n : Nat), .slice none 0 0, .string ⟨#[]⟩]) := HK1o.out
  have HSZ : ∀ u, Below (wk.heap.size + 2) W1 u → wk.heap.size + 2 ≤ u.heap.size := fun u h => by have := h.size; have := HS1.out; omega
  have HWK : ∀ u, Below (wk.heap.size + 2) W1 u → Below wk.heap.size wk u := fun u h => HBk.out.trans (h.mono (by omega))
  have HWB : ∀ u, Below (wk.heap.size + 2) W1 u → Below w.heap.size w u := fun u h => hkk.trans ((HWK u h).mono hkk.size)
  clear hP hl hnn hLL hcat2
  go_enter Tryz.func217, Tryz.ntmps217
  go_wp2_with fail
  rw [← hW1]
  clear hW1
  refine bH (fun w' => w'.cell? ⟨wk.heap.size, 0, none⟩ = some (.iface Tl xl) ∧ w'.cell? ⟨wk.heap.size, 1, none⟩ = some (.slice sa n sc) ∧ w'.cell? ⟨wk.heap.size + 1, 0, none⟩ = some (.int .i64 8) ∧ w'.cell? ⟨wk.heap.size + 1, 1, none⟩ = some (.int .i64 0) ∧ w'.cell? ⟨wk.heap.size + 1, 2, none⟩ = some (.int .i64 0) ∧ w'.cell? ⟨wk.heap.size + 1, 3, none⟩ = some (.int .i64 0) ∧ w'.cell? ⟨wk.heap.size + 1, 4, none⟩ = some (.int .i64 (n : Nat)) ∧ w'.cell? ⟨wk.heap.size + 1, 5, none⟩ = some (.slice none 0 0) ∧ w'.cell? ⟨wk.heap.size + 1, 6, none⟩ = some (.string ⟨#[]⟩)) 10 (⟨HK1.out.c 0 rfl, HK1.out.c 1 rfl, HK1o.out.c 0 rfl, HK1o.out.c 1 rfl, HK1o.out.c 2 rfl, HK1o.out.c 3 rfl, HK1o.out.c 4 rfl, HK1o.out.c 5 rfl, HK1o.out.c 6 rfl⟩) fun hq => ?_
  generalize W1.drew = Wd at *
  refine lH 0 (hq) ?_
  refine pH 1 (hq) ?_
  refine lH 2 (hq) ?_
  refine pH 4 (hq) ?_
  refine lH 5 (hq) ?_
  refine oH 3 (fun K hK => ?b507)
  case b507 =>
    go_simp
    obtain ⟨u508, hw⟩ : ∃ W, W = Wd.alloc (.cells #[.iface Tl xl] 58) := ⟨_, rfl⟩
    rw [← hw]
    have hB : Below Wd.heap.size Wd u508 := by rw [hw]; exact (Below.refl _ _).alloc (Nat.le_refl _) _
    have HB509 : Hid (Below (wk.heap.size + 2) W1 u508) := HB1.out.trans (hB.mono (HSZ _ HB1.out))
    have HK510 : Hid (Kbn 128 u508 wk.heap.size #[.iface Tl xl, .slice sa n sc]) := HK1d.out.bel (hB.mono (Nat.le_trans (Nat.le_succ _) <| HSZ _ HB1.out))
    have HK510o : Hid (Kbn 35 u508 (wk.heap.size + 1) #[.int .i64 8, .int .i64 0, .int .i64 0, .int .i64 0, .int .i64 (n : Nat), .slice none 0 0, .string ⟨#[]⟩]) := HK1do.out.bel (hB.mono (HSZ _ HB1.out))
    have HT511 : Hid (Wd.heap.size < u508.heap.size) := by rw [hw]; show _ < _; simp
    have HC512 : Hid (u508.cell? ⟨Wd.heap.size, 0, none⟩ = some (.iface Tl xl)) := by rw [hw]; exact Kbn.c (World.alloc_heap_new Wd _) 0 rfl
    clear hw hB
    refine hK.out _ _ (⟨HK510.out.c 0 rfl, HK510.out.c 1 rfl, HK510o.out.c 0 rfl, HK510o.out.c 1 rfl, HK510o.out.c 2 rfl, HK510o.out.c 3 rfl, HK510o.out.c 4 rfl, HK510o.out.c 5 rfl, HK510o.out.c 6 rfl⟩) ?_
    clear hK K
    (try simp only [Act.put, List.setIfInBounds_toArray, List.set_cons_zero, List.set_cons_succ])
    refine oH 6 (fun K hK => ?b513)
    case b513 =>
      go_simp
      obtain ⟨u514, hw⟩ : ∃ W, W = u508.alloc (.cells #[.slice (some ⟨Wd.heap.size, 0, none⟩) 1 1, .slice sa n sc] 117) := ⟨_, rfl⟩
      rw [← hw]
      have hB : Below u508.heap.size u508 u514 := by rw [hw]; exact (Below.refl _ _).alloc (Nat.le_refl _) _
      have HB515 : Hid (Below (wk.heap.size + 2) W1 u514) := HB509.out.trans (hB.mono (HSZ _ HB509.out))
      have HK516 : Hid (Kbn 128 u514 wk.heap.size #[.iface Tl xl, .slice sa n sc]) := HK510.out.bel (hB.mono (Nat.le_trans (Nat.le_succ _) <| HSZ _ HB509.out))
      have HK516o : Hid (Kbn 35 u514 (wk.heap.size + 1) #[.int .i64 8, .int .i64 0, .int .i64 0, .int .i64 0, .int .i64 (n : Nat), .slice none 0 0, .string ⟨#[]⟩]) := HK510o.out.bel (hB.mono (HSZ _ HB509.out))
      have HC517 : Hid (u514.cell? ⟨Wd.heap.size, 0, none⟩ = some (.iface Tl xl)) := (hB.cell (p := ⟨Wd.heap.size, 0, none⟩) HT511.out).trans HC512.out
      have HT518 : Hid (Wd.heap.size < u514.heap.size) := Nat.lt_of_lt_of_le HT511.out hB.size
      have HT519 : Hid (u508.heap.size < u514.heap.size) := by rw [hw]; show _ < _; simp
      have HC520 : Hid (u514.cell? ⟨u508.heap.size, 0, none⟩ = some (.slice (some ⟨Wd.heap.size, 0, none⟩) 1 1)) := by rw [hw]; exact Kbn.c (World.alloc_heap_new u508 _) 0 rfl
      have HC521 : Hid (u514.cell? ⟨u508.heap.size, 1, none⟩ = some (.slice sa n sc)) := by rw [hw]; exact Kbn.c (World.alloc_heap_new u508 _) 1 rfl
      clear hw hB
      refine hK.out _ _ (⟨HK516.out.c 0 rfl, HK516.out.c 1 rfl, HK516o.out.c 0 rfl, HK516o.out.c 1 rfl, HK516o.out.c 2 rfl, HK516o.out.c 3 rfl, HK516o.out.c 4 rfl, HK516o.out.c 5 rfl, HK516o.out.c 6 rfl⟩) ?_
      clear hK K
      (try simp only [Act.put, List.setIfInBounds_toArray, List.set_cons_zero, List.set_cons_succ])
      refine oH 7 (fun K hK => ?b522)
      case b522 =>
        have hcat : Calls Tryz.prog 214 #[.slice (some ⟨u508.heap.size, 0, none⟩) 2 2] u514 (CatP (PartM A w f) (catN LL 2) u514) := by
          refine concat_any18 (PartM A w f) (fun v ns h => pm_one v ns h) 2 (by decide) LL HLL.out.1 (fun _ => True) (fun j => if j = 0 then some ⟨Wd.heap.size, 0, none⟩ else sa) (fun j => if j = 0 then 1 else sc) u508.heap.size 2 u514 HT519.out ?_
          intro j hj
          obtain rfl | rfl : j = 0 ∨ j = 1 := by omega
          · exact ⟨by rw [HLe0.out]; exact HC520.out, by rw [HLe0.out]; exact .inr ⟨_, 0, rfl, HT518.out, trivial, fun q hq => ⟨.iface Tl xl, (by have hq0 : q = 0 := (by simpa using hq); subst hq0; exact HC517.out), (by have hq0 : q = 0 := (by simpa using hq); subst hq0; exact hlp)⟩⟩⟩
          · exact ⟨by rw [HLe1.out, Hnn.out]; exact HC521.out, by rw [HLe1.out]; exact (HR0.out.go (HWB u514 HB515.out).size (fun k hk _ => (HWB u514 HB515.out).block k hk)).mono (fun _ _ _ => trivial)⟩
        go_simp
        go_wp2_with (go_at_call 214; refine hcat.mono ?_; rintro e u523 ⟨ga524, gc525, rfl, hPR, hB⟩)
        clear hcat
        have HB526 : Hid (Below (wk.heap.size + 2) W1 u523) := HB515.out.trans (hB.mono (HSZ _ HB515.out))
        have HK527 : Hid (Kbn 128 u523 wk.heap.size #[.iface Tl xl, .slice sa n sc]) := HK516.out.bel (hB.mono (Nat.le_trans (Nat.le_succ _) <| HSZ _ HB515.out))
        have HK527o : Hid (Kbn 35 u523 (wk.heap.size + 1) #[.int .i64 8, .int .i64 0, .int .i64 0, .int .i64 0, .int .i64 (n : Nat), .slice none 0 0, .string ⟨#[]⟩]) := HK516o.out.bel (hB.mono (HSZ _ HB515.out))
        have HC528 : Hid (u523.cell? ⟨Wd.heap.size, 0, none⟩ = some (.iface Tl xl)) := (hB.cell (p := ⟨Wd.heap.size, 0, none⟩) HT518.out).trans HC517.out
        have HT529 : Hid (Wd.heap.size < u523.heap.size) := Nat.lt_of_lt_of_le HT518.out hB.size
        have HC530 : Hid (u523.cell? ⟨u508.heap.size, 0, none⟩ = some (.slice (some ⟨Wd.heap.size, 0, none⟩) 1 1)) := (hB.cell (p := ⟨u508.heap.size, 0, none⟩) HT519.out).trans HC520.out
        have HT531 : Hid (u508.heap.size < u523.heap.size) := Nat.lt_of_lt_of_le HT519.out hB.size
        have HC532 : Hid (u523.cell? ⟨u508.heap.size, 1, none⟩ = some (.slice sa n sc)) := (hB.cell (p := ⟨u508.heap.size, 1, none⟩) HT519.out).trans HC521.out
        have HT533 : Hid (u508.heap.size < u523.heap.size) := Nat.lt_of_lt_of_le HT519.out hB.size
        have HR534 : Hid (RowX (PartM A w f) (fun k => u514.heap.size ≤ k) u523 ga524 (catN LL 2)) := hPR.row
        clear hB hPR
        refine hK.out _ _ (⟨HK527.out.c 0 rfl, HK527.out.c 1 rfl, HK527o.out.c 0 rfl, HK527o.out.c 1 rfl, HK527o.out.c 2 rfl, HK527o.out.c 3 rfl, HK527o.out.c 4 rfl, HK527o.out.c 5 rfl, HK527o.out.c 6 rfl⟩) ?_
        clear hK K
        (try simp only [Act.put, List.setIfInBounds_toArray, List.set_cons_zero, List.set_cons_succ])
        refine oH 8 (fun K hK => ?b535)
        case b535 =>
          go_simp
          go_wp2_with (go_at_call 206; refine ((list_any f A w HP.out ⟨8, ac0, (n : Int), [], []⟩ none 0 (.inl rfl) ga524 (catN LL 2).length gc525 (catN LL 2) (fun k => u514.heap.size ≤ k) rfl HLL.out.1 HLL.out.2 u523 (HWB u523 HB526.out) HR534.out).mono fun e w' h => nds_q h).mono ?_; rintro e u536 ⟨la, lc, bs, M, rfl, hM, hmap, hNR, hB⟩)
          have HN : Hid (M = (⟨8, ac0, (n : Int), [], []⟩ :: (catN LL 2).flatten).length ∧ bs.map Prod.fst = ⟨8, ac0, (n : Int), [], []⟩ :: (catN LL 2).flatten ∧ NdR A w u536 u523.heap.size (.slice la M lc) M bs) := ⟨hM.out, hmap, hNR⟩
          have hlo : wk.heap.size ≤ u523.heap.size := by have := HSZ _ HB526.out; omega
          have HB537 : Hid (Below (wk.heap.size + 2) W1 u536) := HB526.out.trans (hB.mono (HSZ _ HB526.out))
          have HK538 : Hid (Kbn 128 u536 wk.heap.size #[.iface Tl xl, .slice sa n sc]) := HK527.out.bel (hB.mono (Nat.le_trans (Nat.le_succ _) <| HSZ _ HB526.out))
          have HK538o : Hid (Kbn 35 u536 (wk.heap.size + 1) #[.int .i64 8, .int .i64 0, .int .i64 0, .int .i64 0, .int .i64 (n : Nat), .slice none 0 0, .string ⟨#[]⟩]) := HK527o.out.bel (hB.mono (HSZ _ HB526.out))
          clear hB hM hmap hNR
          refine hK.out _ _ (⟨HK538.out.c 0 rfl, HK538.out.c 1 rfl, HK538o.out.c 0 rfl, HK538o.out.c 1 rfl, HK538o.out.c 2 rfl, HK538o.out.c 3 rfl, HK538o.out.c 4 rfl, HK538o.out.c 5 rfl, HK538o.out.c 6 rfl⟩) ?_
          clear hK K
          (try simp only [Act.put, List.setIfInBounds_toArray, List.set_cons_zero, List.set_cons_succ])
          refine pH 9 (⟨HK538.out.c 0 rfl, HK538.out.c 1 rfl, HK538o.out.c 0 rfl, HK538o.out.c 1 rfl, HK538o.out.c 2 rfl, HK538o.out.c 3 rfl, HK538o.out.c 4 rfl, HK538o.out.c 5 rfl, HK538o.out.c 6 rfl⟩) ?_
          refine dH ?_
          go_wp2_with fail
          go_ret
          have HM : M = _ := HN.out.1.trans (congrArg List.length HEQ.out.symm)
          refine ⟨la, lc, bs, ret_slice18 HM, by rw [HEQ.out]; exact HN.out.2.1, ?_, HWK _ HB537.out⟩
          rw [← HM]
          exact ⟨HN.out.2.2.1, own_base18 HN.out.2.2.2.1 hlo, HN.out.2.2.2.2⟩
end Go.Proofs.YtgjgbgllhbdodaaGreatDoor
/-! Tpu: Nodes told by the other kinds of parts, and by all. -/
namespace Go.Proofs.YtgjgbgllhbdodaaGreatDoor
open Go.RowKit Go.Lib
set_option linter.unusedVariables false

set_option maxRecDepth 100000 in
set_option maxHeartbeats 4000000 in
theorem nd_text (A : Nat → Prop) (w : World) (x : List UInt8) : NdC A w (.iface 111 (.string ⟨x.toArray⟩)) [⟨2, ac0, 0, [], x⟩] := by
  refine ⟨_, _, 208, rfl, ⟨fun w => by kernel_rfl, enters_of Tryz.func208 (by kernel_rfl) rfl⟩, fun wk hk => ?_⟩
  have hl := fun wz (hz : Below w.heap.size w wz) => leaf_list A w ⟨2, ac0, 0, [], x⟩ none 0 (.inl rfl) wz hz
  have HK : Hid (Below w.heap.size w wk) := hk
  clear hk
  go_enter Tryz.func208, Tryz.ntmps208
  go_wp2_with fail
  refine (hl wk HK.out).mono ?_
  rintro e w' ⟨sa, sc, bs, rfl, h1, h2, h3⟩
  have HH : Hid (NdsP A w [⟨2, ac0, 0, [], x⟩] wk (.returned (.slice sa [(⟨2, ac0, 0, [], x⟩ : Nod)].length sc)) w') := ⟨sa, sc, bs, rfl, h1, h2, h3⟩
  clear h1 h2 h3 hl
  go_wp2_with fail
  go_ret
  exact HH.out
set_option maxRecDepth 100000 in
set_option maxHeartbeats 4000000 in
theorem nd_var (A : Nat → Prop) (w : World) (x : List UInt8) : NdC A w (.iface 113 (.string ⟨x.toArray⟩)) [⟨3, ac0, 0, [], x⟩] := by
  refine ⟨_, _, 209, rfl, ⟨fun w => by kernel_rfl, enters_of Tryz.func209 (by kernel_rfl) rfl⟩, fun wk hk => ?_⟩
  have hl := fun wz (hz : Below w.heap.size w wz) => leaf_list A w ⟨3, ac0, 0, [], x⟩ none 0 (.inl rfl) wz hz
  have HK : Hid (Below w.heap.size w wk) := hk
  clear hk
  go_enter Tryz.func209, Tryz.ntmps209
  go_wp2_with fail
  refine (hl wk HK.out).mono ?_
  rintro e w' ⟨sa, sc, bs, rfl, h1, h2, h3⟩
  have HH : Hid (NdsP A w [⟨3, ac0, 0, [], x⟩] wk (.returned (.slice sa [(⟨3, ac0, 0, [], x⟩ : Nod)].length sc)) w') := ⟨sa, sc, bs, rfl, h1, h2, h3⟩
  clear h1 h2 h3 hl
  go_wp2_with fail
  go_ret
  exact HH.out
set_option maxRecDepth 100000 in
set_option maxHeartbeats 4000000 in
theorem nd_alpha (A : Nat → Prop) (w : World) : NdC A w (.iface 115 (.agg #[])) [⟨4, ac0, 0, [], []⟩] := by
  refine ⟨_, _, 210, rfl, ⟨fun w => by kernel_rfl, enters_of Tryz.func210 (by kernel_rfl) rfl⟩, fun wk hk => ?_⟩
  have hl := fun wz (hz : Below w.heap.size w wz) => leaf_list A w ⟨4, ac0, 0, [], []⟩ none 0 (.inl rfl) wz hz
  have HK : Hid (Below w.heap.size w wk) := hk
  clear hk
  go_enter Tryz.func210, Tryz.ntmps210
  go_wp2_with fail
  have HB : Hid (Below wk.heap.size wk (wk.alloc (.cells #[] 115))) := (Below.refl _ wk).alloc (Nat.le_refl _) _
  generalize wk.alloc (.cells #[] 115) = W1 at *
  refine (hl W1 (HK.out.trans (HB.out.mono HK.out.size))).mono ?_
  rintro e w' ⟨sa, sc, bs, rfl, h1, h2, h3⟩
  have HH : Hid (NdsP A w [⟨4, ac0, 0, [], []⟩] wk (.returned (.slice sa [(⟨4, ac0, 0, [], []⟩ : Nod)].length sc)) w') := ⟨sa, sc, bs, rfl, h1, ⟨h2.1, own_base18 h2.2.1 HB.out.size, h2.2.2⟩, HB.out.trans (h3.mono HB.out.size)⟩
  clear h1 h2 h3 hl
  go_wp2_with fail
  go_ret
  exact HH.out
set_option maxRecDepth 100000 in
set_option maxHeartbeats 4000000 in
theorem nd_omega (A : Nat → Prop) (w : World) : NdC A w (.iface 116 (.agg #[])) [⟨5, ac0, 0, [], []⟩] := by
  refine ⟨_, _, 211, rfl, ⟨fun w => by kernel_rfl, enters_of Tryz.func211 (by kernel_rfl) rfl⟩, fun wk hk => ?_⟩
  have hl := fun wz (hz : Below w.heap.size w wz) => leaf_list A w ⟨5, ac0, 0, [], []⟩ none 0 (.inl rfl) wz hz
  have HK : Hid (Below w.heap.size w wk) := hk
  clear hk
  go_enter Tryz.func211, Tryz.ntmps211
  go_wp2_with fail
  have HB : Hid (Below wk.heap.size wk (wk.alloc (.cells #[] 116))) := (Below.refl _ wk).alloc (Nat.le_refl _) _
  generalize wk.alloc (.cells #[] 116) = W1 at *
  refine (hl W1 (HK.out.trans (HB.out.mono HK.out.size))).mono ?_
  rintro e w' ⟨sa, sc, bs, rfl, h1, h2, h3⟩
  have HH : Hid (NdsP A w [⟨5, ac0, 0, [], []⟩] wk (.returned (.slice sa [(⟨5, ac0, 0, [], []⟩ : Nod)].length sc)) w') := ⟨sa, sc, bs, rfl, h1, ⟨h2.1, own_base18 h2.2.1 HB.out.size, h2.2.2⟩, HB.out.trans (h3.mono HB.out.size)⟩
  clear h1 h2 h3 hl
  go_wp2_with fail
  go_ret
  exact HH.out
set_option maxRecDepth 100000 in
set_option maxHeartbeats 4000000 in
theorem nd_set (f : Nat) (A : Nat → Prop) (w : World) (hP : ∀ v ns, PartM A w f v ns → ns.length ≤ 1000 → ns ≠ [] ∧ NdC A w v ns) (x : List UInt8) (Tr : TypeId) (xr : Value) (nr : List Nod) (hr : PartM A w f (.iface Tr xr) nr) (hl : nr.length < 1000) (wk : World) (hk : Below w.heap.size w wk) :
    Calls Tryz.prog 205 #[.agg #[.string ⟨x.toArray⟩, .iface Tr xr]] wk (NdsP A w (⟨9, ac0, 0, [], x⟩ :: nr) wk) := by
  obtain ⟨W1, hW1⟩ : ∃ W, W = (wk.alloc (.cells #[.string ⟨x.toArray⟩, .iface Tr xr] 91)).alloc (.cells #[.iface Tr xr] 58) := ⟨_, rfl⟩
  have HB : Hid (Below wk.heap.size wk W1) := by rw [hW1]; exact ((Below.refl _ wk).alloc (Nat.le_refl _) _).alloc (by simp) _
  have hK : Kbn 58 W1 (wk.heap.size + 1) #[.iface Tr xr] := by
    rw [hW1]
    have h := World.alloc_heap_new (wk.alloc (.cells #[.string ⟨x.toArray⟩, .iface Tr xr] 91)) (.cells #[.iface Tr xr] 58)
    rw [World.size_alloc] at h
    exact h
  have hR : RowX (PartM A w f) (fun _ => True) W1 (some ⟨wk.heap.size + 1, 0, none⟩) [nr] := .inr ⟨_, 0, rfl, hK.lt, trivial, fun q hq => ⟨.iface Tr xr, by have hq0 : q = 0 := (by simpa using hq); subst hq0; exact hK.c 0 rfl, by have hq0 : q = 0 := (by simpa using hq); subst hq0; exact hr⟩⟩
  have hc := (list_any f A w hP ⟨9, ac0, 0, [], x⟩ none 0 (.inl rfl) (some ⟨wk.heap.size + 1, 0, none⟩) 1 1 [nr] (fun _ => True) rfl (by decide) (by simpa using hl) W1 (hk.trans (HB.out.mono hk.size)) hR).mono fun e w' h => nds_q h
  have HF : Hid (([nr] : List (List Nod)).flatten = nr) := by show _ = _; simp
  rw [HF.out] at hc
  clear hP hr hl hk hK hR
  go_enter Tryz.func205, Tryz.ntmps205
  go_wp2_with fail
  rw [← hW1]
  refine hc.mono ?_
  rintro e w' ⟨la, lc, bs, M, rfl, hM, hmap, hNR, hB⟩
  have HH : Hid (bs.map Prod.fst = ⟨9, ac0, 0, [], x⟩ :: nr ∧ NdR A w w' W1.heap.size (.slice la M lc) M bs ∧ Below wk.heap.size wk w') := ⟨hmap, hNR, HB.out.trans (hB.mono HB.out.size)⟩
  clear hc hmap hNR hB hW1
  go_wp2_with fail
  go_ret
  refine ⟨la, lc, bs, ret_slice18 hM.out, HH.out.1, ?_, HH.out.2.2⟩
  rw [← hM.out]
  exact ⟨HH.out.2.1.1, own_base18 HH.out.2.1.2.1 HB.out.size, HH.out.2.1.2.2⟩
/-- Each part's method tells its nodes. -/
theorem nodes_any : ∀ (f : Nat) (A : Nat → Prop) (w : World) (v : Value) (ns : List Nod), PartM A w f v ns → ns.length ≤ 1000 → ns ≠ [] ∧ NdC A w v ns
  | 0, _, _, _, _, h, _ => h.elim
  | f + 1, A, w, v, ns, h, hl => by
    have ih := fun v ns => nodes_any f A w v ns
    refine ⟨(pm_iface h).1, ?_⟩
    rcases h with ⟨a, c, zs, rfl, h1, rfl⟩ | ⟨x, rfl, rfl⟩ | ⟨x, rfl, rfl⟩ | ⟨rfl, rfl⟩ | ⟨rfl, rfl⟩ | ⟨ac, a, c, nss, r, nr, rfl, h1, h2, rfl⟩ | ⟨ac, a, c, nss, l, nl, r, nr, rfl, h1, h2, h3, rfl⟩ | ⟨a, c, nss, t, nt, rfl, h1, h2, rfl⟩ | ⟨x, r, nr, rfl, h1, rfl⟩
    · exact nd_numbers A w a c zs h1
    · exact nd_text A w x
    · exact nd_var A w x
    · exact nd_alpha A w
    · exact nd_omega A w
    · obtain ⟨_, Tr, xr, rfl⟩ := pm_iface h2
      exact ⟨_, _, 212, rfl, ⟨fun w => by kernel_rfl, enters_of Tryz.func212 (by kernel_rfl) rfl⟩, fun wk hk => nd_one f A w ih ac.op ac.f ac.g a nss.length c nss rfl h1 Tr xr nr h2 hl wk hk⟩
    · obtain ⟨_, Tl, xl, rfl⟩ := pm_iface h2
      obtain ⟨_, Tr, xr, rfl⟩ := pm_iface h3
      exact ⟨_, _, 216, rfl, ⟨fun w => by kernel_rfl, enters_of Tryz.func216 (by kernel_rfl) rfl⟩, fun wk hk => nd_two f A w ih ac.op ac.f ac.g a nss.length c nss rfl h1 Tl xl nl h2 Tr xr nr h3 hl wk hk⟩
    · obtain ⟨_, Tl, xl, rfl⟩ := pm_iface h2
      exact ⟨_, _, 217, rfl, ⟨fun w => by kernel_rfl, enters_of Tryz.func217 (by kernel_rfl) rfl⟩, fun wk hk => nd_pick f A w ih a nss.length c nss rfl h1 Tl xl nt h2 hl wk hk⟩
    · obtain ⟨_, Tr, xr, rfl⟩ := pm_iface h1
      exact ⟨_, _, 205, rfl, ⟨fun w => by kernel_rfl, enters_of Tryz.func205 (by kernel_rfl) rfl⟩, fun wk hk => nd_set f A w ih x Tr xr nr h1 (by simp only [List.length_cons] at hl; omega) wk hk⟩
end Go.Proofs.YtgjgbgllhbdodaaGreatDoor
