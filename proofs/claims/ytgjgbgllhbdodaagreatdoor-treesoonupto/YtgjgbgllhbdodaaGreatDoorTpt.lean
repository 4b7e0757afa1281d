/-
  Nodes told by parts that have parts.
-/
import Derived.Test.YtgjgbgllhbdodaaGreatDoorTps
namespace Go.Proofs.YtgjgbgllhbdodaaGreatDoor
open Go.RowKit Go.Lib
set_option linter.unusedVariables false

/-- A block that holds these values. -/
def Kbn (t : TypeId) (w : World) (n : Nat) (cs : Array Value) : Prop := w.heap[n]? = some (.cells cs t (0, 0))
theorem Kbn.c {t : TypeId} {w : World} {n : Nat} {cs : Array Value} {v : Value} (h : Kbn t w n cs) (i : Nat) (hv : cs[i]? = some v) : w.cell? ⟨n, i, none⟩ = some v := by unfold Kbn at h; simp [World.cell?, h, hv]
theorem Kbn.lt {t : TypeId} {w : World} {n : Nat} {cs : Array Value} (h : Kbn t w n cs) : n < w.heap.size := (Array.getElem?_eq_some_iff.1 h).1
theorem Kbn.bel {t : TypeId} {w w' : World} {n : Nat} {cs : Array Value} (h : Kbn t w n cs) (hB : Below (n + 1) w w') : Kbn t w' n cs := (hB.block n (Nat.lt_succ_self n)).trans h
def NdsQ (A : Nat → Prop) (W : World) (ns : List Nod) (w : World) (e : Ending) (w' : World) : Prop :=
  ∃ (a : Option Addr) (c : Nat) (bs : List NdA) (M : Nat), e = .returned (.slice a M c) ∧ Hid (M = ns.length) ∧ bs.map Prod.fst = ns ∧ NdR A W w' w.heap.size (.slice a M c) M bs ∧ Below w.heap.size w w'
theorem nds_q {A : Nat → Prop} {W : World} {ns : List Nod} {w : World} {e : Ending} {w' : World} (h : NdsP A W ns w e w') : NdsQ A W ns w e w' := by
  obtain ⟨a, c, bs, h1, h2, h3, h4⟩ := h
  exact ⟨a, c, bs, _, h1, rfl, h2, h3, h4⟩
theorem own_base18 {w : World} {lo lo' : Nat} {e : TypeId} {sz n : Nat} {v : Value} {xs : List Value} (h : w.ownsRow lo e sz v n xs) (hl : lo' ≤ lo) : w.ownsRow lo' e sz v n xs := by
  refine ⟨h.1, ?_⟩
  rcases h.2 with h | ⟨g, cap, cur, e1, h1, h2⟩
  · exact .inl h
  · exact .inr ⟨g, cap, cur, e1, by omega, h2⟩
set_option maxRecDepth 100000 in
set_option maxHeartbeats 4000000 in
theorem act_any (x0 x1 x2 : Int) (sa : Option Addr) (n sc : Nat) (k : Int) (hn : n ≤ 1000) (w : World) :
    Calls Tryz.prog 213 #[.agg #[.int .i64 x0, .int .i64 x1, .int .i64 x2, .slice sa n sc], .int .i64 k] w fun e w' => e = .returned (.agg #[.int .i64 k, .int .i64 x0, .int .i64 x1, .int .i64 x2, .int .i64 ((n / 2 : Nat) : Int), .slice none 0 0, .string ⟨#[]⟩]) ∧ Below w.heap.size w w' := by
  have e2 : ((n / 2 : Nat) : Int) = (n : Int) / 2 := by omega
  rw [e2]
  go_enter Tryz.func213, Tryz.ntmps213
  go_wp2_with fail
  have K : Kbn 35 ((w.alloc (.cells #[.int .i64 x0, .int .i64 x1, .int .i64 x2, .slice sa n sc] 119)).alloc (.cells #[.int .i64 k, .int .i64 x0, .int .i64 x1, .int .i64 x2, .int .i64 ((n : Int) / 2), .slice none 0 0, .string ⟨#[]⟩] 35)) (w.heap.size + 1) #[.int .i64 k, .int .i64 x0, .int .i64 x1, .int .i64 x2, .int .i64 ((n : Int) / 2), .slice none 0 0, .string ⟨#[]⟩] := by
    have h := World.alloc_heap_new (w.alloc (.cells #[.int .i64 x0, .int .i64 x1, .int .i64 x2, .slice sa n sc] 119)) (.cells #[.int .i64 k, .int .i64 x0, .int .i64 x1, .int .i64 x2, .int .i64 ((n : Int) / 2), .slice none 0 0, .string ⟨#[]⟩] 35)
    rw [World.size_alloc] at h
    exact h
  have q0 := K.c 0 rfl
  have q1 := K.c 1 rfl
  have q2 := K.c 2 rfl
  have q3 := K.c 3 rfl
  have q4 := K.c 4 rfl
  have q5 := K.c 5 rfl
  have q6 := K.c 6 rfl
  exact bodyPost_ret (v := .agg #[.int .i64 k, .int .i64 x0, .int .i64 x1, .int .i64 x2, .int .i64 ((n : Int) / 2), .slice none 0 0, .string ⟨#[]⟩]) (by simp [results, Tryz.results213, go_sem, q0, q1, q2, q3, q4, q5, q6]) rfl ⟨rfl, ((Below.refl _ w).alloc (Nat.le_refl _) _).alloc (by simp) _⟩
theorem flat_le : ∀ {l : List (List Nod)}, (∀ ns ∈ l, ns ≠ []) → l.length ≤ l.flatten.length
  | [], _ => Nat.le_refl _
  | a :: r, h => by
    have h1 := flat_le (l := r) (fun ns hns => h ns (List.mem_cons_of_mem _ hns))
    have h2 := List.length_pos_iff.2 (h a (List.mem_cons_self ..))
    rw [List.flatten_cons, List.length_append, List.length_cons]; omega
theorem ne_snoc {l : List (List Nod)} {nr : List Nod} (h : ∀ ns ∈ l, ns ≠ []) (hr : nr ≠ []) : ∀ ns ∈ l ++ [nr], ns ≠ [] := by
  intro ns hns
  rcases List.mem_append.1 hns with h1 | h1
  · exact h ns h1
  · rw [List.mem_singleton.1 h1]; exact hr
theorem ne_cons {l : List (List Nod)} {nr : List Nod} (h : ∀ ns ∈ l, ns ≠ []) (hr : nr ≠ []) : ∀ ns ∈ nr :: l, ns ≠ [] := by
  intro ns hns
  rcases List.mem_cons.1 hns with rfl | h1
  · exact hr
  · exact h ns h1
theorem RowX.ne {A B : Nat → Prop} {w w' : World} {f : Nat} {a : Option Addr} {nss : List (List Nod)} (h : RowX (PartM A w f) B w' a nss) : ∀ ns ∈ nss, ns ≠ [] := by
  intro ns hns
  obtain ⟨j, hj, rfl⟩ := List.mem_iff_getElem.1 hns
  obtain ⟨g, off, _, _, _, hc⟩ := h.at hj
  obtain ⟨v, _, hv⟩ := hc j hj
  rw [List.getD_eq_getElem?_getD, List.getElem?_eq_getElem hj] at hv
  exact (pm_iface hv).1
set_option maxRecDepth 100000 in
set_option maxHeartbeats 8000000 in
theorem nd_one (f : Nat) (A : Nat → Prop) (w : World) (hP : ∀ v ns, PartM A w f v ns → ns.length ≤ 1000 → ns ≠ [] ∧ NdC A w v ns) (x0 x1 x2 : Int) (sa : Option Addr) (n sc : Nat) (nss : List (List Nod)) (hn : nss.length = n) (hR0 : RowX (PartM A w f) A w sa nss) (Tr : TypeId) (xr : Value) (nr : List Nod) (hr : PartM A w f (.iface Tr xr) nr) (hl : (⟨6, ⟨x0, x1, x2⟩, ((n / 2 : Nat) : Int), [], []⟩ :: (nss.flatten ++ nr)).length ≤ 1000) (wk : World) (hkk : Below w.heap.size w wk) :
    Calls Tryz.prog 212 #[.agg #[.int .i64 x0, .int .i64 x1, .int .i64 x2, .slice sa n sc, .iface Tr xr]] wk (NdsP A w (⟨6, ⟨x0, x1, x2⟩, ((n / 2 : Nat) : Int), [], []⟩ :: (nss.flatten ++ nr)) wk) := by
  have hn1 : n ≤ 1000 := by have := flat_le hR0.ne; simp only [List.length_cons, List.length_append] at hl; omega
  have HR0 : Hid (RowX (PartM A w f) A w sa nss) := hR0
  have HP : Hid (∀ v ns, PartM A w f v ns → ns.length ≤ 1000 → ns ≠ [] ∧ NdC A w v ns) := hP
  subst hn
  generalize hnn : nss.length = n at *
  obtain ⟨LL, hLL⟩ : ∃ LL : Nat → List (List Nod), LL = fun j => if j = 0 then nss else [nr] := ⟨_, rfl⟩
  have hcat2 : catN LL 2 = nss ++ [nr] := by rw [hLL]; rfl
  have HLe0 : Hid (LL 0 = nss) := by rw [hLL]; rfl
  have HLe1 : Hid (LL 1 = [nr]) := by rw [hLL]; rfl
  have Hnn : Hid (nss.length = n) := hnn
  have HEQ : Hid ((⟨6, ⟨x0, x1, x2⟩, ((n / 2 : Nat) : Int), [], []⟩ :: (nss.flatten ++ nr)) = ⟨6, ⟨x0, x1, x2⟩, ((n / 2 : Nat) : Int), [], []⟩ :: (catN LL 2).flatten) := by show _ = _; rw [hcat2]; simp
  have HLL : Hid ((catN LL 2).length ≤ 1000 ∧ (catN LL 2).flatten.length < 1000) := by
    have h1 : (⟨6, ⟨x0, x1, x2⟩, ((n / 2 : Nat) : Int), [], []⟩ :: (nss.flatten ++ nr)).length = (catN LL 2).flatten.length + 1 := by rw [HEQ.out, List.length_cons]
    have h2 : (catN LL 2).length ≤ (catN LL 2).flatten.length := flat_le (by rw [hcat2]; exact ne_snoc hR0.ne (pm_iface hr).1)
    exact ⟨by omega, by omega⟩
  obtain ⟨W1, hW1⟩ : ∃ W, W = wk.alloc (.cells #[.int .i64 x0, .int .i64 x1, .int .i64 x2, .slice sa n sc, .iface Tr xr] 121) := ⟨_, rfl⟩
  have HK1 : Hid (Kbn 121 W1 wk.heap.size #[.int .i64 x0, .int .i64 x1, .int .i64 x2, .slice sa n sc, .iface Tr xr]) := by rw [hW1]; exact World.alloc_heap_new wk _
  have HS1 : Hid (W1.heap.size = wk.heap.size + 1) := by show _ = _; rw [hW1]; simp
  have HBk : Hid (Below wk.heap.size wk W1) := by rw [hW1]; exact (Below.refl _ wk).alloc (Nat.le_refl _) _
  have HB1 : Hid (Below (wk.heap.size + 1) W1 W1.drew) := (Below.refl _ W1).drew
  have HK1d : Hid (Kbn 121 W1.drew wk.heap.size #[.int .i64 x0, .int .i64 x1, .int .i64 x2, .slice sa n sc, .iface Tr xr]) := HK1.out
  have HSZ : ∀ u, Below (wk.heap.size + 1) W1 u → wk.heap.size + 1 ≤ u.heap.size := fun u h => by have := h.size; have := HS1.out; omega
  have HWK : ∀ u, Below (wk.heap.size + 1) W1 u → Below wk.heap.size wk u := fun u h => HBk.out.trans (h.mono (Nat.le_succ _))
  have HWB : ∀ u, Below (wk.heap.size + 1) W1 u → Below w.heap.size w u := fun u h => hkk.trans ((HWK u h).mono hkk.size)
  clear hP hl hnn hLL hcat2
  go_enter Tryz.func212, Tryz.ntmps212
  go_wp2_with fail
  rw [← hW1]
  clear hW1
  refine bH (fun w' => w'.cell? ⟨wk.heap.size, 0, none⟩ = some (.int .i64 x0) ∧ w'.cell? ⟨wk.heap.size, 1, none⟩ = some (.int .i64 x1) ∧ w'.cell? ⟨wk.heap.size, 2, none⟩ = some (.int .i64 x2) ∧ w'.cell? ⟨wk.heap.size, 3, none⟩ = some (.slice sa n sc) ∧ w'.cell? ⟨wk.heap.size, 4, none⟩ = some (.iface Tr xr)) 13 (⟨HK1.out.c 0 rfl, HK1.out.c 1 rfl, HK1.out.c 2 rfl, HK1.out.c 3 rfl, HK1.out.c 4 rfl⟩) fun hq => ?_
  generalize W1.drew = Wd at *
  refine pH 0 (hq) ?_
  refine lH 1 (hq) ?_
  refine pH 3 (hq) ?_
  refine pH 4 (hq) ?_
  refine lH 5 (hq) ?_
  refine pH 6 (hq) ?_
  refine lH 7 (hq) ?_
  refine oH2 2 8 (fun K hK => ?b1) (fun K hK => ?b2)
  case b1 =>
    go_simp
    go_wp2_with (go_at_call 213; refine (act_any x0 x1 x2 sa n sc 6 hn1 Wd).mono ?_; rintro e u3 ⟨rfl, hB⟩)
    have HB4 : Hid (Below (wk.heap.size + 1) W1 u3) := HB1.out.trans (hB.mono (HSZ _ HB1.out))
    have HK5 : Hid (Kbn 121 u3 wk.heap.size #[.int .i64 x0, .int .i64 x1, .int .i64 x2, .slice sa n sc, .iface Tr xr]) := HK1d.out.bel (hB.mono (HSZ _ HB1.out))
    clear hB
    refine hK.out _ _ (⟨HK5.out.c 0 rfl, HK5.out.c 1 rfl, HK5.out.c 2 rfl, HK5.out.c 3 rfl, HK5.out.c 4 rfl⟩) ?_
    clear hK K
    (try simp only [Act.put, List.setIfInBounds_toArray, List.set_cons_zero, List.set_cons_succ])
    refine oH 8 (fun K hK => ?b6)
    case b6 =>
      go_simp
      obtain ⟨u7, hw⟩ : ∃ W, W = u3.alloc (.cells #[.iface Tr xr] 58) := ⟨_, rfl⟩
      rw [← hw]
      have hB : Below u3.heap.size u3 u7 := by rw [hw]; exact (Below.refl _ _).alloc (Nat.le_refl _) _
      have HB8 : Hid (Below (wk.heap.size + 1) W1 u7) := HB4.out.trans (hB.mono (HSZ _ HB4.out))
      have HK9 : Hid (Kbn 121 u7 wk.heap.size #[.int .i64 x0, .int .i64 x1, .int .i64 x2, .slice sa n sc, .iface Tr xr]) := HK5.out.bel (hB.mono (HSZ _ HB4.out))
      have HT10 : Hid (u3.heap.size < u7.heap.size) := by rw [hw]; show _ < _; simp
      have HC11 : Hid (u7.cell? ⟨u3.heap.size, 0, none⟩ = some (.iface Tr xr)) := by rw [hw]; exact Kbn.c (World.alloc_heap_new u3 _) 0 rfl
      clear hw hB
      refine hK.out _ _ (⟨HK9.out.c 0 rfl, HK9.out.c 1 rfl, HK9.out.c 2 rfl, HK9.out.c 3 rfl, HK9.out.c 4 rfl⟩) ?_
      clear hK K
      (try simp only [Act.put, List.setIfInBounds_toArray, List.set_cons_zero, List.set_cons_succ])
      refine oH 9 (fun K hK => ?b12)
      case b12 =>
        go_simp
        obtain ⟨u13, hw⟩ : ∃ W, W = u7.alloc (.cells #[.slice sa n sc, .slice (some ⟨u3.heap.size, 0, none⟩) 1 1] 117) := ⟨_, rfl⟩
        rw [← hw]
        have hB : Below u7.heap.size u7 u13 := by rw [hw]; exact (Below.refl _ _).alloc (Nat.le_refl _) _
        have HB14 : Hid (Below (wk.heap.size + 1) W1 u13) := HB8.out.trans (hB.mono (HSZ _ HB8.out))
        have HK15 : Hid (Kbn 121 u13 wk.heap.size #[.int .i64 x0, .int .i64 x1, .int .i64 x2, .slice sa n sc, .iface Tr xr]) := HK9.out.bel (hB.mono (HSZ _ HB8.out))
        have HC16 : Hid (u13.cell? ⟨u3.heap.size, 0, none⟩ = some (.iface Tr xr)) := (hB.cell (p := ⟨u3.heap.size, 0, none⟩) HT10.out).trans HC11.out
        have HT17 : Hid (u3.heap.size < u13.heap.size) := Nat.lt_of_lt_of_le HT10.out hB.size
        have HT18 : Hid (u7.heap.size < u13.heap.size) := by rw [hw]; show _ < _; simp
        have HC19 : Hid (u13.cell? ⟨u7.heap.size, 0, none⟩ = some (.slice sa n sc)) := by rw [hw]; exact Kbn.c (World.alloc_heap_new u7 _) 0 rfl
        have HC20 : Hid (u13.cell? ⟨u7.heap.size, 1, none⟩ = some (.slice (some ⟨u3.heap.size, 0, none⟩) 1 1)) := by rw [hw]; exact Kbn.c (World.alloc_heap_new u7 _) 1 rfl
        clear hw hB
        refine hK.out _ _ (⟨HK15.out.c 0 rfl, HK15.out.c 1 rfl, HK15.out.c 2 rfl, HK15.out.c 3 rfl, HK15.out.c 4 rfl⟩) ?_
        clear hK K
        (try simp only [Act.put, List.setIfInBounds_toArray, List.set_cons_zero, List.set_cons_succ])
        refine oH 10 (fun K hK => ?b21)
        case b21 =>
          have hcat : Calls Tryz.prog 214 #[.slice (some ⟨u7.heap.size, 0, none⟩) 2 2] u13 (CatP (PartM A w f) (catN LL 2) u13) := by
            refine concat_any18 (PartM A w f) (fun v ns h => pm_one v ns h) 2 (by decide) LL HLL.out.1 (fun _ => True) (fun j => if j = 0 then sa else some ⟨u3.heap.size, 0, none⟩) (fun j => if j = 0 then sc else 1) u7.heap.size 2 u13 HT18.out ?_
            intro j hj
            obtain rfl | rfl : j = 0 ∨ j = 1 := by omega
            · exact ⟨by rw [HLe0.out, Hnn.out]; exact HC19.out, by rw [HLe0.out]; exact (HR0.out.go (HWB u13 HB14.out).size (fun k hk _ => (HWB u13 HB14.out).block k hk)).mono (fun _ _ _ => trivial)⟩
            · exact ⟨by rw [HLe1.out]; exact HC20.out, by rw [HLe1.out]; exact .inr ⟨_, 0, rfl, HT17.out, trivial, fun q hq => ⟨.iface Tr xr, (by have hq0 : q = 0 := (by simpa using hq); subst hq0; exact HC16.out), (by have hq0 : q = 0 := (by simpa using hq); subst hq0; exact hr)⟩⟩⟩
          go_simp
          go_wp2_with (go_at_call 214; refine hcat.mono ?_; rintro e u22 ⟨ga23, gc24, rfl, hPR, hB⟩)
          clear hcat
          have HB25 : Hid (Below (wk.heap.size + 1) W1 u22) := HB14.out.trans (hB.mono (HSZ _ HB14.out))
          have HK26 : Hid (Kbn 121 u22 wk.heap.size #[.int .i64 x0, .int .i64 x1, .int .i64 x2, .slice sa n sc, .iface Tr xr]) := HK15.out.bel (hB.mono (HSZ _ HB14.out))
          have HC27 : Hid (u22.cell? ⟨u3.heap.size, 0, none⟩ = some (.iface Tr xr)) := (hB.cell (p := ⟨u3.heap.size, 0, none⟩) HT17.out).trans HC16.out
          have HT28 : Hid (u3.heap.size < u22.heap.size) := Nat.lt_of_lt_of_le HT17.out hB.size
          have HC29 : Hid (u22.cell? ⟨u7.heap.size, 0, none⟩ = some (.slice sa n sc)) := (hB.cell (p := ⟨u7.heap.size, 0, none⟩) HT18.out).trans HC19.out
          have HT30 : Hid (u7.heap.size < u22.heap.size) := Nat.lt_of_lt_of_le HT18.out hB.size
          have HC31 : Hid (u22.cell? ⟨u7.heap.size, 1, none⟩ = some (.slice (some ⟨u3.heap.size, 0, none⟩) 1 1)) := (hB.cell (p := ⟨u7.heap.size, 1, none⟩) HT18.out).trans HC20.out
          have HT32 : Hid (u7.heap.size < u22.heap.size) := Nat.lt_of_lt_of_le HT18.out hB.size
          have HR33 : Hid (RowX (PartM A w f) (fun k => u13.heap.size ≤ k) u22 ga23 (catN LL 2)) := hPR.row
          clear hB hPR
          refine hK.out _ _ (⟨HK26.out.c 0 rfl, HK26.out.c 1 rfl, HK26.out.c 2 rfl, HK26.out.c 3 rfl, HK26.out.c 4 rfl⟩) ?_
          clear hK K
          (try simp only [Act.put, List.setIfInBounds_toArray, List.set_cons_zero, List.set_cons_succ])
          refine oH 11 (fun K hK => ?b34)
          case b34 =>
            go_simp
            go_wp2_with (go_at_call 206; refine ((list_any f A w HP.out ⟨6, ⟨x0, x1, x2⟩, ((n / 2 : Nat) : Int), [], []⟩ none 0 (.inl rfl) ga23 (catN LL 2).length gc24 (catN LL 2) (fun k => u13.heap.size ≤ k) rfl HLL.out.1 HLL.out.2 u22 (HWB u22 HB25.out) HR33.out).mono fun e w' h => nds_q h).mono ?_; rintro e u35 ⟨la, lc, bs, M, rfl, hM, hmap, hNR, hB⟩)
            have HN : Hid (M = (⟨6, ⟨x0, x1, x2⟩, ((n / 2 : Nat) : Int), [], []⟩ :: (catN LL 2).flatten).length ∧ bs.map Prod.fst = ⟨6, ⟨x0, x1, x2⟩, ((n / 2 : Nat) : Int), [], []⟩ :: (catN LL 2).flatten ∧ NdR A w u35 u22.heap.size (.slice la M lc) M bs) := ⟨hM.out, hmap, hNR⟩
            have hlo : wk.heap.size ≤ u22.heap.size := by have := HSZ _ HB25.out; omega
            have HB36 : Hid (Below (wk.heap.size + 1) W1 u35) := HB25.out.trans (hB.mono (HSZ _ HB25.out))
            have HK37 : Hid (Kbn 121 u35 wk.heap.size #[.int .i64 x0, .int .i64 x1, .int .i64 x2, .slice sa n sc, .iface Tr xr]) := HK26.out.bel (hB.mono (HSZ _ HB25.out))
            clear hB hM hmap hNR
            refine hK.out _ _ (⟨HK37.out.c 0 rfl, HK37.out.c 1 rfl, HK37.out.c 2 rfl, HK37.out.c 3 rfl, HK37.out.c 4 rfl⟩) ?_
            clear hK K
            (try simp only [Act.put, List.setIfInBounds_toArray, List.set_cons_zero, List.set_cons_succ])
            refine pH 12 (⟨HK37.out.c 0 rfl, HK37.out.c 1 rfl, HK37.out.c 2 rfl, HK37.out.c 3 rfl, HK37.out.c 4 rfl⟩) ?_
            refine dH ?_
            go_wp2_with fail
            go_ret
            have HM : M = _ := HN.out.1.trans (congrArg List.length HEQ.out.symm)
            refine ⟨la, lc, bs, ret_slice18 HM, by rw [HEQ.out]; exact HN.out.2.1, ?_, HWK _ HB36.out⟩
            rw [← HM]
            exact ⟨HN.out.2.2.1, own_base18 HN.out.2.2.2.1 hlo, HN.out.2.2.2.2⟩
  case b2 =>
    go_simp
    obtain ⟨u38, hw⟩ : ∃ W, W = Wd.alloc (.cells #[.iface Tr xr] 58) := ⟨_, rfl⟩
    rw [← hw]
    have hB : Below Wd.heap.size Wd u38 := by rw [hw]; exact (Below.refl _ _).alloc (Nat.le_refl _) _
    have HB39 : Hid (Below (wk.heap.size + 1) W1 u38) := HB1.out.trans (hB.mono (HSZ _ HB1.out))
    have HK40 : Hid (Kbn 121 u38 wk.heap.size #[.int .i64 x0, .int .i64 x1, .int .i64 x2, .slice sa n sc, .iface Tr xr]) := HK1d.out.bel (hB.mono (HSZ _ HB1.out))
    have HT41 : Hid (Wd.heap.size < u38.heap.size) := by rw [hw]; show _ < _; simp
    have HC42 : Hid (u38.cell? ⟨Wd.heap.size, 0, none⟩ = some (.iface Tr xr)) := by rw [hw]; exact Kbn.c (World.alloc_heap_new Wd _) 0 rfl
    clear hw hB
    refine hK.out _ _ (⟨HK40.out.c 0 rfl, HK40.out.c 1 rfl, HK40.out.c 2 rfl, HK40.out.c 3 rfl, HK40.out.c 4 rfl⟩) ?_
    clear hK K
    (try simp only [Act.put, List.setIfInBounds_toArray, List.set_cons_zero, List.set_cons_succ])
    refine oH2 2 9 (fun K hK => ?b43) (fun K hK => ?b44)
    case b43 =>
      go_simp
      go_wp2_with (go_at_call 213; refine (act_any x0 x1 x2 sa n sc 6 hn1 u38).mono ?_; rintro e u45 ⟨rfl, hB⟩)
      have HB46 : Hid (Below (wk.heap.size + 1) W1 u45) := HB39.out.trans (hB.mono (HSZ _ HB39.out))
      have HK47 : Hid (Kbn 121 u45 wk.heap.size #[.int .i64 x0, .int .i64 x1, .int .i64 x2, .slice sa n sc, .iface Tr xr]) := HK40.out.bel (hB.mono (HSZ _ HB39.out))
      have HC48 : Hid (u45.cell? ⟨Wd.heap.size, 0, none⟩ = some (.iface Tr xr)) := (hB.cell (p := ⟨Wd.heap.size, 0, none⟩) HT41.out).trans HC42.out
      have HT49 : Hid (Wd.heap.size < u45.heap.size) := Nat.lt_of_lt_of_le HT41.out hB.size
      clear hB
      refine hK.out _ _ (⟨HK47.out.c 0 rfl, HK47.out.c 1 rfl, HK47.out.c 2 rfl, HK47.out.c 3 rfl, HK47.out.c 4 rfl⟩) ?_
      clear hK K
      (try simp only [Act.put, List.setIfInBounds_toArray, List.set_cons_zero, List.set_cons_succ])
      refine oH 9 (fun K hK => ?b50)
      case b50 =>
        go_simp
        obtain ⟨u51, hw⟩ : ∃ W, W = u45.alloc (.cells #[.slice sa n sc, .slice (some ⟨Wd.heap.size, 0, none⟩) 1 1] 117) := ⟨_, rfl⟩
        rw [← hw]
        have hB : Below u45.heap.size u45 u51 := by rw [hw]; exact (Below.refl _ _).alloc (Nat.le_refl _) _
        have HB52 : Hid (Below (wk.heap.size + 1) W1 u51) := HB46.out.trans (hB.mono (HSZ _ HB46.out))
        have HK53 : Hid (Kbn 121 u51 wk.heap.size #[.int .i64 x0, .int .i64 x1, .int .i64 x2, .slice sa n sc, .iface Tr xr]) := HK47.out.bel (hB.mono (HSZ _ HB46.out))
        have HC54 : Hid (u51.cell? ⟨Wd.heap.size, 0, none⟩ = some (.iface Tr xr)) := (hB.cell (p := ⟨Wd.heap.size, 0, none⟩) HT49.out).trans HC48.out
        have HT55 : Hid (Wd.heap.size < u51.heap.size) := Nat.lt_of_lt_of_le HT49.out hB.size
        have HT56 : Hid (u45.heap.size < u51.heap.size) := by rw [hw]; show _ < _; simp
        have HC57 : Hid (u51.cell? ⟨u45.heap.size, 0, none⟩ = some (.slice sa n sc)) := by rw [hw]; exact Kbn.c (World.alloc_heap_new u45 _) 0 rfl
        have HC58 : Hid (u51.cell? ⟨u45.heap.size, 1, none⟩ = some (.slice (some ⟨Wd.heap.size, 0, none⟩) 1 1)) := by rw [hw]; exact Kbn.c (World.alloc_heap_new u45 _) 1 rfl
        clear hw hB
        refine hK.out _ _ (⟨HK53.out.c 0 rfl, HK53.out.c 1 rfl, HK53.out.c 2 rfl, HK53.out.c 3 rfl, HK53.out.c 4 rfl⟩) ?_
        clear hK K
        (try simp only [Act.put, List.setIfInBounds_toArray, List.set_cons_zero, List.set_cons_succ])
        refine oH 10 (fun K hK => ?b59)
        case b59 =>
          have hcat : Calls Tryz.prog 214 #[.slice (some ⟨u45.heap.size, 0, none⟩) 2 2] u51 (CatP (PartM A w f) (catN LL 2) u51) := by
            refine concat_any18 (PartM A w f) (fun v ns h => pm_one v ns h) 2 (by decide) LL HLL.out.1 (fun _ => True) (fun j => if j = 0 then sa else some ⟨Wd.heap.size, 0, none⟩) (fun j => if j = 0 then sc else 1) u45.heap.size 2 u51 HT56.out ?_
            intro j hj
            obtain rfl | rfl : j = 0 ∨ j = 1 := by omega
            · exact ⟨by rw [HLe0.out, Hnn.out]; exact HC57.out, by rw [HLe0.out]; exact (HR0.out.go (HWB u51 HB52.out).size (fun k hk _ => (HWB u51 HB52.out).block k hk)).mono (fun _ _ _ => trivial)⟩
            · exact ⟨by rw [HLe1.out]; exact HC58.out, by rw [HLe1.out]; exact .inr ⟨_, 0, rfl, HT55.out, trivial, fun q hq => ⟨.iface Tr xr, (by have hq0 : q = 0 := (by simpa using hq); subst hq0; exact HC54.out), (by have hq0 : q = 0 := (by simpa using hq); subst hq0; exact hr)⟩⟩⟩
          go_simp
          go_wp2_with (go_at_call 214; refine hcat.mono ?_; rintro e u60 ⟨ga61, gc62, rfl, hPR, hB⟩)
          clear hcat
          have HB63 : Hid (Below (wk.heap.size + 1) W1 u60) := HB52.out.trans (hB.mono (HSZ _ HB52.out))
          have HK64 : Hid (Kbn 121 u60 wk.heap.size #[.int .i64 x0, .int .i64 x1, .int .i64 x2, .slice sa n sc, .iface Tr xr]) := HK53.out.bel (hB.mono (HSZ _ HB52.out))
          have HC65 : Hid (u60.cell? ⟨Wd.heap.size, 0, none⟩ = some (.iface Tr xr)) := (hB.cell (p := ⟨Wd.heap.size, 0, none⟩) HT55.out).trans HC54.out
          have HT66 : Hid (Wd.heap.size < u60.heap.size) := Nat.lt_of_lt_of_le HT55.out hB.size
          have HC67 : Hid (u60.cell? ⟨u45.heap.size, 0, none⟩ = some (.slice sa n sc)) := (hB.cell (p := ⟨u45.heap.size, 0, none⟩) HT56.out).trans HC57.out
          have HT68 : Hid (u45.heap.size < u60.heap.size) := Nat.lt_of_lt_of_le HT56.out hB.size
          have HC69 : Hid (u60.cell? ⟨u45.heap.size, 1, none⟩ = some (.slice (some ⟨Wd.heap.size, 0, none⟩) 1 1)) := (hB.cell (p := ⟨u45.heap.size, 1, none⟩) HT56.out).trans HC58.out
          have HT70 : Hid (u45.heap.size < u60.heap.size) := Nat.lt_of_lt_of_le HT56.out hB.size
          have HR71 : Hid (RowX (PartM A w f) (fun k => u51.heap.size ≤ k) u60 ga61 (catN LL 2)) := hPR.row
          clear hB hPR
          refine hK.out _ _ (⟨HK64.out.c 0 rfl, HK64.out.c 1 rfl, HK64.out.c 2 rfl, HK64.out.c 3 rfl, HK64.out.c 4 rfl⟩) ?_
          clear hK K
          (try simp only [Act.put, List.setIfInBounds_toArray, List.set_cons_zero, List.set_cons_succ])
          refine oH 11 (fun K hK => ?b72)
          case b72 =>
            go_simp
            go_wp2_with (go_at_call 206; refine ((list_any f A w HP.out ⟨6, ⟨x0, x1, x2⟩, ((n / 2 : Nat) : Int), [], []⟩ none 0 (.inl rfl) ga61 (catN LL 2).length gc62 (catN LL 2) (fun k => u51.heap.size ≤ k) rfl HLL.out.1 HLL.out.2 u60 (HWB u60 HB63.out) HR71.out).mono fun e w' h => nds_q h).mono ?_; rintro e u73 ⟨la, lc, bs, M, rfl, hM, hmap, hNR, hB⟩)
            have HN : Hid (M = (⟨6, ⟨x0, x1, x2⟩, ((n / 2 : Nat) : Int), [], []⟩ :: (catN LL 2).flatten).length ∧ bs.map Prod.fst = ⟨6, ⟨x0, x1, x2⟩, ((n / 2 : Nat) : Int), [], []⟩ :: (catN LL 2).flatten ∧ NdR A w u73 u60.heap.size (.slice la M lc) M bs) := ⟨hM.out, hmap, hNR⟩
            have hlo : wk.heap.size ≤ u60.heap.size := by have := HSZ _ HB63.out; omega
            have HB74 : Hid (Below (wk.heap.size + 1) W1 u73) := HB63.out.trans (hB.mono (HSZ _ HB63.out))
            have HK75 : Hid (Kbn 121 u73 wk.heap.size #[.int .i64 x0, .int .i64 x1, .int .i64 x2, .slice sa n sc, .iface Tr xr]) := HK64.out.bel (hB.mono (HSZ _ HB63.out))
            clear hB hM hmap hNR
            refine hK.out _ _ (⟨HK75.out.c 0 rfl, HK75.out.c 1 rfl, HK75.out.c 2 rfl, HK75.out.c 3 rfl, HK75.out.c 4 rfl⟩) ?_
            clear hK K
            (try simp only [Act.put, List.setIfInBounds_toArray, List.set_cons_zero, List.set_cons_succ])
            refine pH 12 (⟨HK75.out.c 0 rfl, HK75.out.c 1 rfl, HK75.out.c 2 rfl, HK75.out.c 3 rfl, HK75.out.c 4 rfl⟩) ?_
            refine dH ?_
            go_wp2_with fail
            go_ret
            have HM : M = _ := HN.out.1.trans (congrArg List.length HEQ.out.symm)
            refine ⟨la, lc, bs, ret_slice18 HM, by rw [HEQ.out]; exact HN.out.2.1, ?_, HWK _ HB74.out⟩
            rw [← HM]
            exact ⟨HN.out.2.2.1, own_base18 HN.out.2.2.2.1 hlo, HN.out.2.2.2.2⟩
    case b44 =>
      go_simp
      obtain ⟨u76, hw⟩ : ∃ W, W = u38.alloc (.cells #[.slice sa n sc, .slice (some ⟨Wd.heap.size, 0, none⟩) 1 1] 117) := ⟨_, rfl⟩
      rw [← hw]
      have hB : Below u38.heap.size u38 u76 := by rw [hw]; exact (Below.refl _ _).alloc (Nat.le_refl _) _
      have HB77 : Hid (Below (wk.heap.size + 1) W1 u76) := HB39.out.trans (hB.mono (HSZ _ HB39.out))
      have HK78 : Hid (Kbn 121 u76 wk.heap.size #[.int .i64 x0, .int .i64 x1, .int .i64 x2, .slice sa n sc, .iface Tr xr]) := HK40.out.bel (hB.mono (HSZ _ HB39.out))
      have HC79 : Hid (u76.cell? ⟨Wd.heap.size, 0, none⟩ = some (.iface Tr xr)) := (hB.cell (p := ⟨Wd.heap.size, 0, none⟩) HT41.out).trans HC42.out
      have HT80 : Hid (Wd.heap.size < u76.heap.size) := Nat.lt_of_lt_of_le HT41.out hB.size
      have HT81 : Hid (u38.heap.size < u76.heap.size) := by rw [hw]; show _ < _; simp
      have HC82 : Hid (u76.cell? ⟨u38.heap.size, 0, none⟩ = some (.slice sa n sc)) := by rw [hw]; exact Kbn.c (World.alloc_heap_new u38 _) 0 rfl
      have HC83 : Hid (u76.cell? ⟨u38.heap.size, 1, none⟩ = some (.slice (some ⟨Wd.heap.size, 0, none⟩) 1 1)) := by rw [hw]; exact Kbn.c (World.alloc_heap_new u38 _) 1 rfl
      clear hw hB
      refine hK.out _ _ (⟨HK78.out.c 0 rfl, HK78.out.c 1 rfl, HK78.out.c 2 rfl, HK78.out.c 3 rfl, HK78.out.c 4 rfl⟩) ?_
      clear hK K
      (try simp only [Act.put, List.setIfInBounds_toArray, List.set_cons_zero, List.set_cons_succ])
      refine oH 2 (fun K hK => ?b84)
      case b84 =>
        go_simp
        go_wp2_with (go_at_call 213; refine (act_any x0 x1 x2 sa n sc 6 hn1 u76).mono ?_; rintro e u85 ⟨rfl, hB⟩)
        have HB86 : Hid (Below (wk.heap.size + 1) W1 u85) := HB77.out.trans (hB.mono (HSZ _ HB77.out))
        have HK87 : Hid (Kbn 121 u85 wk.heap.size #[.int .i64 x0, .int .i64 x1, .int .i64 x2, .slice sa n sc, .iface Tr xr]) := HK78.out.bel (hB.mono (HSZ _ HB77.out))
        have HC88 : Hid (u85.cell? ⟨Wd.heap.size, 0, none⟩ = some (.iface Tr xr)) := (hB.cell (p := ⟨Wd.heap.size, 0, none⟩) HT80.out).trans HC79.out
        have HT89 : Hid (Wd.heap.size < u85.heap.size) := Nat.lt_of_lt_of_le HT80.out hB.size
        have HC90 : Hid (u85.cell? ⟨u38.heap.size, 0, none⟩ = some (.slice sa n sc)) := (hB.cell (p := ⟨u38.heap.size, 0, none⟩) HT81.out).trans HC82.out
        have HT91 : Hid (u38.heap.size < u85.heap.size) := Nat.lt_of_lt_of_le HT81.out hB.size
        have HC92 : Hid (u85.cell? ⟨u38.heap.size, 1, none⟩ = some (.slice (some ⟨Wd.heap.size, 0, none⟩) 1 1)) := (hB.cell (p := ⟨u38.heap.size, 1, none⟩) HT81.out).trans HC83.out
        have HT93 : Hid (u38.heap.size < u85.heap.size) := Nat.lt_of_lt_of_le HT81.out hB.size
        clear hB
        refine hK.out _ _ (⟨HK87.out.c 0 rfl, HK87.out.c 1 rfl, HK87.out.c 2 rfl, HK87.out.c 3 rfl, HK87.out.c 4 rfl⟩) ?_
        clear hK K
        (try simp only [Act.put, List.setIfInBounds_toArray, List.set_cons_zero, List.set_cons_succ])
        refine oH 10 (fun K hK => ?b94)
        case b94 =>
          have hcat : Calls Tryz.prog 214 #[.slice (some ⟨u38.heap.size, 0, none⟩) 2 2] u85 (CatP (PartM A w f) (catN LL 2) u85) := by
            refine concat_any18 (PartM A w f) (fun v ns h => pm_one v ns h) 2 (by decide) LL HLL.out.1 (fun _ => True) (fun j => if j = 0 then sa else some ⟨Wd.heap.size, 0, none⟩) (fun j => if j = 0 then sc else 1) u38.heap.size 2 u85 HT91.out ?_
            intro j hj
            obtain rfl | rfl : j = 0 ∨ j = 1 := by omega
            · exact ⟨by rw [HLe0.out, Hnn.out]; exact HC90.out, by rw [HLe0.out]; exact (HR0.out.go (HWB u85 HB86.out).size (fun k hk _ => (HWB u85 HB86.out).block k hk)).mono (fun _ _ _ => trivial)⟩
            · exact ⟨by rw [HLe1.out]; exact HC92.out, by rw [HLe1.out]; exact .inr ⟨_, 0, rfl, HT89.out, trivial, fun q hq => ⟨.iface Tr xr, (by have hq0 : q = 0 := (by simpa using hq); subst hq0; exact HC88.out), (by have hq0 : q = 0 := (by simpa using hq); subst hq0; exact hr)⟩⟩⟩
          go_simp
          go_wp2_with (go_at_call 214; refine hcat.mono ?_; rintro e u95 ⟨ga96, gc97, rfl, hPR, hB⟩)
          clear hcat
          have HB98 : Hid (Below (wk.heap.size + 1) W1 u95) := HB86.out.trans (hB.mono (HSZ _ HB86.out))
          have HK99 : Hid (Kbn 121 u95 wk.heap.size #[.int .i64 x0, .int .i64 x1, .int .i64 x2, .slice sa n sc, .iface Tr xr]) := HK87.out.bel (hB.mono (HSZ _ HB86.out))
          have HC100 : Hid (u95.cell? ⟨Wd.heap.size, 0, none⟩ = some (.iface Tr xr)) := (hB.cell (p := ⟨Wd.heap.size, 0, none⟩) HT89.out).trans HC88.out
          have HT101 : Hid (Wd.heap.size < u95.heap.size) := Nat.lt_of_lt_of_le HT89.out hB.size
          have HC102 : Hid (u95.cell? ⟨u38.heap.size, 0, none⟩ = some (.slice sa n sc)) := (hB.cell (p := ⟨u38.heap.size, 0, none⟩) HT91.out).trans HC90.out
          have HT103 : Hid (u38.heap.size < u95.heap.size) := Nat.lt_of_lt_of_le HT91.out hB.size
          have HC104 : Hid (u95.cell? ⟨u38.heap.size, 1, none⟩ = some (.slice (some ⟨Wd.heap.size, 0, none⟩) 1 1)) := (hB.cell (p := ⟨u38.heap.size, 1, none⟩) HT93.out).trans HC92.out
          have HT105 : Hid (u38.heap.size < u95.heap.size) := Nat.lt_of_lt_of_le HT93.out hB.size
          have HR106 : Hid (RowX (PartM A w f) (fun k => u85.heap.size ≤ k) u95 ga96 (catN LL 2)) := hPR.row
          clear hB hPR
          refine hK.out _ _ (⟨HK99.out.c 0 rfl, HK99.out.c 1 rfl, HK99.out.c 2 rfl, HK99.out.c 3 rfl, HK99.out.c 4 rfl⟩) ?_
          clear hK K
          (try simp only [Act.put, List.setIfInBounds_toArray, List.set_cons_zero, List.set_cons_succ])
          refine oH 11 (fun K hK => ?b107)
          case b107 =>
            go_simp
            go_wp2_with (go_at_call 206; refine ((list_any f A w HP.out ⟨6, ⟨x0, x1, x2⟩, ((n / 2 : Nat) : Int), [], []⟩ none 0 (.inl rfl) ga96 (catN LL 2).length gc97 (catN LL 2) (fun k => u85.heap.size ≤ k) rfl HLL.out.1 HLL.out.2 u95 (HWB u95 HB98.out) HR106.out).mono fun e w' h => nds_q h).mono ?_; rintro e u108 ⟨la, lc, bs, M, rfl, hM, hmap, hNR, hB⟩)
            have HN : Hid (M = (⟨6, ⟨x0, x1, x2⟩, ((n / 2 : Nat) : Int), [], []⟩ :: (catN LL 2).flatten).length ∧ bs.map Prod.fst = ⟨6, ⟨x0, x1, x2⟩, ((n / 2 : Nat) : Int), [], []⟩ :: (catN LL 2).flatten ∧ NdR A w u108 u95.heap.size (.slice la M lc) M bs) := ⟨hM.out, hmap, hNR⟩
            have hlo : wk.heap.size ≤ u95.heap.size := by have := HSZ _ HB98.out; omega
            have HB109 : Hid (Below (wk.heap.size + 1) W1 u108) := HB98.out.trans (hB.mono (HSZ _ HB98.out))
            have HK110 : Hid (Kbn 121 u108 wk.heap.size #[.int .i64 x0, .int .i64 x1, .int .i64 x2, .slice sa n sc, .iface Tr xr]) := HK99.out.bel (hB.mono (HSZ _ HB98.out))
            clear hB hM hmap hNR
            refine hK.out _ _ (⟨HK110.out.c 0 rfl, HK110.out.c 1 rfl, HK110.out.c 2 rfl, HK110.out.c 3 rfl, HK110.out.c 4 rfl⟩) ?_
            clear hK K
            (try simp only [Act.put, List.setIfInBounds_toArray, List.set_cons_zero, List.set_cons_succ])
            refine pH 12 (⟨HK110.out.c 0 rfl, HK110.out.c 1 rfl, HK110.out.c 2 rfl, HK110.out.c 3 rfl, HK110.out.c 4 rfl⟩) ?_
            refine dH ?_
            go_wp2_with fail
            go_ret
            have HM : M = _ := HN.out.1.trans (congrArg List.length HEQ.out.symm)
            refine ⟨la, lc, bs, ret_slice18 HM, by rw [HEQ.out]; exact HN.out.2.1, ?_, HWK _ HB109.out⟩
            rw [← HM]
            exact ⟨HN.out.2.2.1, own_base18 HN.out.2.2.2.1 hlo, HN.out.2.2.2.2⟩
set_option maxRecDepth 100000 in
set_option maxHeartbeats 8000000 in
theorem nd_two (f : Nat) (A : Nat → Prop) (w : World) (hP : ∀ v ns, PartM A w f v ns → ns.length ≤ 1000 → ns ≠ [] ∧ NdC A w v ns) (x0 x1 x2 : Int) (sa : Option Addr) (n sc : Nat) (nss : List (List Nod)) (hn : nss.length = n) (hR0 : RowX (PartM A w f) A w sa nss) (Tl : TypeId) (xl : Value) (nl : List Nod) (hlp : PartM A w f (.iface Tl xl) nl) (Tr : TypeId) (xr : Value) (nr : List Nod) (hr : PartM A w f (.iface Tr xr) nr) (hl : (⟨7, ⟨x0, x1, x2⟩, ((n / 2 : Nat) : Int), [], []⟩ :: (nl ++ nss.flatten ++ nr)).length ≤ 1000) (wk : World) (hkk : Below w.heap.size w wk) :
    Calls Tryz.prog 216 #[.agg #[.int .i64 x0, .int .i64 x1, .int .i64 x2, .slice sa n sc, .iface Tl xl, .iface Tr xr]] wk (NdsP A w (⟨7, ⟨x0, x1, x2⟩, ((n / 2 : Nat) : Int), [], []⟩ :: (nl ++ nss.flatten ++ nr)) wk) := by
  have hn1 : n ≤ 1000 := by have := flat_le hR0.ne; simp only [List.length_cons, List.length_append] at hl; omega
  have HR0 : Hid (RowX (PartM A w f) A w sa nss) := hR0
  have HP : Hid (∀ v ns, PartM A w f v ns → ns.length ≤ 1000 → ns ≠ [] ∧ NdC A w v ns) := hP
  subst hn
  generalize hnn : nss.length = n at *
  obtain ⟨LL, hLL⟩ : ∃ LL : Nat → List (List Nod), LL = fun j => if j = 0 then [nl] else if j = 1 then nss else [nr] := ⟨_, rfl⟩
  have hcat2 : catN LL 3 = nl :: nss ++ [nr] := by rw [hLL]; rfl
  have HLe0 : Hid (LL 0 = [nl]) := by rw [hLL]; rfl
  have HLe1 : Hid (LL 1 = nss) := by rw [hLL]; rfl
  have HLe2 : Hid (LL 2 = [nr]) := by rw [hLL]; rfl
  have Hnn : Hid (nss.length = n) := hnn
  have HEQ : Hid ((⟨7, ⟨x0, x1, x2⟩, ((n / 2 : Nat) : Int), [], []⟩ :: (nl ++ nss.flatten ++ nr)) = ⟨7, ⟨x0, x1, x2⟩, ((n / 2 : Nat) : Int), [], []⟩ :: (catN LL 3).flatten) := by show _ = _; rw [hcat2]; simp
  have HLL : Hid ((catN LL 3).length ≤ 1000 ∧ (catN LL 3).flatten.length < 1000) := by
    have h1 : (⟨7, ⟨x0, x1, x2⟩, ((n / 2 : Nat) : Int), [], []⟩ :: (nl ++ nss.flatten ++ nr)).length = (catN LL 3).flatten.length + 1 := by rw [HEQ.out, List.length_cons]
    have h2 : (catN LL 3).length ≤ (catN LL 3).flatten.length := flat_le (by rw [hcat2]; exact ne_snoc (ne_cons hR0.ne (pm_iface hlp).1) (pm_iface hr).1)
    exact ⟨by omega, by omega⟩
  obtain ⟨W1, hW1⟩ : ∃ W, W = wk.alloc (.cells #[.int .i64 x0, .int .i64 x1, .int .i64 x2, .slice sa n sc, .iface Tl xl, .iface Tr xr] 126) := ⟨_, rfl⟩
  have HK1 : Hid (Kbn 126 W1 wk.heap.size #[.int .i64 x0, .int .i64 x1, .int .i64 x2, .slice sa n sc, .iface Tl xl, .iface Tr xr]) := by rw [hW1]; exact World.alloc_heap_new wk _
  have HS1 : Hid (W1.heap.size = wk.heap.size + 1) := by show _ = _; rw [hW1]; simp
  have HBk : Hid (Below wk.heap.size wk W1) := by rw [hW1]; exact (Below.refl _ wk).alloc (Nat.le_refl _) _
  have HB1 : Hid (Below (wk.heap.size + 1) W1 W1.drew) := (Below.refl _ W1).drew
  have HK1d : Hid (Kbn 126 W1.drew wk.heap.size #[.int .i64 x0, .int .i64 x1, .int .i64 x2, .slice sa n sc, .iface Tl xl, .iface Tr xr]) := HK1.out
  have HSZ : ∀ u, Below (wk.heap.size + 1) W1 u → wk.heap.size + 1 ≤ u.heap.size := fun u h => by have := h.size; have := HS1.out; omega
  have HWK : ∀ u, Below (wk.heap.size + 1) W1 u → Below wk.heap.size wk u := fun u h => HBk.out.trans (h.mono (Nat.le_succ _))
  have HWB : ∀ u, Below (wk.heap.size + 1) W1 u → Below w.heap.size w u := fun u h => hkk.trans ((HWK u h).mono hkk.size)
  clear hP hl hnn hLL hcat2
  go_enter Tryz.func216, Tryz.ntmps216
  go_wp2_with fail
  rw [← hW1]
  clear hW1
  refine bH (fun w' => w'.cell? ⟨wk.heap.size, 0, none⟩ = some (.int .i64 x0) ∧ w'.cell? ⟨wk.heap.size, 1, none⟩ = some (.int .i64 x1) ∧ w'.cell? ⟨wk.heap.size, 2, none⟩ = some (.int .i64 x2) ∧ w'.cell? ⟨wk.heap.size, 3, none⟩ = some (.slice sa n sc) ∧ w'.cell? ⟨wk.heap.size, 4, none⟩ = some (.iface Tl xl) ∧ w'.cell? ⟨wk.heap.size, 5, none⟩ = some (.iface Tr xr)) 16 (⟨HK1.out.c 0 rfl, HK1.out.c 1 rfl, HK1.out.c 2 rfl, HK1.out.c 3 rfl, HK1.out.c 4 rfl, HK1.out.c 5 rfl⟩) fun hq => ?_
  generalize W1.drew = Wd at *
  refine pH 0 (hq) ?_
  refine lH 1 (hq) ?_
  refine pH 3 (hq) ?_
  refine lH 4 (hq) ?_
  refine pH 6 (hq) ?_
  refine pH 7 (hq) ?_
  refine lH 8 (hq) ?_
  refine pH 9 (hq) ?_
  refine lH 10 (hq) ?_
  refine oH3 2 5 11 (fun K hK => ?b111) (fun K hK => ?b112) (fun K hK => ?b113)
  case b111 =>
    go_simp
    go_wp2_with (go_at_call 213; refine (act_any x0 x1 x2 sa n sc 7 hn1 Wd).mono ?_; rintro e u114 ⟨rfl, hB⟩)
    have HB115 : Hid (Below (wk.heap.size + 1) W1 u114) := HB1.out.trans (hB.mono (HSZ _ HB1.out))
    have HK116 : Hid (Kbn 126 u114 wk.heap.size #[.int .i64 x0, .int .i64 x1, .int .i64 x2, .slice sa n sc, .iface Tl xl, .iface Tr xr]) := HK1d.out.bel (hB.mono (HSZ _ HB1.out))
    clear hB
    refine hK.out _ _ (⟨HK116.out.c 0 rfl, HK116.out.c 1 rfl, HK116.out.c 2 rfl, HK116.out.c 3 rfl, HK116.out.c 4 rfl, HK116.out.c 5 rfl⟩) ?_
    clear hK K
    (try simp only [Act.put, List.setIfInBounds_toArray, List.set_cons_zero, List.set_cons_succ])
    refine oH2 5 11 (fun K hK => ?b117) (fun K hK => ?b118)
    case b117 =>
      go_simp
      obtain ⟨u119, hw⟩ : ∃ W, W = u114.alloc (.cells #[.iface Tl xl] 58) := ⟨_, rfl⟩
      rw [← hw]
      have hB : Below u114.heap.size u114 u119 := by rw [hw]; exact (Below.refl _ _).alloc (Nat.le_refl _) _
      have HB120 : Hid (Below (wk.heap.size + 1) W1 u119) := HB115.out.trans (hB.mono (HSZ _ HB115.out))
      have HK121 : Hid (Kbn 126 u119 wk.heap.size #[.int .i64 x0, .int .i64 x1, .int .i64 x2, .slice sa n sc, .iface Tl xl, .iface Tr xr]) := HK116.out.bel (hB.mono (HSZ _ HB115.out))
      have HT122 : Hid (u114.heap.size < u119.heap.size) := by rw [hw]; show _ < _; simp
      have HC123 : Hid (u119.cell? ⟨u114.heap.size, 0, none⟩ = some (.iface Tl xl)) := by rw [hw]; exact Kbn.c (World.alloc_heap_new u114 _) 0 rfl
      clear hw hB
      refine hK.out _ _ (⟨HK121.out.c 0 rfl, HK121.out.c 1 rfl, HK121.out.c 2 rfl, HK121.out.c 3 rfl, HK121.out.c 4 rfl, HK121.out.c 5 rfl⟩) ?_
      clear hK K
      (try simp only [Act.put, List.setIfInBounds_toArray, List.set_cons_zero, List.set_cons_succ])
      refine oH 11 (fun K hK => ?b124)
      case b124 =>
        go_simp
        obtain ⟨u125, hw⟩ : ∃ W, W = u119.alloc (.cells #[.iface Tr xr] 58) := ⟨_, rfl⟩
        rw [← hw]
        have hB : Below u119.heap.size u119 u125 := by rw [hw]; exact (Below.refl _ _).alloc (Nat.le_refl _) _
        have HB126 : Hid (Below (wk.heap.size + 1) W1 u125) := HB120.out.trans (hB.mono (HSZ _ HB120.out))
        have HK127 : Hid (Kbn 126 u125 wk.heap.size #[.int .i64 x0, .int .i64 x1, .int .i64 x2, .slice sa n sc, .iface Tl xl, .iface Tr xr]) := HK121.out.bel (hB.mono (HSZ _ HB120.out))
        have HC128 : Hid (u125.cell? ⟨u114.heap.size, 0, none⟩ = some (.iface Tl xl)) := (hB.cell (p := ⟨u114.heap.size, 0, none⟩) HT122.out).trans HC123.out
        have HT129 : Hid (u114.heap.size < u125.heap.size) := Nat.lt_of_lt_of_le HT122.out hB.size
        have HT130 : Hid (u119.heap.size < u125.heap.size) := by rw [hw]; show _ < _; simp
        have HC131 : Hid (u125.cell? ⟨u119.heap.size, 0, none⟩ = some (.iface Tr xr)) := by rw [hw]; exact Kbn.c (World.alloc_heap_new u119 _) 0 rfl
        clear hw hB
        refine hK.out _ _ (⟨HK127.out.c 0 rfl, HK127.out.c 1 rfl, HK127.out.c 2 rfl, HK127.out.c 3 rfl, HK127.out.c 4 rfl, HK127.out.c 5 rfl⟩) ?_
        clear hK K
        (try simp only [Act.put, List.setIfInBounds_toArray, List.set_cons_zero, List.set_cons_succ])
        refine oH 12 (fun K hK => ?b132)
        case b132 =>
          go_simp
          obtain ⟨u133, hw⟩ : ∃ W, W = u125.alloc (.cells #[.slice (some ⟨u114.heap.size, 0, none⟩) 1 1, .slice sa n sc, .slice (some ⟨u119.heap.size, 0, none⟩) 1 1] 117) := ⟨_, rfl⟩
          rw [← hw]
          have hB : Below u125.heap.size u125 u133 := by rw [hw]; exact (Below.refl _ _).alloc (Nat.le_refl _) _
          have HB134 : Hid (Below (wk.heap.size + 1) W1 u133) := HB126.out.trans (hB.mono (HSZ _ HB126.out))
          have HK135 : Hid (Kbn 126 u133 wk.heap.size #[.int .i64 x0, .int .i64 x1, .int .i64 x2, .slice sa n sc, .iface Tl xl, .iface Tr xr]) := HK127.out.bel (hB.mono (HSZ _ HB126.out))
          have HC136 : Hid (u133.cell? ⟨u114.heap.size, 0, none⟩ = some (.iface Tl xl)) := (hB.cell (p := ⟨u114.heap.size, 0, none⟩) HT129.out).trans HC128.out
          have HT137 : Hid (u114.heap.size < u133.heap.size) := Nat.lt_of_lt_of_le HT129.out hB.size
          have HC138 : Hid (u133.cell? ⟨u119.heap.size, 0, none⟩ = some (.iface Tr xr)) := (hB.cell (p := ⟨u119.heap.size, 0, none⟩) HT130.out).trans HC131.out
          have HT139 : Hid (u119.heap.size < u133.heap.size) := Nat.lt_of_lt_of_le HT130.out hB.size
          have HT140 : Hid (u125.heap.size < u133.heap.size) := by rw [hw]; show _ < _; simp
          have HC141 : Hid (u133.cell? ⟨u125.heap.size, 0, none⟩ = some (.slice (some ⟨u114.heap.size, 0, none⟩) 1 1)) := by rw [hw]; exact Kbn.c (World.alloc_heap_new u125 _) 0 rfl
          have HC142 : Hid (u133.cell? ⟨u125.heap.size, 1, none⟩ = some (.slice sa n sc)) := by rw [hw]; exact Kbn.c (World.alloc_heap_new u125 _) 1 rfl
          have HC143 : Hid (u133.cell? ⟨u125.heap.size, 2, none⟩ = some (.slice (some ⟨u119.heap.size, 0, none⟩) 1 1)) := by rw [hw]; exact Kbn.c (World.alloc_heap_new u125 _) 2 rfl
          clear hw hB
          refine hK.out _ _ (⟨HK135.out.c 0 rfl, HK135.out.c 1 rfl, HK135.out.c 2 rfl, HK135.out.c 3 rfl, HK135.out.c 4 rfl, HK135.out.c 5 rfl⟩) ?_
          clear hK K
          (try simp only [Act.put, List.setIfInBounds_toArray, List.set_cons_zero, List.set_cons_succ])
          refine oH 13 (fun K hK => ?b144)
          case b144 =>
            have hcat : Calls Tryz.prog 214 #[.slice (some ⟨u125.heap.size, 0, none⟩) 3 3] u133 (CatP (PartM A w f) (catN LL 3) u133) := by
              refine concat_any18 (PartM A w f) (fun v ns h => pm_one v ns h) 3 (by decide) LL HLL.out.1 (fun _ => True) (fun j => if j = 0 then some ⟨u114.heap.size, 0, none⟩ else if j = 1 then sa else some ⟨u119.heap.size, 0, none⟩) (fun j => if j = 0 then 1 else if j = 1 then sc else 1) u125.heap.size 3 u133 HT140.out ?_
              intro j hj
              obtain rfl | rfl | rfl : j = 0 ∨ j = 1 ∨ j = 2 := by omega
              · exact ⟨by rw [HLe0.out]; exact HC141.out, by rw [HLe0.out]; exact .inr ⟨_, 0, rfl, HT137.out, trivial, fun q hq => ⟨.iface Tl xl, (by have hq0 : q = 0 := (by simpa using hq); subst hq0; exact HC136.out), (by have hq0 : q = 0 := (by simpa using hq); subst hq0; exact hlp)⟩⟩⟩
              · exact ⟨by rw [HLe1.out, Hnn.out]; exact HC142.out, by rw [HLe1.out]; exact (HR0.out.go (HWB u133 HB134.out).size (fun k hk _ => (HWB u133 HB134.out).block k hk)).mono (fun _ _ _ => trivial)⟩
              · exact ⟨by rw [HLe2.out]; exact HC143.out, by rw [HLe2.out]; exact .inr ⟨_, 0, rfl, HT139.out, trivial, fun q hq => ⟨.iface Tr xr, (by have hq0 : q = 0 := (by simpa using hq); subst hq0; exact HC138.out), (by have hq0 : q = 0 := (by simpa using hq); subst hq0; exact hr)⟩⟩⟩
            go_simp
            go_wp2_with (go_at_call 214; refine hcat.mono ?_; rintro e u145 ⟨ga146, gc147, rfl, hPR, hB⟩)
            clear hcat
            have HB148 : Hid (Below (wk.heap.size + 1) W1 u145) := HB134.out.trans (hB.mono (HSZ _ HB134.out))
            have HK149 : Hid (Kbn 126 u145 wk.heap.size #[.int .i64 x0, .int .i64 x1, .int .i64 x2, .slice sa n sc, .iface Tl xl, .iface Tr xr]) := HK135.out.bel (hB.mono (HSZ _ HB134.out))
            have HC150 : Hid (u145.cell? ⟨u114.heap.size, 0, none⟩ = some (.iface Tl xl)) := (hB.cell (p := ⟨u114.heap.size, 0, none⟩) HT137.out).trans HC136.out
            have HT151 : Hid (u114.heap.size < u145.heap.size) := Nat.lt_of_lt_of_le HT137.out hB.size
            have HC152 : Hid (u145.cell? ⟨u119.heap.size, 0, none⟩ = some (.iface Tr xr)) := (hB.cell (p := ⟨u119.heap.size, 0, none⟩) HT139.out).trans HC138.out
            have HT153 : Hid (u119.heap.size < u145.heap.size) := Nat.lt_of_lt_of_le HT139.out hB.size
            have HC154 : Hid (u145.cell? ⟨u125.heap.size, 0, none⟩ = some (.slice (some ⟨u114.heap.size, 0, none⟩) 1 1)) := (hB.cell (p := ⟨u125.heap.size, 0, none⟩) HT140.out).trans HC141.out
            have HT155 : Hid (u125.heap.size < u145.heap.size) := Nat.lt_of_lt_of_le HT140.out hB.size
            have HC156 : Hid (u145.cell? ⟨u125.heap.size, 1, none⟩ = some (.slice sa n sc)) := (hB.cell (p := ⟨u125.heap.size, 1, none⟩) HT140.out).trans HC142.out
            have HT157 : Hid (u125.heap.size < u145.heap.size) := Nat.lt_of_lt_of_le HT140.out hB.size
            have HC158 : Hid (u145.cell? ⟨u125.heap.size, 2, none⟩ = some (.slice (some ⟨u119.heap.size, 0, none⟩) 1 1)) := (hB.cell (p := ⟨u125.heap.size, 2, none⟩) HT140.out).trans HC143.out
            have HT159 : Hid (u125.heap.size < u145.heap.size) := Nat.lt_of_lt_of_le HT140.out hB.size
            have HR160 : Hid (RowX (PartM A w f) (fun k => u133.heap.size ≤ k) u145 ga146 (catN LL 3)) := hPR.row
            clear hB hPR
            refine hK.out _ _ (⟨HK149.out.c 0 rfl, HK149.out.c 1 rfl, HK149.out.c 2 rfl, HK149.out.c 3 rfl, HK149.out.c 4 rfl, HK149.out.c 5 rfl⟩) ?_
            clear hK K
            (try simp only [Act.put, List.setIfInBounds_toArray, List.set_cons_zero, List.set_cons_succ])
            refine oH 14 (fun K hK => ?b161)
            case b161 =>
              go_simp
              go_wp2_with (go_at_call 206; refine ((list_any f A w HP.out ⟨7, ⟨x0, x1, x2⟩, ((n / 2 : Nat) : Int), [], []⟩ none 0 (.inl rfl) ga146 (catN LL 3).length gc147 (catN LL 3) (fun k => u133.heap.size ≤ k) rfl HLL.out.1 HLL.out.2 u145 (HWB u145 HB148.out) HR160.out).mono fun e w' h => nds_q h).mono ?_; rintro e u162 ⟨la, lc, bs, M, rfl, hM, hmap, hNR, hB⟩)
              have HN : Hid (M = (⟨7, ⟨x0, x1, x2⟩, ((n / 2 : Nat) : Int), [], []⟩ :: (catN LL 3).flatten).length ∧ bs.map Prod.fst = ⟨7, ⟨x0, x1, x2⟩, ((n / 2 : Nat) : Int), [], []⟩ :: (catN LL 3).flatten ∧ NdR A w u162 u145.heap.size (.slice la M lc) M bs) := ⟨hM.out, hmap, hNR⟩
              have hlo : wk.heap.size ≤ u145.heap.size := by have := HSZ _ HB148.out; omega
              have HB163 : Hid (Below (wk.heap.size + 1) W1 u162) := HB148.out.trans (hB.mono (HSZ _ HB148.out))
              have HK164 : Hid (Kbn 126 u162 wk.heap.size #[.int .i64 x0, .int .i64 x1, .int .i64 x2, .slice sa n sc, .iface Tl xl, .iface Tr xr]) := HK149.out.bel (hB.mono (HSZ _ HB148.out))
              clear hB hM hmap hNR
              refine hK.out _ _ (⟨HK164.out.c 0 rfl, HK164.out.c 1 rfl, HK164.out.c 2 rfl, HK164.out.c 3 rfl, HK164.out.c 4 rfl, HK164.out.c 5 rfl⟩) ?_
              clear hK K
              (try simp only [Act.put, List.setIfInBounds_toArray, List.set_cons_zero, List.set_cons_succ])
              refine pH 15 (⟨HK164.out.c 0 rfl, HK164.out.c 1 rfl, HK164.out.c 2 rfl, HK164.out.c 3 rfl, HK164.out.c 4 rfl, HK164.out.c 5 rfl⟩) ?_
              refine dH ?_
              go_wp2_with fail
              go_ret
              have HM : M = _ := HN.out.1.trans (congrArg List.length HEQ.out.symm)
              refine ⟨la, lc, bs, ret_slice18 HM, by rw [HEQ.out]; exact HN.out.2.1, ?_, HWK _ HB163.out⟩
              rw [← HM]
              exact ⟨HN.out.2.2.1, own_base18 HN.out.2.2.2.1 hlo, HN.out.2.2.2.2⟩
    case b118 =>
      go_simp
      obtain ⟨u165, hw⟩ : ∃ W, W = u114.alloc (.cells #[.iface Tr xr] 58) := ⟨_, rfl⟩
      rw [← hw]
      have hB : Below u114.heap.size u114 u165 := by rw [hw]; exact (Below.refl _ _).alloc (Nat.le_refl _) _
      have HB166 : Hid (Below (wk.heap.size + 1) W1 u165) := HB115.out.trans (hB.mono (HSZ _ HB115.out))
      have HK167 : Hid (Kbn 126 u165 wk.heap.size #[.int .i64 x0, .int .i64 x1, .int .i64 x2, .slice sa n sc, .iface Tl xl, .iface Tr xr]) := HK116.out.bel (hB.mono (HSZ _ HB115.out))
      have HT168 : Hid (u114.heap.size < u165.heap.size) := by rw [hw]; show _ < _; simp
      have HC169 : Hid (u165.cell? ⟨u114.heap.size, 0, none⟩ = some (.iface Tr xr)) := by rw [hw]; exact Kbn.c (World.alloc_heap_new u114 _) 0 rfl
      clear hw hB
      refine hK.out _ _ (⟨HK167.out.c 0 rfl, HK167.out.c 1 rfl, HK167.out.c 2 rfl, HK167.out.c 3 rfl, HK167.out.c 4 rfl, HK167.out.c 5 rfl⟩) ?_
      clear hK K
      (try simp only [Act.put, List.setIfInBounds_toArray, List.set_cons_zero, List.set_cons_succ])
      refine oH 5 (fun K hK => ?b170)
      case b170 =>
        go_simp
        obtain ⟨u171, hw⟩ : ∃ W, W = u165.alloc (.cells #[.iface Tl xl] 58) := ⟨_, rfl⟩
        rw [← hw]
        have hB : Below u165.heap.size u165 u171 := by rw [hw]; exact (Below.refl _ _).alloc (Nat.le_refl _) _
        have HB172 : Hid (Below (wk.heap.size + 1) W1 u171) := HB166.out.trans (hB.mono (HSZ _ HB166.out))
        have HK173 : Hid (Kbn 126 u171 wk.heap.size #[.int .i64 x0, .int .i64 x1, .int .i64 x2, .slice sa n sc, .iface Tl xl, .iface Tr xr]) := HK167.out.bel (hB.mono (HSZ _ HB166.out))
        have HC174 : Hid (u171.cell? ⟨u114.heap.size, 0, none⟩ = some (.iface Tr xr)) := (hB.cell (p := ⟨u114.heap.size, 0, none⟩) HT168.out).trans HC169.out
        have HT175 : Hid (u114.heap.size < u171.heap.size) := Nat.lt_of_lt_of_le HT168.out hB.size
        have HT176 : Hid (u165.heap.size < u171.heap.size) := by rw [hw]; show _ < _; simp
        have HC177 : Hid (u171.cell? ⟨u165.heap.size, 0, none⟩ = some (.iface Tl xl)) := by rw [hw]; exact Kbn.c (World.alloc_heap_new u165 _) 0 rfl
        clear hw hB
        refine hK.out _ _ (⟨HK173.out.c 0 rfl, HK173.out.c 1 rfl, HK173.out.c 2 rfl, HK173.out.c 3 rfl, HK173.out.c 4 rfl, HK173.out.c 5 rfl⟩) ?_
        clear hK K
        (try simp only [Act.put, List.setIfInBounds_toArray, List.set_cons_zero, List.set_cons_succ])
        refine oH 12 (fun K hK => ?b178)
        case b178 =>
          go_simp
          obtain ⟨u179, hw⟩ : ∃ W, W = u171.alloc (.cells #[.slice (some ⟨u165.heap.size, 0, none⟩) 1 1, .slice sa n sc, .slice (some ⟨u114.heap.size, 0, none⟩) 1 1] 117) := ⟨_, rfl⟩
          rw [← hw]
          have hB : Below u171.heap.size u171 u179 := by rw [hw]; exact (Below.refl _ _).alloc (Nat.le_refl _) _
          have HB180 : Hid (Below (wk.heap.size + 1) W1 u179) := HB172.out.trans (hB.mono (HSZ _ HB172.out))
          have HK181 : Hid (Kbn 126 u179 wk.heap.size #[.int .i64 x0, .int .i64 x1, .int .i64 x2, .slice sa n sc, .iface Tl xl, .iface Tr xr]) := HK173.out.bel (hB.mono (HSZ _ HB172.out))
          have HC182 : Hid (u179.cell? ⟨u114.heap.size, 0, none⟩ = some (.iface Tr xr)) := (hB.cell (p := ⟨u114.heap.size, 0, none⟩) HT175.out).trans HC174.out
          have HT183 : Hid (u114.heap.size < u179.heap.size) := Nat.lt_of_lt_of_le HT175.out hB.size
          have HC184 : Hid (u179.cell? ⟨u165.heap.size, 0, none⟩ = some (.iface Tl xl)) := (hB.cell (p := ⟨u165.heap.size, 0, none⟩) HT176.out).trans HC177.out
          have HT185 : Hid (u165.heap.size < u179.heap.size) := Nat.lt_of_lt_of_le HT176.out hB.size
          have HT186 : Hid (u171.heap.size < u179.heap.size) := by rw [hw]; show _ < _; simp
          have HC187 : Hid (u179.cell? ⟨u171.heap.size, 0, none⟩ = some (.slice (some ⟨u165.heap.size, 0, none⟩) 1 1)) := by rw [hw]; exact Kbn.c (World.alloc_heap_new u171 _) 0 rfl
          have HC188 : Hid (u179.cell? ⟨u171.heap.size, 1, none⟩ = some (.slice sa n sc)) := by rw [hw]; exact Kbn.c (World.alloc_heap_new u171 _) 1 rfl
          have HC189 : Hid (u179.cell? ⟨u171.heap.size, 2, none⟩ = some (.slice (some ⟨u114.heap.size, 0, none⟩) 1 1)) := by rw [hw]; exact Kbn.c (World.alloc_heap_new u171 _) 2 rfl
          clear hw hB
          refine hK.out _ _ (⟨HK181.out.c 0 rfl, HK181.out.c 1 rfl, HK181.out.c 2 rfl, HK181.out.c 3 rfl, HK181.out.c 4 rfl, HK181.out.c 5 rfl⟩) ?_
          clear hK K
          (try simp only [Act.put, List.setIfInBounds_toArray, List.set_cons_zero, List.set_cons_succ])
          refine oH 13 (fun K hK => ?b190)
          case b190 =>
            have hcat : Calls Tryz.prog 214 #[.slice (some ⟨u171.heap.size, 0, none⟩) 3 3] u179 (CatP (PartM A w f) (catN LL 3) u179) := by
              refine concat_any18 (PartM A w f) (fun v ns h => pm_one v ns h) 3 (by decide) LL HLL.out.1 (fun _ => True) (fun j => if j = 0 then some ⟨u165.heap.size, 0, none⟩ else if j = 1 then sa else some ⟨u114.heap.size, 0, none⟩) (fun j => if j = 0 then 1 else if j = 1 then sc else 1) u171.heap.size 3 u179 HT186.out ?_
              intro j hj
              obtain rfl | rfl | rfl : j = 0 ∨ j = 1 ∨ j = 2 := by omega
              · exact ⟨by rw [HLe0.out]; exact HC187.out, by rw [HLe0.out]; exact .inr ⟨_, 0, rfl, HT185.out, trivial, fun q hq => ⟨.iface Tl xl, (by have hq0 : q = 0 := (by simpa using hq); subst hq0; exact HC184.out), (by have hq0 : q = 0 := (by simpa using hq); subst hq0; exact hlp)⟩⟩⟩
              · exact ⟨by rw [HLe1.out, Hnn.out]; exact HC188.out, by rw [HLe1.out]; exact (HR0.out.go (HWB u179 HB180.out).size (fun k hk _ => (HWB u179 HB180.out).block k hk)).mono (fun _ _ _ => trivial)⟩
              · exact ⟨by rw [HLe2.out]; exact HC189.out, by rw [HLe2.out]; exact .inr ⟨_, 0, rfl, HT183.out, trivial, fun q hq => ⟨.iface Tr xr, (by have hq0 : q = 0 := (by simpa using hq); subst hq0; exact HC182.out), (by have hq0 : q = 0 := (by simpa using hq); subst hq0; exact hr)⟩⟩⟩
            go_simp
            go_wp2_with (go_at_call 214; refine hcat.mono ?_; rintro e u191 ⟨ga192, gc193, rfl, hPR, hB⟩)
            clear hcat
            have HB194 : Hid (Below (wk.heap.size + 1) W1 u191) := HB180.out.trans (hB.mono (HSZ _ HB180.out))
            have HK195 : Hid (Kbn 126 u191 wk.heap.size #[.int .i64 x0, .int .i64 x1, .int .i64 x2, .slice sa n sc, .iface Tl xl, .iface Tr xr]) := HK181.out.bel (hB.mono (HSZ _ HB180.out))
            have HC196 : Hid (u191.cell? ⟨u114.heap.size, 0, none⟩ = some (.iface Tr xr)) := (hB.cell (p := ⟨u114.heap.size, 0, none⟩) HT183.out).trans HC182.out
            have HT197 : Hid (u114.heap.size < u191.heap.size) := Nat.lt_of_lt_of_le HT183.out hB.size
            have HC198 : Hid (u191.cell? ⟨u165.heap.size, 0, none⟩ = some (.iface Tl xl)) := (hB.cell (p := ⟨u165.heap.size, 0, none⟩) HT185.out).trans HC184.out
            have HT199 : Hid (u165.heap.size < u191.heap.size) := Nat.lt_of_lt_of_le HT185.out hB.size
            have HC200 : Hid (u191.cell? ⟨u171.heap.size, 0, none⟩ = some (.slice (some ⟨u165.heap.size, 0, none⟩) 1 1)) := (hB.cell (p := ⟨u171.heap.size, 0, none⟩) HT186.out).trans HC187.out
            have HT201 : Hid (u171.heap.size < u191.heap.size) := Nat.lt_of_lt_of_le HT186.out hB.size
            have HC202 : Hid (u191.cell? ⟨u171.heap.size, 1, none⟩ = some (.slice sa n sc)) := (hB.cell (p := ⟨u171.heap.size, 1, none⟩) HT186.out).trans HC188.out
            have HT203 : Hid (u171.heap.size < u191.heap.size) := Nat.lt_of_lt_of_le HT186.out hB.size
            have HC204 : Hid (u191.cell? ⟨u171.heap.size, 2, none⟩ = some (.slice (some ⟨u114.heap.size, 0, none⟩) 1 1)) := (hB.cell (p := ⟨u171.heap.size, 2, none⟩) HT186.out).trans HC189.out
            have HT205 : Hid (u171.heap.size < u191.heap.size) := Nat.lt_of_lt_of_le HT186.out hB.size
            have HR206 : Hid (RowX (PartM A w f) (fun k => u179.heap.size ≤ k) u191 ga192 (catN LL 3)) := hPR.row
            clear hB hPR
            refine hK.out _ _ (⟨HK195.out.c 0 rfl, HK195.out.c 1 rfl, HK195.out.c 2 rfl, HK195.out.c 3 rfl, HK195.out.c 4 rfl, HK195.out.c 5 rfl⟩) ?_
            clear hK K
            (try simp only [Act.put, List.setIfInBounds_toArray, List.set_cons_zero, List.set_cons_succ])
            refine oH 14 (fun K hK => ?b207)
            case b207 =>
              go_simp
              go_wp2_with (go_at_call 206; refine ((list_any f A w HP.out ⟨7, ⟨x0, x1, x2⟩, ((n / 2 : Nat) : Int), [], []⟩ none 0 (.inl rfl) ga192 (catN LL 3).length gc193 (catN LL 3) (fun k => u179.heap.size ≤ k) rfl HLL.out.1 HLL.out.2 u191 (HWB u191 HB194.out) HR206.out).mono fun e w' h => nds_q h).mono ?_; rintro e u208 ⟨la, lc, bs, M, rfl, hM, hmap, hNR, hB⟩)
              have HN : Hid (M = (⟨7, ⟨x0, x1, x2⟩, ((n / 2 : Nat) : Int), [], []⟩ :: (catN LL 3).flatten).length ∧ bs.map Prod.fst = ⟨7, ⟨x0, x1, x2⟩, ((n / 2 : Nat) : Int), [], []⟩ :: (catN LL 3).flatten ∧ NdR A w u208 u191.heap.size (.slice la M lc) M bs) := ⟨hM.out, hmap, hNR⟩
              have hlo : wk.heap.size ≤ u191.heap.size := by have := HSZ _ HB194.out; omega
              have HB209 : Hid (Below (wk.heap.size + 1) W1 u208) := HB194.out.trans (hB.mono (HSZ _ HB194.out))
              have HK210 : Hid (Kbn 126 u208 wk.heap.size #[.int .i64 x0, .int .i64 x1, .int .i64 x2, .slice sa n sc, .iface Tl xl, .iface Tr xr]) := HK195.out.bel (hB.mono (HSZ _ HB194.out))
              clear hB hM hmap hNR
              refine hK.out _ _ (⟨HK210.out.c 0 rfl, HK210.out.c 1 rfl, HK210.out.c 2 rfl, HK210.out.c 3 rfl, HK210.out.c 4 rfl, HK210.out.c 5 rfl⟩) ?_
              clear hK K
              (try simp only [Act.put, List.setIfInBounds_toArray, List.set_cons_zero, List.set_cons_succ])
              refine pH 15 (⟨HK210.out.c 0 rfl, HK210.out.c 1 rfl, HK210.out.c 2 rfl, HK210.out.c 3 rfl, HK210.out.c 4 rfl, HK210.out.c 5 rfl⟩) ?_
              refine dH ?_
              go_wp2_with fail
              go_ret
              have HM : M = _ := HN.out.1.trans (congrArg List.length HEQ.out.symm)
              refine ⟨la, lc, bs, ret_slice18 HM, by rw [HEQ.out]; exact HN.out.2.1, ?_, HWK _ HB209.out⟩
              rw [← HM]
              exact ⟨HN.out.2.2.1, own_base18 HN.out.2.2.2.1 hlo, HN.out.2.2.2.2⟩
  case b112 =>
    go_simp
    obtain ⟨u211, hw⟩ : ∃ W, W = Wd.alloc (.cells #[.iface Tl xl] 58) := ⟨_, rfl⟩
    rw [← hw]
    have hB : Below Wd.heap.size Wd u211 := by rw [hw]; exact (Below.refl _ _).alloc (Nat.le_refl _) _
    have HB212 : Hid (Below (wk.heap.size + 1) W1 u211) := HB1.out.trans (hB.mono (HSZ _ HB1.out))
    have HK213 : Hid (Kbn 126 u211 wk.heap.size #[.int .i64 x0, .int .i64 x1, .int .i64 x2, .slice sa n sc, .iface Tl xl, .iface Tr xr]) := HK1d.out.bel (hB.mono (HSZ _ HB1.out))
    have HT214 : Hid (Wd.heap.size < u211.heap.size) := by rw [hw]; show _ < _; simp
    have HC215 : Hid (u211.cell? ⟨Wd.heap.size, 0, none⟩ = some (.iface Tl xl)) := by rw [hw]; exact Kbn.c (World.alloc_heap_new Wd _) 0 rfl
    clear hw hB
    refine hK.out _ _ (⟨HK213.out.c 0 rfl, HK213.out.c 1 rfl, HK213.out.c 2 rfl, HK213.out.c 3 rfl, HK213.out.c 4 rfl, HK213.out.c 5 rfl⟩) ?_
    clear hK K
    (try simp only [Act.put, List.setIfInBounds_toArray, List.set_cons_zero, List.set_cons_succ])
    refine oH2 2 11 (fun K hK => ?b216) (fun K hK => ?b217)
    case b216 =>
      go_simp
      go_wp2_with (go_at_call 213; refine (act_any x0 x1 x2 sa n sc 7 hn1 u211).mono ?_; rintro e u218 ⟨rfl, hB⟩)
      have HB219 : Hid (Below (wk.heap.size + 1) W1 u218) := HB212.out.trans (hB.mono (HSZ _ HB212.out))
      have HK220 : Hid (Kbn 126 u218 wk.heap.size #[.int .i64 x0, .int .i64 x1, .int .i64 x2, .slice sa n sc, .iface Tl xl, .iface Tr xr]) := HK213.out.bel (hB.mono (HSZ _ HB212.out))
      have HC221 : Hid (u218.cell? ⟨Wd.heap.size, 0, none⟩ = some (.iface Tl xl)) := (hB.cell (p := ⟨Wd.heap.size, 0, none⟩) HT214.out).trans HC215.out
      have HT222 : Hid (Wd.heap.size < u218.heap.size) := Nat.lt_of_lt_of_le HT214.out hB.size
      clear hB
      refine hK.out _ _ (⟨HK220.out.c 0 rfl, HK220.out.c 1 rfl, HK220.out.c 2 rfl, HK220.out.c 3 rfl, HK220.out.c 4 rfl, HK220.out.c 5 rfl⟩) ?_
      clear hK K
      (try simp only [Act.put, List.setIfInBounds_toArray, List.set_cons_zero, List.set_cons_succ])
      refine oH 11 (fun K hK => ?b223)
      case b223 =>
        go_simp
        obtain ⟨u224, hw⟩ : ∃ W, W = u218.alloc (.cells #[.iface Tr xr] 58) := ⟨_, rfl⟩
        rw [← hw]
        have hB : Below u218.heap.size u218 u224 := by rw [hw]; exact (Below.refl _ _).alloc (Nat.le_refl _) _
        have HB225 : Hid (Below (wk.heap.size + 1) W1 u224) := HB219.out.trans (hB.mono (HSZ _ HB219.out))
        have HK226 : Hid (Kbn 126 u224 wk.heap.size #[.int .i64 x0, .int .i64 x1, .int .i64 x2, .slice sa n sc, .iface Tl xl, .iface Tr xr]) := HK220.out.bel (hB.mono (HSZ _ HB219.out))
        have HC227 : Hid (u224.cell? ⟨Wd.heap.size, 0, none⟩ = some (.iface Tl xl)) := (hB.cell (p := ⟨Wd.heap.size, 0, none⟩) HT222.out).trans HC221.out
        have HT228 : Hid (Wd.heap.size < u224.heap.size) := Nat.lt_of_lt_of_le HT222.out hB.size
        have HT229 : Hid (u218.heap.size < u224.heap.size) := by rw [hw]; show _ < _; simp
        have HC230 : Hid (u224.cell? ⟨u218.heap.size, 0, none⟩ = some (.iface Tr xr)) := by rw [hw]; exact Kbn.c (World.alloc_heap_new u218 _) 0 rfl
        clear hw hB
        refine hK.out _ _ (⟨HK226.out.c 0 rfl, HK226.out.c 1 rfl, HK226.out.c 2 rfl, HK226.out.c 3 rfl, HK226.out.c 4 rfl, HK226.out.c 5 rfl⟩) ?_
        clear hK K
        (try simp only [Act.put, List.setIfInBounds_toArray, List.set_cons_zero, List.set_cons_succ])
        refine oH 12 (fun K hK => ?b231)
        case b231 =>
          go_simp
          obtain ⟨u232, hw⟩ : ∃ W, W = u224.alloc (.cells #[.slice (some ⟨Wd.heap.size, 0, none⟩) 1 1, .slice sa n sc, .slice (some ⟨u218.heap.size, 0, none⟩) 1 1] 117) := ⟨_, rfl⟩
          rw [← hw]
          have hB : Below u224.heap.size u224 u232 := by rw [hw]; exact (Below.refl _ _).alloc (Nat.le_refl _) _
          have HB233 : Hid (Below (wk.heap.size + 1) W1 u232) := HB225.out.trans (hB.mono (HSZ _ HB225.out))
          have HK234 : Hid (Kbn 126 u232 wk.heap.size #[.int .i64 x0, .int .i64 x1, .int .i64 x2, .slice sa n sc, .iface Tl xl, .iface Tr xr]) := HK226.out.bel (hB.mono (HSZ _ HB225.out))
          have HC235 : Hid (u232.cell? ⟨Wd.heap.size, 0, none⟩ = some (.iface Tl xl)) := (hB.cell (p := ⟨Wd.heap.size, 0, none⟩) HT228.out).trans HC227.out
          have HT236 : Hid (Wd.heap.size < u232.heap.size) := Nat.lt_of_lt_of_le HT228.out hB.size
          have HC237 : Hid (u232.cell? ⟨u218.heap.size, 0, none⟩ = some (.iface Tr xr)) := (hB.cell (p := ⟨u218.heap.size, 0, none⟩) HT229.out).trans HC230.out
          have HT238 : Hid (u218.heap.size < u232.heap.size) := Nat.lt_of_lt_of_le HT229.out hB.size
          have HT239 : Hid (u224.heap.size < u232.heap.size) := by rw [hw]; show _ < _; simp
          have HC240 : Hid (u232.cell? ⟨u224.heap.size, 0, none⟩ = some (.slice (some ⟨Wd.heap.size, 0, none⟩) 1 1)) := by rw [hw]; exact Kbn.c (World.alloc_heap_new u224 _) 0 rfl
          have HC241 : Hid (u232.cell? ⟨u224.heap.size, 1, none⟩ = some (.slice sa n sc)) := by rw [hw]; exact Kbn.c (World.alloc_heap_new u224 _) 1 rfl
          have HC242 : Hid (u232.cell? ⟨u224.heap.size, 2, none⟩ = some (.slice (some ⟨u218.heap.size, 0, none⟩) 1 1)) := by rw [hw]; exact Kbn.c (World.alloc_heap_new u224 _) 2 rfl
          clear hw hB
          refine hK.out _ _ (⟨HK234.out.c 0 rfl, HK234.out.c 1 rfl, HK234.out.c 2 rfl, HK234.out.c 3 rfl, HK234.out.c 4 rfl, HK234.out.c 5 rfl⟩) ?_
          clear hK K
          (try simp only [Act.put, List.setIfInBounds_toArray, List.set_cons_zero, List.set_cons_succ])
          refine oH 13 (fun K hK => ?b243)
          case b243 =>
            have hcat : Calls Tryz.prog 214 #[.slice (some ⟨u224.heap.size, 0, none⟩) 3 3] u232 (CatP (PartM A w f) (catN LL 3) u232) := by
              refine concat_any18 (PartM A w f) (fun v ns h => pm_one v ns h) 3 (by decide) LL HLL.out.1 (fun _ => True) (fun j => if j = 0 then some ⟨Wd.heap.size, 0, none⟩ else if j = 1 then sa else some ⟨u218.heap.size, 0, none⟩) (fun j => if j = 0 then 1 else if j = 1 then sc else 1) u224.heap.size 3 u232 HT239.out ?_
              intro j hj
              obtain rfl | rfl | rfl : j = 0 ∨ j = 1 ∨ j = 2 := by omega
              · exact ⟨by rw [HLe0.out]; exact HC240.out, by rw [HLe0.out]; exact .inr ⟨_, 0, rfl, HT236.out, trivial, fun q hq => ⟨.iface Tl xl, (by have hq0 : q = 0 := (by simpa using hq); subst hq0; exact HC235.out), (by have hq0 : q = 0 := (by simpa using hq); subst hq0; exact hlp)⟩⟩⟩
              · exact ⟨by rw [HLe1.out, Hnn.out]; exact HC241.out, by rw [HLe1.out]; exact (HR0.out.go (HWB u232 HB233.out).size (fun k hk _ => (HWB u232 HB233.out).block k hk)).mono (fun _ _ _ => trivial)⟩
              · exact ⟨by rw [HLe2.out]; exact HC242.out, by rw [HLe2.out]; exact .inr ⟨_, 0, rfl, HT238.out, trivial, fun q hq => ⟨.iface Tr xr, (by have hq0 : q = 0 := (by simpa using hq); subst hq0; exact HC237.out), (by have hq0 : q = 0 := (by simpa using hq); subst hq0; exact hr)⟩⟩⟩
            go_simp
            go_wp2_with (go_at_call 214; refine hcat.mono ?_; rintro e u244 ⟨ga245, gc246, rfl, hPR, hB⟩)
            clear hcat
            have HB247 : Hid (Below (wk.heap.size + 1) W1 u244) := HB233.out.trans (hB.mono (HSZ _ HB233.out))
            have HK248 : Hid (Kbn 126 u244 wk.heap.size #[.int .i64 x0, .int .i64 x1, .int .i64 x2, .slice sa n sc, .iface Tl xl, .iface Tr xr]) := HK234.out.bel (hB.mono (HSZ _ HB233.out))
            have HC249 : Hid (u244.cell? ⟨Wd.heap.size, 0, none⟩ = some (.iface Tl xl)) := (hB.cell (p := ⟨Wd.heap.size, 0, none⟩) HT236.out).trans HC235.out
            have HT250 : Hid (Wd.heap.size < u244.heap.size) := Nat.lt_of_lt_of_le HT236.out hB.size
            have HC251 : Hid (u244.cell? ⟨u218.heap.size, 0, none⟩ = some (.iface Tr xr)) := (hB.cell (p := ⟨u218.heap.size, 0, none⟩) HT238.out).trans HC237.out
            have HT252 : Hid (u218.heap.size < u244.heap.size) := Nat.lt_of_lt_of_le HT238.out hB.size
            have HC253 : Hid (u244.cell? ⟨u224.heap.size, 0, none⟩ = some (.slice (some ⟨Wd.heap.size, 0, none⟩) 1 1)) := (hB.cell (p := ⟨u224.heap.size, 0, none⟩) HT239.out).trans HC240.out
            have HT254 : Hid (u224.heap.size < u244.heap.size) := Nat.lt_of_lt_of_le HT239.out hB.size
            have HC255 : Hid (u244.cell? ⟨u224.heap.size, 1, none⟩ = some (.slice sa n sc)) := (hB.cell (p := ⟨u224.heap.size, 1, none⟩) HT239.out).trans HC241.out
            have HT256 : Hid (u224.heap.size < u244.heap.size) := Nat.lt_of_lt_of_le HT239.out hB.size
            have HC257 : Hid (u244.cell? ⟨u224.heap.size, 2, none⟩ = some (.slice (some ⟨u218.heap.size, 0, none⟩) 1 1)) := (hB.cell (p := ⟨u224.heap.size, 2, none⟩) HT239.out).trans HC242.out
            have HT258 : Hid (u224.heap.size < u244.heap.size) := Nat.lt_of_lt_of_le HT239.out hB.size
            have HR259 : Hid (RowX (PartM A w f) (fun k => u232.heap.size ≤ k) u244 ga245 (catN LL 3)) := hPR.row
            clear hB hPR
            refine hK.out _ _ (⟨HK248.out.c 0 rfl, HK248.out.c 1 rfl, HK248.out.c 2 rfl, HK248.out.c 3 rfl, HK248.out.c 4 rfl, HK248.out.c 5 rfl⟩) ?_
            clear hK K
            (try simp only [Act.put, List.setIfInBounds_toArray, List.set_cons_zero, List.set_cons_succ])
            refine oH 14 (fun K hK => ?b260)
            case b260 =>
              go_simp
              go_wp2_with (go_at_call 206; refine ((list_any f A w HP.out ⟨7, ⟨x0, x1, x2⟩, ((n / 2 : Nat) : Int), [], []⟩ none 0 (.inl rfl) ga245 (catN LL 3).length gc246 (catN LL 3) (fun k => u232.heap.size ≤ k) rfl HLL.out.1 HLL.out.2 u244 (HWB u244 HB247.out) HR259.out).mono fun e w' h => nds_q h).mono ?_; rintro e u261 ⟨la, lc, bs, M, rfl, hM, hmap, hNR, hB⟩)
              have HN : Hid (M = (⟨7, ⟨x0, x1, x2⟩, ((n / 2 : Nat) : Int), [], []⟩ :: (catN LL 3).flatten).length ∧ bs.map Prod.fst = ⟨7, ⟨x0, x1, x2⟩, ((n / 2 : Nat) : Int), [], []⟩ :: (catN LL 3).flatten ∧ NdR A w u261 u244.heap.size (.slice la M lc) M bs) := ⟨hM.out, hmap, hNR⟩
              have hlo : wk.heap.size ≤ u244.heap.size := by have := HSZ _ HB247.out; omega
              have HB262 : Hid (Below (wk.heap.size + 1) W1 u261) := HB247.out.trans (hB.mono (HSZ _ HB247.out))
              have HK263 : Hid (Kbn 126 u261 wk.heap.size #[.int .i64 x0, .int .i64 x1, .int .i64 x2, .slice sa n sc, .iface Tl xl, .iface Tr xr]) := HK248.out.bel (hB.mono (HSZ _ HB247.out))
              clear hB hM hmap hNR
              refine hK.out _ _ (⟨HK263.out.c 0 rfl, HK263.out.c 1 rfl, HK263.out.c 2 rfl, HK263.out.c 3 rfl, HK263.out.c 4 rfl, HK263.out.c 5 rfl⟩) ?_
              clear hK K
              (try simp only [Act.put, List.setIfInBounds_toArray, List.set_cons_zero, List.set_cons_succ])
              refine pH 15 (⟨HK263.out.c 0 rfl, HK263.out.c 1 rfl, HK263.out.c 2 rfl, HK263.out.c 3 rfl, HK263.out.c 4 rfl, HK263.out.c 5 rfl⟩) ?_
              refine dH ?_
              go_wp2_with fail
              go_ret
              have HM : M = _ := HN.out.1.trans (congrArg List.length HEQ.out.symm)
              refine ⟨la, lc, bs, ret_slice18 HM, by rw [HEQ.out]; exact HN.out.2.1, ?_, HWK _ HB262.out⟩
              rw [← HM]
              exact ⟨HN.out.2.2.1, own_base18 HN.out.2.2.2.1 hlo, HN.out.2.2.2.2⟩
    case b217 =>
      go_simp
      obtain ⟨u264, hw⟩ : ∃ W, W = u211.alloc (.cells #[.iface Tr xr] 58) := ⟨_, rfl⟩
      rw [← hw]
      have hB : Below u211.heap.size u211 u264 := by rw [hw]; exact (Below.refl _ _).alloc (Nat.le_refl _) _
      have HB265 : Hid (Below (wk.heap.size + 1) W1 u264) := HB212.out.trans (hB.mono (HSZ _ HB212.out))
      have HK266 : Hid (Kbn 126 u264 wk.heap.size #[.int .i64 x0, .int .i64 x1, .int .i64 x2, .slice sa n sc, .iface Tl xl, .iface Tr xr]) := HK213.out.bel (hB.mono (HSZ _ HB212.out))
      have HC267 : Hid (u264.cell? ⟨Wd.heap.size, 0, none⟩ = some (.iface Tl xl)) := (hB.cell (p := ⟨Wd.heap.size, 0, none⟩) HT214.out).trans HC215.out
      have HT268 : Hid (Wd.heap.size < u264.heap.size) := Nat.lt_of_lt_of_le HT214.out hB.size
      have HT269 : Hid (u211.heap.size < u264.heap.size) := by rw [hw]; show _ < _; simp
      have HC270 : Hid (u264.cell? ⟨u211.heap.size, 0, none⟩ = some (.iface Tr xr)) := by rw [hw]; exact Kbn.c (World.alloc_heap_new u211 _) 0 rfl
      clear hw hB
      refine hK.out _ _ (⟨HK266.out.c 0 rfl, HK266.out.c 1 rfl, HK266.out.c 2 rfl, HK266.out.c 3 rfl, HK266.out.c 4 rfl, HK266.out.c 5 rfl⟩) ?_
      clear hK K
      (try simp only [Act.put, List.setIfInBounds_toArray, List.set_cons_zero, List.set_cons_succ])
      refine oH2 2 12 (fun K hK => ?b271) (fun K hK => ?b272)
      case b271 =>
        go_simp
        go_wp2_with (go_at_call 213; refine (act_any x0 x1 x2 sa n sc 7 hn1 u264).mono ?_; rintro e u273 ⟨rfl, hB⟩)
        have HB274 : Hid (Below (wk.heap.size + 1) W1 u273) := HB265.out.trans (hB.mono (HSZ _ HB265.out))
        have HK275 : Hid (Kbn 126 u273 wk.heap.size #[.int .i64 x0, .int .i64 x1, .int .i64 x2, .slice sa n sc, .iface Tl xl, .iface Tr xr]) := HK266.out.bel (hB.mono (HSZ _ HB265.out))
        have HC276 : Hid (u273.cell? ⟨Wd.heap.size, 0, none⟩ = some (.iface Tl xl)) := (hB.cell (p := ⟨Wd.heap.size, 0, none⟩) HT268.out).trans HC267.out
        have HT277 : Hid (Wd.heap.size < u273.heap.size) := Nat.lt_of_lt_of_le HT268.out hB.size
        have HC278 : Hid (u273.cell? ⟨u211.heap.size, 0, none⟩ = some (.iface Tr xr)) := (hB.cell (p := ⟨u211.heap.size, 0, none⟩) HT269.out).trans HC270.out
        have HT279 : Hid (u211.heap.size < u273.heap.size) := Nat.lt_of_lt_of_le HT269.out hB.size
        clear hB
        refine hK.out _ _ (⟨HK275.out.c 0 rfl, HK275.out.c 1 rfl, HK275.out.c 2 rfl, HK275.out.c 3 rfl, HK275.out.c 4 rfl, HK275.out.c 5 rfl⟩) ?_
        clear hK K
        (try simp only [Act.put, List.setIfInBounds_toArray, List.set_cons_zero, List.set_cons_succ])
        refine oH 12 (fun K hK => ?b280)
        case b280 =>
          go_simp
          obtain ⟨u281, hw⟩ : ∃ W, W = u273.alloc (.cells #[.slice (some ⟨Wd.heap.size, 0, none⟩) 1 1, .slice sa n sc, .slice (some ⟨u211.heap.size, 0, none⟩) 1 1] 117) := ⟨_, rfl⟩
          rw [← hw]
          have hB : Below u273.heap.size u273 u281 := by rw [hw]; exact (Below.refl _ _).alloc (Nat.le_refl _) _
          have HB282 : Hid (Below (wk.heap.size + 1) W1 u281) := HB274.out.trans (hB.mono (HSZ _ HB274.out))
          have HK283 : Hid (Kbn 126 u281 wk.heap.size #[.int .i64 x0, .int .i64 x1, .int .i64 x2, .slice sa n sc, .iface Tl xl, .iface Tr xr]) := HK275.out.bel (hB.mono (HSZ _ HB274.out))
          have HC284 : Hid (u281.cell? ⟨Wd.heap.size, 0, none⟩ = some (.iface Tl xl)) := (hB.cell (p := ⟨Wd.heap.size, 0, none⟩) HT277.out).trans HC276.out
          have HT285 : Hid (Wd.heap.size < u281.heap.size) := Nat.lt_of_lt_of_le HT277.out hB.size
          have HC286 : Hid (u281.cell? ⟨u211.heap.size, 0, none⟩ = some (.iface Tr xr)) := (hB.cell (p := ⟨u211.heap.size, 0, none⟩) HT279.out).trans HC278.out
          have HT287 : Hid (u211.heap.size < u281.heap.size) := Nat.lt_of_lt_of_le HT279.out hB.size
          have HT288 : Hid (u273.heap.size < u281.heap.size) := by rw [hw]; show _ < _; simp
          have HC289 : Hid (u281.cell? ⟨u273.heap.size, 0, none⟩ = some (.slice (some ⟨Wd.heap.size, 0, none⟩) 1 1)) := by rw [hw]; exact Kbn.c (World.alloc_heap_new u273 _) 0 rfl
          have HC290 : Hid (u281.cell? ⟨u273.heap.size, 1, none⟩ = some (.slice sa n sc)) := by rw [hw]; exact Kbn.c (World.alloc_heap_new u273 _) 1 rfl
          have HC291 : Hid (u281.cell? ⟨u273.heap.size, 2, none⟩ = some (.slice (some ⟨u211.heap.size, 0, none⟩) 1 1)) := by rw [hw]; exact Kbn.c (World.alloc_heap_new u273 _) 2 rfl
          clear hw hB
          refine hK.out _ _ (⟨HK283.out.c 0 rfl, HK283.out.c 1 rfl, HK283.out.c 2 rfl, HK283.out.c 3 rfl, HK283.out.c 4 rfl, HK283.out.c 5 rfl⟩) ?_
          clear hK K
          (try simp only [Act.put, List.setIfInBounds_toArray, List.set_cons_zero, List.set_cons_succ])
          refine oH 13 (fun K hK => ?b292)
          case b292 =>
            have hcat : Calls Tryz.prog 214 #[.slice (some ⟨u273.heap.size, 0, none⟩) 3 3] u281 (CatP (PartM A w f) (catN LL 3) u281) := by
              refine concat_any18 (PartM A w f) (fun v ns h => pm_one v ns h) 3 (by decide) LL HLL.out.1 (fun _ => True) (fun j => if j = 0 then some ⟨Wd.heap.size, 0, none⟩ else if j = 1 then sa else some ⟨u211.heap.size, 0, none⟩) (fun j => if j = 0 then 1 else if j = 1 then sc else 1) u273.heap.size 3 u281 HT288.out ?_
              intro j hj
              obtain rfl | rfl | rfl : j = 0 ∨ j = 1 ∨ j = 2 := by omega
              · exact ⟨by rw [HLe0.out]; exact HC289.out, by rw [HLe0.out]; exact .inr ⟨_, 0, rfl, HT285.out, trivial, fun q hq => ⟨.iface Tl xl, (by have hq0 : q = 0 := (by simpa using hq); subst hq0; exact HC284.out), (by have hq0 : q = 0 := (by simpa using hq); subst hq0; exact hlp)⟩⟩⟩
              · exact ⟨by rw [HLe1.out, Hnn.out]; exact HC290.out, by rw [HLe1.out]; exact (HR0.out.go (HWB u281 HB282.out).size (fun k hk _ => (HWB u281 HB282.out).block k hk)).mono (fun _ _ _ => trivial)⟩
              · exact ⟨by rw [HLe2.out]; exact HC291.out, by rw [HLe2.out]; exact .inr ⟨_, 0, rfl, HT287.out, trivial, fun q hq => ⟨.iface Tr xr, (by have hq0 : q = 0 := (by simpa using hq); subst hq0; exact HC286.out), (by have hq0 : q = 0 := (by simpa using hq); subst hq0; exact hr)⟩⟩⟩
            go_simp
            go_wp2_with (go_at_call 214; refine hcat.mono ?_; rintro e u293 ⟨ga294, gc295, rfl, hPR, hB⟩)
            clear hcat
            have HB296 : Hid (Below (wk.heap.size + 1) W1 u293) := HB282.out.trans (hB.mono (HSZ _ HB282.out))
            have HK297 : Hid (Kbn 126 u293 wk.heap.size #[.int .i64 x0, .int .i64 x1, .int .i64 x2, .slice sa n sc, .iface Tl xl, .iface Tr xr]) := HK283.out.bel (hB.mono (HSZ _ HB282.out))
            have HC298 : Hid (u293.cell? ⟨Wd.heap.size, 0, none⟩ = some (.iface Tl xl)) := (hB.cell (p := ⟨Wd.heap.size, 0, none⟩) HT285.out).trans HC284.out
            have HT299 : Hid (Wd.heap.size < u293.heap.size) := Nat.lt_of_lt_of_le HT285.out hB.size
            have HC300 : Hid (u293.cell? ⟨u211.heap.size, 0, none⟩ = some (.iface Tr xr)) := (hB.cell (p := ⟨u211.heap.size, 0, none⟩) HT287.out).trans HC286.out
            have HT301 : Hid (u211.heap.size < u293.heap.size) := Nat.lt_of_lt_of_le HT287.out hB.size
            have HC302 : Hid (u293.cell? ⟨u273.heap.size, 0, none⟩ = some (.slice (some ⟨Wd.heap.size, 0, none⟩) 1 1)) := (hB.cell (p := ⟨u273.heap.size, 0, none⟩) HT288.out).trans HC289.out
            have HT303 : Hid (u273.heap.size < u293.heap.size) := Nat.lt_of_lt_of_le HT288.out hB.size
            have HC304 : Hid (u293.cell? ⟨u273.heap.size, 1, none⟩ = some (.slice sa n sc)) := (hB.cell (p := ⟨u273.heap.size, 1, none⟩) HT288.out).trans HC290.out
            have HT305 : Hid (u273.heap.size < u293.heap.size) := Nat.lt_of_lt_of_le HT288.out hB.size
            have HC306 : Hid (u293.cell? ⟨u273.heap.size, 2, none⟩ = some (.slice (some ⟨u211.heap.size, 0, none⟩) 1 1)) := (hB.cell (p := ⟨u273.heap.size, 2, none⟩) HT288.out).trans HC291.out
            have HT307 : Hid (u273.heap.size < u293.heap.size) := Nat.lt_of_lt_of_le HT288.out hB.size
            have HR308 : Hid (RowX (PartM A w f) (fun k => u281.heap.size ≤ k) u293 ga294 (catN LL 3)) := hPR.row
            clear hB hPR
            refine hK.out _ _ (⟨HK297.out.c 0 rfl, HK297.out.c 1 rfl, HK297.out.c 2 rfl, HK297.out.c 3 rfl, HK297.out.c 4 rfl, HK297.out.c 5 rfl⟩) ?_
            clear hK K
            (try simp only [Act.put, List.setIfInBounds_toArray, List.set_cons_zero, List.set_cons_succ])
            refine oH 14 (fun K hK => ?b309)
            case b309 =>
              go_simp
              go_wp2_with (go_at_call 206; refine ((list_any f A w HP.out ⟨7, ⟨x0, x1, x2⟩, ((n / 2 : Nat) : Int), [], []⟩ none 0 (.inl rfl) ga294 (catN LL 3).length gc295 (catN LL 3) (fun k => u281.heap.size ≤ k) rfl HLL.out.1 HLL.out.2 u293 (HWB u293 HB296.out) HR308.out).mono fun e w' h => nds_q h).mono ?_; rintro e u310 ⟨la, lc, bs, M, rfl, hM, hmap, hNR, hB⟩)
              have HN : Hid (M = (⟨7, ⟨x0, x1, x2⟩, ((n / 2 : Nat) : Int), [], []⟩ :: (catN LL 3).flatten).length ∧ bs.map Prod.fst = ⟨7, ⟨x0, x1, x2⟩, ((n / 2 : Nat) : Int), [], []⟩ :: (catN LL 3).flatten ∧ NdR A w u310 u293.heap.size (.slice la M lc) M bs) := ⟨hM.out, hmap, hNR⟩
              have hlo : wk.heap.size ≤ u293.heap.size := by have := HSZ _ HB296.out; omega
              have HB311 : Hid (Below (wk.heap.size + 1) W1 u310) := HB296.out.trans (hB.mono (HSZ _ HB296.out))
              have HK312 : Hid (Kbn 126 u310 wk.heap.size #[.int .i64 x0, .int .i64 x1, .int .i64 x2, .slice sa n sc, .iface Tl xl, .iface Tr xr]) := HK297.out.bel (hB.mono (HSZ _ HB296.out))
              clear hB hM hmap hNR
              refine hK.out _ _ (⟨HK312.out.c 0 rfl, HK312.out.c 1 rfl, HK312.out.c 2 rfl, HK312.out.c 3 rfl, HK312.out.c 4 rfl, HK312.out.c 5 rfl⟩) ?_
              clear hK K
              (try simp only [Act.put, List.setIfInBounds_toArray, List.set_cons_zero, List.set_cons_succ])
              refine pH 15 (⟨HK312.out.c 0 rfl, HK312.out.c 1 rfl, HK312.out.c 2 rfl, HK312.out.c 3 rfl, HK312.out.c 4 rfl, HK312.out.c 5 rfl⟩) ?_
              refine dH ?_
              go_wp2_with fail
              go_ret
              have HM : M = _ := HN.out.1.trans (congrArg List.length HEQ.out.symm)
              refine ⟨la, lc, bs, ret_slice18 HM, by rw [HEQ.out]; exact HN.out.2.1, ?_, HWK _ HB311.out⟩
              rw [← HM]
              exact ⟨HN.out.2.2.1, own_base18 HN.out.2.2.2.1 hlo, HN.out.2.2.2.2⟩
      case b272 =>
        go_simp
        obtain ⟨u313, hw⟩ : ∃ W, W = u264.alloc (.cells #[.slice (some ⟨Wd.heap.size, 0, none⟩) 1 1, .slice sa n sc, .slice (some ⟨u211.heap.size, 0, none⟩) 1 1] 117) := ⟨_, rfl⟩
        rw [← hw]
        have hB : Below u264.heap.size u264 u313 := by rw [hw]; exact (Below.refl _ _).alloc (Nat.le_refl _) _
        have HB314 : Hid (Below (wk.heap.size + 1) W1 u313) := HB265.out.trans (hB.mono (HSZ _ HB265.out))
        have HK315 : Hid (Kbn 126 u313 wk.heap.size #[.int .i64 x0, .int .i64 x1, .int .i64 x2, .slice sa n sc, .iface Tl xl, .iface Tr xr]) := HK266.out.bel (hB.mono (HSZ _ HB265.out))
        have HC316 : Hid (u313.cell? ⟨Wd.heap.size, 0, none⟩ = some (.iface Tl xl)) := (hB.cell (p := ⟨Wd.heap.size, 0, none⟩) HT268.out).trans HC267.out
        have HT317 : Hid (Wd.heap.size < u313.heap.size) := Nat.lt_of_lt_of_le HT268.out hB.size
        have HC318 : Hid (u313.cell? ⟨u211.heap.size, 0, none⟩ = some (.iface Tr xr)) := (hB.cell (p := ⟨u211.heap.size, 0, none⟩) HT269.out).trans HC270.out
        have HT319 : Hid (u211.heap.size < u313.heap.size) := Nat.lt_of_lt_of_le HT269.out hB.size
        have HT320 : Hid (u264.heap.size < u313.heap.size) := by rw [hw]; show _ < _; simp
        have HC321 : Hid (u313.cell? ⟨u264.heap.size, 0, none⟩ = some (.slice (some ⟨Wd.heap.size, 0, none⟩) 1 1)) := by rw [hw]; exact Kbn.c (World.alloc_heap_new u264 _) 0 rfl
        have HC322 : Hid (u313.cell? ⟨u264.heap.size, 1, none⟩ = some (.slice sa n sc)) := by rw [hw]; exact Kbn.c (World.alloc_heap_new u264 _) 1 rfl
        have HC323 : Hid (u313.cell? ⟨u264.heap.size, 2, none⟩ = some (.slice (some ⟨u211.heap.size, 0, none⟩) 1 1)) := by rw [hw]; exact Kbn.c (World.alloc_heap_new u264 _) 2 rfl
        clear hw hB
        refine hK.out _ _ (⟨HK315.out.c 0 rfl, HK315.out.c 1 rfl, HK315.out.c 2 rfl, HK315.out.c 3 rfl, HK315.out.c 4 rfl, HK315.out.c 5 rfl⟩) ?_
        clear hK K
        (try simp only [Act.put, List.setIfInBounds_toArray, List.set_cons_zero, List.set_cons_succ])
        refine oH 2 (fun K hK => ?b324)
        case b324 =>
          go_simp
          go_wp2_with (go_at_call 213; refine (act_any x0 x1 x2 sa n sc 7 hn1 u313).mono ?_; rintro e u325 ⟨rfl, hB⟩)
          have HB326 : Hid (Below (wk.heap.size + 1) W1 u325) := HB314.out.trans (hB.mono (HSZ _ HB314.out))
          have HK327 : Hid (Kbn 126 u325 wk.heap.size #[.int .i64 x0, .int .i64 x1, .int .i64 x2, .slice sa n sc, .iface Tl xl, .iface Tr xr]) := HK315.out.bel (hB.mono (HSZ _ HB314.out))
          have HC328 : Hid (u325.cell? ⟨Wd.heap.size, 0, none⟩ = some (.iface Tl xl)) := (hB.cell (p := ⟨Wd.heap.size, 0, none⟩) HT317.out).trans HC316.out
          have HT329 : Hid (Wd.heap.size < u325.heap.size) := Nat.lt_of_lt_of_le HT317.out hB.size
          have HC330 : Hid (u325.cell? ⟨u211.heap.size, 0, none⟩ = some (.iface Tr xr)) := (hB.cell (p := ⟨u211.heap.size, 0, none⟩) HT319.out).trans HC318.out
          have HT331 : Hid (u211.heap.size < u325.heap.size) := Nat.lt_of_lt_of_le HT319.out hB.size
          have HC332 : Hid (u325.cell? ⟨u264.heap.size, 0, none⟩ = some (.slice (some ⟨Wd.heap.size, 0, none⟩) 1 1)) := (hB.cell (p := ⟨u264.heap.size, 0, none⟩) HT320.out).trans HC321.out
          have HT333 : Hid (u264.heap.size < u325.heap.size) := Nat.lt_of_lt_of_le HT320.out hB.size
          have HC334 : Hid (u325.cell? ⟨u264.heap.size, 1, none⟩ = some (.slice sa n sc)) := (hB.cell (p := ⟨u264.heap.size, 1, none⟩) HT320.out).trans HC322.out
          have HT335 : Hid (u264.heap.size < u325.heap.size) := Nat.lt_of_lt_of_le HT320.out hB.size
          have HC336 : Hid (u325.cell? ⟨u264.heap.size, 2, none⟩ = some (.slice (some ⟨u211.heap.size, 0, none⟩) 1 1)) := (hB.cell (p := ⟨u264.heap.size, 2, none⟩) HT320.out).trans HC323.out
          have HT337 : Hid (u264.heap.size < u325.heap.size) := Nat.lt_of_lt_of_le HT320.out hB.size
          clear hB
          refine hK.out _ _ (⟨HK327.out.c 0 rfl, HK327.out.c 1 rfl, HK327.out.c 2 rfl, HK327.out.c 3 rfl, HK327.out.c 4 rfl, HK327.out.c 5 rfl⟩) ?_
          clear hK K
          (try simp only [Act.put, List.setIfInBounds_toArray, List.set_cons_zero, List.set_cons_succ])
          refine oH 13 (fun K hK => ?b338)
          case b338 =>
            have hcat : Calls Tryz.prog 214 #[.slice (some ⟨u264.heap.size, 0, none⟩) 3 3] u325 (CatP (PartM A w f) (catN LL 3) u325) := by
              refine concat_any18 (PartM A w f) (fun v ns h => pm_one v ns h) 3 (by decide) LL HLL.out.1 (fun _ => True) (fun j => if j = 0 then some ⟨Wd.heap.size, 0, none⟩ else if j = 1 then sa else some ⟨u211.heap.size, 0, none⟩) (fun j => if j = 0 then 1 else if j = 1 then sc else 1) u264.heap.size 3 u325 HT333.out ?_
              intro j hj
              obtain rfl | rfl | rfl : j = 0 ∨ j = 1 ∨ j = 2 := by omega
              · exact ⟨by rw [HLe0.out]; exact HC332.out, by rw [HLe0.out]; exact .inr ⟨_, 0, rfl, HT329.out, trivial, fun q hq => ⟨.iface Tl xl, (by have hq0 : q = 0 := (by simpa using hq); subst hq0; exact HC328.out), (by have hq0 : q = 0 := (by simpa using hq); subst hq0; exact hlp)⟩⟩⟩
              · exact ⟨by rw [HLe1.out, Hnn.out]; exact HC334.out, by rw [HLe1.out]; exact (HR0.out.go (HWB u325 HB326.out).size (fun k hk _ => (HWB u325 HB326.out).block k hk)).mono (fun _ _ _ => trivial)⟩
              · exact ⟨by rw [HLe2.out]; exact HC336.out, by rw [HLe2.out]; exact .inr ⟨_, 0, rfl, HT331.out, trivial, fun q hq => ⟨.iface Tr xr, (by have hq0 : q = 0 := (by simpa using hq); subst hq0; exact HC330.out), (by have hq0 : q = 0 := (by simpa using hq); subst hq0; exact hr)⟩⟩⟩
            go_simp
            go_wp2_with (go_at_call 214; refine hcat.mono ?_; rintro e u339 ⟨ga340, gc341, rfl, hPR, hB⟩)
            clear hcat
            have HB342 : Hid (Below (wk.heap.size + 1) W1 u339) := HB326.out.trans (hB.mono (HSZ _ HB326.out))
            have HK343 : Hid (Kbn 126 u339 wk.heap.size #[.int .i64 x0, .int .i64 x1, .int .i64 x2, .slice sa n sc, .iface Tl xl, .iface Tr xr]) := HK327.out.bel (hB.mono (HSZ _ HB326.out))
            have HC344 : Hid (u339.cell? ⟨Wd.heap.size, 0, none⟩ = some (.iface Tl xl)) := (hB.cell (p := ⟨Wd.heap.size, 0, none⟩) HT329.out).trans HC328.out
            have HT345 : Hid (Wd.heap.size < u339.heap.size) := Nat.lt_of_lt_of_le HT329.out hB.size
            have HC346 : Hid (u339.cell? ⟨u211.heap.size, 0, none⟩ = some (.iface Tr xr)) := (hB.cell (p := ⟨u211.heap.size, 0, none⟩) HT331.out).trans HC330.out
            have HT347 : Hid (u211.heap.size < u339.heap.size) := Nat.lt_of_lt_of_le HT331.out hB.size
            have HC348 : Hid (u339.cell? ⟨u264.heap.size, 0, none⟩ = some (.slice (some ⟨Wd.heap.size, 0, none⟩) 1 1)) := (hB.cell (p := ⟨u264.heap.size, 0, none⟩) HT333.out).trans HC332.out
            have HT349 : Hid (u264.heap.size < u339.heap.size) := Nat.lt_of_lt_of_le HT333.out hB.size
            have HC350 : Hid (u339.cell? ⟨u264.heap.size, 1, none⟩ = some (.slice sa n sc)) := (hB.cell (p := ⟨u264.heap.size, 1, none⟩) HT335.out).trans HC334.out
            have HT351 : Hid (u264.heap.size < u339.heap.size) := Nat.lt_of_lt_of_le HT335.out hB.size
            have HC352 : Hid (u339.cell? ⟨u264.heap.size, 2, none⟩ = some (.slice (some ⟨u211.heap.size, 0, none⟩) 1 1)) := (hB.cell (p := ⟨u264.heap.size, 2, none⟩) HT337.out).trans HC336.out
            have HT353 : Hid (u264.heap.size < u339.heap.size) := Nat.lt_of_lt_of_le HT337.out hB.size
            have HR354 : Hid (RowX (PartM A w f) (fun k => u325.heap.size ≤ k) u339 ga340 (catN LL 3)) := hPR.row
            clear hB hPR
            refine hK.out _ _ (⟨HK343.out.c 0 rfl, HK343.out.c 1 rfl, HK343.out.c 2 rfl, HK343.out.c 3 rfl, HK343.out.c 4 rfl, HK343.out.c 5 rfl⟩) ?_
            clear hK K
            (try simp only [Act.put, List.setIfInBounds_toArray, List.set_cons_zero, List.set_cons_succ])
            refine oH 14 (fun K hK => ?b355)
            case b355 =>
              go_simp
              go_wp2_with (go_at_call 206; refine ((list_any f A w HP.out ⟨7, ⟨x0, x1, x2⟩, ((n / 2 : Nat) : Int), [], []⟩ none 0 (.inl rfl) ga340 (catN LL 3).length gc341 (catN LL 3) (fun k => u325.heap.size ≤ k) rfl HLL.out.1 HLL.out.2 u339 (HWB u339 HB342.out) HR354.out).mono fun e w' h => nds_q h).mono ?_; rintro e u356 ⟨la, lc, bs, M, rfl, hM, hmap, hNR, hB⟩)
              have HN : Hid (M = (⟨7, ⟨x0, x1, x2⟩, ((n / 2 : Nat) : Int), [], []⟩ :: (catN LL 3).flatten).length ∧ bs.map Prod.fst = ⟨7, ⟨x0, x1, x2⟩, ((n / 2 : Nat) : Int), [], []⟩ :: (catN LL 3).flatten ∧ NdR A w u356 u339.heap.size (.slice la M lc) M bs) := ⟨hM.out, hmap, hNR⟩
              have hlo : wk.heap.size ≤ u339.heap.size := by have := HSZ _ HB342.out; omega
              have HB357 : Hid (Below (wk.heap.size + 1) W1 u356) := HB342.out.trans (hB.mono (HSZ _ HB342.out))
              have HK358 : Hid (Kbn 126 u356 wk.heap.size #[.int .i64 x0, .int .i64 x1, .int .i64 x2, .slice sa n sc, .iface Tl xl, .iface Tr xr]) := HK343.out.bel (hB.mono (HSZ _ HB342.out))
              clear hB hM hmap hNR
              refine hK.out _ _ (⟨HK358.out.c 0 rfl, HK358.out.c 1 rfl, HK358.out.c 2 rfl, HK358.out.c 3 rfl, HK358.out.c 4 rfl, HK358.out.c 5 rfl⟩) ?_
              clear hK K
              (try simp only [Act.put, List.setIfInBounds_toArray, List.set_cons_zero, List.set_cons_succ])
              refine pH 15 (⟨HK358.out.c 0 rfl, HK358.out.c 1 rfl, HK358.out.c 2 rfl, HK358.out.c 3 rfl, HK358.out.c 4 rfl, HK358.out.c 5 rfl⟩) ?_
              refine dH ?_
              go_wp2_with fail
              go_ret
              have HM : M = _ := HN.out.1.trans (congrArg List.length HEQ.out.symm)
              refine ⟨la, lc, bs, ret_slice18 HM, by rw [HEQ.out]; exact HN.out.2.1, ?_, HWK _ HB357.out⟩
              rw [← HM]
              exact ⟨HN.out.2.2.1, own_base18 HN.out.2.2.2.1 hlo, HN.out.2.2.2.2⟩
  case b113 =>
    go_simp
    obtain ⟨u359, hw⟩ : ∃ W, W = Wd.alloc (.cells #[.iface Tr xr] 58) := ⟨_, rfl⟩
    rw [← hw]
    have hB : Below Wd.heap.size Wd u359 := by rw [hw]; exact (Below.refl _ _).alloc (Nat.le_refl _) _
    have HB360 : Hid (Below (wk.heap.size + 1) W1 u359) := HB1.out.trans (hB.mono (HSZ _ HB1.out))
    have HK361 : Hid (Kbn 126 u359 wk.heap.size #[.int .i64 x0, .int .i64 x1, .int .i64 x2, .slice sa n sc, .iface Tl xl, .iface Tr xr]) := HK1d.out.bel (hB.mono (HSZ _ HB1.out))
    have HT362 : Hid (Wd.heap.size < u359.heap.size) := by rw [hw]; show _ < _; simp
    have HC363 : Hid (u359.cell? ⟨Wd.heap.size, 0, none⟩ = some (.iface Tr xr)) := by rw [hw]; exact Kbn.c (World.alloc_heap_new Wd _) 0 rfl
    clear hw hB
    refine hK.out _ _ (⟨HK361.out.c 0 rfl, HK361.out.c 1 rfl, HK361.out.c 2 rfl, HK361.out.c 3 rfl, HK361.out.c 4 rfl, HK361.out.c 5 rfl⟩) ?_
    clear hK K
    (try simp only [Act.put, List.setIfInBounds_toArray, List.set_cons_zero, List.set_cons_succ])
    refine oH2 2 5 (fun K hK => ?b364) (fun K hK => ?b365)
    case b364 =>
      go_simp
      go_wp2_with (go_at_call 213; refine (act_any x0 x1 x2 sa n sc 7 hn1 u359).mono ?_; rintro e u366 ⟨rfl, hB⟩)
      have HB367 : Hid (Below (wk.heap.size + 1) W1 u366) := HB360.out.trans (hB.mono (HSZ _ HB360.out))
      have HK368 : Hid (Kbn 126 u366 wk.heap.size #[.int .i64 x0, .int .i64 x1, .int .i64 x2, .slice sa n sc, .iface Tl xl, .iface Tr xr]) := HK361.out.bel (hB.mono (HSZ _ HB360.out))
      have HC369 : Hid (u366.cell? ⟨Wd.heap.size, 0, none⟩ = some (.iface Tr xr)) := (hB.cell (p := ⟨Wd.heap.size, 0, none⟩) HT362.out).trans HC363.out
      have HT370 : Hid (Wd.heap.size < u366.heap.size) := Nat.lt_of_lt_of_le HT362.out hB.size
      clear hB
      refine hK.out _ _ (⟨HK368.out.c 0 rfl, HK368.out.c 1 rfl, HK368.out.c 2 rfl, HK368.out.c 3 rfl, HK368.out.c 4 rfl, HK368.out.c 5 rfl⟩) ?_
      clear hK K
      (try simp only [Act.put, List.setIfInBounds_toArray, List.set_cons_zero, List.set_cons_succ])
      refine oH 5 (fun K hK => ?b371)
      case b371 =>
        go_simp
        obtain ⟨u372, hw⟩ : ∃ W, W = u366.alloc (.cells #[.iface Tl xl] 58) := ⟨_, rfl⟩
        rw [← hw]
        have hB : Below u366.heap.size u366 u372 := by rw [hw]; exact (Below.refl _ _).alloc (Nat.le_refl _) _
        have HB373 : Hid (Below (wk.heap.size + 1) W1 u372) := HB367.out.trans (hB.mono (HSZ _ HB367.out))
        have HK374 : Hid (Kbn 126 u372 wk.heap.size #[.int .i64 x0, .int .i64 x1, .int .i64 x2, .slice sa n sc, .iface Tl xl, .iface Tr xr]) := HK368.out.bel (hB.mono (HSZ _ HB367.out))
        have HC375 : Hid (u372.cell? ⟨Wd.heap.size, 0, none⟩ = some (.iface Tr xr)) := (hB.cell (p := ⟨Wd.heap.size, 0, none⟩) HT370.out).trans HC369.out
        have HT376 : Hid (Wd.heap.size < u372.heap.size) := Nat.lt_of_lt_of_le HT370.out hB.size
        have HT377 : Hid (u366.heap.size < u372.heap.size) := by rw [hw]; show _ < _; simp
        have HC378 : Hid (u372.cell? ⟨u366.heap.size, 0, none⟩ = some (.iface Tl xl)) := by rw [hw]; exact Kbn.c (World.alloc_heap_new u366 _) 0 rfl
        clear hw hB
        refine hK.out _ _ (⟨HK374.out.c 0 rfl, HK374.out.c 1 rfl, HK374.out.c 2 rfl, HK374.out.c 3 rfl, HK374.out.c 4 rfl, HK374.out.c 5 rfl⟩) ?_
        clear hK K
        (try simp only [Act.put, List.setIfInBounds_toArray, List.set_cons_zero, List.set_cons_succ])
        refine oH 12 (fun K hK => ?b379)
        case b379 =>
          go_simp
          obtain ⟨u380, hw⟩ : ∃ W, W = u372.alloc (.cells #[.slice (some ⟨u366.heap.size, 0, none⟩) 1 1, .slice sa n sc, .slice (some ⟨Wd.heap.size, 0, none⟩) 1 1] 117) := ⟨_, rfl⟩
          rw [← hw]
          have hB : Below u372.heap.size u372 u380 := by rw [hw]; exact (Below.refl _ _).alloc (Nat.le_refl _) _
          have HB381 : Hid (Below (wk.heap.size + 1) W1 u380) := HB373.out.trans (hB.mono (HSZ _ HB373.out))
          have HK382 : Hid (Kbn 126 u380 wk.heap.size #[.int .i64 x0, .int .i64 x1, .int .i64 x2, .slice sa n sc, .iface Tl xl, .iface Tr xr]) := HK374.out.bel (hB.mono (HSZ _ HB373.out))
          have HC383 : Hid (u380.cell? ⟨Wd.heap.size, 0, none⟩ = some (.iface Tr xr)) := (hB.cell (p := ⟨Wd.heap.size, 0, none⟩) HT376.out).trans HC375.out
          have HT384 : Hid (Wd.heap.size < u380.heap.size) := Nat.lt_of_lt_of_le HT376.out hB.size
          have HC385 : Hid (u380.cell? ⟨u366.heap.size, 0, none⟩ = some (.iface Tl xl)) := (hB.cell (p := ⟨u366.heap.size, 0, none⟩) HT377.out).trans HC378.out
          have HT386 : Hid (u366.heap.size < u380.heap.size) := Nat.lt_of_lt_of_le HT377.out hB.size
          have HT387 : Hid (u372.heap.size < u380.heap.size) := by rw [hw]; show _ < _; simp
          have HC388 : Hid (u380.cell? ⟨u372.heap.size, 0, none⟩ = some (.slice (some ⟨u366.heap.size, 0, none⟩) 1 1)) := by rw [hw]; exact Kbn.c (World.alloc_heap_new u372 _) 0 rfl
          have HC389 : Hid (u380.cell? ⟨u372.heap.size, 1, none⟩ = some (.slice sa n sc)) := by rw [hw]; exact Kbn.c (World.alloc_heap_new u372 _) 1 rfl
          have HC390 : Hid (u380.cell? ⟨u372.heap.size, 2, none⟩ = some (.slice (some ⟨Wd.heap.size, 0, none⟩) 1 1)) := by rw [hw]; exact Kbn.c (World.alloc_heap_new u372 _) 2 rfl
          clear hw hB
          refine hK.out _ _ (⟨HK382.out.c 0 rfl, HK382.out.c 1 rfl, HK382.out.c 2 rfl, HK382.out.c 3 rfl, HK382.out.c 4 rfl, HK382.out.c 5 rfl⟩) ?_
          clear hK K
          (try simp only [Act.put, List.setIfInBounds_toArray, List.set_cons_zero, List.set_cons_succ])
          refine oH 13 (fun K hK => ?b391)
          case b391 =>
            have hcat : Calls Tryz.prog 214 #[.slice (some ⟨u372.heap.size, 0, none⟩) 3 3] u380 (CatP (PartM A w f) (catN LL 3) u380) := by
              refine concat_any18 (PartM A w f) (fun v ns h => pm_one v ns h) 3 (by decide) LL HLL.out.1 (fun _ => True) (fun j => if j = 0 then some ⟨u366.heap.size, 0, none⟩ else if j = 1 then sa else some ⟨Wd.heap.size, 0, none⟩) (fun j => if j = 0 then 1 else if j = 1 then sc else 1) u372.heap.size 3 u380 HT387.out ?_
              intro j hj
              obtain rfl | rfl | rfl : j = 0 ∨ j = 1 ∨ j = 2 := by omega
              · exact ⟨by rw [HLe0.out]; exact HC388.out, by rw [HLe0.out]; exact .inr ⟨_, 0, rfl, HT386.out, trivial, fun q hq => ⟨.iface Tl xl, (by have hq0 : q = 0 := (by simpa using hq); subst hq0; exact HC385.out), (by have hq0 : q = 0 := (by simpa using hq); subst hq0; exact hlp)⟩⟩⟩
              · exact ⟨by rw [HLe1.out, Hnn.out]; exact HC389.out, by rw [HLe1.out]; exact (HR0.out.go (HWB u380 HB381.out).size (fun k hk _ => (HWB u380 HB381.out).block k hk)).mono (fun _ _ _ => trivial)⟩
              · exact ⟨by rw [HLe2.out]; exact HC390.out, by rw [HLe2.out]; exact .inr ⟨_, 0, rfl, HT384.out, trivial, fun q hq => ⟨.iface Tr xr, (by have hq0 : q = 0 := (by simpa using hq); subst hq0; exact HC383.out), (by have hq0 : q = 0 := (by simpa using hq); subst hq0; exact hr)⟩⟩⟩
            go_simp
            go_wp2_with (go_at_call 214; refine hcat.mono ?_; rintro e u392 ⟨ga393, gc394, rfl, hPR, hB⟩)
            clear hcat
            have HB395 : Hid (Below (wk.heap.size + 1) W1 u392) := HB381.out.trans (hB.mono (HSZ _ HB381.out))
            have HK396 : Hid (Kbn 126 u392 wk.heap.size #[.int .i64 x0, .int .i64 x1, .int .i64 x2, .slice sa n sc, .iface Tl xl, .iface Tr xr]) := HK382.out.bel (hB.mono (HSZ _ HB381.out))
            have HC397 : Hid (u392.cell? ⟨Wd.heap.size, 0, none⟩ = some (.iface Tr xr)) := (hB.cell (p := ⟨Wd.heap.size, 0, none⟩) HT384.out).trans HC383.out
            have HT398 : Hid (Wd.heap.size < u392.heap.size) := Nat.lt_of_lt_of_le HT384.out hB.size
            have HC399 : Hid (u392.cell? ⟨u366.heap.size, 0, none⟩ = some (.iface Tl xl)) := (hB.cell (p := ⟨u366.heap.size, 0, none⟩) HT386.out).trans HC385.out
            have HT400 : Hid (u366.heap.size < u392.heap.size) := Nat.lt_of_lt_of_le HT386.out hB.size
            have HC401 : Hid (u392.cell? ⟨u372.heap.size, 0, none⟩ = some (.slice (some ⟨u366.heap.size, 0, none⟩) 1 1)) := (hB.cell (p := ⟨u372.heap.size, 0, none⟩) HT387.out).trans HC388.out
            have HT402 : Hid (u372.heap.size < u392.heap.size) := Nat.lt_of_lt_of_le HT387.out hB.size
            have HC403 : Hid (u392.cell? ⟨u372.heap.size, 1, none⟩ = some (.slice sa n sc)) := (hB.cell (p := ⟨u372.heap.size, 1, none⟩) HT387.out).trans HC389.out
            have HT404 : Hid (u372.heap.size < u392.heap.size) := Nat.lt_of_lt_of_le HT387.out hB.size
            have HC405 : Hid (u392.cell? ⟨u372.heap.size, 2, none⟩ = some (.slice (some ⟨Wd.heap.size, 0, none⟩) 1 1)) := (hB.cell (p := ⟨u372.heap.size, 2, none⟩) HT387.out).trans HC390.out
            have HT406 : Hid (u372.heap.size < u392.heap.size) := Nat.lt_of_lt_of_le HT387.out hB.size
            have HR407 : Hid (RowX (PartM A w f) (fun k => u380.heap.size ≤ k) u392 ga393 (catN LL 3)) := hPR.row
            clear hB hPR
            refine hK.out _ _ (⟨HK396.out.c 0 rfl, HK396.out.c 1 rfl, HK396.out.c 2 rfl, HK396.out.c 3 rfl, HK396.out.c 4 rfl, HK396.out.c 5 rfl⟩) ?_
            clear hK K
            (try simp only [Act.put, List.setIfInBounds_toArray, List.set_cons_zero, List.set_cons_succ])
            refine oH 14 (fun K hK => ?b408)
            case b408 =>
              go_simp
              go_wp2_with (go_at_call 206; refine ((list_any f A w HP.out ⟨7, ⟨x0, x1, x2⟩, ((n / 2 : Nat) : Int), [], []⟩ none 0 (.inl rfl) ga393 (catN LL 3).length gc394 (catN LL 3) (fun k => u380.heap.size ≤ k) rfl HLL.out.1 HLL.out.2 u392 (HWB u392 HB395.out) HR407.out).mono fun e w' h => nds_q h).mono ?_; rintro e u409 ⟨la, lc, bs, M, rfl, hM, hmap, hNR, hB⟩)
              have HN : Hid (M = (⟨7, ⟨x0, x1, x2⟩, ((n / 2 : Nat) : Int), [], []⟩ :: (catN LL 3).flatten).length ∧ bs.map Prod.fst = ⟨7, ⟨x0, x1, x2⟩, ((n / 2 : Nat) : Int), [], []⟩ :: (catN LL 3).flatten ∧ NdR A w u409 u392.heap.size (.slice la M lc) M bs) := ⟨hM.out, hmap, hNR⟩
              have hlo : wk.heap.size ≤ u392.heap.size := by have := HSZ _ HB395.out; omega
              have HB410 : Hid (Below (wk.heap.size + 1) W1 u409) := HB395.out.trans (hB.mono (HSZ _ HB395.out))
              have HK411 : Hid (Kbn 126 u409 wk.heap.size #[.int .i64 x0, .int .i64 x1, .int .i64 x2, .slice sa n sc, .iface Tl xl, .iface Tr xr]) := HK396.out.bel (hB.mono (HSZ _ HB395.out))
              clear hB hM hmap hNR
              refine hK.out _ _ (⟨HK411.out.c 0 rfl, HK411.out.c 1 rfl, HK411.out.c 2 rfl, HK411.out.c 3 rfl, HK411.out.c 4 rfl, HK411.out.c 5 rfl⟩) ?_
              clear hK K
              (try simp only [Act.put, List.setIfInBounds_toArray, List.set_cons_zero, List.set_cons_succ])
              refine pH 15 (⟨HK411.out.c 0 rfl, HK411.out.c 1 rfl, HK411.out.c 2 rfl, HK411.out.c 3 rfl, HK411.out.c 4 rfl, HK411.out.c 5 rfl⟩) ?_
              refine dH ?_
              go_wp2_with fail
              go_ret
              have HM : M = _ := HN.out.1.trans (congrArg List.length HEQ.out.symm)
              refine ⟨la, lc, bs, ret_slice18 HM, by rw [HEQ.out]; exact HN.out.2.1, ?_, HWK _ HB410.out⟩
              rw [← HM]
              exact ⟨HN.out.2.2.1, own_base18 HN.out.2.2.2.1 hlo, HN.out.2.2.2.2⟩
    case b365 =>
      go_simp
      obtain ⟨u412, hw⟩ : ∃ W, W = u359.alloc (.cells #[.iface Tl xl] 58) := ⟨_, rfl⟩
      rw [← hw]
      have hB : Below u359.heap.size u359 u412 := by rw [hw]; exact (Below.refl _ _).alloc (Nat.le_refl _) _
      have HB413 : Hid (Below (wk.heap.size + 1) W1 u412) := HB360.out.trans (hB.mono (HSZ _ HB360.out))
      have HK414 : Hid (Kbn 126 u412 wk.heap.size #[.int .i64 x0, .int .i64 x1, .int .i64 x2, .slice sa n sc, .iface Tl xl, .iface Tr xr]) := HK361.out.bel (hB.mono (HSZ _ HB360.out))
      have HC415 : Hid (u412.cell? ⟨Wd.heap.size, 0, none⟩ = some (.iface Tr xr)) := (hB.cell (p := ⟨Wd.heap.size, 0, none⟩) HT362.out).trans HC363.out
      have HT416 : Hid (Wd.heap.size < u412.heap.size) := Nat.lt_of_lt_of_le HT362.out hB.size
      have HT417 : Hid (u359.heap.size < u412.heap.size) := by rw [hw]; show _ < _; simp
      have HC418 : Hid (u412.cell? ⟨u359.heap.size, 0, none⟩ = some (.iface Tl xl)) := by rw [hw]; exact Kbn.c (World.alloc_heap_new u359 _) 0 rfl
      clear hw hB
      refine hK.out _ _ (⟨HK414.out.c 0 rfl, HK414.out.c 1 rfl, HK414.out.c 2 rfl, HK414.out.c 3 rfl, HK414.out.c 4 rfl, HK414.out.c 5 rfl⟩) ?_
      clear hK K
      (try simp only [Act.put, List.setIfInBounds_toArray, List.set_cons_zero, List.set_cons_succ])
      refine oH2 2 12 (fun K hK => ?b419) (fun K hK => ?b420)
      case b419 =>
        go_simp
        go_wp2_with (go_at_call 213; refine (act_any x0 x1 x2 sa n sc 7 hn1 u412).mono ?_; rintro e u421 ⟨rfl, hB⟩)
        have HB422 : Hid (Below (wk.heap.size + 1) W1 u421) := HB413.out.trans (hB.mono (HSZ _ HB413.out))
        have HK423 : Hid (Kbn 126 u421 wk.heap.size #[.int .i64 x0, .int .i64 x1, .int .i64 x2, .slice sa n sc, .iface Tl xl, .iface Tr xr]) := HK414.out.bel (hB.mono (HSZ _ HB413.out))
        have HC424 : Hid (u421.cell? ⟨Wd.heap.size, 0, none⟩ = some (.iface Tr xr)) := (hB.cell (p := ⟨Wd.heap.size, 0, none⟩) HT416.out).trans HC415.out
        have HT425 : Hid (Wd.heap.size < u421.heap.size) := Nat.lt_of_lt_of_le HT416.out hB.size
        have HC426 : Hid (u421.cell? ⟨u359.heap.size, 0, none⟩ = some (.iface Tl xl)) := (hB.cell (p := ⟨u359.heap.size, 0, none⟩) HT417.out).trans HC418.out
        have HT427 : Hid (u359.heap.size < u421.heap.size) := Nat.lt_of_lt_of_le HT417.out hB.size
        clear hB
        refine hK.out _ _ (⟨HK423.out.c 0 rfl, HK423.out.c 1 rfl, HK423.out.c 2 rfl, HK423.out.c 3 rfl, HK423.out.c 4 rfl, HK423.out.c 5 rfl⟩) ?_
        clear hK K
        (try simp only [Act.put, List.setIfInBounds_toArray, List.set_cons_zero, List.set_cons_succ])
        refine oH 12 (fun K hK => ?b428)
        case b428 =>
          go_simp
          obtain ⟨u429, hw⟩ : ∃ W, W = u421.alloc (.cells #[.slice (some ⟨u359.heap.size, 0, none⟩) 1 1, .slice sa n sc, .slice (some ⟨Wd.heap.size, 0, none⟩) 1 1] 117) := ⟨_, rfl⟩
          rw [← hw]
          have hB : Below u421.heap.size u421 u429 := by rw [hw]; exact (Below.refl _ _).alloc (Nat.le_refl _) _
          have HB430 : Hid (Below (wk.heap.size + 1) W1 u429) := HB422.out.trans (hB.mono (HSZ _ HB422.out))
          have HK431 : Hid (Kbn 126 u429 wk.heap.size #[.int .i64 x0, .int .i64 x1, .int .i64 x2, .slice sa n sc, .iface Tl xl, .iface Tr xr]) := HK423.out.bel (hB.mono (HSZ _ HB422.out))
          have HC432 : Hid (u429.cell? ⟨Wd.heap.size, 0, none⟩ = some (.iface Tr xr)) := (hB.cell (p := ⟨Wd.heap.size, 0, none⟩) HT425.out).trans HC424.out
          have HT433 : Hid (Wd.heap.size < u429.heap.size) := Nat.lt_of_lt_of_le HT425.out hB.size
          have HC434 : Hid (u429.cell? ⟨u359.heap.size, 0, none⟩ = some (.iface Tl xl)) := (hB.cell (p := ⟨u359.heap.size, 0, none⟩) HT427.out).trans HC426.out
          have HT435 : Hid (u359.heap.size < u429.heap.size) := Nat.lt_of_lt_of_le HT427.out hB.size
          have HT436 : Hid (u421.heap.size < u429.heap.size) := by rw [hw]; show _ < _; simp
          have HC437 : Hid (u429.cell? ⟨u421.heap.size, 0, none⟩ = some (.slice (some ⟨u359.heap.size, 0, none⟩) 1 1)) := by rw [hw]; exact Kbn.c (World.alloc_heap_new u421 _) 0 rfl
          have HC438 : Hid (u429.cell? ⟨u421.heap.size, 1, none⟩ = some (.slice sa n sc)) := by rw [hw]; exact Kbn.c (World.alloc_heap_new u421 _) 1 rfl
          have HC439 : Hid (u429.cell? ⟨u421.heap.size, 2, none⟩ = some (.slice (some ⟨Wd.heap.size, 0, none⟩) 1 1)) := by rw [hw]; exact Kbn.c (World.alloc_heap_new u421 _) 2 rfl
          clear hw hB
          refine hK.out _ _ (⟨HK431.out.c 0 rfl, HK431.out.c 1 rfl, HK431.out.c 2 rfl, HK431.out.c 3 rfl, HK431.out.c 4 rfl, HK431.out.c 5 rfl⟩) ?_
          clear hK K
          (try simp only [Act.put, List.setIfInBounds_toArray, List.set_cons_zero, List.set_cons_succ])
          refine oH 13 (fun K hK => ?b440)
          case b440 =>
            have hcat : Calls Tryz.prog 214 #[.slice (some ⟨u421.heap.size, 0, none⟩) 3 3] u429 (CatP (PartM A w f) (catN LL 3) u429) := by
              refine concat_any18 (PartM A w f) (fun v ns h => pm_one v ns h) 3 (by decide) LL HLL.out.1 (fun _ => True) (fun j => if j = 0 then some ⟨u359.heap.size, 0, none⟩ else if j = 1 then sa else some ⟨Wd.heap.size, 0, none⟩) (fun j => if j = 0 then 1 else if j = 1 then sc else 1) u421.heap.size 3 u429 HT436.out ?_
              intro j hj
              obtain rfl | rfl | rfl : j = 0 ∨ j = 1 ∨ j = 2 := by omega
              · exact ⟨by rw [HLe0.out]; exact HC437.out, by rw [HLe0.out]; exact .inr ⟨_, 0, rfl, HT435.out, trivial, fun q hq => ⟨.iface Tl xl, (by have hq0 : q = 0 := (by simpa using hq); subst hq0; exact HC434.out), (by have hq0 : q = 0 := (by simpa using hq); subst hq0; exact hlp)⟩⟩⟩
              · exact ⟨by rw [HLe1.out, Hnn.out]; exact HC438.out, by rw [HLe1.out]; exact (HR0.out.go (HWB u429 HB430.out).size (fun k hk _ => (HWB u429 HB430.out).block k hk)).mono (fun _ _ _ => trivial)⟩
              · exact ⟨by rw [HLe2.out]; exact HC439.out, by rw [HLe2.out]; exact .inr ⟨_, 0, rfl, HT433.out, trivial, fun q hq => ⟨.iface Tr xr, (by have hq0 : q = 0 := (by simpa using hq); subst hq0; exact HC432.out), (by have hq0 : q = 0 := (by simpa using hq); subst hq0; exact hr)⟩⟩⟩
            go_simp
            go_wp2_with (go_at_call 214; refine hcat.mono ?_; rintro e u441 ⟨ga442, gc443, rfl, hPR, hB⟩)
            clear hcat
            have HB444 : Hid (Below (wk.heap.size + 1) W1 u441) := HB430.out.trans (hB.mono (HSZ _ HB430.out))
            have HK445 : Hid (Kbn 126 u441 wk.heap.size #[.int .i64 x0, .int .i64 x1, .int .i64 x2, .slice sa n sc, .iface Tl xl, .iface Tr xr]) := HK431.out.bel (hB.mono (HSZ _ HB430.out))
            have HC446 : Hid (u441.cell? ⟨Wd.heap.size, 0, none⟩ = some (.iface Tr xr)) := (hB.cell (p := ⟨Wd.heap.size, 0, none⟩) HT433.out).trans HC432.out
            have HT447 : Hid (Wd.heap.size < u441.heap.size) := Nat.lt_of_lt_of_le HT433.out hB.size
            have HC448 : Hid (u441.cell? ⟨u359.heap.size, 0, none⟩ = some (.iface Tl xl)) := (hB.cell (p := ⟨u359.heap.size, 0, none⟩) HT435.out).trans HC434.out
            have HT449 : Hid (u359.heap.size < u441.heap.size) := Nat.lt_of_lt_of_le HT435.out hB.size
            have HC450 : Hid (u441.cell? ⟨u421.heap.size, 0, none⟩ = some (.slice (some ⟨u359.heap.size, 0, none⟩) 1 1)) := (hB.cell (p := ⟨u421.heap.size, 0, none⟩) HT436.out).trans HC437.out
            have HT451 : Hid (u421.heap.size < u441.heap.size) := Nat.lt_of_lt_of_le HT436.out hB.size
            have HC452 : Hid (u441.cell? ⟨u421.heap.size, 1, none⟩ = some (.slice sa n sc)) := (hB.cell (p := ⟨u421.heap.size, 1, none⟩) HT436.out).trans HC438.out
            have HT453 : Hid (u421.heap.size < u441.heap.size) := Nat.lt_of_lt_of_le HT436.out hB.size
            have HC454 : Hid (u441.cell? ⟨u421.heap.size, 2, none⟩ = some (.slice (some ⟨Wd.heap.size, 0, none⟩) 1 1)) := (hB.cell (p := ⟨u421.heap.size, 2, none⟩) HT436.out).trans HC439.out
            have HT455 : Hid (u421.heap.size < u441.heap.size) := Nat.lt_of_lt_of_le HT436.out hB.size
            have HR456 : Hid (RowX (PartM A w f) (fun k => u429.heap.size ≤ k) u441 ga442 (catN LL 3)) := hPR.row
            clear hB hPR
            refine hK.out _ _ (⟨HK445.out.c 0 rfl, HK445.out.c 1 rfl, HK445.out.c 2 rfl, HK445.out.c 3 rfl, HK445.out.c 4 rfl, HK445.out.c 5 rfl⟩) ?_
            clear hK K
            (try simp only [Act.put, List.setIfInBounds_toArray, List.set_cons_zero, List.set_cons_succ])
            refine oH 14 (fun K hK => ?b457)
            case b457 =>
              go_simp
              go_wp2_with (go_at_call 206; refine ((list_any f A w HP.out ⟨7, ⟨x0, x1, x2⟩, ((n / 2 : Nat) : Int), [], []⟩ none 0 (.inl rfl) ga442 (catN LL 3).length gc443 (catN LL 3) (fun k => u429.heap.size ≤ k) rfl HLL.out.1 HLL.out.2 u441 (HWB u441 HB444.out) HR456.out).mono fun e w' h => nds_q h).mono ?_; rintro e u458 ⟨la, lc, bs, M, rfl, hM, hmap, hNR, hB⟩)
              have HN : Hid (M = (⟨7, ⟨x0, x1, x2⟩, ((n / 2 : Nat) : Int), [], []⟩ :: (catN LL 3).flatten).length ∧ bs.map Prod.fst = ⟨7, ⟨x0, x1, x2⟩, ((n / 2 : Nat) : Int), [], []⟩ :: (catN LL 3).flatten ∧ NdR A w u458 u441.heap.size (.slice la M lc) M bs) := ⟨hM.out, hmap, hNR⟩
              have hlo : wk.heap.size ≤ u441.heap.size := by have := HSZ _ HB444.out; omega
              have HB459 : Hid (Below (wk.heap.size + 1) W1 u458) := HB444.out.trans (hB.mono (HSZ _ HB444.out))
              have HK460 : Hid (Kbn 126 u458 wk.heap.size #[.int .i64 x0, .int .i64 x1, .int .i64 x2, .slice sa n sc, .iface Tl xl, .iface Tr xr]) := HK445.out.bel (hB.mono (HSZ _ HB444.out))
              clear hB hM hmap hNR
              refine hK.out _ _ (⟨HK460.out.c 0 rfl, HK460.out.c 1 rfl, HK460.out.c 2 rfl, HK460.out.c 3 rfl, HK460.out.c 4 rfl, HK460.out.c 5 rfl⟩) ?_
              clear hK K
              (try simp only [Act.put, List.setIfInBounds_toArray, List.set_cons_zero, List.set_cons_succ])
              refine pH 15 (⟨HK460.out.c 0 rfl, HK460.out.c 1 rfl, HK460.out.c 2 rfl, HK460.out.c 3 rfl, HK460.out.c 4 rfl, HK460.out.c 5 rfl⟩) ?_
              refine dH ?_
              go_wp2_with fail
              go_ret
              have HM : M = _ := HN.out.1.trans (congrArg List.length HEQ.out.symm)
              refine ⟨la, lc, bs, ret_slice18 HM, by rw [HEQ.out]; exact HN.out.2.1, ?_, HWK _ HB459.out⟩
              rw [← HM]
              exact ⟨HN.out.2.2.1, own_base18 HN.out.2.2.2.1 hlo, HN.out.2.2.2.2⟩
      case b420 =>
        go_simp
        obtain ⟨u461, hw⟩ : ∃ W, W = u412.alloc (.cells #[.slice (some ⟨u359.heap.size, 0, none⟩) 1 1, .slice sa n sc, .slice (some ⟨Wd.heap.size, 0, none⟩) 1 1] 117) := ⟨_, rfl⟩
        rw [← hw]
        have hB : Below u412.heap.size u412 u461 := by rw [hw]; exact (Below.refl _ _).alloc (Nat.le_refl _) _
        have HB462 : Hid (Below (wk.heap.size + 1) W1 u461) := HB413.out.trans (hB.mono (HSZ _ HB413.out))
        have HK463 : Hid (Kbn 126 u461 wk.heap.size #[.int .i64 x0, .int .i64 x1, .int .i64 x2, .slice sa n sc, .iface Tl xl, .iface Tr xr]) := HK414.out.bel (hB.mono (HSZ _ HB413.out))
        have HC464 : Hid (u461.cell? ⟨Wd.heap.size, 0, none⟩ = some (.iface Tr xr)) := (hB.cell (p := ⟨Wd.heap.size, 0, none⟩) HT416.out).trans HC415.out
        have HT465 : Hid (Wd.heap.size < u461.heap.size) := Nat.lt_of_lt_of_le HT416.out hB.size
        have HC466 : Hid (u461.cell? ⟨u359.heap.size, 0, none⟩ = some (.iface Tl xl)) := (hB.cell (p := ⟨u359.heap.size, 0, none⟩) HT417.out).trans HC418.out
        have HT467 : Hid (u359.heap.size < u461.heap.size) := Nat.lt_of_lt_of_le HT417.out hB.size
        have HT468 : Hid (u412.heap.size < u461.heap.size) := by rw [hw]; show _ < _; simp
        have HC469 : Hid (u461.cell? ⟨u412.heap.size, 0, none⟩ = some (.slice (some ⟨u359.heap.size, 0, none⟩) 1 1)) := by rw [hw]; exact Kbn.c (World.alloc_heap_new u412 _) 0 rfl
        have HC470 : Hid (u461.cell? ⟨u412.heap.size, 1, none⟩ = some (.slice sa n sc)) := by rw [hw]; exact Kbn.c (World.alloc_heap_new u412 _) 1 rfl
        have HC471 : Hid (u461.cell? ⟨u412.heap.size, 2, none⟩ = some (.slice (some ⟨Wd.heap.size, 0, none⟩) 1 1)) := by rw [hw]; exact Kbn.c (World.alloc_heap_new u412 _) 2 rfl
        clear hw hB
        refine hK.out _ _ (⟨HK463.out.c 0 rfl, HK463.out.c 1 rfl, HK463.out.c 2 rfl, HK463.out.c 3 rfl, HK463.out.c 4 rfl, HK463.out.c 5 rfl⟩) ?_
        clear hK K
        (try simp only [Act.put, List.setIfInBounds_toArray, List.set_cons_zero, List.set_cons_succ])
        refine oH 2 (fun K hK => ?b472)
        case b472 =>
          go_simp
          go_wp2_with (go_at_call 213; refine (act_any x0 x1 x2 sa n sc 7 hn1 u461).mono ?_; rintro e u473 ⟨rfl, hB⟩)
          have HB474 : Hid (Below (wk.heap.size + 1) W1 u473) := HB462.out.trans (hB.mono (HSZ _ HB462.out))
          have HK475 : Hid (Kbn 126 u473 wk.heap.size #[.int .i64 x0, .int .i64 x1, .int .i64 x2, .slice sa n sc, .iface Tl xl, .iface Tr xr]) := HK463.out.bel (hB.mono (HSZ _ HB462.out))
          have HC476 : Hid (u473.cell? ⟨Wd.heap.size, 0, none⟩ = some (.iface Tr xr)) := (hB.cell (p := ⟨Wd.heap.size, 0, none⟩) HT465.out).trans HC464.out
          have HT477 : Hid (Wd.heap.size < u473.heap.size) := Nat.lt_of_lt_of_le HT465.out hB.size
          have HC478 : Hid (u473.cell? ⟨u359.heap.size, 0, none⟩ = some (.iface Tl xl)) := (hB.cell (p := ⟨u359.heap.size, 0, none⟩) HT467.out).trans HC466.out
          have HT479 : Hid (u359.heap.size < u473.heap.size) := Nat.lt_of_lt_of_le HT467.out hB.size
          have HC480 : Hid (u473.cell? ⟨u412.heap.size, 0, none⟩ = some (.slice (some ⟨u359.heap.size, 0, none⟩) 1 1)) := (hB.cell (p := ⟨u412.heap.size, 0, none⟩) HT468.out).trans HC469.out
          have HT481 : Hid (u412.heap.size < u473.heap.size) := Nat.lt_of_lt_of_le HT468.out hB.size
          have HC482 : Hid (u473.cell? ⟨u412.heap.size, 1, none⟩ = some (.slice sa n sc)) := (hB.cell (p := ⟨u412.heap.size, 1, none⟩) HT468.out).trans HC470.out
          have HT483 : Hid (u412.heap.size < u473.heap.size) := Nat.lt_of_lt_of_le HT468.out hB.size
          have HC484 : Hid (u473.cell? ⟨u412.heap.size, 2, none⟩ = some (.slice (some ⟨Wd.heap.size, 0, none⟩) 1 1)) := (hB.cell (p := ⟨u412.heap.size, 2, none⟩) HT468.out).trans HC471.out
          have HT485 : Hid (u412.heap.size < u473.heap.size) := Nat.lt_of_lt_of_le HT468.out hB.size
          clear hB
          refine hK.out _ _ (⟨HK475.out.c 0 rfl, HK475.out.c 1 rfl, HK475.out.c 2 rfl, HK475.out.c 3 rfl, HK475.out.c 4 rfl, HK475.out.c 5 rfl⟩) ?_
          clear hK K
          (try simp only [Act.put, List.setIfInBounds_toArray, List.set_cons_zero, List.set_cons_succ])
          refine oH 13 (fun K hK => ?b486)
          case b486 =>
            have hcat : Calls Tryz.prog 214 #[.slice (some ⟨u412.heap.size, 0, none⟩) 3 3] u473 (CatP (PartM A w f) (catN LL 3) u473) := by
              refine concat_any18 (PartM A w f) (fun v ns h => pm_one v ns h) 3 (by decide) LL HLL.out.1 (fun _ => True) (fun j => if j = 0 then some ⟨u359.heap.size, 0, none⟩ else if j = 1 then sa else some ⟨Wd.heap.size, 0, none⟩) (fun j => if j = 0 then 1 else if j = 1 then sc else 1) u412.heap.size 3 u473 HT481.out ?_
              intro j hj
              obtain rfl | rfl | rfl : j = 0 ∨ j = 1 ∨ j = 2 := by omega
              · exact ⟨by rw [HLe0.out]; exact HC480.out, by rw [HLe0.out]; exact .inr ⟨_, 0, rfl, HT479.out, trivial, fun q hq => ⟨.iface Tl xl, (by have hq0 : q = 0 := (by simpa using hq); subst hq0; exact HC478.out), (by have hq0 : q = 0 := (by simpa using hq); subst hq0; exact hlp)⟩⟩⟩
              · exact ⟨by rw [HLe1.out, Hnn.out]; exact HC482.out, by rw [HLe1.out]; exact (HR0.out.go (HWB u473 HB474.out).size (fun k hk _ => (HWB u473 HB474.out).block k hk)).mono (fun _ _ _ => trivial)⟩
              · exact ⟨by rw [HLe2.out]; exact HC484.out, by rw [HLe2.out]; exact .inr ⟨_, 0, rfl, HT477.out, trivial, fun q hq => ⟨.iface Tr xr, (by have hq0 : q = 0 := (by simpa using hq); subst hq0; exact HC476.out), (by have hq0 : q = 0 := (by simpa using hq); subst hq0; exact hr)⟩⟩⟩
            go_simp
            go_wp2_with (go_at_call 214; refine hcat.mono ?_; rintro e u487 ⟨ga488, gc489, rfl, hPR, hB⟩)
            clear hcat
            have HB490 : Hid (Below (wk.heap.size + 1) W1 u487) := HB474.out.trans (hB.mono (HSZ _ HB474.out))
            have HK491 : Hid (Kbn 126 u487 wk.heap.size #[.int .i64 x0, .int .i64 x1, .int .i64 x2, .slice sa n sc, .iface Tl xl, .iface Tr xr]) := HK475.out.bel (hB.mono (HSZ _ HB474.out))
            have HC492 : Hid (u487.cell? ⟨Wd.heap.size, 0, none⟩ = some (.iface Tr xr)) := (hB.cell (p := ⟨Wd.heap.size, 0, none⟩) HT477.out).trans HC476.out
            have HT493 : Hid (Wd.heap.size < u487.heap.size) := Nat.lt_of_lt_of_le HT477.out hB.size
            have HC494 : Hid (u487.cell? ⟨u359.heap.size, 0, none⟩ = some (.iface Tl xl)) := (hB.cell (p := ⟨u359.heap.size, 0, none⟩) HT479.out).trans HC478.out
            have HT495 : Hid (u359.heap.size < u487.heap.size) := Nat.lt_of_lt_of_le HT479.out hB.size
            have HC496 : Hid (u487.cell? ⟨u412.heap.size, 0, none⟩ = some (.slice (some ⟨u359.heap.size, 0, none⟩) 1 1)) := (hB.cell (p := ⟨u412.heap.size, 0, none⟩) HT481.out).trans HC480.out
            have HT497 : Hid (u412.heap.size < u487.heap.size) := Nat.lt_of_lt_of_le HT481.out hB.size
            have HC498 : Hid (u487.cell? ⟨u412.heap.size, 1, none⟩ = some (.slice sa n sc)) := (hB.cell (p := ⟨u412.heap.size, 1, none⟩) HT483.out).trans HC482.out
            have HT499 : Hid (u412.heap.size < u487.heap.size) := Nat.lt_of_lt_of_le HT483.out hB.size
            have HC500 : Hid (u487.cell? ⟨u412.heap.size, 2, none⟩ = some (.slice (some ⟨Wd.heap.size, 0, none⟩) 1 1)) := (hB.cell (p := ⟨u412.heap.size, 2, none⟩) HT485.out).trans HC484.out
            have HT501 : Hid (u412.heap.size < u487.heap.size) := Nat.lt_of_lt_of_le HT485.out hB.size
            have HR502 : Hid (RowX (PartM A w f) (fun k => u473.heap.size ≤ k) u487 ga488 (catN LL 3)) := hPR.row
            clear hB hPR
            refine hK.out _ _ (⟨HK491.out.c 0 rfl, HK491.out.c 1 rfl, HK491.out.c 2 rfl, HK491.out.c 3 rfl, HK491.out.c 4 rfl, HK491.out.c 5 rfl⟩) ?_
            clear hK K
            (try simp only [Act.put, List.setIfInBounds_toArray, List.set_cons_zero, List.set_cons_succ])
            refine oH 14 (fun K hK => ?b503)
            case b503 =>
              go_simp
              go_wp2_with (go_at_call 206; refine ((list_any f A w HP.out ⟨7, ⟨x0, x1, x2⟩, ((n / 2 : Nat) : Int), [], []⟩ none 0 (.inl rfl) ga488 (catN LL 3).length gc489 (catN LL 3) (fun k => u473.heap.size ≤ k) rfl HLL.out.1 HLL.out.2 u487 (HWB u487 HB490.out) HR502.out).mono fun e w' h => nds_q h).mono ?_; rintro e u504 ⟨la, lc, bs, M, rfl, hM, hmap, hNR, hB⟩)
              have HN : Hid (M = (⟨7, ⟨x0, x1, x2⟩, ((n / 2 : Nat) : Int), [], []⟩ :: (catN LL 3).flatten).length ∧ bs.map Prod.fst = ⟨7, ⟨x0, x1, x2⟩, ((n / 2 : Nat) : Int), [], []⟩ :: (catN LL 3).flatten ∧ NdR A w u504 u487.heap.size (.slice la M lc) M bs) := ⟨hM.out, hmap, hNR⟩
              have hlo : wk.heap.size ≤ u487.heap.size := by have := HSZ _ HB490.out; omega
              have HB505 : Hid (Below (wk.heap.size + 1) W1 u504) := HB490.out.trans (hB.mono (HSZ _ HB490.out))
              have HK506 : Hid (Kbn 126 u504 wk.heap.size #[.int .i64 x0, .int .i64 x1, .int .i64 x2, .slice sa n sc, .iface Tl xl, .iface Tr xr]) := HK491.out.bel (hB.mono (HSZ _ HB490.out))
              clear hB hM hmap hNR
              refine hK.out _ _ (⟨HK506.out.c 0 rfl, HK506.out.c 1 rfl, HK506.out.c 2 rfl, HK506.out.c 3 rfl, HK506.out.c 4 rfl, HK506.out.c 5 rfl⟩) ?_
              clear hK K
              (try simp only [Act.put, List.setIfInBounds_toArray, List.set_cons_zero, List.set_cons_succ])
              refine pH 15 (⟨HK506.out.c 0 rfl, HK506.out.c 1 rfl, HK506.out.c 2 rfl, HK506.out.c 3 rfl, HK506.out.c 4 rfl, HK506.out.c 5 rfl⟩) ?_
              refine dH ?_
              go_wp2_with fail
              go_ret
              have HM : M = _ := HN.out.1.trans (congrArg List.length HEQ.out.symm)
              refine ⟨la, lc, bs, ret_slice18 HM, by rw [HEQ.out]; exact HN.out.2.1, ?_, HWK _ HB505.out⟩
              rw [← HM]
              exact ⟨HN.out.2.2.1, own_base18 HN.out.2.2.2.1 hlo, HN.out.2.2.2.2⟩
end Go.Proofs.YtgjgbgllhbdodaaGreatDoor
