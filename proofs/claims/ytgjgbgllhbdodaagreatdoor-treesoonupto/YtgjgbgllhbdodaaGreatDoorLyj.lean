
/-
  The program spells words.
-/
import Derived.Test.YtgjgbgllhbdodaaGreatDoorLyi
namespace Go.Proofs.YtgjgbgllhbdodaaGreatDoor
open Go.RowKit Go.Lib
set_option linter.unusedVariables false

set_option maxRecDepth 100000 in
set_option maxHeartbeats 2000000 in
theorem catch17s (c : Int) (hc : c = 1 ∨ c = 6 ∨ c = 7) (n : Int) (k : Nat) (v0 : Value) (w : World) (h0 : w.heap[k]? = some (.cells #[v0] 25 (0, 0))) :
    CallsD Tryz.prog 32 #[.pointer (some ⟨k, 0, none⟩)] (.panicking [{ v := .iface (errT c) (.int .i64 n), recovered := false }]) w fun e u' w' =>
      e = .returned (.tuple #[]) ∧ u' = .panicking [{ v := .iface (errT c) (.int .i64 n), recovered := true }] ∧ w' = w.setCell ⟨k, 0, none⟩ (errV c) := by
  refine callsD_of_wpS Tryz.func32 rfl fun c₀ cs hu => ?_
  apply wpS_seq
  apply wpS_region
  simp [wpOpsS, go_sem, recoverD, hu, Tryz.ntmps32, Exit.thenS]
  refine wpS_of_wp ?_
  have ht := told_any17 c hc n
  have he : errV c = .iface 36 (.int .i64 c) := errV_pos (by omega)
  rw [he] at ht ⊢
  have hb0 : w.cell? ⟨k, 0, none⟩ = some v0 := by simp [World.cell?, h0]
  have hz0 : w.frozen? ⟨k, 0, none⟩ = false := by simp [World.frozen?, h0]
  clear h0
  change Code.wp Tryz.prog _ _ { tmps := #[.pointer (some ⟨k, 0, none⟩), .iface (errT c) (.int .i64 n), .iface (errT c) (.int .i64 n), undef, undef, undef, undef, undef, undef, undef], defers := [] } w
  go_wp2_with fail
  refine (ht _).mono ?_
  rintro e w' ⟨rfl, rfl⟩
  go_wp2_with fail
  simp [bodyPostS, results, Tryz.results32]
theorem idle17s (k : Nat) (w : World) :
    CallsD Tryz.prog 32 #[.pointer (some ⟨k, 0, none⟩)] .returning w fun e u' w' => e = .returned (.tuple #[]) ∧ u' = .returning ∧ w' = w := by
  refine callsD_of_wpS Tryz.func32 rfl fun c₀ cs hu => ?_
  apply wpS_seq
  apply wpS_region
  simp [wpOpsS, go_sem, recoverD, hu, Tryz.ntmps32, Exit.thenS]
  refine wpS_of_wp ?_
  change Code.wp Tryz.prog _ _ { tmps := #[.pointer (some ⟨k, 0, none⟩), .nilIface, .nilIface, undef, undef, undef, undef, undef, undef, undef], defers := [] } w
  go_wp2_with fail
  cases c₀
  simp_all [bodyPostS, results, Tryz.results32]
theorem res1_put {w : World} {k : Nat} {v : Value} (h : w.heap[k]? = some (.cells #[v] 25 (0, 0))) (x : Value) : (w.setCell ⟨k, 0, none⟩ x).cell? ⟨k, 0, none⟩ = some x := by
  simp [World.cell?, World.setCell, Array.getElem?_modify, h]
/-- What spelling ends with. -/
def SlP (S : Sp) (w : World) (e : Ending) (w' : World) : Prop :=
  Below w.heap.size w w' ∧ match S with
    | Except.ok s => e = .returned (.tuple #[.string ⟨s.toArray⟩, .nilIface])
    | Except.error c => e = .returned (.tuple #[.string ⟨#[]⟩, errV c])
theorem map_at {ts : List TkA} {j : Nat} (hj : j < ts.length) (d : Tk) : (ts.map Prod.fst).getD j d = (tkz ts j).1 := by
  rw [tkz_get hj, List.getD_eq_getElem?_getD, List.getElem?_map, List.getElem?_eq_getElem hj]; rfl
theorem jnA_full (ts : List TkA) : jnA ts ts.length = joinB ((ts.map Prod.fst).map spT) := by
  unfold jnA; rw [List.take_length, List.map_map]; rfl
theorem errT_eq : errT 1 = 130 ∧ errT 7 = 79 := ⟨rfl, rfl⟩
set_option maxRecDepth 100000 in
set_option maxHeartbeats 8000000 in
theorem spell_any17 (a : Option Addr) (cap : Nat) (ts : List TkA) (hlen : ts.length ≤ 9223372036854775807) (w : World) (hI : IsTk w.heap.size w a ts) (hz : ∀ j, j < ts.length → InR (tkz ts j).1.num ∧ (tkz ts j).1.text.length ≤ 9223372036854775807) (hsp : Spl w)
    (hT : Lib.Utf8Tabs (Tryz.laysValid_ren.g 3) (Tryz.laysValid_ren.g 4) w) :
    Calls Tryz.prog 17 #[.slice a ts.length cap] w (SlP (spelsS (ts.map Prod.fst)) w) := by
  have hmf : ∀ (fn : Fn) (first cap : Array Value) (w : World), (Instr.makeFunc fn first cap).run Tryz.prog w = .ok (.func fn first cap) w := fun _ _ _ _ => rfl
  have HW : Hid (∀ S, spelsS (ts.map Prod.fst) = S → ∀ e w', SlP S w e w' → SlP (spelsS (ts.map Prod.fst)) w e w') := fun S h e w' h2 => by rw [h]; exact h2
  have HS : Hid (Spl w) := hsp
  have HT : Hid (Lib.Utf8Tabs (Tryz.laysValid_ren.g 3) (Tryz.laysValid_ren.g 4) w) := hT
  have HC : Hid (∀ j, j < ts.length → InR (tkz ts j).1.num ∧ (tkz ts j).1.text.length ≤ 9223372036854775807) := hz
  have HII : Hid (IsTk w.heap.size w a ts) := hI
  have HB0 : Hid (Below w.heap.size w (w.alloc (.cells #[.nilIface] 25))) := (Below.refl _ w).alloc (Nat.le_refl _) _
  have HK0 : Hid ((w.alloc (.cells #[.nilIface] 25)).heap[w.heap.size]? = some (.cells #[.nilIface] 25 (0, 0))) := World.alloc_heap_new w _
  clear hI hz hsp hT
  by_cases hbig : 200 < ts.length
  · have HE : Hid (spelsS (ts.map Prod.fst) = .bad 7) := by show _ = _; unfold spelsS; rw [List.length_map, if_pos hbig]
    have hb2 : (200 : Int) < (ts.length : Int) := by omega
    go_enter_defers Tryz.func17, Tryz.ntmps17
    go_wp2_with fail
    refine leaves_cons (f := 32) (args := #[.pointer (some ⟨w.heap.size, 0, none⟩)]) (by simp) (by simp [go_sem]) ?_
    refine (catch17s 7 (by omega) 0 w.heap.size _ (w.alloc (.cells #[.nilIface] 25)) HK0.out).mono ?_
    rintro e u' w'' ⟨rfl, rfl, rfl⟩
    have q0 : ((w.alloc (.cells #[.nilIface] 25)).setCell ⟨w.heap.size, 0, none⟩ (errV 7)).cell? ⟨w.heap.size, 0, none⟩ = some (errV 7) := res1_put HK0.out _
    have HBW : Hid (Below w.heap.size w ((w.alloc (.cells #[.nilIface] 25)).setCell ⟨w.heap.size, 0, none⟩ (errV 7))) := HB0.out.setCell (p := ⟨w.heap.size, 0, none⟩) (Nat.le_refl _) _
    generalize (w.alloc (.cells #[.nilIface] 25)).setCell ⟨w.heap.size, 0, none⟩ (errV 7) = W at *
    simp [Leaves, settle, results, Tryz.results17, go_sem, q0]
    exact HW.out _ HE.out _ _ ⟨HBW.out, rfl⟩
  · have hb2 : ¬ (200 : Int) < (ts.length : Int) := by omega
    have HQ : Hid (spelsS (ts.map Prod.fst) = if ckL (ts.map Prod.fst) = 0 then (if 1000 < (jnA ts ts.length).length then .bad 7 else .ok (jnA ts ts.length)) else .bad (ckL (ts.map Prod.fst))) := by
      show _ = _
      rw [spelsS_ck (by rw [List.length_map]; omega), jnA_full]
    go_enter_defers Tryz.func17, Tryz.ntmps17
    go_wp2_with fail
    go_loopw [13] (fun v wr => ∃ k : Nat, k ≤ ts.length ∧ v = .int .i64 k ∧ Hid (∀ j, j < k → ckE (tkz ts j).1 = 0) ∧ Hid (wr.heap[w.heap.size]? = some (.cells #[.nilIface] 25 (0, 0))) ∧ w.heap.size < wr.heap.size ∧ Hid (Below w.heap.size w wr)) (fun v _ => ts.length - (RowKit.intOf v).toNat)
    case atStart => exact ⟨0, Nat.zero_le _, rfl, (fun j hj => by omega : ∀ j, j < 0 → ckE (tkz ts j).1 = 0), HK0, by simp, HB0⟩
    case round =>
      obtain ⟨k, hk, rfl, HG, HK, hsz, HB⟩ := hrel
      by_cases hlt : k < ts.length
      · obtain ⟨g, off, rfl, hg, hcell⟩ := (HII.out.go HB.out).at hlt
        obtain ⟨c0, c1, c2, c3, c4⟩ := hcell k hlt
        clear hcell
        obtain ⟨hrn, htl⟩ := HC.out k hlt
        have HLE : Hid (ckE (tkz ts k).1 ≠ 0 → spelsS (ts.map Prod.fst) = .bad (ckE (tkz ts k).1)) := fun h => by
          have e := ckL_at (ts.map Prod.fst) k ⟨0, 0, 0, []⟩ (by rw [List.length_map]; exact hlt) (fun j hj => by rw [map_at (by omega)]; exact HG.out j hj) (by rw [map_at hlt]; exact h)
          rw [map_at hlt] at e
          rw [HQ.out, e, if_neg h]
        have HGG : Hid (ckE (tkz ts k).1 = 0 → ∀ j, j < k + 1 → ckE (tkz ts j).1 = 0) := fun h j hj => by
          rcases Nat.lt_succ_iff_lt_or_eq.1 hj with h1 | rfl
          · exact HG.out j h1
          · exact h
        have hlk : (k : Int) < (ts.length : Int) := by omega
        have hcc := ckE_cases (tkz ts k).1
        generalize hx : tkz ts k = x at *
        obtain ⟨⟨tk, tf, tn, tt⟩, ta⟩ := x
        simp only [TkA.s] at c0 c1 c2 c3 c4
        obtain ⟨W1, hW1⟩ : ∃ W1, W1 = wr.alloc (.cells #[.int .i64 tk, .int .i64 tf, .int .i64 tn, .string ⟨tt.toArray⟩, .int .i64 ta] 30) := ⟨_, rfl⟩
        have HW1 : Hid (W1 = wr.alloc (.cells #[.int .i64 tk, .int .i64 tf, .int .i64 tn, .string ⟨tt.toArray⟩, .int .i64 ta] 30)) := hW1
        have hB1 : Below wr.heap.size wr W1 := by rw [hW1]; exact (Below.refl _ wr).alloc (Nat.le_refl _) _
        have HB1 : Hid (Below w.heap.size w W1) := HB.out.trans (hB1.mono (by omega))
        have HK1 : Hid (W1.heap[w.heap.size]? = some (.cells #[.nilIface] 25 (0, 0))) := (hB1.block _ hsz).trans HK.out
        have hz1 : w.heap.size < W1.heap.size := Nat.lt_of_lt_of_le hsz hB1.size
        have hch := check_any17 ⟨tk, tf, tn, tt⟩ ta htl W1 (tabs_go HT.out HB1.out)
        simp only [tokI] at hch
        clear hB1 hW1 hx hrn htl
        go_wp2_with fail
        rw [← HW1.out]
        refine hch.mono ?_
        rintro e w2 ⟨hB2, hE⟩
        have HB2 : Hid (Below w.heap.size w w2) := HB1.out.trans (hB2.mono (by omega))
        have HK2 : Hid (w2.heap[w.heap.size]? = some (.cells #[.nilIface] 25 (0, 0))) := (hB2.block _ hz1).trans HK1.out
        have hz2 : w.heap.size < w2.heap.size := Nat.lt_of_lt_of_le hz1 hB2.size
        clear hB2 hch
        rcases hcc with hcc | hcc | hcc
        · rw [hcc, if_pos rfl] at hE
          subst hE
          have HN : Hid (∀ j, j < k + 1 → ckE (tkz ts j).1 = 0) := HGG.out hcc
          clear hcc
          go_wp2_with fail
          refine ⟨⟨k + 1, hlt, by first | rfl | go_num, HN, HK2, hz2, HB2⟩, by simp [RowKit.intOf]; omega⟩
        · have HE : Hid (spelsS (ts.map Prod.fst) = .bad 1) := by show _ = _; rw [HLE.out (by rw [hcc]; decide), hcc]
          rw [hcc, if_neg (by decide)] at hE
          subst hE
          clear hcc
          simp only [panV]
          go_wp2_with fail
          refine leaves_cons (f := 32) (args := #[.pointer (some ⟨w.heap.size, 0, none⟩)]) (by simp) (by simp [go_sem]) ?_
          refine (catch17s 1 (by omega) 0 w.heap.size _ w2 HK2.out).mono ?_
          rintro e u' w'' ⟨rfl, rfl, rfl⟩
          have q0 : (w2.setCell ⟨w.heap.size, 0, none⟩ (errV 1)).cell? ⟨w.heap.size, 0, none⟩ = some (errV 1) := res1_put HK2.out _
          have HBW : Hid (Below w.heap.size w (w2.setCell ⟨w.heap.size, 0, none⟩ (errV 1))) := HB2.out.setCell (p := ⟨w.heap.size, 0, none⟩) (Nat.le_refl _) _
          generalize w2.setCell ⟨w.heap.size, 0, none⟩ (errV 1) = W at *
          simp [Leaves, settle, results, Tryz.results17, go_sem, q0]
          exact HW.out _ HE.out _ _ ⟨HBW.out, rfl⟩
        · have HE : Hid (spelsS (ts.map Prod.fst) = .bad 7) := by show _ = _; rw [HLE.out (by rw [hcc]; decide), hcc]
          rw [hcc, if_neg (by decide)] at hE
          subst hE
          clear hcc
          simp only [panV]
          go_wp2_with fail
          refine leaves_cons (f := 32) (args := #[.pointer (some ⟨w.heap.size, 0, none⟩)]) (by simp) (by simp [go_sem]) ?_
          refine (catch17s 7 (by omega) 0 w.heap.size _ w2 HK2.out).mono ?_
          rintro e u' w'' ⟨rfl, rfl, rfl⟩
          have q0 : (w2.setCell ⟨w.heap.size, 0, none⟩ (errV 7)).cell? ⟨w.heap.size, 0, none⟩ = some (errV 7) := res1_put HK2.out _
          have HBW : Hid (Below w.heap.size w (w2.setCell ⟨w.heap.size, 0, none⟩ (errV 7))) := HB2.out.setCell (p := ⟨w.heap.size, 0, none⟩) (Nat.le_refl _) _
          generalize w2.setCell ⟨w.heap.size, 0, none⟩ (errV 7) = W at *
          simp [Leaves, settle, results, Tryz.results17, go_sem, q0]
          exact HW.out _ HE.out _ _ ⟨HBW.out, rfl⟩
      · obtain rfl : k = ts.length := by omega
        have HZ : Hid (ckL (ts.map Prod.fst) = 0) := ckL_none _ ⟨0, 0, 0, []⟩ (fun j hj => by rw [List.length_map] at hj; rw [map_at hj]; exact HG.out j hj)
        have hls := line_spell a cap ts (by omega) wr ((HII.out.go HB.out).mono (by omega)) (fun j hj => ⟨HG.out j hj, (HC.out j hj).1⟩) (HS.out.go HB.out)
        go_wp2_with fail
        refine hls.mono ?_
        rintro e w2 ⟨hB2, hE⟩
        have HB2 : Hid (Below w.heap.size w w2) := HB.out.trans (hB2.mono (by omega))
        have HK2 : Hid (w2.heap[w.heap.size]? = some (.cells #[.nilIface] 25 (0, 0))) := (hB2.block _ hsz).trans HK.out
        clear hB2 hls
        by_cases hlong : 1000 < (jnA ts ts.length).length
        · have HE : Hid (spelsS (ts.map Prod.fst) = .bad 7) := by show _ = _; rw [HQ.out, HZ.out, if_pos rfl, if_pos hlong]
          rw [if_pos hlong] at hE
          subst hE
          clear hlong
          simp only [panV]
          go_wp2_with fail
          refine leaves_cons (f := 32) (args := #[.pointer (some ⟨w.heap.size, 0, none⟩)]) (by simp) (by simp [go_sem]) ?_
          refine (catch17s 7 (by omega) 0 w.heap.size _ w2 HK2.out).mono ?_
          rintro e u' w'' ⟨rfl, rfl, rfl⟩
          have q0 : (w2.setCell ⟨w.heap.size, 0, none⟩ (errV 7)).cell? ⟨w.heap.size, 0, none⟩ = some (errV 7) := res1_put HK2.out _
          have HBW : Hid (Below w.heap.size w (w2.setCell ⟨w.heap.size, 0, none⟩ (errV 7))) := HB2.out.setCell (p := ⟨w.heap.size, 0, none⟩) (Nat.le_refl _) _
          generalize w2.setCell ⟨w.heap.size, 0, none⟩ (errV 7) = W at *
          simp [Leaves, settle, results, Tryz.results17, go_sem, q0]
          exact HW.out _ HE.out _ _ ⟨HBW.out, rfl⟩
        · have HE : Hid (spelsS (ts.map Prod.fst) = .ok (jnA ts ts.length)) := by show _ = _; rw [HQ.out, HZ.out, if_pos rfl, if_neg hlong]
          rw [if_neg hlong] at hE
          subst hE
          clear hlong
          have k0 := HK2.out
          have d0 : w2.cell? ⟨w.heap.size, 0, none⟩ = some .nilIface := by simp [World.cell?, k0]
          have z0 : w2.frozen? ⟨w.heap.size, 0, none⟩ = false := by simp [World.frozen?, k0]
          clear k0
          go_wp2_with fail
          refine leaves_cons (f := 32) (args := #[.pointer (some ⟨w.heap.size, 0, none⟩)]) (by simp) (by simp [go_sem]) ?_
          refine (idle17s w.heap.size _).mono ?_
          rintro e u' w'' ⟨rfl, rfl, rfl⟩
          have q0 : (w2.setCell ⟨w.heap.size, 0, none⟩ .nilIface).cell? ⟨w.heap.size, 0, none⟩ = some .nilIface := res1_put HK2.out _
          have HBW : Hid (Below w.heap.size w (w2.setCell ⟨w.heap.size, 0, none⟩ .nilIface)) := HB2.out.setCell (p := ⟨w.heap.size, 0, none⟩) (Nat.le_refl _) _
          generalize w2.setCell ⟨w.heap.size, 0, none⟩ .nilIface = W at *
          simp [Leaves, settle, results, Tryz.results17, go_sem, q0]
          exact HW.out _ HE.out _ _ ⟨HBW.out, rfl⟩
end Go.Proofs.YtgjgbgllhbdodaaGreatDoor
