/-
  Nodes told by the other kinds of parts, and by all.
-/
import Derived.Test.YtgjgbgllhbdodaaDoorTqa
namespace Go.Proofs.YtgjgbgllhbdodaaDoor
open Go.RowKit Go.Lib
set_option linter.unusedVariables false

set_option maxRecDepth 100000 in
set_option maxHeartbeats 4000000 in
theorem nd_text (A : Nat → Prop) (w : World) (x : List UInt8) : NdC A w (.iface 98 (.string ⟨x.toArray⟩)) [⟨2, ac0, 0, [], x⟩] := by
  refine ⟨_, _, 101, rfl, ⟨fun w => by kernel_rfl, enters_of Tryd.func101 (by kernel_rfl) rfl⟩, fun wk hk => ?_⟩
  have hl := fun wz (hz : Below w.heap.size w wz) => leaf_list A w ⟨2, ac0, 0, [], x⟩ none 0 (.inl rfl) wz hz
  have HK : Hid (Below w.heap.size w wk) := hk
  clear hk
  go_enter Tryd.func101, Tryd.ntmps101
  go_wp2_with fail
  refine (hl wk HK.out).mono ?_
  rintro e w' ⟨sa, sc, bs, rfl, h1, h2, h3⟩
  have HH : Hid (NdsP A w [⟨2, ac0, 0, [], x⟩] wk (.returned (.slice sa [(⟨2, ac0, 0, [], x⟩ : Nod)].length sc)) w') := ⟨sa, sc, bs, rfl, h1, h2, h3⟩
  clear h1 h2 h3 hl
  go_wp2_with fail
  go_ret
  exact HH.out
set_option maxRecDepth 100000 in
set_option maxHeartbeats 4000000 in
theorem nd_var (A : Nat → Prop) (w : World) (x : List UInt8) : NdC A w (.iface 99 (.string ⟨x.toArray⟩)) [⟨3, ac0, 0, [], x⟩] := by
  refine ⟨_, _, 102, rfl, ⟨fun w => by kernel_rfl, enters_of Tryd.func102 (by kernel_rfl) rfl⟩, fun wk hk => ?_⟩
  have hl := fun wz (hz : Below w.heap.size w wz) => leaf_list A w ⟨3, ac0, 0, [], x⟩ none 0 (.inl rfl) wz hz
  have HK : Hid (Below w.heap.size w wk) := hk
  clear hk
  go_enter Tryd.func102, Tryd.ntmps102
  go_wp2_with fail
  refine (hl wk HK.out).mono ?_
  rintro e w' ⟨sa, sc, bs, rfl, h1, h2, h3⟩
  have HH : Hid (NdsP A w [⟨3, ac0, 0, [], x⟩] wk (.returned (.slice sa [(⟨3, ac0, 0, [], x⟩ : Nod)].length sc)) w') := ⟨sa, sc, bs, rfl, h1, h2, h3⟩
  clear h1 h2 h3 hl
  go_wp2_with fail
  go_ret
  exact HH.out
set_option maxRecDepth 100000 in
set_option maxHeartbeats 4000000 in
theorem nd_alpha (A : Nat → Prop) (w : World) : NdC A w (.iface 101 (.agg #[])) [⟨4, ac0, 0, [], []⟩] := by
  refine ⟨_, _, 103, rfl, ⟨fun w => by kernel_rfl, enters_of Tryd.func103 (by kernel_rfl) rfl⟩, fun wk hk => ?_⟩
  have hl := fun wz (hz : Below w.heap.size w wz) => leaf_list A w ⟨4, ac0, 0, [], []⟩ none 0 (.inl rfl) wz hz
  have HK : Hid (Below w.heap.size w wk) := hk
  clear hk
  go_enter Tryd.func103, Tryd.ntmps103
  go_wp2_with fail
  have HB : Hid (Below wk.heap.size wk (wk.alloc (.cells #[] 101))) := (Below.refl _ wk).alloc (Nat.le_refl _) _
  generalize wk.alloc (.cells #[] 101) = W1 at *
  refine (hl W1 (HK.out.trans (HB.out.mono HK.out.size))).mono ?_
  rintro e w' ⟨sa, sc, bs, rfl, h1, h2, h3⟩
  have HH : Hid (NdsP A w [⟨4, ac0, 0, [], []⟩] wk (.returned (.slice sa [(⟨4, ac0, 0, [], []⟩ : Nod)].length sc)) w') := ⟨sa, sc, bs, rfl, h1, ⟨h2.1, own_base18 h2.2.1 HB.out.size, h2.2.2⟩, HB.out.trans (h3.mono HB.out.size)⟩
  clear h1 h2 h3 hl
  go_wp2_with fail
  go_ret
  exact HH.out
set_option maxRecDepth 100000 in
set_option maxHeartbeats 4000000 in
theorem nd_omega (A : Nat → Prop) (w : World) : NdC A w (.iface 102 (.agg #[])) [⟨5, ac0, 0, [], []⟩] := by
  refine ⟨_, _, 104, rfl, ⟨fun w => by kernel_rfl, enters_of Tryd.func104 (by kernel_rfl) rfl⟩, fun wk hk => ?_⟩
  have hl := fun wz (hz : Below w.heap.size w wz) => leaf_list A w ⟨5, ac0, 0, [], []⟩ none 0 (.inl rfl) wz hz
  have HK : Hid (Below w.heap.size w wk) := hk
  clear hk
  go_enter Tryd.func104, Tryd.ntmps104
  go_wp2_with fail
  have HB : Hid (Below wk.heap.size wk (wk.alloc (.cells #[] 102))) := (Below.refl _ wk).alloc (Nat.le_refl _) _
  generalize wk.alloc (.cells #[] 102) = W1 at *
  refine (hl W1 (HK.out.trans (HB.out.mono HK.out.size))).mono ?_
  rintro e w' ⟨sa, sc, bs, rfl, h1, h2, h3⟩
  have HH : Hid (NdsP A w [⟨5, ac0, 0, [], []⟩] wk (.returned (.slice sa [(⟨5, ac0, 0, [], []⟩ : Nod)].length sc)) w') := ⟨sa, sc, bs, rfl, h1, ⟨h2.1, own_base18 h2.2.1 HB.out.size, h2.2.2⟩, HB.out.trans (h3.mono HB.out.size)⟩
  clear h1 h2 h3 hl
  go_wp2_with fail
  go_ret
  exact HH.out
set_option maxRecDepth 100000 in
set_option maxHeartbeats 4000000 in
theorem nd_set (f : Nat) (A : Nat → Prop) (w : World) (hP : ∀ v ns, PartM A w f v ns → ns.length ≤ 1000 → ns ≠ [] ∧ NdC A w v ns) (x : List UInt8) (Tr : TypeId) (xr : Value) (nr : List Nod) (hr : PartM A w f (.iface Tr xr) nr) (hl : nr.length < 1000) (wk : World) (hk : Below w.heap.size w wk) :
    Calls Tryd.prog 90 #[.agg #[.string ⟨x.toArray⟩, .iface Tr xr]] wk (NdsP A w (⟨9, ac0, 0, [], x⟩ :: nr) wk) := by
  obtain ⟨W1, hW1⟩ : ∃ W, W = (wk.alloc (.cells #[.string ⟨x.toArray⟩, .iface Tr xr] 56)).alloc (.cells #[.iface Tr xr] 44) := ⟨_, rfl⟩
  have HB : Hid (Below wk.heap.size wk W1) := by rw [hW1]; exact ((Below.refl _ wk).alloc (Nat.le_refl _) _).alloc (by simp) _
  have hK : Kbn 44 W1 (wk.heap.size + 1) #[.iface Tr xr] := by
    rw [hW1]
    have h := World.alloc_heap_new (wk.alloc (.cells #[.string ⟨x.toArray⟩, .iface Tr xr] 56)) (.cells #[.iface Tr xr] 44)
    rw [World.size_alloc] at h
    exact h
  have hR : RowX (PartM A w f) (fun _ => True) W1 (some ⟨wk.heap.size + 1, 0, none⟩) [nr] := .inr ⟨_, 0, rfl, hK.lt, trivial, fun q hq => ⟨.iface Tr xr, by have hq0 : q = 0 := (by simpa using hq); subst hq0; exact hK.c 0 rfl, by have hq0 : q = 0 := (by simpa using hq); subst hq0; exact hr⟩⟩
  have hc := (list_any f A w hP ⟨9, ac0, 0, [], x⟩ none 0 (.inl rfl) (some ⟨wk.heap.size + 1, 0, none⟩) 1 1 [nr] (fun _ => True) rfl (by decide) (by simpa using hl) W1 (hk.trans (HB.out.mono hk.size)) hR).mono fun e w' h => nds_q h
  have HF : Hid (([nr] : List (List Nod)).flatten = nr) := by show _ = _; simp
  rw [HF.out] at hc
  clear hP hr hl hk hK hR
  go_enter Tryd.func90, Tryd.ntmps90
  go_wp2_with fail
  rw [← hW1]
  refine hc.mono ?_
  rintro e w' ⟨la, lc, bs, M, rfl, hM, hmap, hNR, hB⟩
  have HH : Hid (bs.map Prod.fst = ⟨9, ac0, 0, [], x⟩ :: nr ∧ NdR A w w' W1.heap.size (.slice la M lc) M bs ∧ Below wk.heap.size wk w') := ⟨hmap, hNR, HB.out.trans (hB.mono HB.out.size)⟩
  clear hc hmap hNR hB hW1
  go_wp2_with fail
  go_ret
  refine ⟨la, lc, bs, ret_slice18 hM.out, HH.out.1, ?_, HH.out.2.2⟩
  rw [← hM.out]
  exact ⟨HH.out.2.1.1, own_base18 HH.out.2.1.2.1 HB.out.size, HH.out.2.1.2.2⟩
/-- Each part's method tells its nodes. -/
theorem nodes_any : ∀ (f : Nat) (A : Nat → Prop) (w : World) (v : Value) (ns : List Nod), PartM A w f v ns → ns.length ≤ 1000 → ns ≠ [] ∧ NdC A w v ns
  | 0, _, _, _, _, h, _ => h.elim
  | f + 1, A, w, v, ns, h, hl => by
    have ih := fun v ns => nodes_any f A w v ns
    refine ⟨(pm_iface h).1, ?_⟩
    rcases h with ⟨a, c, zs, rfl, h1, rfl⟩ | ⟨x, rfl, rfl⟩ | ⟨x, rfl, rfl⟩ | ⟨rfl, rfl⟩ | ⟨rfl, rfl⟩ | ⟨ac, a, c, nss, r, nr, rfl, h1, h2, rfl⟩ | ⟨ac, a, c, nss, l, nl, r, nr, rfl, h1, h2, h3, rfl⟩ | ⟨a, c, nss, t, nt, rfl, h1, h2, rfl⟩ | ⟨x, r, nr, rfl, h1, rfl⟩
    · exact nd_numbers A w a c zs h1
    · exact nd_text A w x
    · exact nd_var A w x
    · exact nd_alpha A w
    · exact nd_omega A w
    · obtain ⟨_, Tr, xr, rfl⟩ := pm_iface h2
      exact ⟨_, _, 94, rfl, ⟨fun w => by kernel_rfl, enters_of Tryd.func94 (by kernel_rfl) rfl⟩, fun wk hk => nd_one f A w ih ac.op ac.f ac.g a nss.length c nss rfl h1 Tr xr nr h2 hl wk hk⟩
    · obtain ⟨_, Tl, xl, rfl⟩ := pm_iface h2
      obtain ⟨_, Tr, xr, rfl⟩ := pm_iface h3
      exact ⟨_, _, 98, rfl, ⟨fun w => by kernel_rfl, enters_of Tryd.func98 (by kernel_rfl) rfl⟩, fun wk hk => nd_two f A w ih ac.op ac.f ac.g a nss.length c nss rfl h1 Tl xl nl h2 Tr xr nr h3 hl wk hk⟩
    · obtain ⟨_, Tl, xl, rfl⟩ := pm_iface h2
      exact ⟨_, _, 99, rfl, ⟨fun w => by kernel_rfl, enters_of Tryd.func99 (by kernel_rfl) rfl⟩, fun wk hk => nd_pick f A w ih a nss.length c nss rfl h1 Tl xl nt h2 hl wk hk⟩
    · obtain ⟨_, Tr, xr, rfl⟩ := pm_iface h1
      exact ⟨_, _, 90, rfl, ⟨fun w => by kernel_rfl, enters_of Tryd.func90 (by kernel_rfl) rfl⟩, fun wk hk => nd_set f A w ih x Tr xr nr h1 (by simp only [List.length_cons] at hl; omega) wk hk⟩
end Go.Proofs.YtgjgbgllhbdodaaDoor
