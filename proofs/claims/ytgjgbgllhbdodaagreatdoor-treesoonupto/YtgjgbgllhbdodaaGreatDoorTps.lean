/-
  Nodes told by each kind of part.
-/
import Derived.Shelf.Abstract
import Derived.Test.YtgjgbgllhbdodaaGreatDoorTlq
import Derived.Test.YtgjgbgllhbdodaaGreatDoorTpr
namespace Go.Proofs.YtgjgbgllhbdodaaGreatDoor
open Go.RowKit Go.Lib
set_option linter.unusedVariables false

section
variable {P : Program} {ops : Array Oper} {Q : Exit → Act → World → Prop} {md : Region.Mode} {C : World → Prop} {n k : Nat} {L : List Nat} {a : Act} {w : World}
/-- Two operations may come up, or three. -/
theorem oH2 (i j : Nat) {oi oj : Oper} (h1 : ∀ K : Act → World → Prop, RowKit.Hid (∀ a w, C w → anyC P md ops Q C n (fl k (i :: L)) a w → K a w) → if Region.wanted oi (yielded ops a.tmps) = true then Oper.wp P oi a w K Q else K (a.put oi.dst undef) w)
    (h2 : ∀ K : Act → World → Prop, RowKit.Hid (∀ a w, C w → anyC P md ops Q C n (fl k (j :: L)) a w → K a w) → if Region.wanted oj (yielded ops a.tmps) = true then Oper.wp P oj a w K Q else K (a.put oj.dst undef) w)
    (hr : Region.ready md ops (fl k L) = [i, j] := by kernel_rfl) (hi : ops[i]? = some oi := by rfl) (hj : ops[j]? = some oj := by rfl) : anyC P md ops Q C (n + 1) (fl k L) a w := by
  refine ⟨fun h0 => absurd (hr ▸ h0) (by simp), fun q hq => ?_⟩
  rw [hr] at hq
  rcases List.mem_cons.1 hq with rfl | hq
  · exact wpOp_step hi fun K hK => h1 K fun a w q1 q2 => hK a w ⟨q1, q2⟩
  · obtain rfl := List.mem_singleton.1 hq
    exact wpOp_step hj fun K hK => h2 K fun a w q1 q2 => hK a w ⟨q1, q2⟩
theorem oH3 (i j l : Nat) {oi oj ol : Oper} (h1 : ∀ K : Act → World → Prop, RowKit.Hid (∀ a w, C w → anyC P md ops Q C n (fl k (i :: L)) a w → K a w) → if Region.wanted oi (yielded ops a.tmps) = true then Oper.wp P oi a w K Q else K (a.put oi.dst undef) w)
    (h2 : ∀ K : Act → World → Prop, RowKit.Hid (∀ a w, C w → anyC P md ops Q C n (fl k (j :: L)) a w → K a w) → if Region.wanted oj (yielded ops a.tmps) = true then Oper.wp P oj a w K Q else K (a.put oj.dst undef) w)
    (h3 : ∀ K : Act → World → Prop, RowKit.Hid (∀ a w, C w → anyC P md ops Q C n (fl k (l :: L)) a w → K a w) → if Region.wanted ol (yielded ops a.tmps) = true then Oper.wp P ol a w K Q else K (a.put ol.dst undef) w)
    (hr : Region.ready md ops (fl k L) = [i, j, l] := by kernel_rfl) (hi : ops[i]? = some oi := by rfl) (hj : ops[j]? = some oj := by rfl) (hl : ops[l]? = some ol := by rfl) : anyC P md ops Q C (n + 1) (fl k L) a w := by
  refine ⟨fun h0 => absurd (hr ▸ h0) (by simp), fun q hq => ?_⟩
  rw [hr] at hq
  rcases List.mem_cons.1 hq with rfl | hq
  · exact wpOp_step hi fun K hK => h1 K fun a w q1 q2 => hK a w ⟨q1, q2⟩
  rcases List.mem_cons.1 hq with rfl | hq
  · exact wpOp_step hj fun K hK => h2 K fun a w q1 q2 => hK a w ⟨q1, q2⟩
  · obtain rfl := List.mem_singleton.1 hq
    exact wpOp_step hl fun K hK => h3 K fun a w q1 q2 => hK a w ⟨q1, q2⟩
end
theorem pm_iface {A : Nat → Prop} {w : World} : ∀ {f : Nat} {v : Value} {ns : List Nod}, PartM A w f v ns → ns ≠ [] ∧ ∃ T x, v = .iface T x
  | 0, _, _, h => h.elim
  | f + 1, v, ns, h => by
    rcases h with ⟨a, c, zs, rfl, h1, rfl⟩ | ⟨x, rfl, rfl⟩ | ⟨x, rfl, rfl⟩ | ⟨rfl, rfl⟩ | ⟨rfl, rfl⟩ | ⟨ac, a, c, nss, r, nr, rfl, h1, h2, rfl⟩ | ⟨ac, a, c, nss, l, nl, r, nr, rfl, h1, h2, h3, rfl⟩ | ⟨a, c, nss, t, nt, rfl, h1, h2, rfl⟩ | ⟨x, r, nr, rfl, h1, rfl⟩
    all_goals exact ⟨by simp, _, _, rfl⟩
theorem pm_one {A : Nat → Prop} {w : World} {f : Nat} (v : Value) (ns : List Nod) (h : PartM A w f v ns) : v.oneCell' = true := by
  obtain ⟨_, T, x, rfl⟩ := pm_iface h; rfl
theorem ndt_of {T : TypeId} {x : Value} {K : Nat} (h : ∀ w, (method 391 T x "ravelin/tree.nodes").run Tryz.prog w = .ok (K, x) w) (h2 : ∀ args w, (callFunc K args).run Tryz.prog w = .ok (.enter K args) w) : NdT T x K := ⟨h, h2⟩
/-- A leaf's nodes: its own. -/
theorem leaf_list (A : Nat → Prop) (w : World) (own : Nod) (u5 : Option Addr) (c5 : Nat) (hN : NumX A w u5 own.nums) (wk : World) (hk : Below w.heap.size w wk) :
    Calls Tryz.prog 206 #[.agg #[.int .i64 own.op, .int .i64 own.ac.op, .int .i64 own.ac.f, .int .i64 own.ac.g, .int .i64 own.n, .slice u5 own.nums.length c5, .string ⟨own.text.toArray⟩], .slice none 0 0] wk (NdsP A w [own] wk) :=
  list_any 0 A w (fun v ns h => h.elim) own u5 c5 hN none 0 0 [] (fun _ => True) rfl (Nat.zero_le _) (by simp) wk hk (.inl rfl)
set_option maxRecDepth 100000 in
set_option maxHeartbeats 4000000 in
theorem nd_numbers (A : Nat → Prop) (w : World) (a : Option Addr) (c : Nat) (zs : List Int) (h : NumX A w a zs) : NdC A w (.iface 109 (.slice a zs.length c)) [⟨1, ac0, 0, zs, []⟩] := by
  refine ⟨_, _, 207, rfl, ⟨fun w => by kernel_rfl, enters_of Tryz.func207 (by kernel_rfl) rfl⟩, fun wk hk => ?_⟩
  have hl := leaf_list A w ⟨1, ac0, 0, zs, []⟩ a c h wk hk
  go_enter Tryz.func207, Tryz.ntmps207
  go_wp2_with fail
  refine hl.mono ?_
  rintro e w' ⟨sa, sc, bs, rfl, h1, h2, h3⟩
  have HH : Hid (NdsP A w [⟨1, ac0, 0, zs, []⟩] wk (.returned (.slice sa [(⟨1, ac0, 0, zs, []⟩ : Nod)].length sc)) w') := ⟨sa, sc, bs, rfl, h1, h2, h3⟩
  clear h1 h2 h3 hl
  go_wp2_with fail
  go_ret
  exact HH.out
end Go.Proofs.YtgjgbgllhbdodaaGreatDoor
