
/-
  What the listed variables of package lex's roads hold, out of their readings.
-/
import Derived.Lib.LaidU8
import Derived.Lib.LaidTab
import Derived.Test.YtgjgbgllhbdodaaGreatDoorLyg
namespace Go.Proofs.YtgjgbgllhbdodaaGreatDoor
open Go.RowKit Go.Lib
set_option linter.unusedVariables false

theorem int_of_shape {P : Program} {w : World} {g : Nat} {t : TypeId} {zero : Array Value} (h : w.ShapedOpen P) (hg : g < P.globals.size)
    (h0 : ((begin P (fun _ _ => 0) default).world.heap[g]?).bind Obj.row? = some (zero, t)) (hz : zero.size = 1)
    (hb : P.buildable t = true) (hc : P.cellTypes P.depth t = some [t]) (hu : P.underlying t = some (.int .i64)) : ∃ m : Int, w.cell? ⟨g, 0, none⟩ = some (.int .i64 m) := by
  obtain ⟨cs, hh, hs, hr⟩ := h.1 g zero t hg h0
  obtain ⟨ts, hts, _, hall⟩ := hr hb
  rw [hc] at hts
  cases hts
  have h1 : 0 < cs.size := by omega
  obtain ⟨u, hu', hok⟩ := hall 0 cs[0] (by simp [h1])
  have : u = t := by simpa using hu'.symm
  subst this
  have hcell : w.cell? ⟨g, 0, none⟩ = some cs[0] := by simp [World.cell?, hh, h1]
  rw [hcell]
  unfold Cell.ok at hok
  rw [hu] at hok
  cases hv : cs[0] <;> rw [hv] at hok <;> first | (simp at hok; done) | (rename_i k m; cases k <;> first | exact ⟨m, rfl⟩ | (simp at hok; done))
theorem rng_of_reads {W : World} {n nm : String} {d : DataW Unit} (h : Lib.VarReads Tryz.prog W n (.iface nm d)) (hn : Tryz.prog.globalNamed n = some 5) : HasRng W := by
  obtain ⟨g, t, cs, fuel, p, hg, ht, hv, hd⟩ := h
  obtain rfl := Option.some.inj (hn.symm.trans hg)
  obtain rfl := Option.some.inj ((show (Tryz.prog.globals[5]?).map (·.type) = some 25 by kernel_rfl).symm.trans ht)
  obtain ⟨l⟩ := cs
  obtain ⟨_, u, v, hcs, _⟩ := iface_of_trod Tryz.underlying25 hd
  simp only at hcs
  subst hcs
  exact ⟨u, v, by simpa using World.var?_cell hg hv 0⟩
theorem pow_of_reads {W : World} {n : String} {d : DataW Unit} (h : Lib.VarReads Tryz.prog W n d) (hd0 : d = Lib.tabData .u64 Lib.pow10Tab) (hn : Tryz.prog.globalNamed n = some 6) :
    ∃ nm, Tryz.prog.globalNamed nm = some 6 ∧ Lib.TabIs Tryz.prog W nm .u64 Lib.pow10Tab := by
  subst hd0
  obtain ⟨g, t, cs, fuel, p, hg, ht, hv, hd⟩ := h
  obtain rfl := Option.some.inj (hn.symm.trans hg)
  obtain rfl := Option.some.inj ((show (Tryz.prog.globals[6]?).map (·.type) = some 249 by kernel_rfl).symm.trans ht)
  refine ⟨n, hn, ?_⟩
  unfold Lib.TabIs
  rw [hv, ← Lib.cells_of_tab Tryz.underlying249 Tryz.underlying231 (by kernel_rfl) (by kernel_rfl) hd]
end Go.Proofs.YtgjgbgllhbdodaaGreatDoor
