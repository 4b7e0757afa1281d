/-
  The reader of words: what its next word is, and reading it.
-/
import Derived.Test.YtgjgbgllhbdodaaGreatDoorLxs
import Derived.Test.YtgjgbgllhbdodaaGreatDoorTpa
namespace Go.Proofs.YtgjgbgllhbdodaaGreatDoor
open Go.RowKit Go.Lib
set_option linter.unusedVariables false

def cells4 (a b c d : Value) : Array Value := #[a, b, c, d]
/-- A block that holds a reader. -/
def Rdr (w : World) (n : Nat) (v : Value) (at' dp : Int) (wr : Bool) : Prop := w.heap[n]? = some (.cells (cells4 v (.int .i64 at') (.int .i64 dp) (.bool wr)) 56 (0, 0))
section
variable {w : World} {n : Nat} {v : Value} {at' dp : Int} {wr : Bool}
theorem Rdr.c0 (h : Rdr w n v at' dp wr) : w.cell? ⟨n, 0, none⟩ = some v := by unfold Rdr at h; simp [World.cell?, h, cells4]
theorem Rdr.c1 (h : Rdr w n v at' dp wr) : w.cell? ⟨n, 1, none⟩ = some (.int .i64 at') := by unfold Rdr at h; simp [World.cell?, h, cells4]
theorem Rdr.c2 (h : Rdr w n v at' dp wr) : w.cell? ⟨n, 2, none⟩ = some (.int .i64 dp) := by unfold Rdr at h; simp [World.cell?, h, cells4]
theorem Rdr.c3 (h : Rdr w n v at' dp wr) : w.cell? ⟨n, 3, none⟩ = some (.bool wr) := by unfold Rdr at h; simp [World.cell?, h, cells4]
theorem Rdr.fr (h : Rdr w n v at' dp wr) (i : Nat) : w.frozen? ⟨n, i, none⟩ = false := by unfold Rdr at h; simp [World.frozen?, h]
theorem Rdr.lt (h : Rdr w n v at' dp wr) : n < w.heap.size := (Array.getElem?_eq_some_iff.1 h).1
theorem Rdr.bel {w' : World} (h : Rdr w n v at' dp wr) (hB : Below w.heap.size w w') : Rdr w' n v at' dp wr := (hB.block n h.lt).trans h
theorem Rdr.al (h : Rdr w n v at' dp wr) (o : Obj) : Rdr (w.alloc o) n v at' dp wr := (Below.heap_alloc w o n h.lt).trans h
theorem Rdr.drN (h : Rdr w n v at' dp wr) (m : Nat) : Rdr (w.drewN m) n v at' dp wr := h
theorem Rdr.ot (h : Rdr w n v at' dp wr) {p : Addr} (hp : n ≠ p.block) (u : Value) : Rdr (w.setCell p u) n v at' dp wr := (Below.heap_setCell w p u n hp).trans h
theorem Rdr.s1 (h : Rdr w n v at' dp wr) (x : Int) : Rdr (w.setCell ⟨n, 1, none⟩ (.int .i64 x)) n v x dp wr := by unfold Rdr at *; simp [World.setCell, Array.getElem?_modify, h, cells4]
theorem Rdr.s2 (h : Rdr w n v at' dp wr) (x : Int) : Rdr (w.setCell ⟨n, 2, none⟩ (.int .i64 x)) n v at' x wr := by unfold Rdr at *; simp [World.setCell, Array.getElem?_modify, h, cells4]
theorem Rdr.s3 (h : Rdr w n v at' dp wr) (x : Bool) : Rdr (w.setCell ⟨n, 3, none⟩ (.bool x)) n v at' dp x := by unfold Rdr at *; simp [World.setCell, Array.getElem?_modify, h, cells4]
end
/-- What kind the next word is; 0: none. -/
def kdV (ts : List TkA) (i : Nat) (dp : Int) (wr : Bool) : Int :=
  if wr = true ∨ i = ts.length then 0 else if ((tkz ts i).1.kind = 18 ∨ (tkz ts i).1.kind = 19 ∨ (tkz ts i).1.kind = 20) ∧ dp = 0 then 0 else (tkz ts i).1.kind
theorem ret_i18 {x y : Int} (h : x = y) : Ending.returned (.int .i64 x) = .returned (.int .i64 y) := by rw [h]
set_option maxRecDepth 100000 in
set_option maxHeartbeats 4000000 in
theorem kind_any (rb : Nat) (a : Option Addr) (cap : Nat) (ts : List TkA) (hl : ts.length ≤ 1000) (i : Nat) (hi : i ≤ ts.length) (dp : Int) (wr : Bool) (w : World) (hR : Rdr w rb (.slice a ts.length cap) (i : Nat) dp wr) (hT : IsTk rb w a ts) :
    Calls Tryz.prog 83 #[.pointer (some ⟨rb, 0, none⟩)] w fun e w' => e = .returned (.int .i64 (kdV ts i dp wr)) ∧ ∃ m, w' = w.drewN m := by
  have c0 := hR.c0
  have c1 := hR.c1
  have c2 := hR.c2
  have c3 := hR.c3
  clear hR
  cases wr with
  | true =>
    have hv : Hid (kdV ts i dp true = 0) := if_pos (.inl rfl)
    go_enter Tryz.func83, Tryz.ntmps83
    go_wp2_with fail
    go_quiet (fail)
    go_wp2
    go_ret
    exact ⟨ret_i18 hv.out.symm, _, rfl⟩
  | false =>
    by_cases hlt : i < ts.length
    · have hne : ((i : Int) == (ts.length : Int)) = false := by simp; omega
      have hN : ¬ (false = true ∨ i = ts.length) := fun h => h.elim (fun h => by cases h) (fun h => by omega)
      obtain ⟨g, off, rfl, hg, hc⟩ := hT.at hlt
      have k0 := (hc i hlt).1
      clear hc hT
      have hv : Hid (kdV ts i dp false = if ((tkz ts i).1.kind = 18 ∨ (tkz ts i).1.kind = 19 ∨ (tkz ts i).1.kind = 20) ∧ dp = 0 then 0 else (tkz ts i).1.kind) := if_neg hN
      clear hN
      generalize (tkz ts i).1.kind = kd at *
      by_cases hs : kd = 18 ∨ kd = 19 ∨ kd = 20
      · by_cases hd : dp = 0
        · have hr : Hid ((0 : Int) = kdV ts i dp false) := by show _ = _; rw [hv.out, if_pos ⟨hs, hd⟩]
          subst hd
          clear hv
          rcases hs with rfl | rfl | rfl
          all_goals
            go_enter Tryz.func83, Tryz.ntmps83
            go_wp2_with fail
            go_quiet (fail)
            go_wp2
            go_quiet (fail)
            go_wp2
            go_ret
            exact ⟨ret_i18 hr.out, _, rfl⟩
        · have hd' : (dp == 0) = false := by simpa using hd
          have hr : Hid (kd = kdV ts i dp false) := by show _ = _; rw [hv.out, if_neg (fun h => hd h.2)]
          clear hv hd
          rcases hs with rfl | rfl | rfl
          all_goals
            go_enter Tryz.func83, Tryz.ntmps83
            go_wp2_with fail
            go_quiet (fail)
            go_wp2
            go_quiet (fail)
            go_wp2
            go_ret
            exact ⟨ret_i18 hr.out, _, rfl⟩
      · have hr : Hid (kd = kdV ts i dp false) := by show _ = _; rw [hv.out, if_neg (fun h => hs h.1)]
        have h18 : (kd == 18) = false := by simp; omega
        have h19 : (kd == 19) = false := by simp; omega
        have h20 : (kd == 20) = false := by simp; omega
        clear hv hs
        go_enter Tryz.func83, Tryz.ntmps83
        go_wp2_with fail
        go_quiet (fail)
        go_wp2
        go_quiet (fail)
        go_wp2
        go_ret
        exact ⟨ret_i18 hr.out, _, rfl⟩
    · obtain rfl : i = ts.length := by omega
      have hv : Hid (kdV ts ts.length dp false = 0) := if_pos (.inr rfl)
      have he : ((ts.length : Int) == (ts.length : Int)) = true := by simp
      go_enter Tryz.func83, Tryz.ntmps83
      go_wp2_with fail
      go_quiet (fail)
      go_wp2
      go_ret
      exact ⟨ret_i18 hv.out.symm, _, rfl⟩
end Go.Proofs.YtgjgbgllhbdodaaGreatDoor
