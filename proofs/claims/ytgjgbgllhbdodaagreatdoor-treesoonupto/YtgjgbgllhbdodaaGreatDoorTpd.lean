/-
  The reader of words: is the next word the one that is asked for?
-/
import Derived.Test.YtgjgbgllhbdodaaGreatDoorTpc
namespace Go.Proofs.YtgjgbgllhbdodaaGreatDoor
open Go.RowKit Go.Lib
set_option linter.unusedVariables false

def HsP (rb : Nat) (v : Value) (i : Nat) (dp : Int) (wr : Bool) (w : World) (r : Bool) (e : Ending) (w' : World) : Prop :=
  e = .returned (.bool r) ∧ Rdr w' rb v (i : Int) dp wr ∧ Exc rb w w'
set_option maxRecDepth 100000 in
set_option maxHeartbeats 4000000 in
theorem has_kd (k f : Int) (rb : Nat) (a : Option Addr) (cap : Nat) (ts : List TkA) (hl : ts.length ≤ 1000) (i : Nat) (hi : i ≤ ts.length) (dp : Int) (wr : Bool) (hk : kdV ts i dp wr ≠ k) (w : World) (hR : Rdr w rb (.slice a ts.length cap) (i : Nat) dp wr) (hT : IsTk rb w a ts) :
    Calls Tryz.prog 127 #[.pointer (some ⟨rb, 0, none⟩), .agg #[.int .i64 k, .int .i64 f, .int .i64 0, .string ⟨#[]⟩, .int .i64 0]] w (HsP rb (.slice a ts.length cap) i dp wr w false) := by
  have hc := fun W h1 h2 => kind_any rb a cap ts hl i hi dp wr W h1 h2
  have hne : (kdV ts i dp wr != k) = true := by simpa using hk
  have HR : Hid (Rdr w rb (.slice a ts.length cap) (i : Nat) dp wr) := hR
  have HT : Hid (IsTk rb w a ts) := hT
  have hbs : rb < w.heap.size := hR.lt
  generalize kdV ts i dp wr = kd at *
  clear hR hT hk
  obtain ⟨W1, hW1⟩ : ∃ W, W = w.alloc (.cells #[.int .i64 k, .int .i64 f, .int .i64 0, .string ⟨#[]⟩, .int .i64 0] 30) := ⟨_, rfl⟩
  have HR1 : Hid (Rdr W1 rb (.slice a ts.length cap) (i : Nat) dp wr) := by rw [hW1]; exact HR.out.al _
  have HT1 : Hid (IsTk rb W1 a ts) := by rw [hW1]; exact HT.out.go ((Below.refl rb w).alloc (by omega) _)
  have HE : Hid (Exc rb w W1) := by rw [hW1]; exact (Exc.refl rb w).alloc _
  have K : Tbx W1 w.heap.size (.int .i64 k) (.int .i64 f) (.int .i64 0) (.string ⟨#[]⟩) (.int .i64 0) := by rw [hW1]; exact Tbx.new w _ _ _ _ _
  have d0 := K.c0
  clear K
  go_enter Tryz.func127, Tryz.ntmps127
  go_wp2_with fail
  rw [← hW1]
  clear hW1
  go_quiet ((go_at_call 83; refine Calls.quiet_of (hc _ ?_ ?_); exact HR1.out.drN _; exact HT1.out))
  go_wp2
  go_ret
  exact ⟨rfl, HR1.out.drN _, HE.out.drewN _⟩
set_option maxRecDepth 100000 in
set_option maxHeartbeats 4000000 in
theorem has_fn (k f : Int) (rb : Nat) (a : Option Addr) (cap : Nat) (ts : List TkA) (hl : ts.length ≤ 1000) (i : Nat) (hi : i ≤ ts.length) (dp : Int) (wr : Bool) (hk : kdV ts i dp wr = k) (h0 : k ≠ 0) (hf : (tkz ts i).1.fn ≠ f) (w : World) (hR : Rdr w rb (.slice a ts.length cap) (i : Nat) dp wr) (hT : IsTk rb w a ts) :
    Calls Tryz.prog 127 #[.pointer (some ⟨rb, 0, none⟩), .agg #[.int .i64 k, .int .i64 f, .int .i64 0, .string ⟨#[]⟩, .int .i64 0]] w (HsP rb (.slice a ts.length cap) i dp wr w false) := by
  have hc := fun W h1 h2 => kind_any rb a cap ts hl i hi dp wr W h1 h2
  obtain ⟨_, hlt, _⟩ := kdV_pos hi (by rw [hk]; exact h0)
  rw [hk] at hc
  have hkk : (k != k) = false := by simp
  have hff : ((tkz ts i).1.fn != f) = true := by simpa using hf
  have HR : Hid (Rdr w rb (.slice a ts.length cap) (i : Nat) dp wr) := hR
  have HT : Hid (IsTk rb w a ts) := hT
  have hbs : rb < w.heap.size := hR.lt
  clear hR hT hk h0 hf
  obtain ⟨W1, hW1⟩ : ∃ W, W = w.alloc (.cells #[.int .i64 k, .int .i64 f, .int .i64 0, .string ⟨#[]⟩, .int .i64 0] 30) := ⟨_, rfl⟩
  have HR1 : Hid (Rdr W1 rb (.slice a ts.length cap) (i : Nat) dp wr) := by rw [hW1]; exact HR.out.al _
  have HT1 : Hid (IsTk rb W1 a ts) := by rw [hW1]; exact HT.out.go ((Below.refl rb w).alloc (by omega) _)
  have HE : Hid (Exc rb w W1) := by rw [hW1]; exact (Exc.refl rb w).alloc _
  have K : Tbx W1 w.heap.size (.int .i64 k) (.int .i64 f) (.int .i64 0) (.string ⟨#[]⟩) (.int .i64 0) := by rw [hW1]; exact Tbx.new w _ _ _ _ _
  have d0 := K.c0
  have d1 := K.c1
  clear K
  obtain ⟨g, off, rfl, hg, hcell⟩ := HT1.out.at hlt
  obtain ⟨_, k1, _, _, _⟩ := hcell i hlt
  clear hcell
  have c0 := HR1.out.c0
  have c1 := HR1.out.c1
  go_enter Tryz.func127, Tryz.ntmps127
  go_wp2_with fail
  rw [← hW1]
  clear hW1
  go_quiet ((go_at_call 83; refine Calls.quiet_of (hc _ ?_ ?_); exact HR1.out.drN _; exact HT1.out))
  go_wp2
  go_ret
  exact ⟨rfl, HR1.out.drN _, HE.out.drewN _⟩
set_option maxRecDepth 100000 in
set_option maxHeartbeats 4000000 in
theorem has_yes (k f : Int) (rb : Nat) (a : Option Addr) (cap : Nat) (ts : List TkA) (hl : ts.length ≤ 1000) (i : Nat) (hi : i ≤ ts.length) (dp : Int) (wr : Bool) (hk : kdV ts i dp wr = k) (h0 : k ≠ 0) (hf : (tkz ts i).1.fn = f) (w : World) (hR : Rdr w rb (.slice a ts.length cap) (i : Nat) dp wr) (hT : IsTk rb w a ts) :
    Calls Tryz.prog 127 #[.pointer (some ⟨rb, 0, none⟩), .agg #[.int .i64 k, .int .i64 f, .int .i64 0, .string ⟨#[]⟩, .int .i64 0]] w (HsP rb (.slice a ts.length cap) (i + 1) dp wr w true) := by
  have hc := fun W h1 h2 => kind_any rb a cap ts hl i hi dp wr W h1 h2
  obtain ⟨_, hlt, _⟩ := kdV_pos hi (by rw [hk]; exact h0)
  rw [hk] at hc
  have hkk : (k != k) = false := by simp
  have hff : ((tkz ts i).1.fn != f) = false := by simpa using hf
  have HR : Hid (Rdr w rb (.slice a ts.length cap) (i : Nat) dp wr) := hR
  have HT : Hid (IsTk rb w a ts) := hT
  have hbs : rb < w.heap.size := hR.lt
  clear hR hT hk h0 hf
  obtain ⟨W1, hW1⟩ : ∃ W, W = w.alloc (.cells #[.int .i64 k, .int .i64 f, .int .i64 0, .string ⟨#[]⟩, .int .i64 0] 30) := ⟨_, rfl⟩
  have HR1 : Hid (Rdr W1 rb (.slice a ts.length cap) (i : Nat) dp wr) := by rw [hW1]; exact HR.out.al _
  have HT1 : Hid (IsTk rb W1 a ts) := by rw [hW1]; exact HT.out.go ((Below.refl rb w).alloc (by omega) _)
  have HE : Hid (Exc rb w W1) := by rw [hW1]; exact (Exc.refl rb w).alloc _
  have K : Tbx W1 w.heap.size (.int .i64 k) (.int .i64 f) (.int .i64 0) (.string ⟨#[]⟩) (.int .i64 0) := by rw [hW1]; exact Tbx.new w _ _ _ _ _
  have d0 := K.c0
  have d1 := K.c1
  clear K
  obtain ⟨g, off, rfl, hg, hcell⟩ := HT1.out.at hlt
  obtain ⟨_, k1, _, _, _⟩ := hcell i hlt
  clear hcell
  have c0 := HR1.out.c0
  have c1 := HR1.out.c1
  have f1 := HR1.out.fr 1
  go_enter Tryz.func127, Tryz.ntmps127
  go_wp2_with fail
  rw [← hW1]
  clear hW1
  go_quiet ((go_at_call 83; refine Calls.quiet_of (hc _ ?_ ?_); exact HR1.out.drN _; exact HT1.out))
  go_wp2
  go_ret
  exact ⟨rfl, by rw [Int.natCast_add]; exact (HR1.out.drN _).s1 _, (HE.out.drewN _).setCell (p := ⟨rb, 1, none⟩) rfl _⟩
end Go.Proofs.YtgjgbgllhbdodaaGreatDoor
