/-
  The statements' question whether two lists of words are the same.
-/
import Derived.Laws.StructEq
import Derived.Test.YthfdpfekjcdlbaaDoorLxr
namespace Go.Proofs.YthfdpfekjcdlbaaDoor
open Go.RowKit Go.Lib Classical
set_option linter.unusedVariables false

theorem IsTk.at {n₀ : Nat} {w : World} {a : Option Addr} {bs : List TkA} (h : IsTk n₀ w a bs) {j : Nat} (hj : j < bs.length) : ∃ g off, a = some ⟨g, off, none⟩ ∧ g < n₀ ∧ ∀ j, j < bs.length → TkC w g (off + j * 5) (tkz bs j) := by
  rcases h with h | h
  · rw [h] at hj; simp at hj
  · exact h
theorem tkz_ext {ts us : List TkA} (h : ts.length = us.length) (he : ∀ j, j < ts.length → tkz ts j = tkz us j) : ts = us := by
  apply List.ext_getElem h
  intro j h1 h2
  have := he j h1
  unfold tkz at this
  rw [List.getD_eq_getElem?_getD, List.getD_eq_getElem?_getD, List.getElem?_eq_getElem h1, List.getElem?_eq_getElem h2] at this
  exact this
theorem tok_neq (x y : TkA) (w : World) : (binOp .neq 29 (.agg #[.int .i64 x.1.kind, .int .i64 x.1.fn, .int .i64 x.1.num, x.s, .int .i64 x.2]) (.agg #[.int .i64 y.1.kind, .int .i64 y.1.fn, .int .i64 y.1.num, y.s, .int .i64 y.2])).run Tryd.prog w = .ok (.bool (decide (x ≠ y))) w := by
  unfold TkA.s
  obtain ⟨⟨k, f, n, t⟩, a⟩ := x
  obtain ⟨⟨k', f', n', t'⟩, a'⟩ := y
  simp [go_sem]
  by_cases h1 : k = k'
  · by_cases h2 : f = f'
    · by_cases h3 : n = n'
      · by_cases h4 : t = t'
        · by_cases h5 : a = a' <;> simp [h1, h2, h3, h4, h5]
        · simp [h1, h2, h3, h4]
      · simp [h1, h2, h3]
    · simp [h1, h2]
  · simp [h1]
theorem tok_same {x y : TkA} (h : x = y) (w : World) : (binOp .neq 29 (.agg #[.int .i64 x.1.kind, .int .i64 x.1.fn, .int .i64 x.1.num, x.s, .int .i64 x.2]) (.agg #[.int .i64 y.1.kind, .int .i64 y.1.fn, .int .i64 y.1.num, y.s, .int .i64 y.2])).run Tryd.prog w = .ok (.bool false) w := by
  rw [tok_neq, decide_eq_false (fun q => q h)]
theorem tok_diff {x y : TkA} (h : x ≠ y) (w : World) : (binOp .neq 29 (.agg #[.int .i64 x.1.kind, .int .i64 x.1.fn, .int .i64 x.1.num, x.s, .int .i64 x.2]) (.agg #[.int .i64 y.1.kind, .int .i64 y.1.fn, .int .i64 y.1.num, y.s, .int .i64 y.2])).run Tryd.prog w = .ok (.bool true) w := by
  rw [tok_neq, decide_eq_true h]
set_option maxRecDepth 100000 in
set_option maxHeartbeats 4000000 in
theorem tokens_any (a : Option Addr) (cap : Nat) (ts : List TkA) (a' : Option Addr) (cap' : Nat) (us : List TkA) (hreach : ts.length ≤ 1000000) (w : World) (hI : IsTk w.heap.size w a ts) (hI' : IsTk w.heap.size w a' us) :
    Calls Tryd.prog 10 #[.slice a ts.length cap, .slice a' us.length cap'] w fun e w' => e = .returned (.bool (decide (ts = us))) ∧ Below w.heap.size w w' := by
  by_cases hlen : ts.length = us.length
  · have hl : ((ts.length : Int) != (us.length : Int)) = false := by simp [hlen]
    have H : Hid (ts.length = us.length) := hlen
    clear hlen
    go_enter Tryd.func10, Tryd.ntmps10
    go_wp2_with fail
    go_loopw [5] (fun i wr => ∃ k : Nat, k ≤ ts.length ∧ i = .int .i64 k ∧ Hid (∀ j, j < k → tkz ts j = tkz us j) ∧ ∃ m, wr = w.drewN m) (fun i _ => ts.length - (RowKit.intOf i).toNat)
    case atStart => exact ⟨0, Nat.zero_le _, rfl, (fun j hj => by omega : ∀ j, j < 0 → tkz ts j = tkz us j), 0, rfl⟩
    case round =>
      obtain ⟨k, hk, rfl, HS, m, rfl⟩ := hrel
      by_cases hlt : k < ts.length
      · obtain ⟨b, off, rfl, hb, hcell⟩ := hI.at hlt
        obtain ⟨b', off', rfl, hb', hcell'⟩ := hI'.at (j := k) (by rw [← H.out]; exact hlt)
        have hlt' : k < us.length := by rw [← H.out]; exact hlt
        obtain ⟨c0, c1, c2, c3, c4⟩ := hcell k hlt
        obtain ⟨d0, d1, d2, d3, d4⟩ := hcell' k hlt'
        clear hcell hcell'
        by_cases he : tkz ts k = tkz us k
        · have hne := tok_same he
          have HE : Hid (∀ j, j < k + 1 → tkz ts j = tkz us j) := fun j hj => by
            rcases Nat.lt_succ_iff_lt_or_eq.1 hj with h | rfl
            · exact HS.out j h
            · exact he
          clear he
          go_wp2_with fail
          go_quiet (fail)
          go_wp2
          go_roundw
          case rel => exact ⟨k + 1, by omega, by go_num, HE, _, rfl⟩
          case measure => simp [RowKit.intOf]; omega
        · have hne := tok_diff he
          have HE : Hid (decide (ts = us) = false) := decide_eq_false (fun e => he (by rw [e]))
          clear he
          go_wp2_with fail
          go_quiet (fail)
          go_wp2
          go_ret
          exact ⟨ret_bool HE.out.symm, bel_drewN (bel_drewN (Below.refl _ _) _) _⟩
      · obtain rfl : k = ts.length := by omega
        have HE : Hid (decide (ts = us) = true) := decide_eq_true (tkz_ext H.out HS.out)
        go_wp2_with fail
        go_ret
        exact ⟨ret_bool HE.out.symm, bel_drewN (Below.refl _ _) _⟩
  · have hl : ((ts.length : Int) != (us.length : Int)) = true := by simp; omega
    have hfin : Hid (decide (ts = us) = false) := decide_eq_false (fun e => hlen (by rw [e]))
    go_enter Tryd.func10, Tryd.ntmps10
    go_wp2_with fail
    go_ret
    exact ⟨ret_bool hfin.out.symm, Below.refl _ _⟩
end Go.Proofs.YthfdpfekjcdlbaaDoor
