/-
  Words written out in the text; what spelling tells of words is some error; what is spelt is read (for the statements).
-/
import Derived.Test.YthfdpfekjcdlbaaDoorLyk
namespace Go.Proofs.YthfdpfekjcdlbaaDoor
open Go.RowKit Go.Lib
set_option linter.unusedVariables false

theorem is_lit (w : World) (ts : List TkA) : IsTk (w.alloc (.cells (cl5 ts).toArray 29)).heap.size (w.alloc (.cells (cl5 ts).toArray 29)) (some ⟨w.heap.size, 0, none⟩) ts := by
  refine .inr ⟨w.heap.size, 0, rfl, by simp, fun j hj => ?_⟩
  have hb := World.alloc_heap_new w (.cells (cl5 ts).toArray 29)
  have rd : ∀ i, (w.alloc (.cells (cl5 ts).toArray 29)).cell? ⟨w.heap.size, i, none⟩ = (cl5 ts)[i]? := fun i => by
    unfold World.cell?
    rw [hb]
    simp
  obtain ⟨c0, c1, c2, c3, c4⟩ := cl5_at ts j hj
  unfold TkC
  rw [Nat.zero_add, rd, rd, rd, rd, rd]
  exact ⟨c0, c1, c2, c3, c4⟩
theorem spels_err {ts : List Tk} {c : Int} (h : spelsS ts = .bad c) : c ≠ 0 := by
  by_cases hl : 200 < ts.length
  · unfold spelsS at h
    rw [if_pos hl] at h
    cases h; decide
  · rw [spelsS_ck (by omega)] at h
    by_cases h0 : ckL ts = 0
    · rw [if_pos h0] at h
      split at h
      · cases h; decide
      · cases h
    · rw [if_neg h0] at h
      cases h; exact h0
theorem spels_len {ts : List Tk} {s : List UInt8} (h : spelsS ts = .ok s) : ts.length ≤ 200 ∧ s.length ≤ 1000 := by
  by_cases hl : 200 < ts.length
  · unfold spelsS at h
    rw [if_pos hl] at h
    cases h
  · refine ⟨by omega, ?_⟩
    rw [spelsS_ck (by omega)] at h
    split at h
    · split at h
      · cases h
      · rename_i hn
        have := Sp.ok_inj h
        rw [← this]; omega
    · cases h
theorem fact_back : spelsS [⟨1, 0, -5, []⟩, ⟨2, 0, 0, [105, 116, 39, 115]⟩] = .ok [194, 175, 53, 32, 39, 105, 116, 39, 39, 115, 39] := by
  have h1 : spelS ⟨1, 0, -5, []⟩ = .ok [194, 175, 53] := by
    have e : digS (-5) = [194, 175, 53] := by
      unfold digS
      rw [if_pos (by decide)]
      show minusB ++ Lib.decDigits 5 = _
      rw [Lib.decDigits_one (by decide)]; rfl
    unfold spelS
    rw [if_neg (by decide), if_pos rfl, e]
  have h2 : spelS ⟨2, 0, 0, [105, 116, 39, 115]⟩ = .ok [39, 105, 116, 39, 39, 115, 39] := by rfl
  unfold spelsS
  rw [if_neg (by decide), spelsN, h1]
  simp only
  rw [spelsN, h2]
  simp only
  rw [spelsN]; rfl
theorem fact_spells : spelsS [⟨3, 0, 0, [97]⟩] = .ok [97] := by rfl
end Go.Proofs.YthfdpfekjcdlbaaDoor
