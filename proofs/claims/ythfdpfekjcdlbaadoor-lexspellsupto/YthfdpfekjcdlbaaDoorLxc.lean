/-
  The program reads a Number.
-/
import Derived.Test.YthfdpfekjcdlbaaDoorLxb
import Derived.Test.YthfdpfekjcdlbaaDoorLxt
namespace Go.Proofs.YthfdpfekjcdlbaaDoor
open Go.RowKit Go.Lib
set_option linter.unusedVariables false

/-- The library's variable that strconv.Atoi reads holds some error. -/
def HasRng (w : World) : Prop := ∃ te pe, w.cell? ⟨5, 0, none⟩ = some (.iface te pe)
theorem HasRng.pos {w : World} (h : HasRng w) : 5 < w.heap.size := by
  obtain ⟨te, pe, h⟩ := h; exact World.block_lt_of_cell? w _ h
theorem HasRng.go {w w' : World} (h : HasRng w) (hB : Below w.heap.size w w') : HasRng w' := by
  have hp := h.pos
  obtain ⟨te, pe, h⟩ := h
  exact ⟨te, pe, (hB.cell (p := ⟨5, 0, none⟩) hp).trans h⟩
theorem HasRng.al {w : World} (h : HasRng w) (o : Obj) : HasRng (w.alloc o) := h.go ((Below.refl _ w).alloc (Nat.le_refl _) o)
theorem bel_bytes (w : World) (e : TypeId) (t : ByteArray) : Below w.heap.size w (bytesWorld w e t) := by
  refine ⟨rfl, rfl, rfl, ?_, fun j hj => bytesWorld_at_old w e t j hj⟩
  rw [bytesWorld_size]; omega
theorem atoi_ok17 {u : ByteArray} {v : Int} (hs : u.size ≤ 1000000) (h : atoiAll u.data.toList = .ok v) (w : World) :
    Calls Tryd.prog 62 #[.string u] w fun e w' => e = .returned (.tuple #[.int .i64 v, .nilIface]) ∧ Below w.heap.size w w' := by
  refine (Tryd.strconv_Atoi_ok u (by omega) v h w).mono ?_
  rintro e w' ⟨rfl, rfl | ⟨t, rfl⟩⟩
  · exact ⟨rfl, Below.refl _ _⟩
  · exact ⟨rfl, bel_bytes _ _ _⟩
theorem atoi_rng17 {u : ByteArray} (hs : u.size ≤ 1000000) (h : atoiAll u.data.toList = .range) (w : World) (hr : HasRng w) :
    Calls Tryd.prog 62 #[.string u] w fun e w' => ∃ N x, e = .returned (.tuple #[.int .i64 x, .iface 135 (.pointer (some ⟨N, 0, none⟩))]) ∧ Below w.heap.size w w' := by
  obtain ⟨te, pe, hv⟩ := hr
  refine (Tryd.strconv_Atoi_range u (by omega) h _ w hv (.inr ⟨te, pe, rfl⟩)).mono ?_
  rintro e w' ⟨N, rfl, _, _, hB⟩
  exact ⟨N, _, rfl, hB⟩
theorem neg_list (q : List UInt8) : ((⟨#[45]⟩ : ByteArray) ++ (⟨q.toArray⟩ : ByteArray)).data.toList = 45 :: q := by
  rw [ByteArray.data_append]; simp
theorem nil_list (t : ByteArray) : ((⟨#[]⟩ : ByteArray) ++ t).data.toList = t.data.toList := by
  rw [ByteArray.data_append]; simp
theorem neg_size (q : List UInt8) : ((⟨#[45]⟩ : ByteArray) ++ (⟨q.toArray⟩ : ByteArray)).size = q.length + 1 := by
  rw [size_eq, neg_list]; rfl
/-- What reading a Number tells, by its sign and its digits. -/
def numW (m : Bool) (q : List UInt8) : Wd := if q = [] then .bad 1 else numS m q ((if m = true then 2 else 0) + q.length)
set_option maxRecDepth 100000 in
set_option maxHeartbeats 4000000 in
theorem num_any (s : ByteArray) (i : Nat) (hi : i ≤ s.size) (hs : s.size ≤ 100000) (w : World) (hr : HasRng w) (m : Bool) (hm : minusB.isPrefixOf (tl s i) = m) :
    Calls Tryd.prog 36 #[.string s, .int .i64 i] w (WdP (numW m (((tl s i).drop (if m = true then 2 else 0)).takeWhile isDg)) i w) := by
  have hc := Tryd.strings_CutPrefix (s.extract i s.size) ⟨#[194, 175]⟩
  rw [sx_list, show hasPrefix (tl s i) ((⟨#[194, 175]⟩ : ByteArray).data.toList) = m from hm,
    show trimPrefix (tl s i) ((⟨#[194, 175]⟩ : ByteArray).data.toList) = (tl s i).drop (if m = true then 2 else 0) by
      unfold trimPrefix
      rw [show hasPrefix (tl s i) ((⟨#[194, 175]⟩ : ByteArray).data.toList) = m from hm]
      cases m <;> rfl] at hc
  have hl : (tl s i).length = s.size - i := by rw [tl, List.length_drop, ← size_eq]
  generalize hrr : (tl s i).drop (if m = true then 2 else 0) = r at hc ⊢
  have hrl : r.length ≤ s.size - i := by rw [← hrr, List.length_drop]; omega
  clear hrr hl hm
  obtain ⟨t0, ht0⟩ : ∃ t0 : ByteArray, t0 = ⟨r.toArray⟩ := ⟨_, rfl⟩
  rw [← ht0] at hc
  have hd := leadD t0 (by rw [ht0, size_mk]; omega)
  rw [ht0, mk_list, ← ht0] at hd
  have hql := tk_le isDg r
  have hqa := tk_all isDg r
  generalize r.takeWhile isDg = q at *
  clear ht0
  obtain ⟨t, ht⟩ : ∃ t : ByteArray, t = ⟨q.toArray⟩ := ⟨_, rfl⟩
  rw [← ht] at hd
  have hts : t.size = q.length := by rw [ht, size_mk]
  have HT : Hid (t = ⟨q.toArray⟩) := ht
  have HR : Hid (HasRng (w.alloc (.cells #[.int .i64 0, .int .i64 0, .int .i64 0, .string ⟨#[]⟩, .int .i64 0] 29))) := hr.al _
  have HK : Hid (Tbx (w.alloc (.cells #[.int .i64 0, .int .i64 0, .int .i64 0, .string ⟨#[]⟩, .int .i64 0] 29)) w.heap.size (.int .i64 0) (.int .i64 0) (.int .i64 0) (.string ⟨#[]⟩) (.int .i64 0)) := Tbx.new w _ _ _ _ _
  have HB : Hid (Below w.heap.size w (w.alloc (.cells #[.int .i64 0, .int .i64 0, .int .i64 0, .string ⟨#[]⟩, .int .i64 0] 29))) := (Below.refl _ w).alloc (Nat.le_refl _) _
  by_cases hq : q = []
  · have hW : numW m q = .bad 1 := by unfold numW; rw [if_pos hq]
    rw [hW]
    have hte : t = ⟨#[]⟩ := by rw [ht, hq]
    clear hW ht hts hqa hql HT
    subst hq; subst hte
    go_enter Tryd.func36, Tryd.ntmps36
    go_wp2_with (first | (go_at_call 60; refine (hc _).mono ?_; rintro e w' ⟨rfl, rfl⟩) | (go_at_call 61; refine (hd _).mono ?_; rintro e w' ⟨rfl, rfl⟩))
    exact ⟨rfl, HB.out, rfl⟩
  · have hne : t.toList.isEmpty = false := emp_no (by rw [ht]; exact hq)
    cases m
    · by_cases hv : dgA 0 q < 9223372036854775808
      · have hW : numW false q = .ok ⟨1, 0, ((dgA 0 q : Nat) : Int), []⟩ (q.length) := by
          unfold numW numS; rw [if_neg hq, if_pos (by rw [if_neg Bool.false_ne_true]; exact hv)]; simp
        have ha := atoi_pos hqa hq
        rw [if_pos hv] at ha
        rw [hW]
        have HA := atoi_ok17 (u := (⟨#[]⟩ : ByteArray) ++ t) (v := ((dgA 0 q : Nat) : Int)) (by rw [size_eq, nil_list, ← size_eq]; omega) (by rw [nil_list, ht]; exact ha)
        generalize dgA 0 q = V at *
        clear ht hW hqa ha hv
        go_enter Tryd.func36, Tryd.ntmps36
        go_wp2_with (first | (go_at_call 60; refine (hc _).mono ?_; rintro e w' ⟨rfl, rfl⟩) | (go_at_call 61; refine (hd _).mono ?_; rintro e w' ⟨rfl, rfl⟩))
        refine (HA _).mono ?_
        rintro e w' ⟨rfl, hBa⟩
        have K := HK.out.go hBa
        have r0 := K.c0
        have r1 := K.c1
        have r2 := K.c2
        have r3 := K.c3
        have r4 := K.c4
        have f0 := K.fr 0
        have f1 := K.fr 1
        have f2 := K.fr 2
        have f3 := K.fr 3
        have f4 := K.fr 4
        have HBa : Hid (Below w.heap.size w w') := HB.out.trans (hBa.mono HB.out.size)
        go_wp2_with fail
        have F := K.set5 (.int .i64 1) (.int .i64 0) (.int .i64 (V : Int)) (.string ⟨#[]⟩) (.int .i64 i)
        have q0 := F.c0
        have q1 := F.c1
        have q2 := F.c2
        have q3 := F.c3
        have q4 := F.c4
        refine bodyPost_ret (v := .tuple #[tokV ⟨1, 0, (V : Int), []⟩ i, .int .i64 ((i : Int) + (q.length : Int))]) (by simp [results, Tryd.results36, go_sem, tokV, q0, q1, q2, q3, q4]) rfl ⟨bel_set5 HBa.out (Nat.le_refl _) _ _ _ _ _, ?_⟩
        have e : (i : Int) + (q.length : Int) = ((i + q.length : Nat) : Int) := by omega
        rw [e]
      · have hW : numW false q = .bad 6 := by
          unfold numW numS; rw [if_neg hq, if_neg (by rw [if_neg Bool.false_ne_true]; exact hv)]
        have ha := atoi_pos hqa hq
        rw [if_neg hv] at ha
        rw [hW]
        have HA := atoi_rng17 (u := (⟨#[]⟩ : ByteArray) ++ t) (by rw [size_eq, nil_list, ← size_eq]; omega) (by rw [nil_list, ht]; exact ha)
        clear ht hW hqa ha hv
        go_enter Tryd.func36, Tryd.ntmps36
        go_wp2_with (first | (go_at_call 60; refine (hc _).mono ?_; rintro e w' ⟨rfl, rfl⟩) | (go_at_call 61; refine (hd _).mono ?_; rintro e w' ⟨rfl, rfl⟩))
        refine (HA _ HR.out).mono ?_
        rintro e w' ⟨N, x, rfl, hBa⟩
        go_wp2_with fail
        exact ⟨rfl, HB.out.trans (hBa.mono HB.out.size), rfl⟩
    · by_cases hv : dgA 0 q ≤ 9223372036854775808
      · have hW : numW true q = .ok ⟨1, 0, (-((dgA 0 q : Nat) : Int)), []⟩ (2 + q.length) := by
          unfold numW numS; rw [if_neg hq, if_pos (by rw [if_pos rfl]; exact hv)]; simp
        have ha := atoi_neg hqa hq
        rw [if_pos hv] at ha
        rw [hW]
        have HA := atoi_ok17 (u := (⟨#[45]⟩ : ByteArray) ++ t) (v := (-((dgA 0 q : Nat) : Int))) (by rw [ht, neg_size]; omega) (by rw [ht, neg_list]; exact ha)
        generalize dgA 0 q = V at *
        clear ht hW hqa ha hv
        go_enter Tryd.func36, Tryd.ntmps36
        go_wp2_with (first | (go_at_call 60; refine (hc _).mono ?_; rintro e w' ⟨rfl, rfl⟩) | (go_at_call 61; refine (hd _).mono ?_; rintro e w' ⟨rfl, rfl⟩))
        refine (HA _).mono ?_
        rintro e w' ⟨rfl, hBa⟩
        have K := HK.out.go hBa
        have r0 := K.c0
        have r1 := K.c1
        have r2 := K.c2
        have r3 := K.c3
        have r4 := K.c4
        have f0 := K.fr 0
        have f1 := K.fr 1
        have f2 := K.fr 2
        have f3 := K.fr 3
        have f4 := K.fr 4
        have HBa : Hid (Below w.heap.size w w') := HB.out.trans (hBa.mono HB.out.size)
        go_wp2_with fail
        have F := K.set5 (.int .i64 1) (.int .i64 0) (.int .i64 (-(V : Int))) (.string ⟨#[]⟩) (.int .i64 i)
        have q0 := F.c0
        have q1 := F.c1
        have q2 := F.c2
        have q3 := F.c3
        have q4 := F.c4
        refine bodyPost_ret (v := .tuple #[tokV ⟨1, 0, (-(V : Int)), []⟩ i, .int .i64 ((i : Int) + (q.length : Int) + 2)]) (by simp [results, Tryd.results36, go_sem, tokV, q0, q1, q2, q3, q4]) rfl ⟨bel_set5 HBa.out (Nat.le_refl _) _ _ _ _ _, ?_⟩
        have e : (i : Int) + (q.length : Int) + 2 = ((i + (2 + q.length) : Nat) : Int) := by omega
        rw [e]
      · have hW : numW true q = .bad 6 := by
          unfold numW numS; rw [if_neg hq, if_neg (by rw [if_pos rfl]; exact hv)]
        have ha := atoi_neg hqa hq
        rw [if_neg hv] at ha
        rw [hW]
        have HA := atoi_rng17 (u := (⟨#[45]⟩ : ByteArray) ++ t) (by rw [ht, neg_size]; omega) (by rw [ht, neg_list]; exact ha)
        clear ht hW hqa ha hv
        go_enter Tryd.func36, Tryd.ntmps36
        go_wp2_with (first | (go_at_call 60; refine (hc _).mono ?_; rintro e w' ⟨rfl, rfl⟩) | (go_at_call 61; refine (hd _).mono ?_; rintro e w' ⟨rfl, rfl⟩))
        refine (HA _ HR.out).mono ?_
        rintro e w' ⟨N, x, rfl, hBa⟩
        go_wp2_with fail
        exact ⟨rfl, HB.out.trans (hBa.mono HB.out.size), rfl⟩
end Go.Proofs.YthfdpfekjcdlbaaDoor
