/-
  Plain mathematics of orders, as the program goes over them: which numbers were seen, cycle by cycle; powers and signs along the cycles; nothing of the program.
-/
import Derived.Test.YtcblakcaoecgpaaDoorPrmg
namespace Go.Proofs.YtcblakcaoecgpaaDoor
open Go.RowKit
set_option linter.unusedVariables false

/-- Does a cycle begin here? -/
def hdB (p : List Int) (i : Nat) : Bool := lstB p i && decide (1 < per p i)
/-- The first numbers at which a cycle begins. -/
def hdT (p : List Int) (f : Nat) : List Nat := (List.range f).filter (hdB p)
theorem hdT_all (p : List Int) : hdT p p.length = heads p := rfl
theorem hdT_next (p : List Int) (f : Nat) : hdT p (f + 1) = if hdB p f = true then hdT p f ++ [f] else hdT p f := by
  unfold hdT
  rw [List.range_succ, List.filter_append]
  by_cases h : hdB p f = true
  · rw [if_pos h, List.filter_cons_of_pos h]; rfl
  · rw [if_neg h, List.filter_cons_of_neg h]; simp
theorem hdT_mem {p : List Int} {f h : Nat} : h ∈ hdT p f ↔ h < f ∧ lstB p h = true ∧ 1 < per p h := by
  unfold hdT hdB
  rw [List.mem_filter, List.mem_range]; simp
theorem hdT_len (p : List Int) (f : Nat) : (hdT p f).length ≤ f := by
  unfold hdT
  exact Nat.le_trans (List.length_filter_le _ _) (by rw [List.length_range]; exact Nat.le_refl _)
/-- Was it seen, ere the number f came up? -/
def snB (p : List Int) (f k : Nat) : Bool := inH p (hdT p f) k
theorem snB_iff {p : List Int} {f k : Nat} : snB p f k = true ↔ ∃ h, (h < f ∧ lstB p h = true ∧ 1 < per p h) ∧ ∃ m, m < per p h ∧ k = itr p m h := by
  unfold snB inH
  rw [List.any_eq_true]
  exact ⟨fun ⟨h, hm, ho⟩ => ⟨h, hdT_mem.1 hm, inO_iff.1 ho⟩, fun ⟨h, hm, ho⟩ => ⟨h, hdT_mem.2 hm, inO_iff.2 ho⟩⟩
theorem snB_zero (p : List Int) (k : Nat) : snB p 0 k = false := rfl
section
variable {p : List Int}
theorem per_one (hp : IsOrd p) {f : Nat} (hf : f < p.length) : 1 < per p f ↔ nth p f ≠ (f : Int) := by
  have h1 := ord_at hp hf
  have h2 := per_fact hp hf
  have e1 : itr p 1 f = (nth p f).toNat := rfl
  constructor
  · intro h e
    refine h2.2.2 1 (by omega) h ?_
    rw [e1, e, Int.toNat_natCast]
  · intro h
    by_cases h3 : 1 < per p f
    · exact h3
    · have h4 := per_pos p f
      have h5 := h2.2.1
      rw [show per p f = 1 by omega, e1] at h5
      exact absurd (by rw [← h1.2, h5]) h
/-- A number that was not seen, and does not stand at its own place, begins a cycle. -/
theorem hd_not_seen (hp : IsOrd p) {f : Nat} (hf : f < p.length) : hdB p f = true ↔ snB p f f = false ∧ nth p f ≠ (f : Int) := by
  rw [← per_one hp hf]
  constructor
  · intro h
    unfold hdB at h
    simp only [Bool.and_eq_true, decide_eq_true_eq] at h
    refine ⟨?_, h.2⟩
    rw [← Bool.not_eq_true, snB_iff]
    rintro ⟨g, ⟨h1, h2, h3⟩, m, hm, e⟩
    have := orb_disj hp hf (show g < p.length by omega) h.1 h2 (a := 0) (b := m) e
    omega
  · rintro ⟨h1, h2⟩
    unfold hdB
    simp only [Bool.and_eq_true, decide_eq_true_eq]
    refine ⟨?_, h2⟩
    obtain ⟨a, ha⟩ := least_ex hp hf
    have hm := itr_lt hp hf a
    have hpe := per_itr hp hf a
    have hb : a ≤ a * per p f := Nat.le_mul_of_pos_right _ (per_pos _ _)
    have e := itr_mod hp hm (a * per p f - a)
    rw [← itr_add, show a * per p f - a + a = a * per p f by omega, itr_mul hp hf, hpe] at e
    have hlt := Nat.mod_lt (a * per p f - a) (per_pos p f)
    have hle := lstB_iff.1 ha _ (by rw [hpe]; exact hlt)
    rw [← e] at hle
    by_cases h3 : itr p a f = f
    · rw [h3] at ha; exact ha
    · exfalso
      have : snB p f f = true := snB_iff.2 ⟨itr p a f, ⟨by omega, ha, by omega⟩, _, by rw [hpe]; exact hlt, e⟩
      rw [h1] at this; cases this
/-! ### Along one cycle -/
def onO (p : List Int) (f t k : Nat) : Bool := (List.range t).any fun m => k == itr p m f
theorem onO_iff {f t k : Nat} : onO p f t k = true ↔ ∃ m, m < t ∧ k = itr p m f := by
  unfold onO
  rw [List.any_eq_true]
  exact ⟨fun ⟨m, hm, e⟩ => ⟨m, List.mem_range.1 hm, by simpa using e⟩, fun ⟨m, hm, e⟩ => ⟨m, List.mem_range.2 hm, by simpa using e⟩⟩
theorem onO_zero (f k : Nat) : onO p f 0 k = false := rfl
theorem onO_next (f t k : Nat) : onO p f (t + 1) k = (onO p f t k || k == itr p t f) := by
  unfold onO
  rw [List.range_succ, List.any_append]; simp
theorem onO_all (f k : Nat) : onO p f (per p f) k = inO p f k := rfl
/-- What was seen behind so many steps of a cycle. -/
def snT (p : List Int) (f t k : Nat) : Bool := snB p f k || onO p f t k
theorem snT_zero (f k : Nat) : snT p f 0 k = snB p f k := by unfold snT; rw [onO_zero, Bool.or_false]
theorem snT_next (f t k : Nat) : snT p f (t + 1) k = (snT p f t k || k == itr p t f) := by unfold snT; rw [onO_next, Bool.or_assoc]
theorem snT_all {f : Nat} (h : hdB p f = true) (k : Nat) : snT p f (per p f) k = snB p (f + 1) k := by
  unfold snT snB
  rw [hdT_next, if_pos h]
  unfold inH
  rw [List.any_append, onO_all]; simp
theorem snB_skip {f : Nat} (h : hdB p f = false) (k : Nat) : snB p (f + 1) k = snB p f k := by
  unfold snB
  rw [hdT_next, if_neg (by rw [h]; decide)]
theorem snT_new (hp : IsOrd p) {f : Nat} (hf : f < p.length) (h : hdB p f = true) {t : Nat} (ht : t < per p f) : snT p f t (itr p t f) = false := by
  unfold hdB at h
  simp only [Bool.and_eq_true, decide_eq_true_eq] at h
  unfold snT
  rw [Bool.or_eq_false_iff]
  constructor
  · rw [← Bool.not_eq_true, snB_iff]
    rintro ⟨g, ⟨h1, h2, h3⟩, m, hm, e⟩
    have := orb_disj hp hf (show g < p.length by omega) h.1 h2 e
    omega
  · rw [← Bool.not_eq_true, onO_iff]
    rintro ⟨m, hm, e⟩
    exact itr_ne hp hf hm ht e.symm
theorem snT_back (hp : IsOrd p) {f : Nat} (hf : f < p.length) : snT p f (per p f) (itr p (per p f) f) = true := by
  unfold snT
  rw [(per_fact hp hf).2.1, Bool.or_eq_true, onO_iff]
  exact .inr ⟨0, per_pos p f, rfl⟩
/-- The first numbers of a cycle. -/
def oT (p : List Int) (f t : Nat) : List Int := (List.range t).map fun k => (itr p k f : Int)
theorem oT_len (f t : Nat) : (oT p f t).length = t := by simp [oT]
theorem oT_next (f t : Nat) : oT p f (t + 1) = oT p f t ++ [(itr p t f : Int)] := by
  unfold oT
  rw [List.range_succ, List.map_append]; rfl
theorem oT_all (f : Nat) : oT p f (per p f) = orb p f := rfl
theorem orb_nth {f i : Nat} (h : i < per p f) : nth (orb p f) i = (itr p i f : Int) := by
  rw [nth_get _ _ (by rw [orb_length]; exact h)]; simp [orb]
theorem itr_step (hp : IsOrd p) {i : Nat} (h : i < p.length) (k : Nat) : nth p (itr p k i) = (itr p (k + 1) i : Nat) := (ord_at hp (itr_lt hp h k)).2.symm
/-! ### Signs -/
def sgN (p : List Int) (f : Nat) : Int := if per p f % 2 = 0 then -1 else 1
def sgL (p : List Int) (hs : List Nat) : Int := (hs.map (sgN p)).foldr (· * ·) 1
theorem foldr_mul : ∀ (l : List Int) (x : Int), (l ++ [x]).foldr (· * ·) 1 = l.foldr (· * ·) 1 * x
  | [], x => by simp
  | a :: l, x => by rw [List.cons_append, List.foldr_cons, List.foldr_cons, foldr_mul l x, Int.mul_assoc]
theorem sgL_next (hs : List Nat) (f : Nat) : sgL p (hs ++ [f]) = sgL p hs * sgN p f := by
  unfold sgL
  rw [List.map_append, List.map_cons, List.map_nil, foldr_mul]
theorem sgL_one : ∀ hs : List Nat, sgL p hs = 1 ∨ sgL p hs = -1
  | [] => .inl rfl
  | f :: hs => by
    show sgN p f * sgL p hs = 1 ∨ sgN p f * sgL p hs = -1
    have h := sgL_one hs
    unfold sgN
    split
    · omega
    · omega
theorem sgL_all (hp : IsOrd p) : sgL p (heads p) = sgV p := by
  rw [sg_cycles hp]
  unfold sgL rnds
  rw [List.map_map]
  congr 1
  refine List.map_congr_left fun f _ => ?_
  unfold sgN
  simp only [Function.comp, orb_length]
/-! ### Powers -/
/-- A cycle's number, so many steps on: any number of steps. -/
theorem pw_along (hp : IsOrd p) {h : Nat} (hh : h < p.length) (i : Nat) (k : Int) {m : Nat} (hm : (m : Int) = ((i : Int) + (k.tmod (per p h : Int) + (per p h : Int))).tmod (per p h : Int)) :
    nth (pwI p k) (itr p i h) = (itr p m h : Int) := by
  have hL := per_pos p h
  have hil := itr_lt hp hh i
  have hk1 := Int.mul_tdiv_add_tmod k (per p h : Int)
  have ht1 : 0 ≤ k.tmod (per p h : Int) + (per p h : Int) := by
    by_cases h0 : 0 ≤ k
    · have := Int.tmod_nonneg (per p h : Int) h0; omega
    · have e := Int.neg_tmod k (per p h : Int)
      have := Int.tmod_lt_of_pos (-k) (show (0 : Int) < (per p h : Int) by omega)
      omega
  obtain ⟨s, hs⟩ := Int.eq_ofNat_of_zero_le ht1
  rw [hs] at hm
  have hm2 : m = (i + s) % per p h := by
    rw [Int.tmod_eq_emod_of_nonneg (by omega)] at hm
    have : ((i : Int) + (s : Int)) % (per p h : Int) = (((i + s) % per p h : Nat) : Int) := by rw [← Int.natCast_add, ← Int.natCast_emod]
    rw [this] at hm
    exact Int.ofNat_inj.1 hm
  have e0 : itr p m h = itr p (i + s) h := by rw [hm2]; exact (itr_mod hp hh (i + s)).symm
  rw [e0]
  have hmul : ∀ a b : Nat, (∃ t : Int, (a : Int) - (b : Int) = t * (per p h : Int)) → itr p a h = itr p b h := by
    rintro a b ⟨t, ht⟩
    rw [itr_mod hp hh a, itr_mod hp hh b]
    congr 1
    have h1 : ((a : Int) % (per p h : Int)) = ((b : Int) % (per p h : Int)) := by
      rw [Int.emod_emod_of_dvd _ (Int.dvd_refl _) |>.symm, show (a : Int) = (b : Int) + t * (per p h : Int) by omega, Int.add_mul_emod_self_right]
      rw [Int.emod_emod_of_dvd _ (Int.dvd_refl _)]
    rw [← Int.natCast_emod, ← Int.natCast_emod] at h1
    exact Int.ofNat_inj.1 h1
  by_cases h0 : 0 ≤ k
  · obtain ⟨K, rfl⟩ := Int.eq_ofNat_of_zero_le h0
    rw [pwI_nat, pw_itr hp hil, ← itr_add]
    congr 1
    refine hmul _ _ ⟨(K : Int).tdiv (per p h : Int) - 1, ?_⟩
    rw [Int.sub_mul, Int.one_mul, Int.mul_comm]
    omega
  · obtain ⟨K, hK⟩ := Int.eq_ofNat_of_zero_le (show 0 ≤ -k by omega)
    obtain rfl : k = -(K : Int) := by omega
    -- so many steps on from there is where it began
    have hq : nth (pwI p (K : Int)) (itr p (i + s) h) = (itr p i h : Int) := by
      rw [pwI_nat, pw_itr hp (itr_lt hp hh _), ← itr_add]
      congr 1
      refine hmul _ _ ⟨1 - (-(K : Int)).tdiv (per p h : Int), ?_⟩
      rw [Int.sub_mul, Int.one_mul, Int.mul_comm]
      omega
    have ha := pwI_add hp (-(K : Int)) (K : Int)
    rw [show -(K : Int) + (K : Int) = 0 by omega, pwI_zero] at ha
    have hl : itr p (i + s) h < (pwI p (K : Int)).length := by rw [pwI_length]; exact itr_lt hp hh _
    have hb : nth (aft (pwI p (-(K : Int))) (pwI p (K : Int))) (itr p (i + s) h) = (itr p (i + s) h : Int) := by
      rw [ha, idn_nth (itr_lt hp hh _)]
    rw [aft_nth hl, hq, Int.toNat_natCast] at hb
    exact hb
theorem pw_fixed (hp : IsOrd p) {j : Nat} (hj : j < p.length) (h : inH p (heads p) j = false) (k : Int) : nth (pwI p k) j = (j : Int) := by
  have h1 : per p j = 1 := by
    have h0 := fxd_all hp
    have h2 : nth (fxd p (heads p)) j = nth (idn p.length) j := by rw [h0]
    unfold fxd at h2
    rw [byF_nth hj, idn_nth hj, if_neg (by rw [h]; decide)] at h2
    have h3 := per_one hp hj
    have h4 := per_pos p j
    by_cases h5 : 1 < per p j
    · exact absurd h2 (h3.1 h5)
    · omega
  have hm : ((0 : Nat) : Int) = (((0 : Nat) : Int) + (k.tmod (per p j : Int) + (per p j : Int))).tmod (per p j : Int) := by
    rw [h1]; simp
  have := pw_along hp hj 0 k hm
  exact this
/-- The power, where the cycles from these numbers on were gone along, and so many numbers of one more. -/
def pwU (p : List Int) (k : Int) (hs : List Nat) (h t : Nat) : List Int := byF p.length fun j => if (inH p hs j || onO p h t j) = true then nth (pwI p k) j else (j : Int)
def pwT (p : List Int) (k : Int) (hs : List Nat) : List Int := byF p.length fun j => if inH p hs j = true then nth (pwI p k) j else (j : Int)
theorem pwT_length (k : Int) (hs : List Nat) : (pwT p k hs).length = p.length := byF_length _ _
theorem pwU_length (k : Int) (hs : List Nat) (h t : Nat) : (pwU p k hs h t).length = p.length := byF_length _ _
theorem pwT_nil (k : Int) : pwT p k [] = idn p.length := nth_ext (by rw [pwT_length, idn_length]) fun j hj => by
  rw [pwT_length] at hj
  unfold pwT
  rw [byF_nth hj, idn_nth hj]; rfl
theorem pwT_all (hp : IsOrd p) (k : Int) : pwT p k (heads p) = pwI p k := nth_ext (by rw [pwT_length, pwI_length]) fun j hj => by
  rw [pwT_length] at hj
  unfold pwT
  rw [byF_nth hj]
  by_cases h : inH p (heads p) j = true
  · rw [if_pos h]
  · rw [if_neg h, pw_fixed hp hj (by simpa using h)]
theorem pwU_zero (k : Int) (hs : List Nat) (h : Nat) : pwU p k hs h 0 = pwT p k hs := byF_ext fun j _ => by rw [onO_zero, Bool.or_false]
theorem pwU_all (k : Int) (hs : List Nat) (h : Nat) : pwU p k hs h (per p h) = pwT p k (hs ++ [h]) := byF_ext fun j _ => by
  rw [onO_all]
  unfold inH
  rw [List.any_append]; simp
theorem pwU_next (hp : IsOrd p) (k : Int) (hs : List Nat) {h t m : Nat} (hh : h < p.length) (hm : (m : Int) = ((t : Int) + (k.tmod (per p h : Int) + (per p h : Int))).tmod (per p h : Int)) :
    (pwU p k hs h t).set (itr p t h) (itr p m h : Int) = pwU p k hs h (t + 1) := by
  have hl := itr_lt hp hh t
  refine nth_ext (by rw [List.length_set, pwU_length, pwU_length]) fun j hj => ?_
  rw [List.length_set, pwU_length] at hj
  rw [nth_set _ _ _ _ (by rw [pwU_length]; exact hl)]
  unfold pwU
  rw [byF_nth hj, byF_nth hj, onO_next]
  by_cases e : j = itr p t h
  · rw [if_pos e, if_pos (by rw [e]; simp), e, pw_along hp hh t k hm]
  · have e2 : (j == itr p t h) = false := by rw [beq_eq_false_iff_ne]; exact e
    rw [if_neg e, e2, Bool.or_false]
end
end Go.Proofs.YtcblakcaoecgpaaDoor
