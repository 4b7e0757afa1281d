/- What the program tells, in part. -/
import Derived.Test.YtkmmkcpfhnifhaaGreatDoorJ31
set_option linter.unusedVariables false
set_option maxHeartbeats 4000000
set_option maxRecDepth 100000
namespace Go.Proofs.YtkmmkcpfhnifhaaGreatDoor
open Go.RowKit
theorem nb_holds:CNb:=by
 intro c sa sc sz da dc dz w h1 h2 hs hd T
 have HI:Hid (IsInts w.heap.size w sa sz/\IsInts w.heap.size w da dz):=⟨hs,hd⟩
 have HT:Hid (∀ j,In64 (nth dz j)):=T
 clear hs hd T
 have pa:=(Abx.new w (.bool c) (.slice sa sz.length sc) (.slice da dz.length dc)).al (.cells #[.bool false,.slice none 0 0,.slice none 0 0] 27)
 have a0:=pa.c0
 have a1:=pa.c1
 have a2:=pa.c2
 clear pa
 obtain⟨W1,hW1⟩:∃ W1,W1=(w.alloc (.cells #[.bool c,.slice sa sz.length sc,.slice da dz.length dc] 27)).alloc (.cells #[.bool false,.slice none 0 0,.slice none 0 0] 27):=⟨_,rfl⟩
 have HB0:Hid (Below w.heap.size w W1):=by rw[hW1];exact ((Below.refl _ w).alloc (Nat.le_refl _) _).alloc (by simp) _
 have PA:Hid (Abx W1 w.heap.size (.bool c) (.slice sa sz.length sc) (.slice da dz.length dc)):=by rw[hW1];exact (Abx.new w _ _ _).al _
 have PR:Hid (Abx W1 (w.heap.size+1) (.bool false) (.slice none 0 0) (.slice none 0 0)):=by rw[hW1];exact Abx.new1 w _ _ _ _
 have hp:=chklines_any c sa sc sz da dc dz none 0 [] h1 h2 (by simp) W1 ((HI.1.below HB0.out).mono HB0.size) ((HI.2.below HB0.out).mono HB0.size) (isBs_nil _ _ _)
 rw[List.length_nil,lnE_nil] at hp
 by_cases h0:nbE c sz dz=0
 ·have HN:Hid (nbE c sz dz=0):=h0
  have er0:errV 0=.nilIface:=rfl
  rw[h0,er0] at hp
  have hl4:dz.length<=4096:=(flawE_short (nbE_zero.1 h0).1).2
  clear h0 er0
  go_enter Tryz.func107,Tryz.ntmps107
  go_wp2_with fail
  rw[<-hW1]
  clear hW1 a0 a1 a2
  refine hp.mono ?_
  clear hp
  rintro e v1 ⟨rfl,hC⟩
  have HB1:Hid (Below w.heap.size w v1):=HB0.trans (hC.mono HB0.size)
  have PA1:Hid (Abx v1 w.heap.size (.bool c) (.slice sa sz.length sc) (.slice da dz.length dc)):=PA.go hC
  have PR1:Hid (Abx v1 (w.heap.size+1) (.bool false) (.slice none 0 0) (.slice none 0 0)):=PR.go hC
  clear hC PA PR HB0
  have a0:=PA1.c0
  have a1:=PA1.c1
  have a2:=PA1.c2
  go_wp2_with fail
  refine (finder_any c (.slice sa sz.length sc) da dc dz c hl4 v1 ((HI.2.below HB1.out).mono HB1.size) HT.out).mono ?_
  rintro e v3 ⟨p,rfl,hF,hC⟩
  have HBv3:Hid (Below w.heap.size w v3):=HB1.trans (hC.mono HB1.size)
  have HF:Hid (Finds v1.heap.size v3 p c c dz):=hF
  have PAv3:Hid (Abx v3 w.heap.size (.bool c) (.slice sa sz.length sc) (.slice da dz.length dc)):=PA1.go hC
  have PRv3:Hid (Abx v3 (w.heap.size+1) (.bool false) (.slice none 0 0) (.slice none 0 0)):=PR1.go hC
  clear hF hC a0 a1 a2
  obtain⟨u,hu⟩:∃ u,u=v3.alloc (.cells #[FindV p] 163):=⟨_,rfl⟩
  have HBu:Hid (Below w.heap.size w u):=by rw[hu];exact HBv3.alloc HBv3.size _
  have HFu:Hid (Finds v1.heap.size u p c c dz):=by rw[hu];exact HF.go ((Below.refl _ v3).alloc (Nat.le_refl _) _)
  have HQ:Hid (u.heap[v3.heap.size]?=some (.cells #[FindV p] 163 (0,0))):=by rw[hu];exact heap_alloc_new v3 _
  have PAu:Hid (Abx u w.heap.size (.bool c) (.slice sa sz.length sc) (.slice da dz.length dc)):=by rw[hu];exact PAv3.al _
  have PRu:Hid (Abx u (w.heap.size+1) (.bool false) (.slice none 0 0) (.slice none 0 0)):=by rw[hu];exact PRv3.al _
  unfold FindV at hu
  go_wp2_with fail
  rw[<-hu]
  clear hu
  have a0:=PAu.c0
  have a1:=PAu.c1
  have a2:=PAu.c2
  have HBd:Hid (Below w.heap.size w u.drew):=HBu.drew
  refine bT 6 (fun w'=>w'.cell? ⟨w.heap.size,0,none⟩=some (.bool c)/\w'.cell? ⟨w.heap.size,1,none⟩=some (.slice sa sz.length sc)/\w'.cell? ⟨w.heap.size,2,none⟩=some (.slice da dz.length dc)) 8 (⟨a0,a1,a2⟩) fun hq0=>?_
  refine pT 0 hq0 ?_;refine lT 1 hq0 ?_;refine lT 2 hq0 ?_;refine pT 3 hq0 ?_
  clear hq0
  refine oT 4 fun K hK=>?_
  go_simp
  go_wp2_with (go_at_call 176;refine (keptf8_any c (.slice sa sz.length sc) da dc dz 177 [.pointer (some ⟨v3.heap.size,0,none⟩)] (enters_of Tryz.func177 (by kernel_rfl) rfl) (fun i=>fnV8 c c (nth dz i) dz == (i:Int)) hl4 u.drew ((HI.2.below HBd.out).mono HBd.size) (fun i hi w' hB=>nub1_any v1.heap.size p v3.heap.size c c dz i _ (HT.out i) w' (Finds.go (W:=u.drew) HFu.out hB) (cell_of_one (blk_go8 (w:=u.drew) HQ.out hB)))).mono ?_;rintro e w2 ⟨g,gc,rfl,hN2,hB2⟩;rw[kpQ_nb _ (Nat.le_refl _)] at hN2 ⊢)
  have P2:=PAu.dr.go hB2
  refine hK.out _ _ (fun _=>⟨P2.c0,P2.c1,P2.c2⟩) ?_
  clear hK K
  refine oT 5 fun K hK=>?_
  go_simp
  go_wp2_with (go_at_call 175;refine (line8_any c g gc (nbL dz) w2).mono ?_;rintro e w3 ⟨xa,xc,rfl,hX,hB3⟩)
  have P3:=P2.go hB3
  have R3:=(PRu.dr.go hB2).go hB3
  have r0:=R3.c0
  have r1:=R3.c1
  have r2:=R3.c2
  have f0:=R3.fr 0
  have f1:=R3.fr 1
  have f2:=R3.fr 2
  refine hK.out _ _ (fun _=>⟨P3.c0,P3.c1,P3.c2⟩) ?_
  clear hK K
  refine oT 6 fun K hK=>?_
  go_simp
  refine hK.out _ _ (fun h=>absurd h (by decide)) ?_
  clear hK K
  refine oT 7 fun K hK=>?_
  go_simp
  refine hK.out _ _ (fun h=>absurd h (by decide)) ?_
  clear hK K
  refine dT ?_
  go_wp2_with fail
  have F:=R3.set3 (.bool c) (.slice xa 1 xc) (.slice g (nbL dz).length gc)
  have q0:=F.c0
  have q1:=F.c1
  have q2:=F.c2
  have z1:w.heap.size+1<u.drew.heap.size:=PRu.lt
  have z2:=hB2.size
  have z3:=HBd.size
  refine bodyPost_ret (v:=.tuple #[.agg #[.bool c,.slice xa 1 xc,.slice g (nbL dz).length gc],.nilIface]) (by simp[results,Tryz.results107,go_sem,q0,q1,q2]) rfl ?_
  exact ub_ok (S:=[((nbL dz).length:Int)]) (D:=(nbL dz)) HN.out ((hX.set3 (Nat.lt_of_lt_of_le z1 z2) _ _ _).low (Nat.le_trans z3 z2)) (((hN2.go hB3).set3 z1 _ _ _).low z3) (bel_set3 (HBd.trans ((hB2.mono z3).trans (hB3.mono (Nat.le_trans z3 z2)))) (by omega) _ _ _)
 ·have H0:Hid (nbE c sz dz≠0):=h0
  rw[errV_pos h0] at hp
  clear h0
  go_enter Tryz.func107,Tryz.ntmps107
  go_wp2_with fail
  rw[<-hW1]
  clear hW1 a0 a1 a2
  refine hp.mono ?_
  clear hp
  rintro e v1 ⟨rfl,hC⟩
  have HB1:Hid (Below w.heap.size w v1):=HB0.trans (hC.mono HB0.size)
  have PA1:Hid (Abx v1 w.heap.size (.bool c) (.slice sa sz.length sc) (.slice da dz.length dc)):=PA.go hC
  have PR1:Hid (Abx v1 (w.heap.size+1) (.bool false) (.slice none 0 0) (.slice none 0 0)):=PR.go hC
  clear hC PA PR HB0
  have r0:=PR1.c0
  have r1:=PR1.c1
  have r2:=PR1.c2
  have f0:=PR1.fr 0
  have f1:=PR1.fr 1
  have f2:=PR1.fr 2
  go_wp2_with fail
  have F:=PR1.set3 (.bool false) (.slice none 0 0) (.slice none 0 0)
  have q0:=F.c0
  have q1:=F.c1
  have q2:=F.c2
  exact bodyPost_ret (v:=.tuple #[.agg #[.bool false,.slice none 0 0,.slice none 0 0],.iface 28 (.int .i64 (nbE c sz dz))]) (by simp[results,Tryz.results107,go_sem,q0,q1,q2]) rfl (ub_no rfl H0.out (bel_set3 HB1.out (by omega) _ _ _))
def apt (x:Nat)(s:List Int):Int:=prod (s.drop (x+1))
theorem apt_stp (x:Nat)(s:List Int):stp s x=apt x s:=rfl
theorem apt_set:∀ (x:Nat) (s:List Int) (v:Int),apt x (s.set x v)=apt x s
 | 0,[],_=>rfl
 | 0,a::s,v=>rfl
 | x+1,[],_=>rfl
 | x+1,a::s,v=>by
  have:=apt_set x s v
  unfold apt at this ⊢
  rw[List.set_cons_succ,List.drop_succ_cons,List.drop_succ_cons,this]
theorem xout_apt:∀ (x:Nat) (s:List Int),prod (xout x s)=prod (s.take x)*apt x s:=fun x s=>by
 unfold xout apt
 have:∀ a b:List Int,prod (a++b)=prod a*prod b:=fun a b=>by
  induction a with
  | nil=>simp[prod]
  | cons y a ih=>rw[List.cons_append,prod,prod,ih,Int.mul_assoc]
 exact this _ _
theorem place_line:∀ {x:Nat} {s t:List Int} (v:Int),x<s.length->insB (xout x s) t=true →
  place s (xin x v t)=place (xout x s) t/apt x s*nth s x*apt x s+place (xout x s) t%apt x s+v*apt x s
 | 0,[],_,_,h,_=>by simp at h
 | 0,a::s,t,v,_,ht=>by
  rw[xout_zero] at ht ⊢
  have h:=place_bd ht
  have e:apt 0 (a::s)=prod s:=rfl
  rw[e,xin_zero,place,Int.ediv_eq_zero_of_lt h.1 h.2,Int.emod_eq_of_lt h.1 h.2]
  simp;omega
 | x+1,[],_,_,h,_=>by simp at h
 | x+1,a::s,[],v,_,ht=>by rw[xout_succ] at ht;simp[insB] at ht
 | x+1,a::s,b::t,v,hx,ht=>by
  rw[xout_succ] at ht ⊢
  have hx':x<s.length:=by simpa using hx
  have ht':=(ins_cons.1 ht).2
  have ih:=place_line v hx' ht'
  have hb:=place_bd ht'
  have hp:=xout_apt x s
  have e:apt (x+1) (a::s)=apt x s:=rfl
  have hA:apt x s≠0:=fun h0=>by rw[hp,h0,Int.mul_zero] at hb;omega
  rw[e,xin_succ,place,place,ih,nth_succ,xout_prod hx',hp]
  have e1:(b*(prod (s.take x)*apt x s)+place (xout x s) t)/apt x s=b*prod (s.take x)+place (xout x s) t/apt x s:=by
   rw[<-Int.mul_assoc,Int.add_comm,Int.add_mul_ediv_right _ _ hA,Int.add_comm]
  have e2:(b*(prod (s.take x)*apt x s)+place (xout x s) t)%apt x s=place (xout x s) t%apt x s:=by
   rw[<-Int.mul_assoc,Int.add_comm,Int.add_mul_emod_self_right]
  rw[e1,e2,Int.add_mul,Int.add_mul]
  have e3:b*(nth s x*(prod (s.take x)*apt x s))=b*prod (s.take x)*nth s x*apt x s:=by
   rw[Int.mul_left_comm (nth s x),Int.mul_assoc b,Int.mul_assoc b,Int.mul_assoc (prod (s.take x))]
  rw[e3]
  omega
def Dnl (s:List Int)(x n k:Nat)(g:List Int->Int)(D:List Int):Prop:=
 D.length=(prod s).toNat/\∀ t,insB s t=true->(place (xout x s) (xout x t)<n\/(place (xout x s) (xout x t)=n/\nth t x<k))->cel s D t=g t
theorem Dnl.start (s:List Int)(x:Nat)(g:List Int->Int){D:List Int}(h:D.length=(prod s).toNat):Dnl s x 0 0 g D:=by
 refine⟨h,fun t ht hc=>?_⟩
 have h1:=place_bd (ins_xout (x:=x) ht)
 rcases hc with hc | ⟨_,hc⟩
 ·omega
 ·by_cases hx:x<s.length
  ·have:=ins_at ht hx;omega
  ·have:=insB_len ht
   have e:nth t x=0:=by unfold nth;rw[List.getD_eq_getElem?_getD,List.getElem?_eq_none (by omega)];rfl
   omega
theorem Dnl.next {s:List Int}{x n k:Nat}{g:List Int->Int}{D:List Int}(h:Dnl s x n k g D)(hx:x<s.length)(hk:nth s x<=k):Dnl s x (n+1) 0 g D:=by
 refine⟨h.1,fun t ht hc=>h.2 t ht ?_⟩
 have:=ins_at ht hx
 rcases hc with hc | ⟨_,hc⟩
 ·by_cases e:place (xout x s) (xout x t)<n
  ·exact .inl e
  ·exact .inr ⟨by omega,by omega⟩
 ·omega
theorem Dnl.step {s:List Int}{x n k:Nat}{g:List Int->Int}{D t0:List Int}(h:Dnl s x n k g D)(hx:x<s.length)(h0:insB (xout x s) t0=true)(hn:place (xout x s) t0=n)(hk:(k:Int)<nth s x):
  Dnl s x n (k+1) g (D.set (place s (xin x k t0)).toNat (g (xin x k t0))):=by
 have hin:insB s (xin x k t0)=true:=ins_xin hx h0 ⟨by omega,hk⟩
 have hb:=place_bd hin
 refine⟨by rw[List.length_set];exact h.1,fun t ht hc=>?_⟩
 have hbt:=place_bd ht
 unfold cel
 rw[nth_set _ _ _ _ (by rw[h.1];omega)]
 by_cases e:(place s t).toNat=(place s (xin x k t0)).toNat
 ·have:t=xin x k t0:=place_inj ht hin (by omega)
  rw[if_pos e,this]
 ·rw[if_neg e]
  refine h.2 t ht ?_
  rcases hc with hc | ⟨hc,hc2⟩
  ·exact .inl hc
  ·by_cases e2:nth t x<k
   ·exact .inr ⟨hc,e2⟩
   ·have e3:nth t x=k:=by omega
    have e4:xout x t=t0:=place_inj (ins_xout ht) h0 (by omega)
    have hlt:=insB_len ht
    exact absurd (by rw[<-e3,<-e4,xin_self (by omega)]) e
theorem Dnl.done {s:List Int}{x n:Nat}{g:List Int->Int}{D:List Int}(h:Dnl s x n 0 g D)(hx:x<s.length)(he:errOf s=0)(hn:1<=nth s x->prod (xout x s)<=n):D=TA s g:=by
 refine TA_ext he h.1 fun t ht=>h.2 t ht (.inl ?_)
 have h1:=place_bd (ins_xout (x:=x) ht)
 have h2:=ins_at ht hx
 have:=hn (by omega)
 omega
def Okl (s:List Int)(x n k:Nat)(e:List Int->Int):Prop:=∀ t,insB s t=true->(place (xout x s) (xout x t)<n\/(place (xout x s) (xout x t)=n/\nth t x<k))->e t=0
theorem Okl.start {s:List Int}{x:Nat}(hx:x<s.length)(e:List Int->Int):Okl s x 0 0 e:=fun t ht hc=>by
 have h1:=place_bd (ins_xout (x:=x) ht)
 have h2:=ins_at ht hx
 omega
theorem Okl.next {s:List Int}{x n k:Nat}{e:List Int->Int}(h:Okl s x n k e)(hx:x<s.length)(hk:nth s x<=k):Okl s x (n+1) 0 e:=fun t ht hc=>h t ht (by
 have:=ins_at ht hx
 omega)
theorem Okl.step {s:List Int}{x n k:Nat}{e:List Int->Int}{t0:List Int}(h:Okl s x n k e)(hx:x<s.length)(h0:insB (xout x s) t0=true)(hn:place (xout x s) t0=n)(h1:e (xin x k t0)=0):Okl s x n (k+1) e:=fun t ht hc=>by
 by_cases e2:place (xout x s) (xout x t)<n\/(place (xout x s) (xout x t)=n/\nth t x<k)
 ·exact h t ht e2
 ·have e3:nth t x=k:=by omega
  have e4:xout x t=t0:=place_inj (ins_xout ht) h0 (by omega)
  have hlt:=insB_len ht
  have:t=xin x k t0:=by rw[<-e3,<-e4,xin_self (by omega)]
  rw[this];exact h1
theorem Okl.done {s:List Int}{x n:Nat}{e:List Int->Int}(h:Okl s x n 0 e)(hx:x<s.length)(hn:1<=nth s x->prod (xout x s)<=n):∀ t,insB s t=true->e t=0:=fun t ht=>h t ht (.inl (by
 have h1:=place_bd (ins_xout (x:=x) ht)
 have h2:=ins_at ht hx
 have:=hn (by omega)
 omega))
def run (l:List Int)(a b:Nat):List Int:=(l.take b).drop a
theorem nth_run (l:List Int)(a b j:Nat)(h:a+j<b):nth (run l a b) j=nth l (a+j):=by
 unfold run nth
 rw[List.getD_eq_getElem?_getD,List.getD_eq_getElem?_getD,List.getElem?_drop,List.getElem?_take,if_pos h]
theorem run_length {l:List Int}{a b:Nat}(h:b<=l.length):(run l a b).length=b-a:=by unfold run;simp;omega
theorem run_line {s dz:List Int}{x:Nat}{t:List Int}{n a b:Nat}(hb:b<=n)(hab:a<=b):run (lnL s dz x t 0 n) a b=lnL s dz x t a (b-a):=by
 refine nth_ext (by rw[run_length (by rw[lnL_length];exact hb),lnL_length]) fun j hj=>?_
 rw[run_length (by rw[lnL_length];exact hb)] at hj
 rw[nth_run _ _ _ _ (by omega),lnL_nth (by omega),lnL_nth (by omega)]
 congr 2
 omega
theorem rdL_run {s dz t:List Int}{x a b:Nat}(hx:x<t.length)(hb:(b:Int)<=nth s x)(hab:a<=b):run (rdL s dz x (xout x t)) a b=lnL s dz x t a (b-a):=by
 unfold rdL
 rw[run_line (by omega) hab,xin_xout _ hx,lnL_set]
theorem rdL_scan {s dz t:List Int}{x:Nat}(ht:insB s t=true)(hx:x<s.length):run (rdL s dz x (xout x t)) 0 (nth t x+1).toNat=scL s dz x t:=by
 have h:=ins_at ht hx
 have hl:=insB_len ht
 rw[rdL_run (by omega) (by omega) (by omega)];rfl
theorem rdL_windows {s dz t:List Int}{x:Nat}{n:Int}(hx:x<s.length)(h1:1<=n)(ht:insB (wdS n x s) t=true):run (rdL s dz x (xout x t)) (nth t x).toNat (nth t x+n).toNat=wdL n s dz x t:=by
 have hl:=insB_len ht
 unfold wdS at hl ht
 rw[List.length_set] at hl
 have h:=ins_at ht (by rw[List.length_set];exact hx)
 rw[nth_set_self hx] at h
 rw[rdL_run (by omega) (by omega) (by omega)]
 unfold wdL
 congr 1<;>omega
theorem rdL_all {s dz t:List Int}{x:Nat}:run (rdL s dz x t) 0 (nth s x).toNat=rdL s dz x t:=by
 unfold run
 rw[List.drop_zero,List.take_of_length_le (by unfold rdL;rw[lnL_length];exact Nat.le_refl _)]
theorem err_one {s:List Int}{x:Nat}(hx:x<s.length)(he:errOf s=0):errOf (s.set x 1)=errOf (xout x s):=by
 obtain⟨h1,h2,h3⟩:=errOf_zero.1 he
 have hl:=xout_length hx
 have hp:prod (s.set x 1)=prod (xout x s):=by
  have:=xout_prod (x:=x) (s:=s.set x 1) (by rw[List.length_set];exact hx)
  rw[this,xout_set,nth_set_self hx,Int.one_mul]
 have ha:AllIn (s.set x 1):=fun y hy=>by
  rcases List.mem_or_eq_of_mem_set hy with h | h
  ·exact h2 y h
  ·omega
 have b1:¬ (bad (s.set x 1)≠0):=not_not_intro ((bad_iff _).2 ha)
 have b2:¬ (bad (xout x s)≠0):=not_not_intro ((bad_iff _).2 (xout_all h2))
 unfold errOf
 rw[List.length_set,hp,if_neg (show ¬ 6<s.length by omega),if_neg b1,if_neg (show ¬ 6<(xout x s).length by omega),if_neg b2]
theorem fstep_any (a:Option Addr)(cap:Nat)(zs:List Int)(x:Nat)(hx:x<zs.length)(he:errOf zs=0)(n₀:Nat)(w:World)(hI:IsC n₀ w a zs cap):
  Calls Tryz.prog 180 #[.slice a zs.length cap,.int .i64 (x:Nat)] w fun e w'=>e=.returned (.int .i64 (stp zs x))/\w'=w:=by
 obtain⟨hI,hcap⟩:=hI
 obtain⟨b,off,rfl,hb,hcell⟩:=hI.at hx
 have hz:=errOf_zero.1 he
 have hl6:zs.length<=6:=hz.1
 have HA:Hid (AllIn zs):=hz.2.1
 have HC:Hid (∀ j,j<zs.length->w.cell? ⟨b,off+j,none⟩=some (.int .i64 (nth zs j))):=hcell
 obtain⟨m,hm⟩:∃ m,zs.length=x+1+m:=⟨zs.length-(x+1),by omega⟩
 obtain⟨s,hs⟩:∃ s,s=zs.drop (x+1):=⟨_,rfl⟩
 have hsl:s.length=m:=by rw[hs,List.length_drop];omega
 have HS:Hid (s.length=m/\(∀ j,j<m->nth s j=nth zs (x+1+j))/\AllIn s/\prod s=stp zs x):=⟨hsl,fun j hj=>by rw[hs];simp[nth],by rw[hs];exact HA.drop _,by rw[hs];rfl⟩
 clear hs hsl hcell HA
 have hx1:x<9223372036854775806:=by omega
 have HF:Hid (m<=5):=by show m<=5;omega
 by_cases hne:cap=x+1
 ·have hm0:m=0:=by omega
  subst hm0
  have hfin:Hid (stp zs x=1):=by
   have h:=HS.out
   have e:s=[]:=List.eq_nil_of_length_eq_zero h.1
   rw[e] at h
   exact h.2.2.2.symm
  go_enter Tryz.func180,Tryz.ntmps180
  go_wp2_with fail
  go_loop [5,13] (fun pv i=>pv=.int .i64 1/\i=.int .i64 0) (fun _ i=>0)
  case atStart=>exact⟨rfl,rfl⟩
  case round=>
   obtain⟨rfl,rfl⟩:=hrel
   go_wp2_with fail
   go_ret
   exact⟨ret_int hfin.symm,rfl⟩
 ·go_enter Tryz.func180,Tryz.ntmps180
  go_wp2_with fail
  go_loop [5,13] (fun pv i=>∃ k:Nat,k<=m/\i=.int .i64 k/\pv=.int .i64 (prod (s.take k))) (fun _ i=>m-(intOf i).toNat)
  case atStart=>exact⟨0,Nat.zero_le _,rfl,rfl⟩
  case round=>
   obtain⟨k,hk,rfl,rfl⟩:=hrel
   by_cases hlt:k<m
   ·have hc:w.cell? ⟨b,off+(x+1)+k,none⟩=some (.int .i64 (nth s k)):=by
     rw[HS.2.1 k hlt,<-HC.out (x+1+k) (by omega),Nat.add_assoc]
    have HP:Hid (prod (s.take k)*nth s k=prod (s.take (k+1))/\0<=prod (s.take (k+1))/\prod (s.take (k+1))<=1152921504606846976):=by
     refine⟨(prod_take1 s k (by rw[HS.1];exact hlt)).symm,prod_60 (fun y hy=>HS.2.2.1 y (List.mem_of_mem_take hy)) ?_⟩
     have:=HF.out
     rw[List.length_take];omega
    obtain⟨P,hP⟩:∃ P,P=prod (s.take k):=⟨_,rfl⟩
    obtain⟨Q,hQ⟩:∃ Q,Q=prod (s.take (k+1)):=⟨_,rfl⟩
    rw[<-hP]
    have HPQ:Hid (P*nth s k=Q/\0<=Q/\Q<=1152921504606846976):=by rw[hP,hQ];exact HP.out
    have HQ:Hid (Q=prod (s.take (k+1))):=hQ
    have hw:IntKind.i64.wrap (P*nth s k)=Q:=by rw[HPQ.1];exact IntWalk.i64_in _ (by have:=HPQ.2;omega)
    clear hP hQ HP
    go_wp2_with fail
    exact⟨⟨k+1,by omega,by go_num,int_eq HQ.out⟩,by simp[intOf];omega⟩
   ·obtain rfl:k=m:=by omega
    have hfin:Hid (prod (s.take k)=stp zs x):=by
     have h:=HS.out
     rw[List.take_of_length_le (by omega)]
     exact h.2.2.2
    go_wp2_with fail
    go_ret
    exact⟨ret_int hfin.out,rfl⟩
theorem fcheck_any (f x:Int)(c:Bool)(sa:Option Addr)(sc:Nat)(sz:List Int)(da:Option Addr)(dc:Nat)(dz:List Int)(h1:sz.length<=9223372036854775807)(h2:dz.length<=9223372036854775807)(w:World)(hs:IsInts w.heap.size w sa sz)(hd:IsInts w.heap.size w da dz):
  Calls Tryz.prog 110 #[.int .i64 f,.int .i64 x,.agg #[.bool c,.slice sa sz.length sc,.slice da dz.length dc]] w fun e w'=>e=.returned (errV (lnE f x c sz dz))/\Below w.heap.size w w':=by
 have HI:Hid (IsInts w.heap.size w sa sz/\IsInts w.heap.size w da dz):=⟨hs,hd⟩
 have hb0:Hid (Below w.heap.size w (w.alloc (.cells #[.bool c,.slice sa sz.length sc,.slice da dz.length dc] 27))):=(Below.refl _ w).alloc (Nat.le_refl _) _
 have pa0:Hid (Abx (w.alloc (.cells #[.bool c,.slice sa sz.length sc,.slice da dz.length dc] 27)) w.heap.size (.bool c) (.slice sa sz.length sc) (.slice da dz.length dc)):=Abx.new w _ _ _
 have h2w:=two_any f 1 1 (by unfold In64;decide) (by unfold In64;decide) (w.alloc (.cells #[.bool c,.slice sa sz.length sc,.slice da dz.length dc] 27))
 clear hs hd
 by_cases hf:f<1\/16<f
 ·have HE:Hid (errV (lnE f x c sz dz)=.iface 28 (.int .i64 1)):=by show _=_;unfold lnE;rw[if_pos hf];rfl
  have ht:errV (twoE f 1 1)=.iface 28 (.int .i64 1):=by unfold twoE;rw[if_pos hf];rfl
  rw[ht] at h2w
  rw[HE.out]
  clear ht hf
  go_enter Tryz.func110,Tryz.ntmps110
  go_wp2_with fail
  refine h2w.mono ?_
  rintro e v1 ⟨rfl,hB⟩
  have HB:Hid (Below w.heap.size w v1):=hb0.trans (hB.mono hb0.size)
  clear hB h2w
  go_wp2_with fail
  go_ret
  exact⟨rfl,HB.out⟩
 ·have HF:Hid (¬ (f<1\/16<f)):=hf
  have ht:errV (twoE f 1 1)=.nilIface:=by rw[te0 (by omega) (by omega) (fun _=>by decide) (fun _=>by decide)];rfl
  rw[ht] at h2w
  clear ht hf
  go_enter Tryz.func110,Tryz.ntmps110
  go_wp2_with fail
  refine h2w.mono ?_
  rintro e v1 ⟨rfl,hB⟩
  have HB:Hid (Below w.heap.size w v1):=hb0.trans (hB.mono hb0.size)
  have HP:Hid (Abx v1 w.heap.size (.bool c) (.slice sa sz.length sc) (.slice da dz.length dc)):=pa0.go hB
  clear hB h2w pa0 hb0
  have p0:=HP.c0
  have p1:=HP.c1
  have p2:=HP.c2
  by_cases h3:flawE c sz dz=0
  ·have H3:Hid (flawE c sz dz=0):=h3
   clear h3
   go_wp2_with fail
   refine (check_ok c sa sc sz da dc dz h1 h2 _ ((HI.1.below HB.out).mono HB.size) ((HI.2.below HB.out).mono HB.size) H3.out).mono ?_
   rintro e v2 ⟨rfl,hC⟩
   replace HB:Hid (Below w.heap.size w v2):=HB.trans (hC.mono HB.size)
   replace HP:Hid (Abx v2 w.heap.size (.bool c) (.slice sa sz.length sc) (.slice da dz.length dc)):=HP.go hC
   clear hC p0 p1 p2
   have p0:=HP.c0
   have p1:=HP.c1
   by_cases hx:x<0
   ·have HE:Hid (errV (lnE f x c sz dz)=.iface 28 (.int .i64 5)):=by
     show _=_
     have e5:axE x c sz dz=5:=by unfold axE;rw[if_neg (not_not_intro H3.out),if_pos (.inl hx)]
     unfold lnE;rw[if_neg HF.out,e5];rfl
    go_wp2_with fail
    go_ret
    exact⟨by rw[HE.out];rfl,HB.out⟩
   ·by_cases hl:(sz.length:Int)<=x
    ·have HE:Hid (errV (lnE f x c sz dz)=.iface 28 (.int .i64 5)):=by
      show _=_
      have e5:axE x c sz dz=5:=by unfold axE;rw[if_neg (not_not_intro H3.out),if_pos (.inr hl)]
      unfold lnE;rw[if_neg HF.out,e5];rfl
     go_wp2_with fail
     go_ret
     exact⟨by rw[HE.out];rfl,HB.out⟩
    ·have HA:Hid (axE x c sz dz=0):=axE_zero.2 ⟨H3.out,by omega,by omega⟩
     have HE:Hid (lnE f x c sz dz=if c=true then 6 else 0):=by show _=_;unfold lnE;rw[if_neg HF.out,if_neg (not_not_intro HA.out)]
     cases c
     ·go_wp2_with fail
      go_ret
      exact⟨by rw[HE.out];rfl,HB.out⟩
     ·go_wp2_with fail
      go_ret
      exact⟨by rw[HE.out];rfl,HB.out⟩
  ·have H3:Hid (flawE c sz dz≠0):=h3
   have HE:Hid (errV (lnE f x c sz dz)=.iface 28 (.int .i64 (flawE c sz dz))):=by
    show _=_
    have:axE x c sz dz=flawE c sz dz:=by unfold axE;rw[if_pos h3]
    unfold lnE;rw[if_neg HF.out,this,if_pos h3,errV_pos h3]
   clear h3
   go_wp2_with fail
   refine (check_no c sa sc sz da dc dz h1 h2 _ ((HI.1.below HB.out).mono HB.size) ((HI.2.below HB.out).mono HB.size) H3.out).mono ?_
   rintro e v2 ⟨rfl,hC⟩
   replace HB:Hid (Below w.heap.size w v2):=HB.trans (hC.mono HB.size)
   clear hC
   go_wp2_with fail
   go_ret
   exact⟨by rw[HE.out];rfl,HB.out⟩
theorem wsm {a:Nat}(h:a<=9223372036854775807):wrap64 (a:Int)=a:=wrap64_small (by omega) (by omega)
def stN (n m A:Nat):Nat:=n/A*m*A+n%A
theorem start_any (n m A:Nat)(hA:0<A)(hn:n<=4096)(hm:m<=4096)(hA4:A<=4096)(w:World):
  Calls Tryz.prog 182 #[.int .i64 (n:Nat),.int .i64 (m:Nat),.int .i64 (A:Nat)] w fun e w'=>e=.returned (.int .i64 ((stN n m A:Nat):Int))/\Below w.heap.size w w':=by
 have hA0:¬ (A:Int)=0:=by omega
 have hq:n/A<=4096:=Nat.le_trans (Nat.div_le_self n A) hn
 have h2:n/A*m<=4096*4096:=Nat.mul_le_mul hq hm
 have h3:n/A*m*A<=4096*4096*4096:=Nat.mul_le_mul h2 hA4
 have h4:n%A<=n:=Nat.mod_le _ _
 have HE:Hid (wrap64 (wrap64 (wrap64 (wrap64 ((n:Int)/(A:Int))*(m:Int))*(A:Int))+(n:Int)%(A:Int))=((stN n m A:Nat):Int)):=by
  show _=_
  have e0:(n:Int)/(A:Int)=((n/A:Nat):Int):=by simp
  have e1:(n:Int)%(A:Int)=((n%A:Nat):Int):=by simp
  rw[e0,e1,wsm (a:=n/A) (by omega),<-Int.natCast_mul,wsm (a:=n/A*m) (by omega),<-Int.natCast_mul,wsm (a:=n/A*m*A) (by omega),<-Int.natCast_add,wsm (by omega)]
  rfl
 clear hq h2 h3 h4
 go_enter Tryz.func182,Tryz.ntmps182
 go_wp2_with fail
 go_quiet (fail)
 go_wp2_with fail
 go_ret
 exact⟨ret1 HE.out,bel_drewN (Below.refl _ _) _⟩
theorem line12_any (x n:Nat)(sa:Option Addr)(sc:Nat)(sz:List Int)(da:Option Addr)(dc:Nat)(dz:List Int)(L A:Nat)(hx:x<sz.length)(he:errOf sz=0)(hL:(L:Int)=nth sz x)(hA:(A:Int)=apt x sz)(hd0:(dz.length:Int)=prod sz)(hA0:0<A)(hA4:A<=4096)(ho:errOf (xout x sz)=0)(hn:(n:Int)<prod (xout x sz))(w:World)(hs:IsC w.heap.size w sa sz sc)(hd:IsInts w.heap.size w da dz):
  Calls Tryz.prog 181 #[.int .i64 (x:Nat),.agg #[.bool false,.slice sa sz.length sc,.slice da dz.length dc],.int .i64 (n:Nat)] w fun e w'=>∃ B,e=.returned (.slice (some ⟨B,0,none⟩) L L)/\w.heap.size<=B/\w'.rowIs B 3 L (fun j=>.int .i64 (nth (rdL sz dz x (cr (xout x sz) n)) j))/\Below w.heap.size w w':=by
 have hz:=errOf_zero.1 he
 have hl6:sz.length<=6:=hz.1
 have hL4:L<=4096:=by have:=(hz.2.1.nth x).2;omega
 have hn4:n<=4096:=by have:=(errOf_zero.1 ho).2.2;omega
 have hcr:=cr_in ho (i:=n) (by omega)
 obtain⟨t,ht⟩:∃ t,t=cr (xout x sz) n:=⟨_,rfl⟩
 rw[<-ht] at hcr ⊢
 have HP:Hid (∀ i,i<L->stN n L A+i*A<dz.length/\nth dz (stN n L A+i*A)=nth (rdL sz dz x t) i):=fun i hi=>by
  have h1:=place_line (s:=sz) (t:=t) (i:Int) hx hcr.1
  rw[hcr.2,<-hL,<-hA] at h1
  have e1:place sz (xin x (i:Int) t)=((stN n L A+i*A:Nat):Int):=by rw[h1];unfold stN;simp
  have hin:insB sz (xin x (i:Int) t)=true:=ins_xin hx hcr.1 ⟨by omega,by omega⟩
  have hb:=place_bd hin
  rw[e1] at hb
  refine⟨by omega,?_⟩
  rw[rdL_nth hx hcr.1 (by omega)]
  unfold cel
  rw[e1,Int.toNat_natCast]
 have HLn:Hid ((rdL sz dz x t).length=L):=by show _=_;rw[rdL_length];omega
 generalize rdL sz dz x t=D at *
 have HI:Hid (IsC w.heap.size w sa sz sc/\IsInts w.heap.size w da dz):=⟨hs,hd⟩
 have HF:Hid (errOf sz=0):=he
 have HA:Hid (stp sz x=(A:Int)):=hA.symm
 have hb0:Hid (Below w.heap.size w (w.alloc (.cells #[.bool false,.slice sa sz.length sc,.slice da dz.length dc] 27))):=(Below.refl _ w).alloc (Nat.le_refl _) _
 have pa0:Hid (Abx (w.alloc (.cells #[.bool false,.slice sa sz.length sc,.slice da dz.length dc] 27)) w.heap.size (.bool false) (.slice sa sz.length sc) (.slice da dz.length dc)):=Abx.new w _ _ _
 have hsz0:(w.alloc (.cells #[.bool false,.slice sa sz.length sc,.slice da dz.length dc] 27)).heap.size=w.heap.size+1:=by simp
 obtain⟨bs,os,rfl,hbs,hcS⟩:=(hs.1.below hb0.out).at hx
 have cs1:=hcS x hx
 rw[<-hL] at cs1
 have hdl:dz.length<=4096:=by have:=hz.2.2;omega
 clear hcS hs hd he hL hA ho hn hcr ht hz hd0
 have p1:=pa0.c1
 go_enter Tryz.func181,Tryz.ntmps181
 go_wp2_with fail
 generalize (w.alloc (.cells #[.bool false,.slice (some ⟨bs,os,none⟩) sz.length sc,.slice da dz.length dc] 27))=v1 at *
 refine bT 10 (fun w'=>w'.cell? ⟨w.heap.size,1,none⟩=some (.slice (some ⟨bs,os,none⟩) sz.length sc)/\w'.cell? ⟨bs,os+x,none⟩=some (.int .i64 (L:Nat))) 11 (⟨p1,cs1⟩) fun hq0=>?_
 refine pT 0 hq0 ?_;refine lT 1 hq0 ?_;refine pT 2 hq0 ?_;refine pT 3 hq0 ?_;refine lT 4 hq0 ?_;refine pT 5 hq0 ?_;refine lT 6 hq0 ?_;refine pT 7 hq0 ?_
 clear hq0
 refine oT 8 fun K hK=>?_
 go_simp
 go_wp2_with (go_at_call 180;refine (fstep_any (some ⟨bs,os,none⟩) sc sz x hx HF.out v1.heap.size v1.drew ((HI.1.below hb0.out).mono hb0.size)).mono ?_;rintro e w2 ⟨rfl,rfl⟩)
 refine hK.out _ _ (fun _=>⟨p1,cs1⟩) ?_
 clear hK K
 refine oT 9 fun K hK=>?_
 go_simp
 refine hK.out _ _ (fun _=>⟨p1,cs1⟩) ?_
 clear hK K
 refine oT 10 fun K hK=>?_
 go_simp
 refine hK.out _ _ (fun h=>absurd h (by decide)) ?_
 clear hK K
 refine dT ?_
 rw[HA.out]
 obtain⟨v,hv⟩:∃ v,v=v1.drew:=⟨_,rfl⟩
 rw[<-hv]
 have HB2:Hid (Below w.heap.size w v):=by rw[hv];exact hb0.drew
 have HP2:Hid (Abx v w.heap.size (.bool false) (.slice (some ⟨bs,os,none⟩) sz.length sc) (.slice da dz.length dc)):=by rw[hv];exact pa0.out
 clear hv hb0 pa0 p1 cs1 hsz0 v1
 go_wp2_with fail
 refine (start_any n L A hA0 hn4 hL4 hA4 v).mono ?_
 rintro e v2 ⟨rfl,hB⟩
 replace HB2:Hid (Below w.heap.size w v2):=HB2.trans (hB.mono HB2.size)
 replace HP2:Hid (Abx v2 w.heap.size (.bool false) (.slice (some ⟨bs,os,none⟩) sz.length sc) (.slice da dz.length dc)):=HP2.go hB
 clear hB v
 have hmk:=run_make_row' (P:=Tryz.prog) 25 3 (.int .i64 0) 8 Tryz.underlying25 Tryz.infoInt rfl .i64 .i64 L (by omega) (by omega)
 go_wp2_with fail
 clear hmk
 go_loopw [29] (fun i wr=>∃ k:Nat,k<=L/\i=.int .i64 k/\wr.rowIs v2.heap.size 3 L (upTo (nth D) k)/\Abx wr w.heap.size (.bool false) (.slice (some ⟨bs,os,none⟩) sz.length sc) (.slice da dz.length dc)/\Below w.heap.size w wr) (fun i _=>L-(intOf i).toNat)
 case atStart=>
  exact⟨0,Nat.zero_le _,rfl,(World.rowIs_made v2 (.int .i64 0) L 3).congr (fun j _=>by simp[upTo]),HP2.al _,HB2.alloc HB2.size _⟩
 case round=>
  obtain⟨k,hk,rfl,hrow,hA,hB⟩:=hrel
  have hvR:w.heap.size<v2.heap.size:=HP2.lt
  by_cases hlt:k<L
  ·obtain⟨h1,h2⟩:=HP.out k hlt
   have hkA:k*A<=4096*4096:=Nat.mul_le_mul (by omega) hA4
   have hd4:dz.length<=4096:=hdl
   obtain⟨m,hm⟩:∃ m,m=stN n L A+k*A:=⟨_,rfl⟩
   rw[<-hm] at h1 h2
   have hw:IntKind.i64.wrap (((stN n L A:Nat):Int)+IntKind.i64.wrap ((k:Int)*(A:Int)))=(m:Int):=by
    rw[<-Int.natCast_mul,IntWalk.i64_in ((k*A:Nat):Int) (by omega),<-Int.natCast_add,<-hm];exact IntWalk.i64_in _ (by omega)
   have HV:Hid (nth dz m=nth D k):=h2
   obtain⟨bd,od,rfl,hbd,hcD⟩:=(HI.2.below hB).at h1
   have cd:=hcD m h1
   have HQ:Hid (wr.rowIs v2.heap.size 3 L (upTo (nth D) k)/\Abx wr w.heap.size (.bool false) (.slice (some ⟨bs,os,none⟩) sz.length sc) (.slice (some ⟨bd,od,none⟩) dz.length dc)/\Below w.heap.size w wr):=⟨hrow,hA,hB⟩
   have e2:=hA.c2
   have c2:=hrow.cell hlt
   have f2:=hrow.frozen k
   clear hrow hA hB hcD h2
   subst hm
   go_wp2_with fail
   exact⟨⟨k+1,by omega,by go_num,upTo_set HQ.1 _ HV.out,HQ.2.1.ot (a:=⟨v2.heap.size,k,none⟩) (by show w.heap.size≠v2.heap.size;omega) _,HQ.2.2.setCell (p:=⟨v2.heap.size,k,none⟩) (by show w.heap.size<=v2.heap.size;omega) _⟩,by simp[intOf];omega⟩
  ·obtain rfl:k=L:=by omega
   have HY:Hid (wr.rowIs v2.heap.size 3 k (fun j=>.int .i64 (nth D j))):=hrow.congr fun j hj=>by unfold upTo;rw[if_pos hj]
   go_wp2_with fail
   go_ret
   exact⟨v2.heap.size,rfl,by omega,HY.out,hB⟩
theorem neut_1 (w:World):Calls Tryz.prog 111 #[.int .i64 1] w fun e w'=>e=.returned (.tuple #[.int .i64 (neutV 1),errV (neutE 1)])/\w'=w:=by
 go_enter Tryz.func111,Tryz.ntmps111
 go_wp2_with fail
 go_ret2
 exact⟨ret2 (by decide) rfl,rfl⟩
theorem neut_2 (w:World):Calls Tryz.prog 111 #[.int .i64 2] w fun e w'=>e=.returned (.tuple #[.int .i64 (neutV 2),errV (neutE 2)])/\w'=w:=by
 go_enter Tryz.func111,Tryz.ntmps111
 go_wp2_with fail
 go_ret2
 exact⟨ret2 (by decide) rfl,rfl⟩
theorem neut_3 (w:World):Calls Tryz.prog 111 #[.int .i64 3] w fun e w'=>e=.returned (.tuple #[.int .i64 (neutV 3),errV (neutE 3)])/\w'=w:=by
 go_enter Tryz.func111,Tryz.ntmps111
 go_wp2_with fail
 go_ret2
 exact⟨ret2 (by decide) rfl,rfl⟩
theorem neut_4 (w:World):Calls Tryz.prog 111 #[.int .i64 4] w fun e w'=>e=.returned (.tuple #[.int .i64 (neutV 4),errV (neutE 4)])/\w'=w:=by
 go_enter Tryz.func111,Tryz.ntmps111
 go_wp2_with fail
 go_ret2
 exact⟨ret2 (by decide) rfl,rfl⟩
theorem neut_5 (w:World):Calls Tryz.prog 111 #[.int .i64 5] w fun e w'=>e=.returned (.tuple #[.int .i64 (neutV 5),errV (neutE 5)])/\w'=w:=by
 go_enter Tryz.func111,Tryz.ntmps111
 go_wp2_with fail
 go_ret2
 exact⟨ret2 (by decide) rfl,rfl⟩
theorem neut_6 (w:World):Calls Tryz.prog 111 #[.int .i64 6] w fun e w'=>e=.returned (.tuple #[.int .i64 (neutV 6),errV (neutE 6)])/\w'=w:=by
 go_enter Tryz.func111,Tryz.ntmps111
 go_wp2_with fail
 go_ret2
 exact⟨ret2 (by decide) rfl,rfl⟩
theorem neut_7 (w:World):Calls Tryz.prog 111 #[.int .i64 7] w fun e w'=>e=.returned (.tuple #[.int .i64 (neutV 7),errV (neutE 7)])/\w'=w:=by
 go_enter Tryz.func111,Tryz.ntmps111
 go_wp2_with fail
 go_ret2
 exact⟨ret2 (by decide) rfl,rfl⟩
theorem neut_8 (w:World):Calls Tryz.prog 111 #[.int .i64 8] w fun e w'=>e=.returned (.tuple #[.int .i64 (neutV 8),errV (neutE 8)])/\w'=w:=by
 go_enter Tryz.func111,Tryz.ntmps111
 go_wp2_with fail
 go_ret2
 exact⟨ret2 (by decide) rfl,rfl⟩
theorem neut_9 (w:World):Calls Tryz.prog 111 #[.int .i64 9] w fun e w'=>e=.returned (.tuple #[.int .i64 (neutV 9),errV (neutE 9)])/\w'=w:=by
 go_enter Tryz.func111,Tryz.ntmps111
 go_wp2_with fail
 go_ret2
 exact⟨ret2 (by decide) rfl,rfl⟩
theorem neut_10 (w:World):Calls Tryz.prog 111 #[.int .i64 10] w fun e w'=>e=.returned (.tuple #[.int .i64 (neutV 10),errV (neutE 10)])/\w'=w:=by
 go_enter Tryz.func111,Tryz.ntmps111
 go_wp2_with fail
 go_ret2
 exact⟨ret2 (by decide) rfl,rfl⟩
theorem neut_11 (w:World):Calls Tryz.prog 111 #[.int .i64 11] w fun e w'=>e=.returned (.tuple #[.int .i64 (neutV 11),errV (neutE 11)])/\w'=w:=by
 go_enter Tryz.func111,Tryz.ntmps111
 go_wp2_with fail
 go_ret2
 exact⟨ret2 (by decide) rfl,rfl⟩
theorem neut_12 (w:World):Calls Tryz.prog 111 #[.int .i64 12] w fun e w'=>e=.returned (.tuple #[.int .i64 (neutV 12),errV (neutE 12)])/\w'=w:=by
 go_enter Tryz.func111,Tryz.ntmps111
 go_wp2_with fail
 go_ret2
 exact⟨ret2 (by decide) rfl,rfl⟩
theorem neut_13 (w:World):Calls Tryz.prog 111 #[.int .i64 13] w fun e w'=>e=.returned (.tuple #[.int .i64 (neutV 13),errV (neutE 13)])/\w'=w:=by
 go_enter Tryz.func111,Tryz.ntmps111
 go_wp2_with fail
 go_ret2
 exact⟨ret2 (by decide) rfl,rfl⟩
theorem neut_14 (w:World):Calls Tryz.prog 111 #[.int .i64 14] w fun e w'=>e=.returned (.tuple #[.int .i64 (neutV 14),errV (neutE 14)])/\w'=w:=by
 go_enter Tryz.func111,Tryz.ntmps111
 go_wp2_with fail
 go_ret2
 exact⟨ret2 (by decide) rfl,rfl⟩
theorem neut_15 (w:World):Calls Tryz.prog 111 #[.int .i64 15] w fun e w'=>e=.returned (.tuple #[.int .i64 (neutV 15),errV (neutE 15)])/\w'=w:=by
 go_enter Tryz.func111,Tryz.ntmps111
 go_wp2_with fail
 go_ret2
 exact⟨ret2 (by decide) rfl,rfl⟩
theorem neut_16 (w:World):Calls Tryz.prog 111 #[.int .i64 16] w fun e w'=>e=.returned (.tuple #[.int .i64 (neutV 16),errV (neutE 16)])/\w'=w:=by
 go_enter Tryz.func111,Tryz.ntmps111
 go_wp2_with fail
 go_ret2
 exact⟨ret2 (by decide) rfl,rfl⟩
theorem neut_other (f:Int)(hf:f<1\/16<f)(w:World):Calls Tryz.prog 111 #[.int .i64 f] w fun e w'=>e=.returned (.tuple #[.int .i64 (neutV f),errV (neutE f)])/\w'=w:=by
 have HF:Hid (f<1\/16<f):=hf
 have n1:(f == 1)=false:=by simp;omega
 have n2:(f == 2)=false:=by simp;omega
 have n3:(f == 3)=false:=by simp;omega
 have n4:(f == 4)=false:=by simp;omega
 have n5:(f == 5)=false:=by simp;omega
 have n6:(f == 6)=false:=by simp;omega
 have n7:(f == 7)=false:=by simp;omega
 have n8:(f == 8)=false:=by simp;omega
 have n9:(f == 9)=false:=by simp;omega
 have n10:(f == 10)=false:=by simp;omega
 have n11:(f == 11)=false:=by simp;omega
 have n12:(f == 12)=false:=by simp;omega
 have n13:(f == 13)=false:=by simp;omega
 have n14:(f == 14)=false:=by simp;omega
 have n15:(f == 15)=false:=by simp;omega
 have n16:(f == 16)=false:=by simp;omega
 clear hf
 go_enter Tryz.func111,Tryz.ntmps111
 go_wp2_with fail
 go_ret2
 have hf:=HF.out
 refine⟨ret2 ?_ (by simp[neutE,errV,hf]),rfl⟩
 unfold neutV
 repeat rw[if_neg (by omega)]
theorem neut_any (f:Int)(w:World):Calls Tryz.prog 111 #[.int .i64 f] w fun e w'=>e=.returned (.tuple #[.int .i64 (neutV f),errV (neutE f)])/\w'=w:=by
 by_cases hf:f<1\/16<f
 ·exact neut_other f hf w
 ·rcases (by omega:f=1\/f=2\/f=3\/f=4\/f=5\/f=6\/f=7\/f=8\/f=9\/f=10\/f=11\/f=12\/f=13\/f=14\/f=15\/f=16) with rfl | rfl | rfl | rfl | rfl | rfl | rfl | rfl | rfl | rfl | rfl | rfl | rfl | rfl | rfl | rfl
  ·exact neut_1 w
  ·exact neut_2 w
  ·exact neut_3 w
  ·exact neut_4 w
  ·exact neut_5 w
  ·exact neut_6 w
  ·exact neut_7 w
  ·exact neut_8 w
  ·exact neut_9 w
  ·exact neut_10 w
  ·exact neut_11 w
  ·exact neut_12 w
  ·exact neut_13 w
  ·exact neut_14 w
  ·exact neut_15 w
  ·exact neut_16 w
end Go.Proofs.YtkmmkcpfhnifhaaGreatDoor
