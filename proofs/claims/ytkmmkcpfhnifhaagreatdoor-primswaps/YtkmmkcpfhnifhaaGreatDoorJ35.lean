/- What the program tells, in part. -/
import Derived.Test.YtkmmkcpfhnifhaaGreatDoorJ34
import Derived.Shelf.Slices.Cells
set_option linter.unusedVariables false
set_option maxHeartbeats 4000000
set_option maxRecDepth 100000
namespace Go.Proofs.YtkmmkcpfhnifhaaGreatDoor
open Go.RowKit
theorem rn_scan {f:Int}{x:Nat}{sz dz:List Int}(hx:x<sz.length)(h:lnE f (x:Int) false sz dz=0){L:Nat}(hL:(L:Int)=nth sz x):
  sz.set x (L:Int)=sz/\rnE f sz dz x L (fun _=>0) (fun k=>k+1)=scE f (x:Int) false sz dz/\rnD f sz dz x L (fun _=>0) (fun k=>k+1)=scD f sz dz x:=by
 have he:=(flawE_zero (lnE_zero.1 h).2.1).1
 have hs:sz.set x (L:Int)=sz:=set_get hx hL
 have hG:∀ t,insB sz t=true->rnG sz dz x (fun _=>0) (fun k=>k+1) t=scL sz dz x t:=fun t ht=>by
  have h1:=ins_at ht hx
  have e:(nth t x).toNat+1=(nth t x+1).toNat:=by omega
  show run _ 0 ((nth t x).toNat+1)=_
  rw[e,rdL_scan ht hx]
 refine⟨hs,?_,?_⟩
 ·unfold rnE scE
  rw[hs,if_neg (not_not_intro he),if_neg (not_not_intro h),Int.toNat_natCast]
  have e:okT sz (fun t=>fdE f (rnG sz dz x (fun _=>0) (fun k=>k+1) t))=okT sz (fun t=>fdE f (scL sz dz x t)):=by
   rw[Bool.eq_iff_iff,okT_iff he,okT_iff he]
   exact⟨fun h t ht=>by rw[<-hG t ht];exact h t ht,fun h t ht=>by rw[hG t ht];exact h t ht⟩
  rw[e]
 ·unfold rnD scD
  rw[hs]
  exact TA_congr he fun t ht=>by rw[hG t ht]
theorem rn_windows {f n:Int}{x:Nat}{sz dz:List Int}(hx:x<sz.length)(h:lnE f (x:Int) false sz dz=0)(h1:1<=n)(h2:n<=nth sz x){M:Nat}(hM:(M:Int)=nth sz x-n+1):
  sz.set x (M:Int)=wdS n x sz/\rnE f sz dz x M (fun k=>k) (fun k=>k+n.toNat)=wdE f n (x:Int) false sz dz/\rnD f sz dz x M (fun k=>k) (fun k=>k+n.toNat)=wdD f n sz dz x:=by
 have he:errOf (wdS n x sz)=0:=by have:=wd_err (n:=n) h (by rw[Int.toNat_natCast];omega);rwa [Int.toNat_natCast] at this
 have hs:sz.set x (M:Int)=wdS n x sz:=by unfold wdS;rw[hM]
 have hG:∀ t,insB (wdS n x sz) t=true->rnG sz dz x (fun k=>k) (fun k=>k+n.toNat) t=wdL n sz dz x t:=fun t ht=>by
  have h3:=ins_at ht (x:=x) (by unfold wdS;rw[List.length_set];exact hx)
  have e:(nth t x).toNat+n.toNat=(nth t x+n).toNat:=by omega
  show run _ (nth t x).toNat ((nth t x).toNat+n.toNat)=_
  rw[e,rdL_windows hx h1 ht]
 refine⟨hs,?_,?_⟩
 ·unfold rnE wdE
  rw[hs,if_neg (not_not_intro he),if_neg (not_not_intro h),Int.toNat_natCast,if_neg (show ¬ (n<1\/nth sz x<n) by omega)]
  have e:okT (wdS n x sz) (fun t=>fdE f (rnG sz dz x (fun k=>k) (fun k=>k+n.toNat) t))=okT (wdS n x sz) (fun t=>fdE f (wdL n sz dz x t)):=by
   rw[Bool.eq_iff_iff,okT_iff he,okT_iff he]
   exact⟨fun h t ht=>by rw[<-hG t ht];exact h t ht,fun h t ht=>by rw[hG t ht];exact h t ht⟩
  rw[e]
 ·unfold rnD wdD
  rw[hs]
  exact TA_congr he fun t ht=>by rw[hG t ht]
theorem rn_reduce {f:Int}{x:Nat}{sz dz:List Int}(hx:x<sz.length)(h:lnE f (x:Int) false sz dz=0)(hn:¬ (nth sz x=0/\neutE f≠0)){L:Nat}(hL:(L:Int)=nth sz x):
  rnE f sz dz x 1 (fun _=>0) (fun _=>L)=rdE f (x:Int) false sz dz/\(rdE f (x:Int) false sz dz=0->rnD f sz dz x 1 (fun _=>0) (fun _=>L)=rdD f sz dz x/\errOf (sz.set x 1)=0):=by
 have he:=(flawE_zero (lnE_zero.1 h).2.1).1
 have h1:=err_one hx he
 have hl:=xout_length hx
 have hLe:L=(nth sz x).toNat:=by omega
 have hG:∀ t,rnG sz dz x (fun _=>0) (fun _=>L) t=rdL sz dz x (xout x t):=fun t=>by
  unfold rnG
  rw[hLe]
  exact rdL_all
 unfold rnE rdE
 rw[show ((1:Nat):Int)=1 from rfl,h1,if_neg (not_not_intro h),Int.toNat_natCast,if_neg hn]
 by_cases ho:errOf (xout x sz)=0
 ·have e:okT (sz.set x 1) (fun t=>fdE f (rnG sz dz x (fun _=>0) (fun _=>L) t))=okT (xout x sz) (fun t=>fdE f (rdL sz dz x t)):=by
   rw[Bool.eq_iff_iff,okT_iff (s:=sz.set x 1) (by rw[h1];exact ho),okT_iff ho]
   refine⟨fun h t ht=>?_,fun h t ht=>?_⟩
   ·have hlt:=insB_len ht
    have hin:insB (sz.set x 1) (xin x 0 t)=true:=ins_xin (by rw[List.length_set];exact hx) (by rw[xout_set];exact ht) (by rw[nth_set_self hx];omega)
    have:=h _ hin
    rwa [hG,xout_xin (by omega)] at this
   ·rw[hG]
    exact h _ (by have:=ins_xout (x:=x) ht;rwa [xout_set] at this)
  rw[if_neg (not_not_intro ho),if_neg (not_not_intro ho),e]
  refine⟨rfl,fun _=>⟨?_,ho⟩⟩
  unfold rnD rdD
  rw[show ((1:Nat):Int)=1 from rfl,TA_one hx (by rw[h1];exact ho) ho]
  refine TA_congr ho fun t ht=>?_
  have hlt:=insB_len ht
  rw[hG,xout_xin (by omega)]
 ·rw[if_pos ho,if_pos ho]
  exact⟨rfl,fun h=>absurd h ho⟩
theorem scan1_any (k:Nat)(hk:k<=4096)(w:World):Calls Tryz.prog 115 #[.int .i64 (k:Nat)] w (EnP 0 (k+1) w):=by
 go_enter Tryz.func115,Tryz.ntmps115
 go_wp2_with fail
 go_ret2
 exact⟨by first | rfl | simp,Below.refl _ _⟩
theorem sc_holds:CSc:=by
 intro f x c sa sc sz da dc dz w hf hx h1 h2 hs hd T
 have HI:Hid (IsC w.heap.size w sa sz sc/\IsInts w.heap.size w da dz/\∀ j,In64 (nth dz j)):=⟨hs,hd,T⟩
 have HB0:Hid (Below w.heap.size w ((w.alloc (.cells #[.bool c,.slice sa sz.length sc,.slice da dz.length dc] 27)).alloc (.cells #[.bool false,.slice none 0 0,.slice none 0 0] 27))):=((Below.refl _ w).alloc (Nat.le_refl _) _).alloc (by simp) _
 have pa:=(Abx.new w (.bool c) (.slice sa sz.length sc) (.slice da dz.length dc)).al (.cells #[.bool false,.slice none 0 0,.slice none 0 0] 27)
 have pr:=Abx.new1 w (.cells #[.bool c,.slice sa sz.length sc,.slice da dz.length dc] 27) (.bool false) (.slice none 0 0) (.slice none 0 0)
 have p0:=pa.c0
 have p1:=pa.c1
 have p2:=pa.c2
 have hC:=fcheck_any f x c sa sc sz da dc dz h1 h2 _ ((HI.1.1.below HB0.out).mono HB0.size) ((HI.2.1.below HB0.out).mono HB0.size)
 clear hs hd T hf hx
 by_cases he:lnE f x c sz dz=0
 ·rw[he,errV_zero] at hC
  obtain⟨hfn,hfl,hx,hc⟩:=lnE_zero.1 he
  subst hc
  obtain⟨xn,rfl⟩:∃ xn:Nat,x=(xn:Int):=⟨x.toNat,by omega⟩
  have hxl:xn<sz.length:=by omega
  have hz:=(errOf_zero.1 (flawE_zero hfl).1)
  have hln:=hz.2.1.nth xn
  obtain⟨L,hL⟩:∃ L:Nat,(L:Int)=nth sz xn:=⟨(nth sz xn).toNat,by omega⟩
  obtain⟨hr1,hr2,hr3⟩:=rn_scan hxl he hL
  have hL4:L<=4096:=by omega
  have hl6:=hz.1
  go_enter Tryz.func72,Tryz.ntmps72
  go_wp2_with fail
  refine hC.mono ?_
  rintro e v1 ⟨rfl,hB⟩
  have HB1:Hid (Below w.heap.size w v1):=HB0.trans (hB.mono HB0.size)
  have HP:Hid (Abx v1 w.heap.size (.bool false) (.slice sa sz.length sc) (.slice da dz.length dc)):=pa.go hB
  have HR:Hid (Abx v1 (w.heap.size+1) (.bool false) (.slice none 0 0) (.slice none 0 0)):=pr.go hB
  have hU:=(runs_any f xn sa sc sz da dc dz L 115 [] (enters_of Tryz.func115 (by kernel_rfl) rfl) (fun _=>0) (fun k=>k+1) hfn hfl hxl hL4 HI.2.2 (fun k hk=>⟨.inl (by omega),by omega⟩) v1.drew ((HI.1.below HB1.drew).mono HB1.drew.size) ((HI.2.1.below HB1.drew).mono HB1.drew.size) (fun k hk w' _=>scan1_any k (by omega) w')).mono fun _ _ h=>UBr.ub h
  rw[hr1,hr2,hr3] at hU
  have HS:Hid (UB (scE f (xn:Int) false sz dz) false (scS12 f (xn:Int) false sz dz) (scD12 f (xn:Int) false sz dz) w=UB (scE f (xn:Int) false sz dz) false (onl (scE f (xn:Int) false sz dz) sz) (onl (scE f (xn:Int) false sz dz) (scD f sz dz xn)) w):=by
   show _=_;unfold scS12 scD12;rw[Int.toNat_natCast]
  generalize onl (scE f (xn:Int) false sz dz) sz=S at *
  generalize onl (scE f (xn:Int) false sz dz) (scD f sz dz xn)=D at *
  generalize scE f (xn:Int) false sz dz=E at *
  have HU:Hid (Calls Tryz.prog 112 #[.int .i64 f,.int .i64 (xn:Nat),.agg #[.bool false,.slice sa sz.length sc,.slice da dz.length dc],.int .i64 (L:Nat),.func (.func 115) #[] #[]] v1.drew (UB E false S D v1.drew)):=hU
  obtain⟨bs,os,rfl,hbs,hcS⟩:=(HI.1.1.below HB1.out).at hxl
  have cs1:=hcS xn hxl
  rw[<-hL] at cs1
  clear hcS hr1 hr2 hr3 hU hC hB pa pr p0 p1 p2 HB0 he hfl hz hln hL
  have p0:=HP.c0
  have p1:=HP.c1
  have p2:=HP.c2
  go_wp2_with fail
  refine bT 11 (fun w'=>w'.cell? ⟨w.heap.size,0,none⟩=some (.bool false)/\w'.cell? ⟨w.heap.size,1,none⟩=some (.slice (some ⟨bs,os,none⟩) sz.length sc)/\w'.cell? ⟨w.heap.size,2,none⟩=some (.slice da dz.length dc)/\w'.cell? ⟨bs,os+xn,none⟩=some (.int .i64 (L:Nat))) 13 (⟨p0,p1,p2,cs1⟩) fun hq0=>?_
  refine pT 0 hq0 ?_;refine pT 1 hq0 ?_;refine lT 2 hq0 ?_;refine pT 3 hq0 ?_;refine lT 4 hq0 ?_;refine pT 5 hq0 ?_;refine pT 6 hq0 ?_;refine lT 7 hq0 ?_
  clear hq0
  refine oT 8 fun K hK=>?_
  go_simp
  go_wp2_with (go_at_call 112;refine HU.mono ?_;rintro e w3 ⟨xa,xc,ya,yc,rfl,hX,hY,hBc⟩)
  have HBc:Hid (Below v1.heap.size v1 w3):=(Below.refl _ v1).drew.trans hBc
  have HNn:Hid (NewC v1.heap.size w3 xa S xc/\NewC v1.heap.size w3 ya D yc):=⟨hX,hY⟩
  have A3:=HP.go HBc.out
  have c3:=(HBc.cell (p:=⟨bs,os+xn,none⟩) (by show bs<_;have:=HB1.size;omega)).trans cs1
  have R3:=HR.go HBc.out
  have r0:=R3.c0
  have r1:=R3.c1
  have r2:=R3.c2
  have f0:=R3.fr 0
  have f1:=R3.fr 1
  have f2:=R3.fr 2
  clear hX hY hBc
  refine hK.out _ _ (fun _=>⟨A3.c0,A3.c1,A3.c2,c3⟩) ?_
  clear hK K
  refine pT 9 (⟨A3.c0,A3.c1,A3.c2,c3⟩) ?_;refine pT 10 (⟨A3.c0,A3.c1,A3.c2,c3⟩) ?_
  refine oT 11 fun K hK=>?_
  go_simp
  refine hK.out _ _ (fun h=>absurd h (by decide)) ?_
  clear hK K
  refine oT 12 fun K hK=>?_
  go_simp
  refine hK.out _ _ (fun h=>absurd h (by decide)) ?_
  clear hK K
  refine dT ?_
  go_wp2_with fail
  have F:=R3.set3 (.bool false) (.slice xa S.length xc) (.slice ya D.length yc)
  have q0:=F.c0
  have q1:=F.c1
  have q2:=F.c2
  have hvr:w.heap.size+1<v1.heap.size:=HR.lt
  refine bodyPost_ret (v:=.tuple #[.agg #[.bool false,.slice xa S.length xc,.slice ya D.length yc],errV E]) (by simp[results,Tryz.results72,go_sem,q0,q1,q2]) rfl ?_
  have hX:=(HNn.1.set3 (b:=w.heap.size+1) (by omega) (.bool false) (.slice xa S.length xc) (.slice ya D.length yc)).low (lo':=w.heap.size) (by omega)
  have hY:=(HNn.2.set3 (b:=w.heap.size+1) (by omega) (.bool false) (.slice xa S.length xc) (.slice ya D.length yc)).low (lo':=w.heap.size) (by omega)
  rw[HS.out]
  exact⟨xa,xc,ya,yc,rfl,hX,hY,bel_set3 (HB1.trans (HBc.mono HB1.size)) (by omega) _ _ _⟩
 ·rw[errV_pos he] at hC
  have HE:Hid (scE f x c sz dz=lnE f x c sz dz):=by show _=_;unfold scE;rw[if_pos he]
  have HN:Hid (lnE f x c sz dz≠0):=he
  clear he
  go_enter Tryz.func72,Tryz.ntmps72
  go_wp2_with fail
  refine hC.mono ?_
  rintro e v1 ⟨rfl,hB⟩
  have HB1:Hid (Below w.heap.size w v1):=HB0.trans (hB.mono HB0.size)
  have HR:Hid (Abx v1 (w.heap.size+1) (.bool false) (.slice none 0 0) (.slice none 0 0)):=pr.go hB
  clear hB hC pa pr p0 p1 p2 HB0
  have r0:=HR.c0
  have r1:=HR.c1
  have r2:=HR.c2
  have f0:=HR.fr 0
  have f1:=HR.fr 1
  have f2:=HR.fr 2
  go_wp2_with fail
  have F:=HR.set3 (.bool false) (.slice none 0 0) (.slice none 0 0)
  have q0:=F.c0
  have q1:=F.c1
  have q2:=F.c2
  exact bodyPost_ret (v:=.tuple #[.agg #[.bool false,.slice none 0 0,.slice none 0 0],.iface 28 (.int .i64 (lnE f x c sz dz))]) (by simp[results,Tryz.results72,go_sem,q0,q1,q2]) rfl (ub12_no HE.out HN.out (bel_set3 HB1.out (by omega) _ _ _))
theorem windows1_any (k n q:Nat)(hk:k<=4096)(hn:n<=4096)(w:World)(h:w.cell? ⟨q,0,none⟩=some (.int .i64 (n:Nat))):Calls Tryz.prog 215 #[.int .i64 (k:Nat),.pointer (some ⟨q,0,none⟩)] w (EnP k (k+n) w):=by
 go_enter Tryz.func215,Tryz.ntmps215
 go_wp2_with fail
 go_quiet (fail)
 go_wp2_with fail
 go_ret2
 exact⟨by first | rfl | simp,bel_drewN (Below.refl _ _) _⟩
theorem wd_holds:CWd:=by
 intro f n x c sa sc sz da dc dz w hf hn hx h1 h2 hs hd T
 have HI:Hid (IsC w.heap.size w sa sz sc/\IsInts w.heap.size w da dz/\∀ j,In64 (nth dz j)):=⟨hs,hd,T⟩
 obtain⟨W0,hW0⟩:∃ W0,W0=w.alloc (.cells #[.int .i64 n] 3):=⟨_,rfl⟩
 have hs0:W0.heap.size=w.heap.size+1:=by rw[hW0];simp
 have hq0:Boxed W0 w.heap.size 3 (.int .i64 n):=by rw[hW0];exact Boxed.new _ _ _
 have hb0:Below w.heap.size w W0:=by rw[hW0];exact (Below.refl _ w).alloc (Nat.le_refl _) _
 have HB0:Hid (Below w.heap.size w ((W0.alloc (.cells #[.bool c,.slice sa sz.length sc,.slice da dz.length dc] 27)).alloc (.cells #[.bool false,.slice none 0 0,.slice none 0 0] 27))):=(hb0.alloc hb0.size _).alloc (by simp;omega) _
 have pa:=(Abx.new W0 (.bool c) (.slice sa sz.length sc) (.slice da dz.length dc)).al (.cells #[.bool false,.slice none 0 0,.slice none 0 0] 27)
 have pr:=Abx.new1 W0 (.cells #[.bool c,.slice sa sz.length sc,.slice da dz.length dc] 27) (.bool false) (.slice none 0 0) (.slice none 0 0)
 have hq:=(hq0.alloc (.cells #[.bool c,.slice sa sz.length sc,.slice da dz.length dc] 27)).alloc (.cells #[.bool false,.slice none 0 0,.slice none 0 0] 27)
 have hC:=fcheck_any f x c sa sc sz da dc dz h1 h2 _ ((HI.1.1.below HB0.out).mono HB0.size) ((HI.2.1.below HB0.out).mono HB0.size)
 rw[hs0] at pa pr
 have hs9:((W0.alloc (.cells #[.bool c,.slice sa sz.length sc,.slice da dz.length dc] 27)).alloc (.cells #[.bool false,.slice none 0 0,.slice none 0 0] 27)).heap.size=w.heap.size+3:=by simp;omega
 rw[hW0] at HB0 pa pr hq hC hs9
 clear hs hd T hf hx hq0 hb0 hW0 hs0 W0
 have p0:=pa.c0
 have p1:=pa.c1
 have p2:=pa.c2
 by_cases he:lnE f x c sz dz=0
 ·rw[he,errV_zero] at hC
  obtain⟨hfn,hfl,hx,hc⟩:=lnE_zero.1 he
  subst hc
  obtain⟨xn,rfl⟩:∃ xn:Nat,x=(xn:Int):=⟨x.toNat,by omega⟩
  have hxl:xn<sz.length:=by omega
  have hz:=(errOf_zero.1 (flawE_zero hfl).1)
  have hln:=hz.2.1.nth xn
  have HH:Hid (lnE f (xn:Int) false sz dz=0/\(1<=f/\f<=16)/\flawE false sz dz=0):=⟨he,hfn,hfl⟩
  obtain⟨L,hL⟩:∃ L:Nat,(L:Int)=nth sz xn:=⟨(nth sz xn).toNat,by omega⟩
  have HL:Hid ((L:Int)=nth sz xn):=hL
  have hL4:L<=4096:=by omega
  have hl6:=hz.1
  go_enter Tryz.func141,Tryz.ntmps141
  go_wp2_with fail
  refine hC.mono ?_
  rintro e v1 ⟨rfl,hB⟩
  have HB1:Hid (Below w.heap.size w v1):=HB0.trans (hB.mono HB0.size)
  have HP:Hid (Abx v1 (w.heap.size+1) (.bool false) (.slice sa sz.length sc) (.slice da dz.length dc)):=pa.go hB
  have HR:Hid (Abx v1 (w.heap.size+2) (.bool false) (.slice none 0 0) (.slice none 0 0)):=pr.go hB
  have HQ:Hid (Boxed v1 w.heap.size 3 (.int .i64 n)):=boxed_below hq hB (by rw[hs9];omega)
  obtain⟨bs,os,rfl,hbs,hcS⟩:=(HI.1.1.below HB1.out).at hxl
  have cs1:=hcS xn hxl
  rw[<-hL] at cs1
  clear hcS hC hB pa pr p0 p1 p2 HB0 he hfl hz hln hL hq hs9 hfn
  have p0:=HP.c0
  have p1:=HP.c1
  have p2:=HP.c2
  have cq:=HQ.cell
  have hvr:w.heap.size+2<v1.heap.size:=HR.lt
  by_cases hbad:n<1\/(L:Int)<n
  ·have HE:Hid (wdE f n (xn:Int) false sz dz=4):=by show _=_;unfold wdE;rw[if_neg (not_not_intro HH.1),Int.toNat_natCast,<-HL.out,if_pos hbad]
   have r0:=HR.c0
   have r1:=HR.c1
   have r2:=HR.c2
   have f0:=HR.fr 0
   have f1:=HR.fr 1
   have f2:=HR.fr 2
   by_cases hn1:n<1
   ·clear hbad
    go_wp2_with fail
    have F:=HR.set3 (.bool false) (.slice none 0 0) (.slice none 0 0)
    have q0:=F.c0
    have q1:=F.c1
    have q2:=F.c2
    exact bodyPost_ret (v:=.tuple #[.agg #[.bool false,.slice none 0 0,.slice none 0 0],.iface 28 (.int .i64 4)]) (by simp[results,Tryz.results141,go_sem,q0,q1,q2]) rfl (ub12_no HE.out (by decide) (bel_set3 HB1.out (by omega) _ _ _))
   ·have hn2:(L:Int)<n:=by omega
    clear hbad
    go_wp2_with fail
    have F:=HR.set3 (.bool false) (.slice none 0 0) (.slice none 0 0)
    have q0:=F.c0
    have q1:=F.c1
    have q2:=F.c2
    exact bodyPost_ret (v:=.tuple #[.agg #[.bool false,.slice none 0 0,.slice none 0 0],.iface 28 (.int .i64 4)]) (by simp[results,Tryz.results141,go_sem,q0,q1,q2]) rfl (ub12_no HE.out (by decide) (bel_set3 HB1.out (by omega) _ _ _))
  ·obtain⟨nn,rfl⟩:∃ nn:Nat,n=(nn:Int):=⟨n.toNat,by omega⟩
   have hn1:¬ (nn:Int)<1:=by omega
   have hn2:¬ (L:Int)<(nn:Int):=by omega
   obtain⟨M,hM⟩:∃ M:Nat,M=L-nn+1:=⟨_,rfl⟩
   have hMi:(L:Int)-(nn:Int)+1=(M:Int):=by omega
   obtain⟨hr1,hr2,hr3⟩:=rn_windows (f:=f) (n:=(nn:Int)) hxl HH.1 (by omega) (by rw[<-HL.out];omega) (M:=M) (by rw[<-HL.out];omega)
   have hU:=(runs_any f xn (some ⟨bs,os,none⟩) sc sz da dc dz M 215 [.pointer (some ⟨w.heap.size,0,none⟩)] (enters_of Tryz.func215 (by kernel_rfl) rfl) (fun k=>k) (fun k=>k+(nn:Int).toNat) HH.2.1 HH.2.2 hxl (by omega) HI.2.2 (fun k hk=>⟨.inl (by show k<k+(nn:Int).toNat;omega),by show ((k+(nn:Int).toNat:Nat):Int)<=_;rw[<-HL.out];omega⟩) v1 ((HI.1.below HB1.out).mono HB1.size) ((HI.2.1.below HB1.out).mono HB1.size) (fun k hk w' hB'=>windows1_any k nn _ (by omega) (by omega) w' ((hB'.cell (p:=⟨w.heap.size,0,none⟩) (by show w.heap.size<_;omega)).trans HQ.cell))).mono fun _ _ h=>UBr.ub h
   rw[hr1,hr2,hr3] at hU
   have HS:Hid (UB (wdE f (nn:Int) (xn:Int) false sz dz) false (wdS12 f (nn:Int) (xn:Int) false sz dz) (wdD12 f (nn:Int) (xn:Int) false sz dz) w=UB (wdE f (nn:Int) (xn:Int) false sz dz) false (onl (wdE f (nn:Int) (xn:Int) false sz dz) (wdS (nn:Int) xn sz)) (onl (wdE f (nn:Int) (xn:Int) false sz dz) (wdD f (nn:Int) sz dz xn)) w):=by
    show _=_;unfold wdS12 wdD12;rw[Int.toNat_natCast]
   generalize onl (wdE f (nn:Int) (xn:Int) false sz dz) (wdS (nn:Int) xn sz)=S at *
   generalize onl (wdE f (nn:Int) (xn:Int) false sz dz) (wdD f (nn:Int) sz dz xn)=D at *
   have HU:Hid (Calls Tryz.prog 112 #[.int .i64 f,.int .i64 (xn:Nat),.agg #[.bool false,.slice (some ⟨bs,os,none⟩) sz.length sc,.slice da dz.length dc],.int .i64 (M:Nat),.func (.func 215) #[] #[.pointer (some ⟨w.heap.size,0,none⟩)]] v1 (UB (wdE f (nn:Int) (xn:Int) false sz dz) false S D v1)):=hU
   have HMi:Hid ((L:Int)-(nn:Int)+1=(M:Int)):=hMi
   clear hr1 hr2 hr3 hU hMi hM hbad
   go_wp2_with fail
   rw[HMi.out]
   refine HU.mono ?_
   rintro e w3 ⟨xa,xc,ya,yc,rfl,hX,hY,hBc⟩
   have HBc:Hid (Below v1.heap.size v1 w3):=hBc
   have HNn:Hid (NewC v1.heap.size w3 xa S xc/\NewC v1.heap.size w3 ya D yc):=⟨hX,hY⟩
   have R3:=HR.go hBc
   have r0:=R3.c0
   have r1:=R3.c1
   have r2:=R3.c2
   have f0:=R3.fr 0
   have f1:=R3.fr 1
   have f2:=R3.fr 2
   clear hX hY hBc p0 p1 p2 cq cs1
   generalize hEE:wdE f (nn:Int) (xn:Int) false sz dz=E at *
   go_wp2_with fail
   have F:=R3.set3 (.bool false) (.slice xa S.length xc) (.slice ya D.length yc)
   have q0:=F.c0
   have q1:=F.c1
   have q2:=F.c2
   refine bodyPost_ret (v:=.tuple #[.agg #[.bool false,.slice xa S.length xc,.slice ya D.length yc],errV E]) (by simp[results,Tryz.results141,go_sem,q0,q1,q2]) rfl ?_
   rw[HS.out]
   exact⟨xa,xc,ya,yc,rfl,(HNn.1.set3 (b:=w.heap.size+2) (by omega) _ _ _).low (lo':=w.heap.size) (by omega),(HNn.2.set3 (b:=w.heap.size+2) (by omega) _ _ _).low (lo':=w.heap.size) (by omega),bel_set3 (HB1.trans (HBc.mono HB1.size)) (by omega) _ _ _⟩
 ·rw[errV_pos he] at hC
  have HE:Hid (wdE f n x c sz dz=lnE f x c sz dz):=by show _=_;unfold wdE;rw[if_pos he]
  have HN:Hid (lnE f x c sz dz≠0):=he
  clear he
  go_enter Tryz.func141,Tryz.ntmps141
  go_wp2_with fail
  refine hC.mono ?_
  rintro e v1 ⟨rfl,hB⟩
  have HB1:Hid (Below w.heap.size w v1):=HB0.trans (hB.mono HB0.size)
  have HR:Hid (Abx v1 (w.heap.size+2) (.bool false) (.slice none 0 0) (.slice none 0 0)):=pr.go hB
  clear hB hC pa pr p0 p1 p2 HB0
  have r0:=HR.c0
  have r1:=HR.c1
  have r2:=HR.c2
  have f0:=HR.fr 0
  have f1:=HR.fr 1
  have f2:=HR.fr 2
  go_wp2_with fail
  have F:=HR.set3 (.bool false) (.slice none 0 0) (.slice none 0 0)
  have q0:=F.c0
  have q1:=F.c1
  have q2:=F.c2
  exact bodyPost_ret (v:=.tuple #[.agg #[.bool false,.slice none 0 0,.slice none 0 0],.iface 28 (.int .i64 (lnE f x c sz dz))]) (by simp[results,Tryz.results141,go_sem,q0,q1,q2]) rfl (ub12_no HE.out HN.out (bel_set3 HB1.out (by omega) _ _ _))
end Go.Proofs.YtkmmkcpfhnifhaaGreatDoor
namespace Go.Proofs
open Go.Shelf
def Tryz.laysDelete_ren:Go.Shelf.Ren:=⟨fun | 23=>114 | n=>n,fun | 22=>25 | 3=>3 | 4=>4 | 0=>0 | n=>n,fun | n=>n⟩
theorem Tryz.laysDelete:Go.Proofs.Lays2.n23 Tryz.prog Tryz.laysDelete_ren:={
 mixed:=by kernel_rfl
 f23:=Tryz.func114.trans (congrArg some (by kernel_rfl))
 t0:=Tryz.underlying0
 a0:=Tryz.isAgg0
 z0:=Tryz.sizeOf0
 v0:=Tryz.zeroValue0
 t3:=Tryz.underlying3
 a3:=Tryz.isAgg3
 z3:=Tryz.sizeOf3
 v3:=Tryz.zeroValue3
 t4:=Tryz.underlying4
 a4:=Tryz.isAgg4
 z4:=Tryz.sizeOf4
 v4:=Tryz.zeroValue4
 t22:=Tryz.underlying25
 a22:=Tryz.isAgg25
 z22:=Tryz.sizeOf25
 v22:=Tryz.zeroValue25
 i3:=by kernel_rfl }
end Go.Proofs
