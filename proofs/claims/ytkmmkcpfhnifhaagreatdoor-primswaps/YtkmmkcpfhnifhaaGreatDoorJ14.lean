/- What the program tells, in part. -/
import Derived.Test.YtkmmkcpfhnifhaaGreatDoorJ08
import Derived.Lib.SliceRun
set_option linter.unusedVariables false
set_option maxHeartbeats 2000000
set_option maxRecDepth 100000
namespace Go.Proofs.YtkmmkcpfhnifhaaGreatDoor
open Go.RowKit
def WaP (c:Bool)(sa:Option Addr)(sc:Nat)(sz:List Int)(da:Option Addr)(dc:Nat)(dz:List Int)(w:World)(r:Ending)(w':World):Prop:=∃ xa xc,r=.returned (.agg #[.bool c,.slice xa (axS sz).length xc,.slice da dz.length dc])/\Hid ((xa=sa/\xc=sc/\axS sz=sz)\/NewC w.heap.size w' xa (axS sz) xc)/\Below w.heap.size w w'
theorem wax_ne (c:Bool)(sa:Option Addr)(sc:Nat)(sz:List Int)(da:Option Addr)(dc:Nat)(dz:List Int)(h0:sz.length≠0)(h6:sz.length<=6)(w:World):Calls Tryz.prog 188 #[.agg #[.bool c,.slice sa sz.length sc,.slice da dz.length dc]] w (WaP c sa sc sz da dc dz w):=by
 have t0:((sz.length:Int) == 0)=false:=beq_eq_false_iff_ne.2 (by omega)
 have HB:Hid (Below w.heap.size w ((w.alloc (.cells #[.bool c,.slice sa sz.length sc,.slice da dz.length dc] 27)).alloc (.cells #[.bool c,.slice sa sz.length sc,.slice da dz.length dc] 27))):=((Below.refl _ w).alloc (Nat.le_refl _) _).alloc (by simp) _
 obtain⟨hb,pa,pr⟩:=ent1 w (.bool c) (.slice sa sz.length sc) (.slice da dz.length dc)
 have a0:=pa.c0
 have a1:=pa.c1
 have a2:=pa.c2
 have H0:Hid (axS sz=sz):=if_neg h0
 clear h0
 go_enter Tryz.func188,Tryz.ntmps188
 go_wp2_with fail
 exact bodyPost_ret (v:=.agg #[.bool c,.slice sa sz.length sc,.slice da dz.length dc]) (by simp[results,Tryz.results188,go_sem]) rfl (by unfold WaP;rw[H0.out];exact⟨sa,sc,rfl,.inl ⟨rfl,rfl,rfl⟩,HB.out⟩)
theorem wax_eq (c:Bool)(sa:Option Addr)(sc:Nat)(sz:List Int)(da:Option Addr)(dc:Nat)(dz:List Int)(h0:sz.length=0)(w:World):Calls Tryz.prog 188 #[.agg #[.bool c,.slice sa sz.length sc,.slice da dz.length dc]] w (WaP c sa sc sz da dc dz w):=by
 obtain rfl:=List.length_eq_zero_iff.1 h0
 obtain⟨hb,pa,pr⟩:=ent1 w (.bool c) (.slice sa 0 sc) (.slice da dz.length dc)
 have a0:=pa.c0
 have a1:=pa.c1
 have a2:=pa.c2
 have pa1:=pa.al (.cells #[.int .i64 1] 3)
 have fa:=pa1.fr 1
 have pa2:=pa1.s1 (.slice (some ⟨w.heap.size+1+1,0,none⟩) 1 1)
 have b0:=pa2.c0
 have b1:=pa2.c1
 have b2:=pa2.c2
 go_enter Tryz.func188,Tryz.ntmps188
 go_wp2_with fail
 refine bodyPost_ret (v:=.agg #[.bool c,.slice (some ⟨w.heap.size+1+1,0,none⟩) 1 1,.slice da dz.length dc]) (by simp[results,Tryz.results188,go_sem]) rfl ⟨some ⟨w.heap.size+1+1,0,none⟩,1,rfl,?_,(((Below.refl _ w).alloc (Nat.le_refl _) _).alloc (by simp) _).alloc (by simp;omega) _⟩
 have:=new_ints1 ((w.alloc (.cells #[.bool c,.slice (some ⟨w.heap.size+1+1,0,none⟩) 1 1,.slice da dz.length dc] 27)).alloc (.cells #[.bool c,.slice (some ⟨w.heap.size+1+1,0,none⟩) 1 1,.slice da dz.length dc] 27)) 3 1
 rw[World.size_alloc,World.size_alloc] at this
 exact .inr ⟨this.low (by omega),Nat.le_refl _⟩
theorem wax_any (c:Bool)(sa:Option Addr)(sc:Nat)(sz:List Int)(da:Option Addr)(dc:Nat)(dz:List Int)(h6:sz.length<=6)(w:World):Calls Tryz.prog 188 #[.agg #[.bool c,.slice sa sz.length sc,.slice da dz.length dc]] w (WaP c sa sc sz da dc dz w):=by
 by_cases h0:sz.length=0
 ·exact wax_eq c sa sc sz da dc dz h0 w
 ·exact wax_ne c sa sc sz da dc dz h0 h6 w
theorem axS_len {sz:List Int}(h:sz.length<=6):1<=(axS sz).length/\(axS sz).length<=6:=by
 unfold axS
 split
 ·exact⟨Nat.le_refl _,by decide⟩
 ·omega
theorem join_any (HJ:CJn)  (c:Bool)(sa:Option Addr)(sc:Nat)(sz:List Int)(da:Option Addr)(dc:Nat)(dz:List Int)(c':Bool)(sa':Option Addr)(sc':Nat)(sz':List Int)(da':Option Addr)(dc':Nat)(dz':List Int)(w:World)(hA:ArF w c sa sc sz da dc dz)(hA':ArF w c' sa' sc' sz' da' dc' dz'):
  Calls Tryz.prog 119 #[.agg #[.bool c,.slice sa sz.length sc,.slice da dz.length dc],.agg #[.bool c',.slice sa' sz'.length sc',.slice da' dz'.length dc']] w (AnP (joA c sz dz c' sz' dz') w):=by
 have HA:Hid (ArF w c sa sc sz da dc dz/\ArF w c' sa' sc' sz' da' dc' dz'):=⟨hA,hA'⟩
 have h6:=hA.s6.1
 have h6':=hA'.s6.1
 clear hA hA'
 obtain⟨A,hAe⟩:∃ A,joA c sz dz c' sz' dz'=A:=⟨_,rfl⟩
 have HAE:Hid (joA c sz dz c' sz' dz'=A):=hAe
 rw[hAe]
 clear hAe
 obtain⟨hb,pa,pb,pr⟩:=ent2 w (.bool c) (.slice sa sz.length sc) (.slice da dz.length dc) (.bool c') (.slice sa' sz'.length sc') (.slice da' dz'.length dc')
 have a0:=pa.c0
 have a1:=pa.c1
 have a2:=pa.c2
 have b0:=pb.c0
 have b1:=pb.c1
 have b2:=pb.c2
 have hz0:=hb.size
 have hlt0:=pr.lt
 go_enter Tryz.func119,Tryz.ntmps119
 go_wp2_with fail
 obtain⟨W0,hW⟩:∃ W0,W0=(((w.alloc (.cells #[.bool c,.slice sa sz.length sc,.slice da dz.length dc] 27)).alloc (.cells #[.bool c',.slice sa' sz'.length sc',.slice da' dz'.length dc'] 27)).alloc (.cells #[.bool false,.slice none 0 0,.slice none 0 0] 27)):=⟨_,rfl⟩
 rw[<-hW] at hb pa pb pr a0 a1 a2 b0 b1 b2 hlt0 hz0 ⊢
 clear hW
 have HBd:Hid (Below w.heap.size w W0.drew):=hb.drew
 refine bT 3 (fun w'=>w'.cell? ⟨w.heap.size,0,none⟩=some (.bool c)/\w'.cell? ⟨w.heap.size,1,none⟩=some (.slice sa sz.length sc)/\w'.cell? ⟨w.heap.size,2,none⟩=some (.slice da dz.length dc)/\w'.cell? ⟨w.heap.size+1,0,none⟩=some (.bool c')/\w'.cell? ⟨w.heap.size+1,1,none⟩=some (.slice sa' sz'.length sc')/\w'.cell? ⟨w.heap.size+1,2,none⟩=some (.slice da' dz'.length dc')) 6 (⟨a0,a1,a2,b0,b1,b2⟩) fun hq0=>?_
 refine lT 2 hq0 ?_
 clear hq0
 refine oT 0 fun K hK=>?_
 go_simp
 refine hK.out _ _ (fun _=>⟨a0,a1,a2,b0,b1,b2⟩) ?_
 clear hK K
 refine oT 1 fun K hK=>?_
 go_simp
 go_wp2_with (go_at_call 188;refine (wax_any c sa sc sz da dc dz h6 _).mono ?_;rintro e v1 ⟨xa1,xc1,rfl,hX1,hB1⟩)
 have pa1:=goA16 pa ((Below.refl _ _).drew.trans hB1)
 have pb1:=goA16 pb ((Below.refl _ _).drew.trans hB1)
 have pr1:=goA16 pr ((Below.refl _ _).drew.trans hB1)
 have hb1:=goB16 hb ((Below.refl _ _).drew.trans hB1)
 refine hK.out _ _ (fun _=>⟨pa1.c0,pa1.c1,pa1.c2,pb1.c0,pb1.c1,pb1.c2⟩) ?_
 clear hK K
 refine oT 3 fun K hK=>?_
 go_simp
 go_wp2_with (go_at_call 188;refine (wax_any c' sa' sc' sz' da' dc' dz' h6' _).mono ?_;rintro e v2 ⟨xa2,xc2,rfl,hX2,hB2⟩)
 have pa2:=goA16 pa1 hB2
 have pb2:=goA16 pb1 hB2
 have pr2:=goA16 pr1 hB2
 have hb2:=goB16 hb1 hB2
 have c0:=pa2.c0
 have c1:=pa2.c1
 have c2:=pa2.c2
 have f0:=pa2.fr 0
 have f1:=pa2.fr 1
 have f2:=pa2.fr 2
 have d0:=pb2.c0
 have d1:=pb2.c1
 have d2:=pb2.c2
 have g0:=pb2.fr 0
 have g1:=pb2.fr 1
 have g2:=pb2.fr 2
 refine hK.out _ _ (fun h=>absurd h (by decide)) ?_
 clear hK K
 refine oT 4 fun K hK=>?_
 go_simp
 refine hK.out _ _ (fun h=>absurd h (by decide)) ?_
 clear hK K
 refine oT 5 fun K hK=>?_
 go_simp
 refine hK.out _ _ (fun h=>absurd h (by decide)) ?_
 clear hK K
 refine dT ?_
 clear a0 a1 a2 b0 b1 b2 c0 c1 c2 d0 d1 d2 f0 f1 f2 g0 g1 g2
 have qa:=(pa2.set3 (.bool c) (.slice xa1 (axS sz).length xc1) (.slice da dz.length dc)).ot3 (B:=w.heap.size+1) (by omega) (.bool c') (.slice xa2 (axS sz').length xc2) (.slice da' dz'.length dc')
 have qb:=(abx_o3 pb2.out (B:=w.heap.size) (by omega) (.bool c) (.slice xa1 (axS sz).length xc1) (.slice da dz.length dc)).set3 (.bool c') (.slice xa2 (axS sz').length xc2) (.slice da' dz'.length dc')
 have qr:=abx_o3 (abx_o3 pr2.out (B:=w.heap.size) (by omega) (.bool c) (.slice xa1 (axS sz).length xc1) (.slice da dz.length dc)) (B:=w.heap.size+1) (by omega) (.bool c') (.slice xa2 (axS sz').length xc2) (.slice da' dz'.length dc')
 have qh:=bel_set3 (bel_set3 hb2.out (b:=w.heap.size) (Nat.le_refl _) (.bool c) (.slice xa1 (axS sz).length xc1) (.slice da dz.length dc)) (b:=w.heap.size+1) (by omega) (.bool c') (.slice xa2 (axS sz').length xc2) (.slice da' dz'.length dc')
 have hz4:W0.heap.size<=v1.heap.size:=hB1.size
 have hz5:v1.heap.size<=v2.heap.size:=hB2.size
 obtain⟨U,hU⟩:∃ U,U=((((((v2.setCell ⟨w.heap.size,0,none⟩ (.bool c)).setCell ⟨w.heap.size,1,none⟩ (.slice xa1 (axS sz).length xc1)).setCell ⟨w.heap.size,2,none⟩ (.slice da dz.length dc))).setCell ⟨w.heap.size+1,0,none⟩ (.bool c')).setCell ⟨w.heap.size+1,1,none⟩ (.slice xa2 (axS sz').length xc2)).setCell ⟨w.heap.size+1,2,none⟩ (.slice da' dz'.length dc'):=⟨_,rfl⟩
 have I1:IsC U.heap.size U xa1 (axS sz) xc1:=by
  rcases hX1 with ⟨rfl,rfl,e⟩ | h
  ·rw[e,hU];exact (HA.1.1.below qh).mono qh.size
  ·rw[hU];replace h:=h.go hB2;exact ((h.set3 (b:=w.heap.size) (by show w.heap.size<W0.heap.size;omega) (.bool c) (.slice xa1 (axS sz).length xc1) (.slice da dz.length dc)).set3 (b:=w.heap.size+1) (by show w.heap.size+1<W0.heap.size;omega) (.bool c') (.slice xa2 (axS sz').length xc2) (.slice da' dz'.length dc')).ints
 have I2:IsC U.heap.size U xa2 (axS sz') xc2:=by
  rcases hX2 with ⟨rfl,rfl,e⟩ | h
  ·rw[e,hU];exact (HA.2.1.below qh).mono qh.size
  ·rw[hU];exact ((h.set3 (b:=w.heap.size) (by omega) (.bool c) (.slice xa1 (axS sz).length xc1) (.slice da dz.length dc)).set3 (b:=w.heap.size+1) (by omega) (.bool c') (.slice xa2 (axS sz').length xc2) (.slice da' dz'.length dc')).ints
 have HI:Hid (IsC U.heap.size U xa1 (axS sz) xc1/\IsC U.heap.size U xa2 (axS sz') xc2):=⟨I1,I2⟩
 rw[<-hU] at qa qb qr qh ⊢
 replace hb:Hid (Below w.heap.size w U):=qh
 replace pr:Hid (Abx U (w.heap.size+1+1) (.bool false) (.slice none 0 0) (.slice none 0 0)):=qr
 have c0:=qa.c0
 have c1:=qa.c1
 have c2:=qa.c2
 have d0:=qb.c0
 have d1:=qb.c1
 have d2:=qb.c2
 have hl1:=axS_len h6
 have hl2:=axS_len h6'
 have HC:Hid (Calls Tryz.prog 189 #[.int .i64 (((axS sz).length:Int)-1),.agg #[.bool c,.slice xa1 (axS sz).length xc1,.slice da dz.length dc],.agg #[.bool c',.slice xa2 (axS sz').length xc2,.slice da' dz'.length dc']] U (AnP A U)):=by
  have h:=HJ (((axS sz).length-1:Nat):Int) c xa1 xc1 (axS sz) da dc dz c' xa2 xc2 (axS sz') da' dc' dz' U (by unfold In64;omega) (by omega) HA.1.h2 (by omega) HA.2.h2 HI.1 (HA.1.go hb.out).2.1 HI.2 (HA.2.go hb.out).2.1 HA.1.2.2.1 HA.2.2.2.1
  rw[<-HAE.out,show ((axS sz).length:Int)-1=(((axS sz).length-1:Nat):Int) by omega]
  exact h
 clear I1 I2 hU qa qb qr qh pa pb pa1 pb1 pr1 hb1 pa2 pb2 pr2 hb2 hX1 hX2 hB1 hB2 HBd
 go_wp2_with fail
 refine HC.mono ?_
 clear HC c0 c1 c2 d0 d1 d2 HI
 intro e v9 hU
 obtain⟨xa,xc,ya,yc,E,rfl,HU⟩:=hU.out16
 clear hU
 have hz9:=HU.2.2.2.size
 have hlt:=pr.lt
 have HW:=HU.2
 replace pr:=goA16 pr HU.2.2.2
 have r0:=pr.c0
 have r1:=pr.c1
 have r2:=pr.c2
 have f0:=pr.fr 0
 have f1:=pr.fr 1
 have f2:=pr.fr 2
 go_wp2_with fail
 have FF:=pr.set3 (.bool A.c) (.slice xa A.s.length xc) (.slice ya A.d.length yc)
 have q0:=FF.c0
 have q1:=FF.c1
 have q2:=FF.c2
 exact bodyPost_ret (v:=.tuple #[.agg #[.bool A.c,.slice xa A.s.length xc,.slice ya A.d.length yc],E]) (by simp[results,Tryz.results119,go_sem,q0,q1,q2]) rfl (ret16 (A:=A) (by omega) hlt hb.out HU.2.1 HU.2.2.1 HU.2.2.2 HU.1 _ _ _)
theorem step_any (a:Option Addr)(cap:Nat)(zs:List Int)(x:Nat)(hx:x<zs.length)(he:errOf zs=0)(n₀:Nat)(w:World)(hI:IsC n₀ w a zs cap):
  Calls Tryz.prog 231 #[.slice a zs.length cap,.int .i64 (x:Nat)] w fun e w'=>e=.returned (.int .i64 (stp zs x))/\w'=w:=by
 obtain⟨hI,hcap⟩:=hI
 obtain⟨b,off,rfl,hb,hcell⟩:=hI.at hx
 have hz:=errOf_zero.1 he
 have hl6:zs.length<=6:=hz.1
 have HA:Hid (AllIn zs):=hz.2.1
 have HC:Hid (∀ j,j<zs.length->w.cell? ⟨b,off+j,none⟩=some (.int .i64 (nth zs j))):=hcell
 obtain⟨m,hm⟩:∃ m,zs.length=x+1+m:=⟨zs.length-(x+1),by omega⟩
 obtain⟨s,hs⟩:∃ s,s=zs.drop (x+1):=⟨_,rfl⟩
 have hsl:s.length=m:=by rw[hs,List.length_drop];omega
 have HS:Hid (s.length=m/\(∀ j,j<m->nth s j=nth zs (x+1+j))/\AllIn s/\prod s=stp zs x):=⟨hsl,fun j hj=>by rw[hs];simp[nth],by rw[hs];exact HA.drop _,by rw[hs];rfl⟩
 clear hs hsl hcell HA
 have hx1:x<9223372036854775806:=by omega
 have HF:Hid (m<=5):=by show m<=5;omega
 by_cases hne:cap=x+1
 ·have hm0:m=0:=by omega
  subst hm0
  have hfin:Hid (stp zs x=1):=by
   have h:=HS.out
   have e:s=[]:=List.eq_nil_of_length_eq_zero h.1
   rw[e] at h
   exact h.2.2.2.symm
  go_enter Tryz.func231,Tryz.ntmps231
  go_wp2_with fail
  go_loop [5,13] (fun pv i=>pv=.int .i64 1/\i=.int .i64 0) (fun _ i=>0)
  case atStart=>exact⟨rfl,rfl⟩
  case round=>
   obtain⟨rfl,rfl⟩:=hrel
   go_wp2_with fail
   go_ret
   exact⟨ret_int hfin.symm,rfl⟩
 ·go_enter Tryz.func231,Tryz.ntmps231
  go_wp2_with fail
  go_loop [5,13] (fun pv i=>∃ k:Nat,k<=m/\i=.int .i64 k/\pv=.int .i64 (prod (s.take k))) (fun _ i=>m-(intOf i).toNat)
  case atStart=>exact⟨0,Nat.zero_le _,rfl,rfl⟩
  case round=>
   obtain⟨k,hk,rfl,rfl⟩:=hrel
   by_cases hlt:k<m
   ·have hc:w.cell? ⟨b,off+(x+1)+k,none⟩=some (.int .i64 (nth s k)):=by
     rw[HS.2.1 k hlt,<-HC.out (x+1+k) (by omega),Nat.add_assoc]
    have HP:Hid (prod (s.take k)*nth s k=prod (s.take (k+1))/\0<=prod (s.take (k+1))/\prod (s.take (k+1))<=1152921504606846976):=by
     refine⟨(prod_take1 s k (by rw[HS.1];exact hlt)).symm,prod_60 (fun y hy=>HS.2.2.1 y (List.mem_of_mem_take hy)) ?_⟩
     have:=HF.out
     rw[List.length_take];omega
    obtain⟨P,hP⟩:∃ P,P=prod (s.take k):=⟨_,rfl⟩
    obtain⟨Q,hQ⟩:∃ Q,Q=prod (s.take (k+1)):=⟨_,rfl⟩
    rw[<-hP]
    have HPQ:Hid (P*nth s k=Q/\0<=Q/\Q<=1152921504606846976):=by rw[hP,hQ];exact HP.out
    have HQ:Hid (Q=prod (s.take (k+1))):=hQ
    have hw:IntKind.i64.wrap (P*nth s k)=Q:=by rw[HPQ.1];exact IntWalk.i64_in _ (by have:=HPQ.2;omega)
    clear hP hQ HP
    go_wp2_with fail
    exact⟨⟨k+1,by omega,by go_num,int_eq HQ.out⟩,by simp[intOf];omega⟩
   ·obtain rfl:k=m:=by omega
    have hfin:Hid (prod (s.take k)=stp zs x):=by
     have h:=HS.out
     rw[List.take_of_length_le (by omega)]
     exact h.2.2.2
    go_wp2_with fail
    go_ret
    exact⟨ret_int hfin.out,rfl⟩
theorem empty_own (w:World)(t:TypeId):(w.alloc (.cells #[] t)).ownsRow w.heap.size t 1 (.slice (some ⟨w.heap.size,0,none⟩) 0 0) 0 []:=
 ⟨rfl,.inr ⟨w.heap.size,0,#[],rfl,Nat.le_refl _,World.alloc_heap_new w _,Nat.le_refl _,by unfold maxLen;omega,rfl,rfl⟩⟩
theorem clone_any (a:Option Addr)(cap:Nat)(zs:List Int)(h1:zs.length<=100000)(w:World)(hI:IsInts w.heap.size w a zs):
  Calls Tryz.prog 179 #[.slice a zs.length cap] w fun e w'=>∃ g c,e=.returned (.slice g zs.length c)/\NewC w.heap.size w' g zs c/\Below w.heap.size w w':=by
 have q0:∀ (w:World) (a:Option Addr) (n c n' c':Nat),(binOp .eql 25 (.slice a n c) (.slice none n' c')).run Tryz.prog w=.ok (.bool a.isNone) w:=fun w a n c n' c'=>Lib.run_eql_slice_nil w _ _ a n c n' c' Tryz.underlying25
 obtain⟨i0,hi,hz0,hz1,hz2⟩:=info_parts Tryz.infoInt
 cases a with
 | none=>
  have hz:zs=[]:=by
   rcases hI with h | ⟨_,_,h,_⟩
   ·exact h
   ·cases h
  subst hz
  go_enter Tryz.func179,Tryz.ntmps179
  go_wp2_with fail
  go_ret
  exact⟨none,0,rfl,⟨.inl rfl,Nat.le_refl _⟩,Below.refl _ _⟩
 | some ad=>
  have H0:=empty_own w 3
  have hI':=(hI.below ((Below.refl _ w).alloc (Nat.le_refl _) (.cells #[] 3)))
  have hnews:∀ j u,(zs.map (Value.int .i64))[j]?=some u->(w.alloc (.cells #[] 3)).cell? (ad.add j)=some u:=by
   intro j u hj
   rw[List.getElem?_map] at hj
   by_cases hl:j<zs.length
   ·obtain⟨b,off,e,hb,hc⟩:=hI'.at hl
    cases e
    rw[List.getElem?_eq_getElem hl] at hj
    simp only[Option.map_some] at hj
    obtain rfl:=Option.some.inj hj
    rw[<-nth_get zs j hl]
    have e:(⟨b,off,none⟩:Addr).add j=⟨b,off+j,none⟩:=by
     unfold Addr.add;split
     ·rename_i h0;subst h0;rfl
     ·rfl
    rw[e];exact hc j hl
   ·rw[List.getElem?_eq_none (by omega)] at hj;cases hj
  clear hI hI'
  go_enter Tryz.func179,Tryz.ntmps179
  go_wp2_with (at_builtin;refine wpList_append_own _ rfl _ _ 25 rfl w.heap.size 3 i0 (.int .i64 0) 1 8 Tryz.underlying25 hi hz0 hz1 hz2 rfl (by decide) _ _ _ rfl H0 ad zs.length cap (zs.map (Value.int .i64)) rfl (by simp) hnews (fun x hx=>by obtain⟨y,_,rfl⟩:=List.mem_map.1 hx;rfl) (by unfold maxLen;omega) (by omega) (by simp) ?_;intro v' w3 hown' hgrow3 hnil3)
  rw[List.nil_append,Nat.zero_add] at hown'
  have hB:Below w.heap.size w w3:=((Below.refl _ w).alloc (Nat.le_refl _) _).grown hgrow3 (by simp) (own_ge H0)
  obtain⟨g,c,rfl,hIJ⟩:=own_cap hown'
  go_wp2_with fail
  go_ret
  exact⟨g,c,rfl,hIJ,hB⟩
theorem insB_drop:∀ {s t:List Int} (k:Nat),insB s t=true->insB (s.drop k) (t.drop k)=true
 | _,_,0,h=>h
 | [],[],k+1,_=>by simp[insB]
 | [],_::_,_,h=>by simp[insB] at h
 | _::_,[],_,h=>by simp[insB] at h
 | x::s,a::t,k+1,h=>by
  simp only[insB,Bool.and_eq_true] at h
  exact insB_drop k h.2
def Ins (zs ts:List Int)(pre:List (Ax zs.length)):Prop:=∀ x∈pre,0<=nth ts x.1/\nth ts x.1<nth zs x.1
def Out (zs ts:List Int)(pre:List (Ax zs.length)):Prop:=∃ x∈pre,¬ (0<=nth ts x.1/\nth ts x.1<nth zs x.1)
theorem Ins.nil (zs ts:List Int):Ins zs ts []:=fun x hx=>by cases hx
theorem Ins.snoc {zs ts:List Int}{pre:List (Ax zs.length)}(h:Ins zs ts pre){k:Nat}(hk:k<zs.length)(h1:0<=nth ts k)(h2:nth ts k<nth zs k):Ins zs ts (pre++[⟨k,hk⟩]):=by
 intro x hx
 rcases List.mem_append.1 hx with hx | hx
 ·exact h x hx
 ·rw[List.mem_singleton] at hx;subst hx;exact⟨h1,h2⟩
theorem Out.snoc {zs ts:List Int}{pre:List (Ax zs.length)}{k:Nat}(hk:k<zs.length)(h:¬ (0<=nth ts k/\nth ts k<nth zs k)):Out zs ts (pre++[⟨k,hk⟩]):=
 ⟨⟨k,hk⟩,List.mem_append_right _ (List.mem_singleton.2 rfl),h⟩
def rl (rs:List (List Int))(k:Nat):List Int:=rs.getD k []
def gaS (rs:List (List Int)):List Int:=rs.map fun r=>(r.length:Int)
def gaT (rs:List (List Int))(t:List Int):List Int:=(List.range rs.length).map fun k=>nth (rl rs k) (nth t k).toNat
def gaC (c:Bool)(s dz:List Int)(rs:List (List Int))(t:List Int):Int:=if insB s (gaT rs t)=true then cel s dz (gaT rs t) else fillE c
def gaD (c:Bool)(s dz:List Int)(rs:List (List Int)):List Int:=TA (gaS rs) (gaC c s dz rs)
section
variable {rs : List (List Int)} {t : List Int} {k : Nat}
theorem gaS_length:(gaS rs).length=rs.length:=by simp[gaS]
theorem gaS_nth (h:k<rs.length):nth (gaS rs) k=(rl rs k).length:=by simp[gaS,rl,nth,h]
theorem gaT_length:(gaT rs t).length=rs.length:=by simp[gaT]
theorem gaT_nth (h:k<rs.length):nth (gaT rs t) k=nth (rl rs k) (nth t k).toNat:=by simp[gaT,nth,h]
end
theorem crd_drop:∀ (s:List Int) (p:Int) (k:Nat),(crd s p).1.drop k=(crd (s.drop k) p).1
 | _,_,0=>rfl
 | [],p,k+1=>by simp[crd]
 | x::s,p,k+1=>by
  simp only[crd,List.drop_succ_cons]
  exact crd_drop s p k
theorem crd_at (s:List Int)(p:Int){k:Nat}(h:k<s.length):nth (crd s p).1 k=(crd (s.drop (k+1)) p).2.tmod (nth s k):=by
 have e:=crd_drop s p k
 rw[drop_nth s k h,drop_nth _ k (by rw[crd_len];exact h)] at e
 simp only[crd] at e
 exact (List.cons.inj e).1
def gI (rs:List (List Int))(q:Int)(k:Nat):Int:=nth (rl rs k) (q.tmod (nth (gaS rs) k)).toNat
def gstep {N:Nat}(rs:List (List Int))(zs:List Int)(q:(Int × Int) × (Int × Bool))(x:Ax N):(Int × Int) × (Int × Bool):=
 ((q.1.1.tdiv (nth (gaS rs) x.1),wrap64 (q.1.2+wrap64 (gI rs q.1.1 x.1*q.2.1))),(wrap64 (q.2.1*nth zs x.1),q.2.2 && decide (0<=gI rs q.1.1 x.1/\gI rs q.1.1 x.1<nth zs x.1)))
section
variable {N : Nat} (rs : List (List Int)) (zs : List Int) (p : Int) (pre : List (Ax N))
def gQ:Int:=(pre.foldl (gstep rs zs) ((p,0),(1,true))).1.1
def gV:Int:=(pre.foldl (gstep rs zs) ((p,0),(1,true))).1.2
def gA:Int:=(pre.foldl (gstep rs zs) ((p,0),(1,true))).2.1
def gB:Bool:=(pre.foldl (gstep rs zs) ((p,0),(1,true))).2.2
theorem gQ_snoc (k:Nat)(hk:k<N):gQ rs zs p (pre++[⟨k,hk⟩])=(gQ rs zs p pre).tdiv (nth (gaS rs) k):=by
 simp only[gQ,List.foldl_append,List.foldl_cons,List.foldl_nil,gstep]
theorem gV_snoc (k:Nat)(hk:k<N):gV rs zs p (pre++[⟨k,hk⟩])=wrap64 (gV rs zs p pre+wrap64 (gI rs (gQ rs zs p pre) k*gA rs zs p pre)):=by
 simp only[gQ,gV,gA,List.foldl_append,List.foldl_cons,List.foldl_nil,gstep]
theorem gA_snoc (k:Nat)(hk:k<N):gA rs zs p (pre++[⟨k,hk⟩])=wrap64 (gA rs zs p pre*nth zs k):=by
 simp only[gA,List.foldl_append,List.foldl_cons,List.foldl_nil,gstep]
theorem gB_snoc (k:Nat)(hk:k<N):gB rs zs p (pre++[⟨k,hk⟩])=(gB rs zs p pre && decide (0<=gI rs (gQ rs zs p pre) k/\gI rs (gQ rs zs p pre) k<nth zs k)):=by
 unfold gB gQ
 rw[List.foldl_append]
 rfl
end
theorem gQ_fold {N:Nat}{rs:List (List Int)}{zs:List Int}(h:AllPos (gaS rs))(hN:N=rs.length):∀ (pre:List (Ax N)) (s:(Int × Int) × (Int × Bool)),0<=s.1.1->0<=(pre.foldl (gstep rs zs) s).1.1/\(pre.foldl (gstep rs zs) s).1.1<=s.1.1
 | [],s,hs=>⟨hs,Int.le_refl _⟩
 | x::pre,s,hs=>by
  have hx:=h _ (nth_mem (gaS rs) x.1 (by rw[gaS_length,<-hN];exact x.2))
  have e1:0<=s.1.1.tdiv (nth (gaS rs) x.1):=Int.tdiv_nonneg hs (by omega)
  have e2:s.1.1.tdiv (nth (gaS rs) x.1)<=s.1.1:=by
   have ed:=Int.tmod_add_mul_tdiv s.1.1 (nth (gaS rs) x.1)
   have em:=Int.tmod_nonneg (nth (gaS rs) x.1) hs
   have:1*s.1.1.tdiv (nth (gaS rs) x.1)<=nth (gaS rs) x.1*s.1.1.tdiv (nth (gaS rs) x.1):=Int.mul_le_mul_of_nonneg_right (by omega) e1
   omega
  have ih:=gQ_fold (zs:=zs) h hN pre (gstep rs zs s x) e1
  rw[List.foldl_cons]
  have e3:(gstep rs zs s x).1.1=s.1.1.tdiv (nth (gaS rs) x.1):=rfl
  omega
theorem gQ_bd {N:Nat}{rs:List (List Int)}{zs:List Int}(h:AllPos (gaS rs))(hN:N=rs.length){p:Int}(hp:0<=p)(pre:List (Ax N)):0<=gQ rs zs p pre/\gQ rs zs p pre<=p:=gQ_fold h hN pre ((p,0),(1,true)) hp
theorem gw (V i A:Int):wrap64 (wrap64 V+wrap64 (i*wrap64 A))=wrap64 (i*A+V):=by
 rw[w_mulr,w_addl,w_addr,Int.add_comm]
theorem gfold {N:Nat}(rs:List (List Int))(zs:List Int)(hN:N=rs.length)(hl:N=zs.length)(p:Int)(k:Nat)(hk:k<=N):
  (dn N k).foldl (gstep rs zs) ((p,0),(1,true))=(((crd ((gaS rs).drop (N-k)) p).2,wrap64 (place (zs.drop (N-k)) ((gaT rs (crd (gaS rs) p).1).drop (N-k)))),(wrap64 (prod (zs.drop (N-k))),insB (zs.drop (N-k)) ((gaT rs (crd (gaS rs) p).1).drop (N-k)))):=by
 have:=fold_dn N (gstep rs zs) (fun k=>(((crd ((gaS rs).drop k) p).2,wrap64 (place (zs.drop k) ((gaT rs (crd (gaS rs) p).1).drop k))),(wrap64 (prod (zs.drop k)),insB (zs.drop k) ((gaT rs (crd (gaS rs) p).1).drop k)))) (fun k hk=>by
  have hk':k<rs.length:=by omega
  have e1:=drop_nth zs k (by omega)
  have e2:=drop_nth (gaT rs (crd (gaS rs) p).1) k (by rw[gaT_length];exact hk')
  have e3:=drop_nth (gaS rs) k (by rw[gaS_length];exact hk')
  have e4:gI rs (crd ((gaS rs).drop (k+1)) p).2 k=nth (gaT rs (crd (gaS rs) p).1) k:=by
   rw[gaT_nth hk',crd_at _ _ (by rw[gaS_length];exact hk')];rfl
  simp only[gstep,e4]
  rw[e1,e2,e3]
  simp only[crd,place,prod,insB,gw,w_mull]
  rw[Int.mul_comm (prod _) (nth zs k),Bool.and_comm]) k hk
 have h1:(gaS rs).drop N=[]:=List.drop_eq_nil_of_le (by rw[gaS_length];omega)
 have h2:(gaT rs (crd (gaS rs) p).1).drop N=[]:=List.drop_eq_nil_of_le (by rw[gaT_length];omega)
 have h3:zs.drop N=[]:=List.drop_eq_nil_of_le (by omega)
 have e0:(((p,0),(1,true)):(Int × Int) × (Int × Bool))=(((crd [] p).2,wrap64 (place [] [])),(wrap64 (prod []),insB [] [])):=by simp[crd,place,prod,insB,wrap64]
 rw[<-this,h1,h2,h3,e0]
theorem g_all {N:Nat}{rs:List (List Int)}{zs:List Int}(hN:N=rs.length)(hl:N=zs.length)(p:Nat):gB rs zs p (dn N N)=insB zs (gaT rs (cr (gaS rs) p))/\gV rs zs p (dn N N)=wrap64 (place zs (gaT rs (cr (gaS rs) p))):=by
 have h:=gfold rs zs hN hl p N (Nat.le_refl _)
 rw[Nat.sub_self] at h
 unfold gB gV
 rw[h]
 exact⟨rfl,rfl⟩
theorem g_some {N:Nat}{rs:List (List Int)}{zs:List Int}(hN:N=rs.length)(hl:N=zs.length)(p:Nat){k:Nat}(hk:k<=N)(h:gB rs zs p (dn N k)=false):insB zs (gaT rs (cr (gaS rs) p))=false:=by
 have e:=gfold rs zs hN hl p k hk
 unfold gB at h
 rw[e] at h
 cases hq:insB zs (gaT rs (cr (gaS rs) p))
 ·rfl
 ·rw[<-h];exact (insB_drop (N-k) hq).symm
def runL (f:Int)(m:Nat):List Int:=(List.range m).map fun j=>f+(j:Nat)
theorem runL_length (f:Int)(m:Nat):(runL f m).length=m:=by simp[runL]
theorem runL_nth (f:Int){m j:Nat}(h:j<m):nth (runL f m) j=f+j:=by simp[runL,nth,h]
def endL (n l:Int):List Int:=runL (if 0<=n then 0 else l+n) (tks n).toNat
def tkR (s n:List Int):List (List Int):=(List.range n.length).map fun k=>endL (nth n k) (nth s k)
theorem tkR_length (s n:List Int):(tkR s n).length=n.length:=by simp[tkR]
theorem tkR_at (s n:List Int){k:Nat}(h:k<n.length):rl (tkR s n) k=endL (nth n k) (nth s k):=by simp[tkR,rl,h]
theorem tks_nn (x:Int):0<=tks x:=by unfold tks;split<;>omega
theorem tkR_S (s n:List Int):gaS (tkR s n)=tkS n:=by
 refine nth_ext (by rw[gaS_length,tkR_length,tkS_length]) fun k hk=>?_
 rw[gaS_length,tkR_length] at hk
 rw[gaS_nth (by rw[tkR_length];exact hk),tkR_at s n hk,tkS_nth n hk,endL,runL_length]
 have:=tks_nn (nth n k)
 omega
theorem tkR_T {s n t:List Int}(ht:insB (tkS n) t=true):gaT (tkR s n) t=addL t (tkU s n):=by
 have hl:=insB_len ht
 rw[tkS_length] at hl
 refine nth_ext (by rw[gaT_length,tkR_length,addL_length,hl]) fun k hk=>?_
 rw[gaT_length,tkR_length] at hk
 have hb:=ins_at ht (x:=k) (by rw[tkS_length];exact hk)
 rw[tkS_nth n hk] at hb
 rw[gaT_nth (by rw[tkR_length];exact hk),tkR_at s n hk,endL,runL_nth _ (by omega),addL_nth _ _ (by omega),tkU_nth s n hk]
 omega
theorem tk_ga {s n dz:List Int}{c:Bool}(he:errOf (tkS n)=0):gaD c s dz (tkR s n)=tkD n c s dz:=by
 unfold gaD tkD ptD
 rw[tkR_S]
 exact TA_congr he fun t ht=>by unfold gaC ptC;rw[tkR_T ht]
def rst (n l:Int):Int:=if n<0 then max (l+n) 0 else -max (l-n) 0
def lft (s n:List Int):List Int:=(List.range n.length).map fun k=>rst (nth n k) (nth s k)
theorem lft_length (s n:List Int):(lft s n).length=n.length:=by simp[lft]
theorem lft_nth (s n:List Int){k:Nat}(h:k<n.length):nth (lft s n) k=rst (nth n k) (nth s k):=by simp[lft,nth,h]
theorem rst_tks {n l:Int}(h:0<=l):tks (rst n l)=drs l n/\(if 0<=rst n l then 0 else l+rst n l)=dru l n:=by
 unfold rst tks drs dru
 repeat' split
 all_goals omega
theorem lft_S {s n:List Int}(hs:AllIn s)(hl:n.length=s.length):tkS (lft s n)=drS s n:=by
 refine nth_ext (by rw[tkS_length,lft_length,drS_length]) fun k hk=>?_
 rw[tkS_length,lft_length] at hk
 rw[tkS_nth _ (by rw[lft_length];exact hk),lft_nth s n hk,drS_nth s n hk]
 exact (rst_tks (hs.nth k).1).1
theorem lft_U {s n:List Int}(hs:AllIn s)(hl:n.length=s.length):tkU s (lft s n)=drU s n:=by
 refine nth_ext (by rw[tkU_length,lft_length,drU_length]) fun k hk=>?_
 rw[tkU_length,lft_length] at hk
 rw[tkU_nth _ _ (by rw[lft_length];exact hk),lft_nth s n hk,drU_nth s n hk]
 exact (rst_tks (hs.nth k).1).2
def idR (s:List Int):List (List Int):=s.map fun l=>runL 0 l.toNat
def alR (s:List Int)(x:Nat)(L:List Int):List (List Int):=(idR s).set x L
theorem idR_length (s:List Int):(idR s).length=s.length:=by simp[idR]
theorem idR_at (s:List Int){k:Nat}(h:k<s.length):rl (idR s) k=runL 0 (nth s k).toNat:=by simp[idR,rl,nth,h]
theorem alR_length (s:List Int)(x:Nat)(L:List Int):(alR s x L).length=s.length:=by simp[alR,idR]
theorem rl_set (rs:List (List Int))(x:Nat)(L:List Int)(h:x<rs.length)(k:Nat):rl (rs.set x L) k=if k=x then L else rl rs k:=by
 unfold rl
 simp only[List.getD_eq_getElem?_getD,List.getElem?_set]
 by_cases e:x=k
 ·subst e;simp[h]
 ·rw[if_neg e,if_neg (Ne.symm e)]
theorem alR_at (s:List Int){x:Nat}(L:List Int)(hx:x<s.length){k:Nat}(h:k<s.length):rl (alR s x L) k=if k=x then L else runL 0 (nth s k).toNat:=by
 unfold alR
 rw[rl_set _ _ _ (by rw[idR_length];exact hx),idR_at s h]
theorem alR_S {s:List Int}(hs:AllIn s){x:Nat}(L:List Int)(hx:x<s.length):gaS (alR s x L)=s.set x L.length:=by
 refine nth_ext (by rw[gaS_length,alR_length,List.length_set]) fun k hk=>?_
 rw[gaS_length,alR_length] at hk
 rw[gaS_nth (by rw[alR_length];exact hk),alR_at s L hx hk,nth_set _ _ _ _ hx]
 split
 ·rfl
 ·rw[runL_length];have:=hs.nth k;omega
theorem alR_T {s t:List Int}{x:Nat}{L:List Int}(hx:x<s.length)(ht:insB (s.set x L.length) t=true):gaT (alR s x L) t=t.set x (nth L (nth t x).toNat):=by
 have h:=(insS hx).1 ht
 refine nth_ext (by rw[gaT_length,alR_length,List.length_set,h.1]) fun k hk=>?_
 rw[gaT_length,alR_length] at hk
 rw[gaT_nth (by rw[alR_length];exact hk),alR_at s L hx hk,nth_set _ _ _ _ (by omega)]
 split
 ·rename_i e;rw[e]
 ·rename_i e;have:=h.2.1 k hk e;rw[runL_nth _ (by omega)];omega
def kpl (m:List Int):Nat->List Int
 | 0=>[]
 | i+1=>if nth m i=1 then kpl m i++[(i:Int)] else kpl m i
theorem kpl_fact {m:List Int}(h:mskB m=true):∀ i,i<=m.length->((kpl m i).length:Int)=rnk m i/\∀ j,j<(kpl m i).length->nth (kpl m i) j=pos1 m j
 | 0,_=>⟨rfl,fun j hj=>by simp[kpl] at hj⟩
 | i+1,hi=>by
  obtain⟨h1,h2⟩:=kpl_fact h i (by omega)
  rw[rnk_succ m (by omega)]
  simp only[kpl]
  rcases mskB_nth h (j:=i) (by omega) with e | e
  ·rw[if_neg (by omega)];exact⟨by omega,h2⟩
  ·rw[if_pos e]
   refine⟨by simp only[List.length_append,List.length_cons,List.length_nil];omega,fun j hj=>?_⟩
   by_cases hlt:j<(kpl m i).length
   ·rw[nth_append_left _ _ _ hlt];exact h2 j hlt
   ·simp only[List.length_append,List.length_cons,List.length_nil] at hj
    obtain rfl:j=(kpl m i).length:=by omega
    have:=pos1_rnk h (i:=i) (by omega) e
    rw[<-h1,Int.toNat_natCast] at this
    rw[this]
    simp[nth]
theorem kpl_le (m:List Int):∀ i,(kpl m i).length<=i
 | 0=>Nat.le_refl _
 | i+1=>by
  have:=kpl_le m i
  simp only[kpl]
  split
  ·simp only[List.length_append,List.length_cons,List.length_nil];omega
  ·omega
theorem kp_ga {m:List Int}{x:Nat}{c:Bool}{s dz:List Int}(h:kpE m x c s dz=0):gaS (alR s x (kpl m m.length))=kpS m x s/\gaD c s dz (alR s x (kpl m m.length))=kpD m x s dz:=by
 obtain⟨h1,h2,h3,h4⟩:=kpZ.1 h
 have hz:=errOf_zero.1 (flawE_zero h1).1
 have hk:=kpl_fact h4 m.length (Nat.le_refl _)
 rw[rnk_all] at hk
 have e:gaS (alR s x (kpl m m.length))=kpS m x s:=by rw[alR_S hz.2.1 _ h2,hk.1];rfl
 refine⟨e,?_⟩
 unfold gaD kpD
 rw[e]
 refine TA_congr (kp_err h) fun t ht=>?_
 have ht':insB (s.set x (kpl m m.length).length) t=true:=by rw[hk.1];exact ht
 have hb:=(insS h2).1 ht'
 have eT:gaT (alR s x (kpl m m.length)) t=kpT m x t:=by rw[alR_T h2 ht',hk.2 _ (by omega)];rfl
 unfold gaC
 rw[eT,if_pos (kp_in h ht).1]
def spl (m:List Int):List Int:=(List.range m.length).map fun k=>if nth m k=1 then rnk m k else -1
theorem spl_length (m:List Int):(spl m).length=m.length:=by simp[spl]
theorem spl_nth (m:List Int){k:Nat}(h:k<m.length):nth (spl m) k=if nth m k=1 then rnk m k else -1:=by simp[spl,nth,h]
theorem sp_ga {m:List Int}{x:Nat}{c:Bool}{s dz:List Int}(h:spE m x c s dz=0):gaS (alR s x (spl m))=spS m x s/\gaD c s dz (alR s x (spl m))=spD m x c s dz:=by
 obtain⟨h1,h2,h3,h4,h5⟩:=spZ.1 h
 have hz:=errOf_zero.1 (flawE_zero h1).1
 have e:gaS (alR s x (spl m))=spS m x s:=by rw[alR_S hz.2.1 _ h2,spl_length];rfl
 refine⟨e,?_⟩
 unfold gaD spD
 rw[e]
 refine TA_congr h5 fun t ht=>?_
 have ht':insB (s.set x (spl m).length) t=true:=by rw[spl_length];exact ht
 have hb:=(insS h2).1 ht'
 rw[spl_length] at hb
 have hj:(nth t x).toNat<m.length:=by omega
 have eT:=alR_T h2 ht'
 rw[spl_nth m hj] at eT
 unfold gaC spC
 rcases mskB_nth h3 hj with e0 | e1
 ·rw[if_neg (by rw[e0];decide)] at eT
  rw[eT,if_pos e0,if_neg]
  intro hq
  have:=ins_at hq h2
  rw[nth_set_self (by omega)] at this
  omega
 ·rw[if_pos e1] at eT
  rw[eT,if_neg (show ¬ nth m (nth t x).toNat=0 by rw[e1];decide),if_pos (sp_in h ht (by rw[e1];decide))]
theorem sp_err6 {m:List Int}{x:Nat}{s:List Int}(hs:AllIn s)(hx:x<s.length):gaS (alR s x (spl m))=spS m x s:=by rw[alR_S hs _ hx,spl_length];rfl
abbrev Rw:Type:=(Option Addr × Nat) × List Int
def rv (r:Rw):Value:=.slice r.1.1 r.2.length r.1.2
def rwa (rs:List Rw)(j:Nat):Rw:=rs.getD j ((none,0),[])
def rwl (rs:List Rw):List (List Int):=rs.map fun r=>r.2
theorem rwl_length (rs:List Rw):(rwl rs).length=rs.length:=by simp[rwl]
theorem rwl_at (rs:List Rw)(j:Nat):rl (rwl rs) j=(rwa rs j).2:=by
 unfold rl rwl rwa
 simp only[List.getD_eq_getElem?_getD,List.getElem?_map]
 cases rs[j]?<;>rfl
theorem rwa_snoc (rs:List Rw)(r:Rw)(j:Nat):rwa (rs++[r]) j=if j=rs.length then r else rwa rs j:=by
 unfold rwa
 simp only[List.getD_eq_getElem?_getD]
 by_cases h:j<rs.length
 ·rw[List.getElem?_append_left h,if_neg (by omega)]
 ·by_cases e:j=rs.length
  ·subst e;simp
  ·rw[List.getElem?_eq_none (by simp;omega),if_neg e,List.getElem?_eq_none (by omega)]
theorem rwa_set (rs:List Rw)(x:Nat)(r:Rw)(h:x<rs.length)(j:Nat):rwa (rs.set x r) j=if j=x then r else rwa rs j:=by
 unfold rwa
 simp only[List.getD_eq_getElem?_getD,List.getElem?_set]
 by_cases e:x=j
 ·subst e;simp[h]
 ·rw[if_neg e,if_neg (Ne.symm e)]
theorem rwl_set (rs:List Rw)(x:Nat)(r:Rw):rwl (rs.set x r)=(rwl rs).set x r.2:=by simp[rwl]
theorem rwl_snoc (rs:List Rw)(r:Rw):rwl (rs++[r])=rwl rs++[r.2]:=by simp[rwl]
def NewR (lo:Nat)(W:World)(rs:List Rw):Prop:=∀ j,j<rs.length->NewC lo W (rwa rs j).1.1 (rwa rs j).2 (rwa rs j).1.2
def IsR (n:Nat)(W:World)(a:Option Addr)(rs:List Rw):Prop:=
 (rs=[]\/∃ b off,a=some ⟨b,off,none⟩/\b<n/\∀ j,j<rs.length->W.cell? ⟨b,off+j,none⟩=some (rv (rwa rs j)))/\∀ j,j<rs.length->IsC n W (rwa rs j).1.1 (rwa rs j).2 (rwa rs j).1.2
section
variable {n n' lo : Nat} {W W' : World} {a : Option Addr} {rs : List Rw}
theorem IsR.below (hB:Below n W W')(h:IsR n W a rs):IsR n W' a rs:=by
 refine⟨?_,fun j hj=>(h.2 j hj).below hB⟩
 rcases h.1 with e | ⟨b,off,e,hb,hc⟩
 ·exact .inl e
 ·exact .inr ⟨b,off,e,hb,fun j hj=>(hB.cell (p:=⟨b,off+j,none⟩) hb).trans (hc j hj)⟩
theorem IsR.mono (h:n<=n')(k:IsR n W a rs):IsR n' W a rs:=by
 refine⟨?_,fun j hj=>(k.2 j hj).mono h⟩
 rcases k.1 with e | ⟨b,off,e,hb,hc⟩
 ·exact .inl e
 ·exact .inr ⟨b,off,e,by omega,hc⟩
theorem IsR.at (h:IsR n W a rs){j:Nat}(hj:j<rs.length):∃ b off,a=some ⟨b,off,none⟩/\b<n/\∀ j,j<rs.length->W.cell? ⟨b,off+j,none⟩=some (rv (rwa rs j)):=by
 rcases h.1 with e | h
 ·subst e;simp at hj
 ·exact h
theorem IsR.row (h:IsR n W a rs){j:Nat}(hj:j<rs.length):IsC n W (rwa rs j).1.1 (rwa rs j).2 (rwa rs j).1.2:=h.2 j hj
theorem IsR.kept {Bs:Nat}(hk:Kpt n Bs W W')(h:IsR n W a rs):IsR n W' a rs:=by
 refine⟨?_,fun j hj=>⟨(h.2 j hj).1.kept hk,(h.2 j hj).2⟩⟩
 rcases h.1 with e | ⟨b,off,e,hb,hc⟩
 ·exact .inl e
 ·exact .inr ⟨b,off,e,hb,fun j hj=>(World.cell?_of_block (w:=W) (hk b (.inl hb))).trans (hc j hj)⟩
theorem NewR.nil (lo:Nat)(W:World):NewR lo W []:=fun j hj=>by simp at hj
theorem NewR.go (hB:Below W.heap.size W W')(h:NewR lo W rs):NewR lo W' rs:=fun j hj=>(h j hj).go hB
theorem NewR.set {p:Addr}(hp:p.block<lo)(v:Value)(h:NewR lo W rs):NewR lo (W.setCell p v) rs:=fun j hj=>⟨(h j hj).1.set hp v,(h j hj).2⟩
theorem NewR.snoc {g:Option Addr}{c:Nat}{z:List Int}(h:NewR lo W rs)(hz:NewC lo W g z c):NewR lo W (rs++[((g,c),z)]):=fun j hj=>by
 rw[rwa_snoc]
 split
 ·exact hz
 ·rename_i e
  simp only[List.length_append,List.length_cons,List.length_nil] at hj
  exact h j (by omega)
theorem NewR.is {B:Nat}{t:TypeId}(h:NewR lo W rs)(hr:W.rowIs B t rs.length (fun j=>rv (rwa rs j))):IsR W.heap.size W (some ⟨B,0,none⟩) rs:=
 ⟨.inr ⟨B,0,rfl,hr.lt,fun j hj=>by rw[Nat.zero_add];exact hr.cell hj⟩,fun j hj=>(h j hj).ints⟩
theorem row_snoc {B n:Nat}{t:TypeId}(g:Option Addr)(c:Nat)(z:List Int)(h:W.rowIs B t n (fun j=>rv (rwa rs j))):(W.setCell ⟨B,rs.length,none⟩ (.slice g z.length c)).rowIs B t n (fun j=>rv (rwa (rs++[((g,c),z)]) j)):=by
 refine (h.set rs.length _).congr fun j hj=>?_
 rw[rwa_snoc]
 by_cases e:j=rs.length
 ·rw[if_pos e,if_pos e];rfl
 ·rw[if_neg e,if_neg e]
theorem row_setR {B n:Nat}{t:TypeId}(g:Option Addr)(c:Nat)(z:List Int){x:Nat}(hx:x<rs.length)(h:W.rowIs B t n (fun j=>rv (rwa rs j))):(W.setCell ⟨B,x,none⟩ (.slice g z.length c)).rowIs B t n (fun j=>rv (rwa (rs.set x ((g,c),z)) j)):=by
 refine (h.set x _).congr fun j hj=>?_
 rw[rwa_set _ _ _ hx]
 by_cases e:j=x
 ·rw[if_pos e,if_pos e];rfl
 ·rw[if_neg e,if_neg e]
end
end Go.Proofs.YtkmmkcpfhnifhaaGreatDoor
