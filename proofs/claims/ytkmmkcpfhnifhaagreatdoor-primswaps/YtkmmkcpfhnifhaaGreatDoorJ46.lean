/- What the program tells, in part. -/
import Derived.Test.YtkmmkcpfhnifhaaGreatDoorJ45
set_option linter.unusedVariables false
set_option maxHeartbeats 4000000
set_option maxRecDepth 100000
namespace Go.Proofs.YtkmmkcpfhnifhaaGreatDoor
open Go.RowKit
theorem outer1_any (f:Int)(t:Bool)(p M N:Nat)(hM:0<M)(hM4:M<=4096)(hp4:p<=4096)(b1 b2 b3:Nat)(v:Value)(da:Option Addr)(dc:Nat)(dz:List Int)(da':Option Addr)(dc':Nat)(dz':List Int)(hN:dz.length=N)(hN4:N<=4096)(hM':dz'.length=M)(hq:p/M<N)(T:∀ j,In64 (nth dz j))(T':∀ j,In64 (nth dz' j))(n0:Nat)(w:World)
  (k1:w.cell? ⟨b1,2,none⟩=some (.slice da' M dc'))(k2:w.cell? ⟨b2,0,none⟩=some v)(k3:w.cell? ⟨b3,2,none⟩=some (.slice da N dc))(F:PairF n0 w v f t)(m:Nat)(hd:IsInts m w da dz)(hd':IsInts m w da' dz'):
  Calls Tryz.prog 220 #[.int .i64 (p:Nat),.pointer (some ⟨b1,0,none⟩),.pointer (some ⟨b2,0,none⟩),.pointer (some ⟨b3,0,none⟩)] w fun e w'=>e=.returned (.tuple #[.int .i64 (tcV f t (nth dz (p/M)) (nth dz' (p%M))),errV (tcE f t (nth dz (p/M)) (nth dz' (p%M)))])/\Below w.heap.size w w':=by
 obtain⟨k,d,o,_,rfl,e1,xd,H1⟩:=F
 have hr:p%M<M:=Nat.mod_lt _ hM
 obtain⟨b,off,rfl,hb,hc⟩:=hd.at (q:=p/M) (by omega)
 obtain⟨b',off',rfl,hb',hc'⟩:=hd'.at (q:=p%M) (by omega)
 have c0:=hc (p/M) (by omega)
 have c1:=hc' (p%M) (by omega)
 obtain⟨q,hqe⟩:∃ q,q=p/M:=⟨_,rfl⟩
 obtain⟨r,hre⟩:∃ r,r=p%M:=⟨_,rfl⟩
 rw[<-hqe] at c0 hq ⊢
 rw[<-hre] at c1 hr ⊢
 have HK:Hid (∀ w',w'.heap[d]?=some o->Calls Tryz.prog k #[.int .i64 (nth dz q),.int .i64 (nth dz' r),.pointer (some ⟨d,0,none⟩)] w' fun e w''=>e=.returned (.tuple #[.int .i64 (tcV f t (nth dz q) (nth dz' r)),errV (tcE f t (nth dz q) (nth dz' r))])/\Below w'.heap.size w' w''):=H1 _ _ (T q) (T' r)
 have HX:Hid (w.heap[d]?=some o):=xd
 obtain⟨x,hx⟩:∃ x,x=nth dz q:=⟨_,rfl⟩
 obtain⟨y,hy⟩:∃ y,y=nth dz' r:=⟨_,rfl⟩
 rw[<-hx,<-hy] at HK
 rw[<-hx] at c0 ⊢
 rw[<-hy] at c1 ⊢
 have d1:(p:Int)/(M:Int)=(q:Int):=by rw[hqe];simp
 have d2:(p:Int)%(M:Int)=(r:Int):=by rw[hre];simp
 have hM0:¬ M=0:=by omega
 have d3:IntKind.i64.wrap (q:Int)=(q:Int):=IntWalk.i64_in _ (by omega)
 have d4:(p:Int).tmod (M:Int)=(r:Int):=by rw[Int.tmod_eq_emod_of_nonneg (by omega)];exact d2
 clear d2
 clear H1 hc hc' hd hd' T T' hx hy hN hM' hqe hre xd
 go_enter Tryz.func220,Tryz.ntmps220
 go_wp2_with fail
 refine bT 18 (fun w'=>w'.cell? ⟨b1,2,none⟩=some (.slice (some ⟨b',off',none⟩) M dc')/\w'.cell? ⟨b2,0,none⟩=some (.func (.func k) #[] #[.pointer (some ⟨d,0,none⟩)])/\w'.cell? ⟨b3,2,none⟩=some (.slice (some ⟨b,off,none⟩) N dc)/\w'.cell? ⟨b,off+q,none⟩=some (.int .i64 x)/\w'.cell? ⟨b',off'+r,none⟩=some (.int .i64 y)) 20 (⟨k1,k2,k3,c0,c1⟩) fun hq0=>?_
 refine lT 0 hq0 ?_;refine pT 1 hq0 ?_;refine lT 2 hq0 ?_;refine pT 3 hq0 ?_;refine pT 4 hq0 ?_;refine pT 5 hq0 ?_;refine pT 6 hq0 ?_;refine lT 7 hq0 ?_;refine pT 8 hq0 ?_
 refine lT 9 hq0 ?_;refine pT 10 hq0 ?_;refine pT 11 hq0 ?_;refine pT 12 hq0 ?_;refine pT 13 hq0 ?_;refine lT 14 hq0 ?_
 clear hq0
 refine oT 15 fun K hK=>?_
 go_simp
 go_wp2_with fail
 refine (HK.out w.drew HX.out).mono ?_
 rintro e w2 ⟨rfl,hB2⟩
 have HB2:Hid (Below w.heap.size w w2):=(Below.refl _ w).drew.trans hB2
 clear hB2
 refine hK.out _ _ (fun _=>⟨cell_to k1 HB2.out,cell_to k2 HB2.out,cell_to k3 HB2.out,cell_to c0 HB2.out,cell_to c1 HB2.out⟩) ?_
 clear hK K
 refine pT 16 (⟨cell_to k1 HB2.out,cell_to k2 HB2.out,cell_to k3 HB2.out,cell_to c0 HB2.out,cell_to c1 HB2.out⟩) ?_
 refine pT 17 (⟨cell_to k1 HB2.out,cell_to k2 HB2.out,cell_to k3 HB2.out,cell_to c0 HB2.out,cell_to c1 HB2.out⟩) ?_
 refine oT 18 fun K hK=>?_
 go_simp
 refine hK.out _ _ (fun h=>absurd h (by decide)) ?_
 clear hK K
 refine oT 19 fun K hK=>?_
 go_simp
 refine hK.out _ _ (fun h=>absurd h (by decide)) ?_
 clear hK K
 refine dT ?_
 go_wp2_with fail
 go_ret2
 exact⟨rfl,HB2.out⟩
theorem ot_pc {f:Int}{c:Bool}{sz dz:List Int}{c':Bool}{sz' dz':List Int}(h:pcE [f] c sz dz c' sz' dz'≠0):otE f c sz dz c' sz' dz'=pcE [f] c sz dz c' sz' dz':=by
 unfold pcE at *
 unfold otE
 by_cases hf:f<1\/16<f
 ·rw[if_pos hf,if_neg (by rw[pcB_bad (k:=0) (by simp) (by show ¬ (1<=f/\f<=16);omega)];decide)]
 ·have hg:pcB [f]=true:=pcB_good fun j hj=>by
   have:j=0:=by simpa using hj
   subst this
   show 1<=f/\f<=16
   omega
  rw[if_pos hg] at h ⊢
  rw[if_neg hf,if_pos h]
theorem ot_pc0 {f:Int}{c:Bool}{sz dz:List Int}{c':Bool}{sz' dz':List Int}(h:pcE [f] c sz dz c' sz' dz'=0):¬ (f<1\/16<f)/\flawsE c sz dz c' sz' dz'=0:=by
 unfold pcE at h
 by_cases hg:pcB [f]=true
 ·rw[if_pos hg] at h
  refine⟨fun hf=>?_,h⟩
  rw[pcB_bad (k:=0) (by simp) (by show ¬ (1<=f/\f<=16);omega)] at hg
  exact absurd hg (by decide)
 ·rw[if_neg hg] at h
  exact absurd h (by decide)
theorem ot_holds:COt:=by
 intro f c sa sc sz da dc dz c' sa' sc' sz' da' dc' dz' w hf h1 h2 h1' h2' hs hd hs' hd' T T'
 have HI:Hid ((IsInts w.heap.size w sa sz/\IsInts w.heap.size w da dz)/\(IsInts w.heap.size w sa' sz'/\IsInts w.heap.size w da' dz')):=⟨⟨hs,hd⟩,hs',hd'⟩
 have HT:Hid ((∀ j,In64 (nth dz j))/\∀ j,In64 (nth dz' j)):=⟨T,T'⟩
 have pa:=((Abx.new w (.bool c) (.slice sa sz.length sc) (.slice da dz.length dc)).al (.cells #[.bool c',.slice sa' sz'.length sc',.slice da' dz'.length dc'] 27)).al (.cells #[.bool false,.slice none 0 0,.slice none 0 0] 27)
 have qa:=(Abx.new1 w (.cells #[.bool c,.slice sa sz.length sc,.slice da dz.length dc] 27) (.bool c') (.slice sa' sz'.length sc') (.slice da' dz'.length dc')).al (.cells #[.bool false,.slice none 0 0,.slice none 0 0] 27)
 have ra:=Abx.new1 (w.alloc (.cells #[.bool c,.slice sa sz.length sc,.slice da dz.length dc] 27)) (.cells #[.bool c',.slice sa' sz'.length sc',.slice da' dz'.length dc'] 27) (.bool false) (.slice none 0 0) (.slice none 0 0)
 rw[World.size_alloc] at ra
 have p0:=pa.c0
 have p1:=pa.c1
 have p2:=pa.c2
 have q0:=qa.c0
 have q1:=qa.c1
 have q2:=qa.c2
 obtain⟨V0,hV0⟩:∃ V0,V0=(((w.alloc (.cells #[.bool c,.slice sa sz.length sc,.slice da dz.length dc] 27)).alloc (.cells #[.bool c',.slice sa' sz'.length sc',.slice da' dz'.length dc'] 27)).alloc (.cells #[.bool false,.slice none 0 0,.slice none 0 0] 27)).alloc (.cells #[.int .i64 f] 22):=⟨_,rfl⟩
 have HB0:Hid (Below w.heap.size w V0):=by rw[hV0];exact ((((Below.refl _ w).alloc (Nat.le_refl _) _).alloc (by simp) _).alloc (by simp;omega) _).alloc (by simp;omega) _
 have Pa0:Hid (Abx V0 w.heap.size (.bool c) (.slice sa sz.length sc) (.slice da dz.length dc)):=by rw[hV0];exact pa.al _
 have Qb0:Hid (Abx V0 (w.heap.size+1) (.bool c') (.slice sa' sz'.length sc') (.slice da' dz'.length dc')):=by rw[hV0];exact qa.al _
 have Rr0:Hid (Abx V0 (w.heap.size+1+1) (.bool false) (.slice none 0 0) (.slice none 0 0)):=by rw[hV0];exact ra.al _
 have HW:Hid (V0=_):=hV0
 have hfi:IsInts V0.heap.size V0 (some ⟨w.heap.size+1+1+1,0,none⟩) [f]:=by
  have:=(new_lit (((w.alloc (.cells #[.bool c,.slice sa sz.length sc,.slice da dz.length dc] 27)).alloc (.cells #[.bool c',.slice sa' sz'.length sc',.slice da' dz'.length dc'] 27)).alloc (.cells #[.bool false,.slice none 0 0,.slice none 0 0] 27)) 22 [f]).ints
  simp only[World.size_alloc] at this
  rw[hV0]
  simp only[World.size_alloc]
  exact this
 have hC:=pcheck_any c sa sc sz da dc dz c' sa' sc' sz' da' dc' dz' (some ⟨w.heap.size+1+1+1,0,none⟩) 1 [f] 1 rfl (by omega) h1 h2 h1' h2' V0 ((HI.1.1.below HB0.out).mono HB0.size) ((HI.1.2.below HB0.out).mono HB0.size) ((HI.2.1.below HB0.out).mono HB0.size) ((HI.2.2.below HB0.out).mono HB0.size) hfi
 clear hs hd hs' hd' T T' hV0 hfi pa qa ra
 go_enter Tryz.func143,Tryz.ntmps143
 go_wp2_with fail
 rw[<-HW.out]
 refine hC.mono ?_
 rintro e w1 ⟨rfl,hb⟩
 have HB1:Hid (Below w.heap.size w w1):=HB0.trans (hb.mono HB0.size)
 have Pa1:Hid (Abx w1 (w.heap.size) _ _ _):=Pa0.go hb
 have Qb1:Hid (Abx w1 (w.heap.size+1) _ _ _):=Qb0.go hb
 have Rr1:Hid (Abx w1 (w.heap.size+1+1) (.bool false) (.slice none 0 0) (.slice none 0 0)):=Rr0.go hb
 clear hb hC p0 p1 p2 q0 q1 q2 HW
 by_cases he:pcE [f] c sz dz c' sz' dz'=0
 ·obtain⟨hf1,hfl⟩:=ot_pc0 he
  obtain⟨hfa,hfb⟩:=flawsE_zero.1 hfl
  have HF:Hid (¬ (f<1\/16<f)/\flawsE c sz dz c' sz' dz'=0/\flawE c sz dz=0/\flawE c' sz' dz'=0):=⟨hf1,hfl,hfa,hfb⟩
  rw[he,errV_zero]
  have hl6:=(errOf_zero.1 (flawE_zero hfa).1).1
  have hl6':=(errOf_zero.1 (flawE_zero hfb).1).1
  clear he hf1 hfl hfa hfb hf
  have p0:=Pa1.c0
  have p1:=Pa1.c1
  have p2:=Pa1.c2
  have q0:=Qb1.c0
  have q1:=Qb1.c1
  have q2:=Qb1.c2
  obtain⟨w2,hw2⟩:∃ w2,w2=w1.alloc (.cells #[.slice sa sz.length sc,.slice sa' sz'.length sc'] 25):=⟨_,rfl⟩
  have hb:Below w1.heap.size w1 w2:=by rw[hw2];exact (Below.refl _ w1).alloc (Nat.le_refl _) _
  have HB2:Hid (Below w.heap.size w w2):=HB1.trans (hb.mono HB1.size)
  have Pa2:Hid (Abx w2 (w.heap.size) _ _ _):=Pa1.go hb
  have Qb2:Hid (Abx w2 (w.heap.size+1) _ _ _):=Qb1.go hb
  have Rr2:Hid (Abx w2 (w.heap.size+1+1) (.bool false) (.slice none 0 0) (.slice none 0 0)):=Rr1.go hb
  have hcc:=concat_any sz sz' sz.length sz'.length rfl rfl sa sc sa' sc' (by omega) (by omega) w1.heap.size 2 w2 (by rw[hw2];simp) (by rw[hw2];exact (two_cells _ _ _ _).1) (by rw[hw2];exact (two_cells _ _ _ _).2) ((HI.1.1.below HB2.out).mono HB2.size) ((HI.2.1.below HB2.out).mono HB2.size)
  have HW2:Hid (w2=_):=hw2
  clear hw2 hb
  go_wp2_with fail
  rw[<-HW2.out]
  clear p0 p1 p2 q0 q1 q2 HW2
  refine hcc.mono ?_
  rintro e w3 ⟨g,gc,rfl,hN,hb⟩
  clear hcc
  have HB3:Hid (Below w.heap.size w w3):=HB2.trans (hb.mono HB2.size)
  have Pa3:Hid (Abx w3 (w.heap.size) _ _ _):=Pa2.go hb
  have Qb3:Hid (Abx w3 (w.heap.size+1) _ _ _):=Qb2.go hb
  have Rr3:Hid (Abx w3 (w.heap.size+1+1) (.bool false) (.slice none 0 0) (.slice none 0 0)):=Rr2.go hb
  obtain⟨S,hS⟩:∃ S,S=sz++sz':=⟨_,rfl⟩
  obtain⟨n,hn⟩:∃ n,n=sz.length+sz'.length:=⟨_,rfl⟩
  have HS:Hid (S=sz++sz'/\S.length=n):=⟨hS,by rw[hS,hn,List.length_append]⟩
  have hn12:n<=12:=by omega
  rw[<-hn]
  rw[<-hS] at hN
  have HM:Hid (MidC w2.heap.size w3.heap.size w3 g S gc):=hN.midc
  have hcount:=count_any g gc S (by rw[HS.2];omega) w3 hN.ints.1
  rw[HS.2] at hcount
  clear hb hS hn hN
  go_wp2_with fail
  refine hcount.mono ?_
  rintro e w4 ⟨rfl,hb⟩
  clear hcount
  have HB4:Hid (Below w.heap.size w w4):=HB3.trans (hb.mono HB3.size)
  have Pa4:Hid (Abx w4 (w.heap.size) _ _ _):=Pa3.go hb
  have Qb4:Hid (Abx w4 (w.heap.size+1) _ _ _):=Qb3.go hb
  have Rr4:Hid (Abx w4 (w.heap.size+1+1) (.bool false) (.slice none 0 0) (.slice none 0 0)):=Rr3.go hb
  replace HM:Hid (MidC w2.heap.size w3.heap.size w4 g S gc):=HM.go (Nat.le_refl _) hb
  have hsz34:=hb.size
  clear hb
  by_cases he:errOf S=0
  ·obtain⟨N,hN⟩:∃ N,N=(prod S).toNat:=⟨_,rfl⟩
   have hz:=errOf_zero.1 he
   have h0N:=prod_nonneg hz.2.1
   have HN:Hid ((N:Int)=prod S/\errOf S=0/\N=(prod S).toNat):=⟨by omega,he,hN⟩
   have hN4:N<=4096:=by omega
   rw[cntOf_ok he,he,errV_zero,<-HN.1]
   clear he hN hz h0N
   have p0:=Pa4.c0
   have p1:=Pa4.c1
   have p2:=Pa4.c2
   have q0:=Qb4.c0
   have q1:=Qb4.c1
   have q2:=Qb4.c2
   by_cases hch:((c || c') && !tkC f)=true
   ·have HE:Hid (otE f c sz dz c' sz' dz'=6):=by
     show _=_
     unfold otE
     rw[if_neg HF.1,if_neg (not_not_intro HF.2.1),if_neg (by rw[<-HS.1];exact not_not_intro HN.2.1),if_pos (takes_bad.1 hch)]
    go_wp2_with fail
    refine (pairing_no f c c' hch w4).mono ?_
    rintro e w5 ⟨rfl,hb⟩
    have HB5:Hid (Below w.heap.size w w5):=HB4.trans (hb.mono HB4.size)
    have Pa5:Hid (Abx w5 (w.heap.size) _ _ _):=Pa4.go hb
    have Qb5:Hid (Abx w5 (w.heap.size+1) _ _ _):=Qb4.go hb
    have Rr5:Hid (Abx w5 (w.heap.size+1+1) (.bool false) (.slice none 0 0) (.slice none 0 0)):=Rr4.go hb
    have Rr6:Hid (Abx (w5.alloc (.cells #[.nilFunc] 191)) (w.heap.size+1+1) (.bool false) (.slice none 0 0) (.slice none 0 0)):=Rr5.al _
    have HB6:Hid (Below w.heap.size w (w5.alloc (.cells #[.nilFunc] 191))):=HB5.alloc HB5.size _
    clear hb hch p0 p1 p2 q0 q1 q2
    have r0:=Rr6.c0
    have r1:=Rr6.c1
    have r2:=Rr6.c2
    have f0:=Rr6.fr 0
    have f1:=Rr6.fr 1
    have f2:=Rr6.fr 2
    go_wp2_with fail
    have FF:=Rr6.set3 (.bool false) (.slice none 0 0) (.slice none 0 0)
    have z0:=FF.c0
    have z1:=FF.c1
    have z2:=FF.c2
    exact bodyPost_ret (v:=.tuple #[.agg #[.bool false,.slice none 0 0,.slice none 0 0],.iface 28 (.int .i64 6)]) (by simp[results,Tryz.results143,go_sem,z0,z1,z2]) rfl (ub13_no HE.out (by decide) (bel_set3 HB6.out (by omega) _ _ _))
   ·have HC:Hid (¬ ((c=true\/c'=true)/\f≠8/\f≠9)):=fun h=>hch (takes_bad.2 h)
    have hch':((c || c') && !tkC f)=false:=by simpa using hch
    go_wp2_with fail
    refine (pairing_ok f c c' hch' w4).mono ?_
    rintro e w5 ⟨v,rfl,hF,hb⟩
    have HB5:Hid (Below w.heap.size w w5):=HB4.trans (hb.mono HB4.size)
    have Pa5:Hid (Abx w5 (w.heap.size) _ _ _):=Pa4.go hb
    have Qb5:Hid (Abx w5 (w.heap.size+1) _ _ _):=Qb4.go hb
    have Rr5:Hid (Abx w5 (w.heap.size+1+1) (.bool false) (.slice none 0 0) (.slice none 0 0)):=Rr4.go hb
    replace HM:Hid (MidC w2.heap.size w3.heap.size w5 g S gc):=HM.go hsz34 hb
    have hsz45:=hb.size
    obtain⟨k,d,rfl⟩:=hF.fn
    obtain⟨w6,hw6⟩:∃ w6,w6=w5.alloc (.cells #[.func (.func k) #[] #[.pointer (some ⟨d,0,none⟩)]] 191):=⟨_,rfl⟩
    have hb6:Below w5.heap.size w5 w6:=by rw[hw6];exact (Below.refl _ w5).alloc (Nat.le_refl _) _
    clear hb
    have hb:=hb6
    have HB6:Hid (Below w.heap.size w w6):=HB5.trans (hb.mono HB5.size)
    have Pa6:Hid (Abx w6 (w.heap.size) _ _ _):=Pa5.go hb
    have Qb6:Hid (Abx w6 (w.heap.size+1) _ _ _):=Qb5.go hb
    have Rr6:Hid (Abx w6 (w.heap.size+1+1) (.bool false) (.slice none 0 0) (.slice none 0 0)):=Rr5.go hb
    have HW6:Hid (w6=_):=hw6
    have HK:Hid (PairF w5.heap.size w6 (.func (.func k) #[] #[.pointer (some ⟨d,0,none⟩)]) f (c == c')/\w6.cell? ⟨w5.heap.size,0,none⟩=some (.func (.func k) #[] #[.pointer (some ⟨d,0,none⟩)])/\MidC w2.heap.size w3.heap.size w6 g S gc/\w5.heap.size+1=w6.heap.size):=⟨hF.bel hb6,by rw[hw6];exact cell_of_one (MapKept.heap_alloc w5 _).1,HM.go (by omega) hb6,by rw[hw6];simp⟩
    have hdl:=(flawE_zero HF.2.2.1).2.1
    have hdl':=(flawE_zero HF.2.2.2).2.1
    have hz1:=(errOf_zero.1 (flawE_zero HF.2.2.1).1)
    have hz2:=(errOf_zero.1 (flawE_zero HF.2.2.2).1)
    have hask:∀ i,i<N->∀ w',Below w6.heap.size w6 w'->Calls Tryz.prog 220 (.int .i64 (i:Nat)::[.pointer (some ⟨w.heap.size+1,0,none⟩),.pointer (some ⟨w5.heap.size,0,none⟩),.pointer (some ⟨w.heap.size,0,none⟩)]).toArray w' (AskJ (fun u=>Below w6.heap.size w6 u) (fun i=>otC f c sz dz c' sz' dz' (cr S i)) (fun i=>otX f c sz dz c' sz' dz' (cr S i)) i w6.heap.size w'):=fun i hi w' hJ=>by
     obtain⟨o1,o2,o3,o4,o5⟩:=ot_at (f:=f) (c:=c) (dz:=dz) (c':=c') (dz':=dz') (show errOf (sz++sz')=0 by rw[<-HS.1];exact HN.2.1) (p:=i) (M:=dz'.length) hdl' (by rw[<-HS.1,<-HN.1];omega)
     have hJw:Below w.heap.size w w':=HB6.trans (hJ.mono HB6.size)
     refine (outer1_any f (c == c') i dz'.length dz.length o1 (by omega) (by omega) (w.heap.size+1) w5.heap.size w.heap.size _ da dc dz da' dc' dz' rfl (by omega) rfl (by omega) HT.1 HT.2 w5.heap.size w' (Qb6.go hJ).c2 (cell_to HK.2.1 hJ) (Pa6.go hJ).c2 (HK.1.go hJ) w.heap.size (HI.1.2.below hJw) (HI.2.2.below hJw)).mono ?_
     rintro e w'' ⟨rfl,hb⟩
     refine⟨otC f c sz dz c' sz' dz' (cr S i),?_,fun _=>rfl,hJ.trans (hb.mono hJ.size),hb.size,fun b _ hl=>hb.block b hl⟩
     dsimp only
     rw[HS.1,o4,o5]
    have htell:=ptell_any g n gc N 220 [.pointer (some ⟨w.heap.size+1,0,none⟩),.pointer (some ⟨w5.heap.size,0,none⟩),.pointer (some ⟨w.heap.size,0,none⟩)] (enters_of Tryz.func220 (by kernel_rfl) rfl) (fun i=>otC f c sz dz c' sz' dz' (cr S i)) (fun i=>otX f c sz dz c' sz' dz' (cr S i)) hN4 w6 (fun u=>Below w6.heap.size w6 u) (Below.refl _ _) (fun _ _ h k=>h.trans k) hask
    have HTl:Hid (Calls Tryz.prog 219 #[.slice g n gc,.int .i64 (N:Nat),.func (.func 220) #[] #[.pointer (some ⟨w.heap.size+1,0,none⟩),.pointer (some ⟨w5.heap.size,0,none⟩),.pointer (some ⟨w.heap.size,0,none⟩)]] w6 (TlP (fun u=>Below w6.heap.size w6 u) N (fun i=>otC f c sz dz c' sz' dz' (cr S i)) (fun i=>otX f c sz dz c' sz' dz' (cr S i)) g n gc w6)):=htell
    clear htell hask hdl hdl' hz1 hz2 hw6 hb6 hb hch hch' hF p0 p1 p2 q0 q1 q2
    go_wp2_with fail
    rw[<-HW6.out]
    refine HTl.mono ?_
    rintro e w7 (⟨i,hi,hne,rfl,hb⟩ | ⟨hall,ya,yc,rfl,hY,hb⟩)
    ·have hb':=hb
     have HB7:Hid (Below w.heap.size w w7):=HB6.trans (hb.mono HB6.size)
     have Pa7:Hid (Abx w7 (w.heap.size) _ _ _):=Pa6.go hb
     have Qb7:Hid (Abx w7 (w.heap.size+1) _ _ _):=Qb6.go hb
     have Rr7:Hid (Abx w7 (w.heap.size+1+1) (.bool false) (.slice none 0 0) (.slice none 0 0)):=Rr6.go hb
     have HE:Hid (otE f c sz dz c' sz' dz'=6/\otX f c sz dz c' sz' dz' (cr S i)=6):=by
      refine⟨?_,(tcE_cell HF.1 _ _ _).resolve_left hne⟩
      unfold otE
      rw[if_neg HF.1,if_neg (not_not_intro HF.2.1),if_neg (by rw[<-HS.1];exact not_not_intro HN.2.1),if_neg HC.out,if_neg]
      rw[<-HS.1]
      exact fun h=>hne (by simpa using List.all_eq_true.1 h i (List.mem_range.2 (by rw[<-HN.2.2];exact hi)))
     simp only[HE.2]
     replace HE:Hid (otE f c sz dz c' sz' dz'=6):=HE.1
     clear hb hb' hne HTl
     have r0:=Rr7.c0
     have r1:=Rr7.c1
     have r2:=Rr7.c2
     have f0:=Rr7.fr 0
     have f1:=Rr7.fr 1
     have f2:=Rr7.fr 2
     go_wp2_with fail
     have FF:=Rr7.set3 (.bool false) (.slice none 0 0) (.slice none 0 0)
     have z0:=FF.c0
     have z1:=FF.c1
     have z2:=FF.c2
     exact bodyPost_ret (v:=.tuple #[.agg #[.bool false,.slice none 0 0,.slice none 0 0],.iface 28 (.int .i64 6)]) (by simp[results,Tryz.results143,go_sem,z0,z1,z2]) rfl (ub13_no HE.out (by decide) (bel_set3 HB7.out (by omega) _ _ _))
    ·have hb':=hb
     have HB7:Hid (Below w.heap.size w w7):=HB6.trans (hb.mono HB6.size)
     have Pa7:Hid (Abx w7 (w.heap.size) _ _ _):=Pa6.go hb
     have Qb7:Hid (Abx w7 (w.heap.size+1) _ _ _):=Qb6.go hb
     have Rr7:Hid (Abx w7 (w.heap.size+1+1) (.bool false) (.slice none 0 0) (.slice none 0 0)):=Rr6.go hb
     have HE:Hid (otE f c sz dz c' sz' dz'=0/\upP (fun i=>otC f c sz dz c' sz' dz' (cr S i)) N=otD f c sz dz c' sz' dz'):=by
      refine⟨?_,?_⟩
      ·unfold otE
       rw[if_neg HF.1,if_neg (not_not_intro HF.2.1),if_neg (by rw[<-HS.1];exact not_not_intro HN.2.1),if_neg HC.out,if_pos]
       rw[<-HS.1]
       exact List.all_eq_true.2 fun i hi=>by
        have:=hall i (by rw[HN.2.2];exact List.mem_range.1 hi)
        simpa using this
      ·unfold upP otD TA
       rw[<-HS.1,<-HN.2.2]
     have HX:Hid (MidC w2.heap.size w3.heap.size w7 g S gc/\NewC w6.heap.size w7 ya (otD f c sz dz c' sz' dz') yc):=⟨HK.2.2.1.go (by have:=HK.2.2.2;omega) hb,by rw[<-HE.2];exact hY⟩
     have hsz67:=hb.size
     have hR6:=Rr6.lt
     have hR2:=Rr2.lt
     have hw6s:=HK.2.2.2
     clear hb hb' hall hY HTl
     have r0:=Rr7.c0
     have r1:=Rr7.c1
     have r2:=Rr7.c2
     have f0:=Rr7.fr 0
     have f1:=Rr7.fr 1
     have f2:=Rr7.fr 2
     go_wp2_with fail
     have FF:=Rr7.set3 (.bool false) (.slice g n gc) (.slice ya N yc)
     have z0:=FF.c0
     have z1:=FF.c1
     have z2:=FF.c2
     refine bodyPost_ret (v:=.tuple #[.agg #[.bool false,.slice g n gc,.slice ya N yc],.nilIface]) (by simp[results,Tryz.results143,go_sem,z0,z1,z2]) rfl ?_
     have hX:=HX.1.s3 (b:=w.heap.size+1+1) (.inl (by omega)) (.bool false) (.slice g n gc) (.slice ya N yc)
     have hY:=HX.2.set3 (b:=w.heap.size+1+1) (by omega) (.bool false) (.slice g n gc) (.slice ya N yc)
     have hU:=ub13_ok (e:=otE f c sz dz c' sz' dz') (w:=w) HE.1 (S:=S) (D:=otD f c sz dz c' sz' dz') (n:=n) (m:=N) HS.2 (by rw[<-HE.2,upP_length]) ⟨(hX.1.new (by rw[size_set3];omega)).low (by have:=HB2.size;omega),hX.2⟩ (hY.low (by have:=HB6.size;omega)) (bel_set3 HB7.out (b:=w.heap.size+1+1) (by omega) (.bool false) (.slice g n gc) (.slice ya N yc))
     unfold otS13 otD13
     rw[<-HS.1]
     exact hU
  ·have HE:Hid (otE f c sz dz c' sz' dz'=errOf S):=by
    show _=_
    unfold otE
    rw[if_neg HF.1,if_neg (not_not_intro HF.2.1),<-HS.1,if_pos he]
   have HN:Hid (errOf S≠0):=he
   rw[errV_pos he]
   clear he
   have r0:=Rr4.c0
   have r1:=Rr4.c1
   have r2:=Rr4.c2
   have f0:=Rr4.fr 0
   have f1:=Rr4.fr 1
   have f2:=Rr4.fr 2
   go_wp2_with fail
   have FF:=Rr4.set3 (.bool false) (.slice none 0 0) (.slice none 0 0)
   have z0:=FF.c0
   have z1:=FF.c1
   have z2:=FF.c2
   exact bodyPost_ret (v:=.tuple #[.agg #[.bool false,.slice none 0 0,.slice none 0 0],.iface 28 (.int .i64 (errOf S))]) (by simp[results,Tryz.results143,go_sem,z0,z1,z2]) rfl (ub13_no HE.out HN.out (bel_set3 HB4.out (by omega) _ _ _))
 ·have HE:Hid (otE f c sz dz c' sz' dz'=pcE [f] c sz dz c' sz' dz'):=ot_pc he
  have HN:Hid (pcE [f] c sz dz c' sz' dz'≠0):=he
  rw[errV_pos he]
  clear he
  have r0:=Rr1.c0
  have r1:=Rr1.c1
  have r2:=Rr1.c2
  have f0:=Rr1.fr 0
  have f1:=Rr1.fr 1
  have f2:=Rr1.fr 2
  go_wp2_with fail
  have FF:=Rr1.set3 (.bool false) (.slice none 0 0) (.slice none 0 0)
  have z0:=FF.c0
  have z1:=FF.c1
  have z2:=FF.c2
  exact bodyPost_ret (v:=.tuple #[.agg #[.bool false,.slice none 0 0,.slice none 0 0],.iface 28 (.int .i64 (pcE [f] c sz dz c' sz' dz'))]) (by simp[results,Tryz.results143,go_sem,z0,z1,z2]) rfl (ub13_no HE.out HN.out (bel_set3 HB1.out (by omega) _ _ _))
end Go.Proofs.YtkmmkcpfhnifhaaGreatDoor
