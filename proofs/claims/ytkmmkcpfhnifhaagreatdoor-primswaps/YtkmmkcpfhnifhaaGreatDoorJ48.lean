/- What the program tells, in part. -/
import Derived.Test.YtkmmkcpfhnifhaaGreatDoorJ47
set_option linter.unusedVariables false
set_option maxHeartbeats 3000000
set_option maxRecDepth 100000
namespace Go.Proofs.YtkmmkcpfhnifhaaGreatDoor
open Go.RowKit
theorem ni_holds:CNi:=by
 intro f g c sa sc sz da dc dz c' sa' sc' sz' da' dc' dz' w hf hg h1 h2 h1' h2' hs hd hs' hd' T T'
 have HI:Hid ((IsC w.heap.size w sa sz sc/\IsInts w.heap.size w da dz)/\(IsC w.heap.size w sa' sz' sc'/\IsInts w.heap.size w da' dz')):=⟨⟨hs,hd⟩,hs',hd'⟩
 have HT:Hid ((∀ j,In64 (nth dz j))/\∀ j,In64 (nth dz' j)):=⟨T,T'⟩
 obtain⟨W0,hW0⟩:∃ W0,W0=w.alloc (.cells #[.int .i64 f] 22):=⟨_,rfl⟩
 have hs0:W0.heap.size=w.heap.size+1:=by rw[hW0];simp
 have ff:Boxed W0 w.heap.size 22 (.int .i64 f):=by rw[hW0];exact Boxed.new _ _ _
 have bb:Below w.heap.size w W0:=by rw[hW0];exact (Below.refl _ w).alloc (Nat.le_refl _) _
 have pa:=((Abx.new W0 (.bool c) (.slice sa sz.length sc) (.slice da dz.length dc)).al (.cells #[.bool c',.slice sa' sz'.length sc',.slice da' dz'.length dc'] 27)).al (.cells #[.bool false,.slice none 0 0,.slice none 0 0] 27)
 have qa:=(Abx.new1 W0 (.cells #[.bool c,.slice sa sz.length sc,.slice da dz.length dc] 27) (.bool c') (.slice sa' sz'.length sc') (.slice da' dz'.length dc')).al (.cells #[.bool false,.slice none 0 0,.slice none 0 0] 27)
 have ra:=Abx.new1 (W0.alloc (.cells #[.bool c,.slice sa sz.length sc,.slice da dz.length dc] 27)) (.cells #[.bool c',.slice sa' sz'.length sc',.slice da' dz'.length dc'] 27) (.bool false) (.slice none 0 0) (.slice none 0 0)
 rw[World.size_alloc] at ra
 have fa:=((ff.alloc (.cells #[.bool c,.slice sa sz.length sc,.slice da dz.length dc] 27)).alloc (.cells #[.bool c',.slice sa' sz'.length sc',.slice da' dz'.length dc'] 27)).alloc (.cells #[.bool false,.slice none 0 0,.slice none 0 0] 27)
 obtain⟨V0,hV0⟩:∃ V0,V0=(((W0.alloc (.cells #[.bool c,.slice sa sz.length sc,.slice da dz.length dc] 27)).alloc (.cells #[.bool c',.slice sa' sz'.length sc',.slice da' dz'.length dc'] 27)).alloc (.cells #[.bool false,.slice none 0 0,.slice none 0 0] 27)).alloc (.cells #[.int .i64 f,.int .i64 g] 22):=⟨_,rfl⟩
 have HB0:Hid (Below w.heap.size w V0):=by rw[hV0];exact (((bb.alloc bb.size _).alloc (by simp;omega) _).alloc (by simp;omega) _).alloc (by simp;omega) _
 rw[hs0] at pa qa ra
 have Pa0:Hid (Abx V0 (w.heap.size+1) (.bool c) (.slice sa sz.length sc) (.slice da dz.length dc)):=by rw[hV0];exact pa.al _
 have Qb0:Hid (Abx V0 (w.heap.size+1+1) (.bool c') (.slice sa' sz'.length sc') (.slice da' dz'.length dc')):=by rw[hV0];exact qa.al _
 have Rr0:Hid (Abx V0 (w.heap.size+1+1+1) (.bool false) (.slice none 0 0) (.slice none 0 0)):=by rw[hV0];exact ra.al _
 have Ff0:Hid (Boxed V0 w.heap.size 22 (.int .i64 f)):=by rw[hV0];exact fa.alloc _
 have hfi:IsInts V0.heap.size V0 (some ⟨w.heap.size+1+1+1+1,0,none⟩) [f,g]:=by
  have:=(new_lit (((W0.alloc (.cells #[.bool c,.slice sa sz.length sc,.slice da dz.length dc] 27)).alloc (.cells #[.bool c',.slice sa' sz'.length sc',.slice da' dz'.length dc'] 27)).alloc (.cells #[.bool false,.slice none 0 0,.slice none 0 0] 27)) 22 [f,g]).ints
  simp only[World.size_alloc,hs0] at this
  rw[hV0]
  simp only[World.size_alloc,hs0]
  exact this
 have hC:=pcheck_any c sa sc sz da dc dz c' sa' sc' sz' da' dc' dz' (some ⟨w.heap.size+1+1+1+1,0,none⟩) 2 [f,g] 2 rfl (by omega) h1 h2 h1' h2' V0 ((HI.1.1.1.below HB0.out).mono HB0.size) ((HI.1.2.below HB0.out).mono HB0.size) ((HI.2.1.1.below HB0.out).mono HB0.size) ((HI.2.2.below HB0.out).mono HB0.size) hfi
 rw[hW0] at hV0 pa qa ra fa
 have HW:Hid (V0=_):=hV0
 have p0:=pa.c0
 have p1:=pa.c1
 have p2:=pa.c2
 have q0:=qa.c0
 have q1:=qa.c1
 have q2:=qa.c2
 have fc:=fa.cell
 clear hs hd hs' hd' T T' hV0 hfi pa qa ra fa ff bb hs0 hW0 W0
 go_enter Tryz.func145,Tryz.ntmps145
 go_wp2_with fail
 rw[<-HW.out]
 refine hC.mono ?_
 rintro e w1 ⟨rfl,hb⟩
 have HB1:Hid (Below w.heap.size w w1):=HB0.trans (hb.mono HB0.size)
 have Pa1:Hid (Abx w1 (w.heap.size+1) _ _ _):=Pa0.go hb
 have Qb1:Hid (Abx w1 (w.heap.size+1+1) _ _ _):=Qb0.go hb
 have Rr1:Hid (Abx w1 (w.heap.size+1+1+1) (.bool false) (.slice none 0 0) (.slice none 0 0)):=Rr0.go hb
 have Ff1:Hid (Boxed w1 w.heap.size 22 (.int .i64 f)):=blk_to Ff0.out hb
 clear hb hC p0 p1 p2 q0 q1 q2 HW fc
 by_cases he:pcE [f,g] c sz dz c' sz' dz'=0
 ·obtain⟨hf1,hfl⟩:=ni_pc0 he
  obtain⟨hfa,hfb⟩:=flawsE_zero.1 hfl
  have HF:Hid (¬ ((f<1\/16<f)\/g<1\/16<g)/\flawsE c sz dz c' sz' dz'=0/\flawE c sz dz=0/\flawE c' sz' dz'=0):=⟨hf1,hfl,hfa,hfb⟩
  rw[he,errV_zero]
  have hl6:=(errOf_zero.1 (flawE_zero hfa).1).1
  have hl6':=(errOf_zero.1 (flawE_zero hfb).1).1
  clear he hf1 hfl hfa hfb hf hg
  have p0:=Pa1.c0
  have p1:=Pa1.c1
  have p2:=Pa1.c2
  have q0:=Qb1.c0
  have q1:=Qb1.c1
  have q2:=Qb1.c2
  have hcm:=pcommon_any sa sc sz sa' sc' sz' h1 h1' w1 ((HI.1.1.1.below HB1.out).mono HB1.size) ((HI.2.1.1.below HB1.out).mono HB1.size)
  go_wp2_with fail
  refine hcm.mono ?_
  rintro e w1' ⟨vL,rfl,hvL,hw1⟩
  obtain rfl:=hw1.symm
  obtain⟨w2,hw2⟩:∃ w2,w2=w1.alloc (.cells #[.int .i64 vL] 3):=⟨_,rfl⟩
  have hb:Below w1.heap.size w1 w2:=by rw[hw2];exact (Below.refl _ w1).alloc (Nat.le_refl _) _
  have Lb2:Hid (Boxed w2 w1.heap.size 3 (.int .i64 vL)):=by rw[hw2];exact Boxed.new _ _ _
  have hsz12:Hid (w2.heap.size=w1.heap.size+1):=by show _=_;rw[hw2];simp
  have HB2:Hid (Below w.heap.size w w2):=HB1.trans (hb.mono HB1.size)
  have Pa2:Hid (Abx w2 (w.heap.size+1) _ _ _):=Pa1.go hb
  have Qb2:Hid (Abx w2 (w.heap.size+1+1) _ _ _):=Qb1.go hb
  have Rr2:Hid (Abx w2 (w.heap.size+1+1+1) (.bool false) (.slice none 0 0) (.slice none 0 0)):=Rr1.go hb
  have Ff2:Hid (Boxed w2 w.heap.size 22 (.int .i64 f)):=blk_to Ff1.out hb
  have HW2:Hid (w2=_):=hw2
  have HVL:Hid (cmE sz sz'=0->vL=inN sz):=hvL
  clear hcm hb hw2 hvL p0 p1 p2 q0 q1 q2
  by_cases hce:cmE sz sz'=0
  ·rw[hce,errV_zero]
   have hlens:sz.length≠0/\sz'.length≠0/\inN sz=nth sz' 0:=by
    unfold cmE at hce
    by_cases h:sz.length=0\/sz'.length=0
    ·rw[if_pos h] at hce;exact absurd hce (by decide)
    ·rw[if_neg h] at hce
     by_cases h2:inN sz=nth sz' 0
     ·exact⟨fun e=>h (.inl e),fun e=>h (.inr e),h2⟩
     ·rw[if_pos h2] at hce;exact absurd hce (by decide)
   have hvL:=HVL.out hce
   have hLn:0<=inN sz/\inN sz<=4096:=((errOf_zero.1 (flawE_zero HF.2.2.1).1).2.1).nth _
   obtain⟨L,hL⟩:∃ L:Nat,(L:Int)=inN sz:=⟨_,Int.toNat_of_nonneg hLn.1⟩
   have hL4:L<=4096:=by omega
   have HLN:Hid (sz.length≠0/\sz'.length≠0/\inN sz=nth sz' 0/\(L:Int)=inN sz):=⟨hlens.1,hlens.2.1,hlens.2.2,hL⟩
   rw[hvL,<-hL] at HW2 Lb2
   rw[hvL,<-hL]
   obtain⟨b,off,rfl,hbs,hcs⟩:=HI.1.1.1.at (q:=0) (by omega)
   obtain⟨b',off',rfl,hbs',hcs'⟩:=HI.2.1.1.at (q:=0) (by omega)
   obtain⟨m,hm⟩:∃ m,sz.length=m+1:=⟨sz.length-1,by omega⟩
   obtain⟨m',hm'⟩:∃ m',sz'.length=m'+1:=⟨sz'.length-1,by omega⟩
   have hcap:m+1<=sc:=by rw[<-hm];exact HI.1.1.2
   have hcap':m'+1<=sc':=by rw[<-hm'];exact HI.2.1.2
   clear hce hvL hLn hL hlens hcs hcs' HVL
   rw[hm] at hl6
   rw[hm'] at hl6'
   have p0:=Pa2.c0
   have p1:=Pa2.c1
   have p2:=Pa2.c2
   have q0:=Qb2.c0
   have q1:=Qb2.c1
   have q2:=Qb2.c2
   rw[hm] at p1
   rw[hm'] at q1
   go_wp2_with fail
   rw[<-HW2.out]
   have t1:(1:Int)<=(m':Int)+1:=by omega
   have t2:m<=sc:=by omega
   obtain⟨ta,hta⟩:∃ ta,ta=(if sc'=1 then some (⟨b',off',none⟩:Addr) else some ⟨b',off'+1,none⟩):=⟨_,rfl⟩
   have HTA:Hid (ta=(if sc'=1 then some (⟨b',off',none⟩:Addr) else some ⟨b',off'+1,none⟩)):=hta
   have hta':=hta.symm
   clear hta
   have wm:IntKind.i64.wrap (m:Int)=(m:Int):=IntWalk.i64_in _ (by omega)
   refine bT 12 (fun w'=>w'.cell? ⟨w.heap.size+1,1,none⟩=some (.slice (some ⟨b,off,none⟩) (m+1) sc)/\w'.cell? ⟨w.heap.size+1+1,1,none⟩=some (.slice (some ⟨b',off',none⟩) (m'+1) sc')) 13 (⟨p1,q1⟩) fun hq0=>?_
   refine pT 0 hq0 ?_;refine lT 1 hq0 ?_;refine pT 2 hq0 ?_;refine lT 3 hq0 ?_;refine pT 4 hq0 ?_;refine pT 5 hq0 ?_;refine pT 6 hq0 ?_;refine pT 7 hq0 ?_;refine lT 8 hq0 ?_
   refine pT 9 hq0 ?_
   clear hq0
   refine oT 10 fun K hK=>?_
   go_simp
   obtain⟨w3,hw3⟩:∃ w3,w3=(w2.alloc (.cells #[.slice (some ⟨b,off,none⟩) m sc,.slice ta m' (sc'-1)] 25)).drew:=⟨_,rfl⟩
   rw[<-hw3]
   have hb3:Below w2.heap.size w2 w3:=by (rw[hw3];exact ((Below.refl _ w2).alloc (Nat.le_refl _) _).drew)
   have hbw3:Below w.heap.size w w3:=HB2.trans (hb3.mono HB2.size)
   have hlt3:w2.heap.size<w3.heap.size:=by (rw[hw3];show w2.heap.size<(w2.alloc _).heap.size;simp)
   have hcc:=concat_any (sz.take m) (sz'.drop 1) m m' (by rw[List.length_take];omega) (by rw[List.length_drop];omega) (some ⟨b,off,none⟩) sc ta (sc'-1) (by omega) (by omega) w2.heap.size 2 w3 hlt3 (by rw[hw3];exact (two_cells _ _ _ _).1) (by rw[hw3];exact (two_cells _ _ _ _).2) (is_take13 ((HI.1.1.1.below hbw3).mono hbw3.size) m) (by rw[HTA.out];exact is_tail13 ((HI.2.1.1.below hbw3).mono hbw3.size) HI.2.1.2 HLN.2.1)
   clear hw3
   refine hK.out _ _ (fun _=>⟨cell_to p1 hb3,cell_to q1 hb3⟩) ?_
   clear hK K
   refine oT 11 fun K hK=>?_
   go_simp
   go_wp2_with (go_at_call 217;refine hcc.mono ?_;rintro e w4 ⟨ga,gc,rfl,hN,hb4⟩)
   have hb:Below w2.heap.size w2 w4:=hb3.trans (hb4.mono hb3.size)
   refine hK.out _ _ (fun _=>⟨cell_to p1 hb,cell_to q1 hb⟩) ?_
   clear hK K
   refine oT 12 fun K hK=>?_
   go_simp
   refine hK.out _ _ (fun h=>absurd h (by decide)) ?_
   clear hK K
   refine dT ?_
   have HB4:Hid (Below w.heap.size w w4):=HB2.trans (hb.mono HB2.size)
   have Pa4:Hid (Abx w4 (w.heap.size+1) _ _ _):=Pa2.go hb
   have Qb4:Hid (Abx w4 (w.heap.size+1+1) _ _ _):=Qb2.go hb
   have Rr4:Hid (Abx w4 (w.heap.size+1+1+1) (.bool false) (.slice none 0 0) (.slice none 0 0)):=Rr2.go hb
   have Lb4:Hid (Boxed w4 w1.heap.size 3 (.int .i64 (L:Nat))):=blk_to Lb2.out hb
   have Ff4:Hid (Boxed w4 w.heap.size 22 (.int .i64 f)):=blk_to Ff2.out hb
   obtain⟨S,hS⟩:∃ S,S=inS sz sz':=⟨_,rfl⟩
   obtain⟨n,hn⟩:∃ n,n=m+m':=⟨_,rfl⟩
   have hS2:S=sz.take m++sz'.drop 1:=by rw[hS];unfold inS;rw[hm,Nat.add_sub_cancel]
   have HS:Hid (S=inS sz sz'/\S.length=n):=⟨hS,by rw[hS2,hn,List.length_append,List.length_take,List.length_drop];omega⟩
   have hn12:n<=12:=by omega
   rw[<-hn]
   rw[<-hS2] at hN
   have HM:Hid (MidC w3.heap.size w4.heap.size w4 ga S gc/\w.heap.size+1+1+1<w3.heap.size):=⟨hN.midc,by have:=Rr2.lt;omega⟩
   have hcount:=count_any ga gc S (by rw[HS.2];omega) w4 hN.ints.1
   rw[HS.2] at hcount
   clear hb hb3 hb4 hbw3 hlt3 hS hn hS2 hN hcc p0 p1 p2 q0 q1 q2 wm t1 t2 hta' HTA
   go_wp2_with fail
   refine hcount.mono ?_
   rintro e w5 ⟨rfl,hb⟩
   clear hcount
   have HB5:Hid (Below w.heap.size w w5):=HB4.trans (hb.mono HB4.size)
   have Pa5:Hid (Abx w5 (w.heap.size+1) _ _ _):=Pa4.go hb
   have Qb5:Hid (Abx w5 (w.heap.size+1+1) _ _ _):=Qb4.go hb
   have Rr5:Hid (Abx w5 (w.heap.size+1+1+1) (.bool false) (.slice none 0 0) (.slice none 0 0)):=Rr4.go hb
   have Lb5:Hid (Boxed w5 w1.heap.size 3 (.int .i64 (L:Nat))):=blk_to Lb4.out hb
   have Ff5:Hid (Boxed w5 w.heap.size 22 (.int .i64 f)):=blk_to Ff4.out hb
   replace HM:Hid (MidC w3.heap.size w4.heap.size w5 ga S gc/\w.heap.size+1+1+1<w3.heap.size):=⟨HM.1.go (Nat.le_refl _) hb,HM.2⟩
   have hsz45:=hb.size
   clear hb
   have HNE:Hid (inE f g c sz dz c' sz' dz'=_):=ni_E HF.1 HF.2.1 HLN.1 HLN.2.1 HLN.2.2.1
   by_cases he:errOf S=0
   ·obtain⟨N,hN⟩:∃ N,N=(prod S).toNat:=⟨_,rfl⟩
    have hz:=errOf_zero.1 he
    have h0N:=prod_nonneg hz.2.1
    have HN:Hid ((N:Int)=prod S/\errOf S=0/\N=(prod S).toNat):=⟨by omega,he,hN⟩
    have hN4:N<=4096:=by omega
    rw[cntOf_ok he,he,errV_zero,<-HN.1]
    clear he hN hz h0N
    have p0:=Pa5.c0
    have p1:=Pa5.c1
    have p2:=Pa5.c2
    have q0:=Qb5.c0
    have q1:=Qb5.c1
    have q2:=Qb5.c2
    rw[hm] at p1
    rw[hm'] at q1
    by_cases hch:((c || c') && !tkC g)=true
    ·have HE:Hid (inE f g c sz dz c' sz' dz'=6):=by
      show _=_
      rw[HNE.out,<-HS.1,if_neg (not_not_intro HN.2.1),if_pos (takes_bad.1 hch)]
     go_wp2_with fail
     refine (pairing_no g c c' hch w5).mono ?_
     rintro e w6 ⟨rfl,hb⟩
     have HB6:Hid (Below w.heap.size w w6):=HB5.trans (hb.mono HB5.size)
     have Pa6:Hid (Abx w6 (w.heap.size+1) _ _ _):=Pa5.go hb
     have Qb6:Hid (Abx w6 (w.heap.size+1+1) _ _ _):=Qb5.go hb
     have Rr6:Hid (Abx w6 (w.heap.size+1+1+1) (.bool false) (.slice none 0 0) (.slice none 0 0)):=Rr5.go hb
     have Lb6:Hid (Boxed w6 w1.heap.size 3 (.int .i64 (L:Nat))):=blk_to Lb5.out hb
     have Ff6:Hid (Boxed w6 w.heap.size 22 (.int .i64 f)):=blk_to Ff5.out hb
     have Rr7:Hid (Abx (w6.alloc (.cells #[.nilFunc] 191)) (w.heap.size+1+1+1) (.bool false) (.slice none 0 0) (.slice none 0 0)):=Rr6.al _
     have HB7:Hid (Below w.heap.size w (w6.alloc (.cells #[.nilFunc] 191))):=HB6.alloc HB6.size _
     clear hb hch p0 p1 p2 q0 q1 q2
     have r0:=Rr7.c0
     have r1:=Rr7.c1
     have r2:=Rr7.c2
     have f0:=Rr7.fr 0
     have f1:=Rr7.fr 1
     have f2:=Rr7.fr 2
     go_wp2_with fail
     have FF:=Rr7.set3 (.bool false) (.slice none 0 0) (.slice none 0 0)
     have z0:=FF.c0
     have z1:=FF.c1
     have z2:=FF.c2
     exact bodyPost_ret (v:=.tuple #[.agg #[.bool false,.slice none 0 0,.slice none 0 0],.iface 28 (.int .i64 6)]) (by simp[results,Tryz.results145,go_sem,z0,z1,z2]) rfl (ub13_no HE.out (by decide) (bel_set3 HB7.out (by omega) _ _ _))
    ·have HC:Hid (¬ ((c=true\/c'=true)/\g≠8/\g≠9)):=fun h=>hch (takes_bad.2 h)
     have hch':((c || c') && !tkC g)=false:=by simpa using hch
     go_wp2_with fail
     refine (pairing_ok g c c' hch' w5).mono ?_
     rintro e w6 ⟨v,rfl,hF,hb⟩
     have HB6:Hid (Below w.heap.size w w6):=HB5.trans (hb.mono HB5.size)
     have Pa6:Hid (Abx w6 (w.heap.size+1) _ _ _):=Pa5.go hb
     have Qb6:Hid (Abx w6 (w.heap.size+1+1) _ _ _):=Qb5.go hb
     have Rr6:Hid (Abx w6 (w.heap.size+1+1+1) (.bool false) (.slice none 0 0) (.slice none 0 0)):=Rr5.go hb
     have Lb6:Hid (Boxed w6 w1.heap.size 3 (.int .i64 (L:Nat))):=blk_to Lb5.out hb
     have Ff6:Hid (Boxed w6 w.heap.size 22 (.int .i64 f)):=blk_to Ff5.out hb
     replace HM:Hid (MidC w3.heap.size w4.heap.size w6 ga S gc/\w.heap.size+1+1+1<w3.heap.size):=⟨HM.1.go hsz45 hb,HM.2⟩
     have hsz56:=hb.size
     obtain⟨k,d,rfl⟩:=hF.fn
     obtain⟨w7,hw7⟩:∃ w7,w7=w6.alloc (.cells #[.func (.func k) #[] #[.pointer (some ⟨d,0,none⟩)]] 191):=⟨_,rfl⟩
     have hb7:Below w6.heap.size w6 w7:=by rw[hw7];exact (Below.refl _ w6).alloc (Nat.le_refl _) _
     clear hb
     have hb:=hb7
     have HB7:Hid (Below w.heap.size w w7):=HB6.trans (hb.mono HB6.size)
     have Pa7:Hid (Abx w7 (w.heap.size+1) _ _ _):=Pa6.go hb
     have Qb7:Hid (Abx w7 (w.heap.size+1+1) _ _ _):=Qb6.go hb
     have Rr7:Hid (Abx w7 (w.heap.size+1+1+1) (.bool false) (.slice none 0 0) (.slice none 0 0)):=Rr6.go hb
     have Lb7:Hid (Boxed w7 w1.heap.size 3 (.int .i64 (L:Nat))):=blk_to Lb6.out hb
     have Ff7:Hid (Boxed w7 w.heap.size 22 (.int .i64 f)):=blk_to Ff6.out hb
     have HW7:Hid (w7=_):=hw7
     have HK:Hid (PairF w6.heap.size w7 (.func (.func k) #[] #[.pointer (some ⟨d,0,none⟩)]) g (c == c')/\w7.cell? ⟨w6.heap.size,0,none⟩=some (.func (.func k) #[] #[.pointer (some ⟨d,0,none⟩)])/\MidC w3.heap.size w4.heap.size w7 ga S gc/\w6.heap.size+1=w7.heap.size):=⟨hF.bel hb7,by rw[hw7];exact cell_of_one (MapKept.heap_alloc w6 _).1,HM.1.go (by omega) hb7,by rw[hw7];simp⟩
     clear hw7 hb7 hb hch hch' hF p0 p1 p2 q0 q1 q2
     have lb:=Lb7.cell
     rw[HW7.out] at lb
     go_upto_if 77 with fail
     rw[<-HW7.out]
     clear lb
     go_cut [16] (fun s16 wc=>wc=w7/\¬ (inN sz=0/\neutE f≠0))
     case first=>
      by_cases hL0:L=0
      ·have t0:((L:Int) == 0)=true:=by simp[hL0]
       have fc:=Ff7.cell
       by_cases hne:neutE f=0
       ·have HNN:Hid (¬ (inN sz=0/\neutE f≠0)):=fun h=>h.2 hne
        have hn:=neut_any f w7
        rw[hne,errV_zero] at hn
        clear hne hL0
        go_wp2_with fail
        refine hn.mono ?_
        rintro e u ⟨rfl,hu⟩
        obtain rfl:=hu.symm
        go_wp2_with fail
        go_meet
        exact⟨rfl,HNN.out⟩
       ·have HE:Hid (inE f g c sz dz c' sz' dz'=neutE f):=by
         show _=_
         rw[HNE.out,<-HS.1,if_neg (not_not_intro HN.2.1),if_neg HC.out,if_pos ⟨by rw[<-HLN.2.2.2,hL0];rfl,hne⟩]
        have hn:=neut_any f w7
        rw[errV_pos hne] at hn
        have HX:Hid (neutE f≠0):=hne
        clear hne hL0
        go_wp2_with fail
        refine hn.mono ?_
        rintro e u ⟨rfl,hu⟩
        obtain rfl:=hu.symm
        have r0:=Rr7.c0
        have r1:=Rr7.c1
        have r2:=Rr7.c2
        have f0:=Rr7.fr 0
        have f1:=Rr7.fr 1
        have f2:=Rr7.fr 2
        go_wp2_with fail
        have FF:=Rr7.set3 (.bool false) (.slice none 0 0) (.slice none 0 0)
        have z0:=FF.c0
        have z1:=FF.c1
        have z2:=FF.c2
        exact bodyPost_ret (v:=.tuple #[.agg #[.bool false,.slice none 0 0,.slice none 0 0],.iface 28 (.int .i64 (neutE f))]) (by simp[results,Tryz.results145,go_sem,z0,z1,z2]) rfl (ub13_no HE.out HX.out (bel_set3 HB7.out (by omega) _ _ _))
      ·have t0:((L:Int) == 0)=false:=by simp[hL0]
       have HNN:Hid (¬ (inN sz=0/\neutE f≠0)):=fun h=>hL0 (by have:=h.1;rw[<-HLN.2.2.2] at this;omega)
       clear hL0
       go_wp2_with fail
       go_meet
       exact⟨rfl,HNN.out⟩
     case rest=>
      obtain⟨hwc,hnn⟩:=hcut
      obtain rfl:=hwc.symm
      have HNN:Hid (¬ (inN sz=0/\neutE f≠0)):=hnn
      clear hnn hwc
      have hz':=(flawE_zero HF.2.2.2)
      obtain⟨A,hA⟩:∃ A:Nat,(A:Int)=prod (sz'.drop 1):=⟨_,Int.toNat_of_nonneg (prod_nonneg ((errOf_zero.1 hz'.1).2.1.drop 1))⟩
      have HA:Hid ((A:Int)=prod (sz'.drop 1)):=hA
      have hps:Hid (∀ w',Below w7.heap.size w7 w'->Calls Tryz.prog 222 #[.slice (some ⟨b',off',none⟩) (m'+1) sc'] w' fun e w''=>e=.returned (.int .i64 (A:Nat))/\w''=w'):=fun w' hB=>by
       have hBw:Below w.heap.size w w':=HB7.trans (hB.mono HB7.size)
       have:=pstep_any (some ⟨b',off',none⟩) sc' sz' (by have:=HLN.2.1;omega) hz'.1 w.heap.size w' (HI.2.1.below hBw)
       rw[hm',show stp sz' 0=(A:Int) from hA.symm] at this
       exact this
      have hmk:=run_make_row' (P:=Tryz.prog) 25 3 (.int .i64 0) 8 Tryz.underlying25 Tryz.infoInt rfl .i64 .i64 L (by omega) (by omega)
      have lb:=Lb7.cell
      have q1:=Qb7.c1
      rw[hm'] at q1
      clear hz' hA
      go_wp2_with fail
      refine anyT_begin 8 (fun w'=>w'.cell? ⟨w1.heap.size,0,none⟩=some (.int .i64 (L:Nat))/\w'.cell? ⟨w.heap.size+1+1,1,none⟩=some (.slice (some ⟨b',off',none⟩) (m'+1) sc')) 9 #[false,false,false,false,false,false,false,false,false] (by kernel_rfl) rfl rfl ?_
      refine anyT_take 0 87 ?rv14 #[true,false,false,false,false,false,false,false,false] rfl rfl rfl (by kernel_rfl) (by kernel_rfl) (by kernel_rfl) (fun _ _ _ h=>h) (by kernel_rfl) (by decide) (by kernel_rfl) ?ry14 (⟨lb,q1⟩) ?rm14
      case ry14=>first | exact Or.inl ⟨by rfl,by intro w' hw';(try dsimp only at hw');go_simp;first | done | rfl⟩
      case rm14=>
      simp only[Act.put,List.setIfInBounds_toArray,List.set_cons_zero,List.set_cons_succ]
      refine anyT_put 2 89 ?rv15 #[true,false,true,false,false,false,false,false,false] rfl rfl rfl (by kernel_rfl) (by kernel_rfl) (by kernel_rfl) (fun _ _ _ h=>h) (by decide) ?ry15 (fun _=>⟨lb,q1⟩) ?rm15
      case ry15=>first | exact Or.inl ⟨by rfl,by intro w';go_simp;first | done | rfl⟩
      case rm15=>
      simp only[Act.put,List.setIfInBounds_toArray,List.set_cons_zero,List.set_cons_succ]
      refine anyT_take 3 90 ?rv16 #[true,false,true,true,false,false,false,false,false] rfl rfl rfl (by kernel_rfl) (by kernel_rfl) (by kernel_rfl) (fun _ _ _ h=>h) (by kernel_rfl) (by decide) (by kernel_rfl) ?ry16 (⟨lb,q1⟩) ?rm16
      case ry16=>first | exact Or.inl ⟨by rfl,by intro w' hw';(try dsimp only at hw');go_simp;first | done | rfl⟩
      case rm16=>
      simp only[Act.put,List.setIfInBounds_toArray,List.set_cons_zero,List.set_cons_succ]
      refine free4 8 2 6 rfl 1 4 5 6 88 91 18 19 (fun x1 x4 y5 y6=>#[true,x1,true,true,x4,y5,y6,false,false]) (St18 w7.drew L (A:Nat)) (by kernel_rfl) (by intros;rfl) (by intros;rfl) (by intros;rfl) (by intros;rfl) ?hx ?h1 ?h4 ?h5 ?h6 ?h0 rfl ?hinit
      case hx=>(intro x1 x4 y5 y6 v88 v91 v18 v19 w' h;have hb:Below w7.heap.size w7 w':=(Below.refl _ w7).drew.trans h.1;exact⟨cell_to lb hb,cell_to q1 hb⟩)
      case h1=>(intro x4 y5 y6 v88 v91 v18 v19 w' hst;refine op_at 1 rfl (fun K hK=>?_);simp only[put4,Act.put,List.setIfInBounds_toArray,List.set_cons_zero,List.set_cons_succ];go_simp;exact hK.out _ _ ⟨_,rfl,hst.m1⟩)
      case h4=>(intro x1 y5 y6 v88 v91 v18 v19 w' hst;refine op_at 4 rfl (fun K hK=>?_);simp only[put4,Act.put,List.setIfInBounds_toArray,List.set_cons_zero,List.set_cons_succ];go_simp;go_wp2_with (go_at_call 222;refine (hps.out w' ((Below.refl _ w7).drew.trans hst.1)).mono ?_;rintro e w2' ⟨rfl,rfl⟩);exact hK.out _ _ ⟨_,rfl,hst.m4⟩)
      case h5=>(intro x1 x4 y6 v88 v91 v18 v19 w' hst;refine op_at 5 rfl (fun K hK=>?_);simp only[put4,Act.put,List.setIfInBounds_toArray,List.set_cons_zero,List.set_cons_succ];go_simp;exact hK.out _ _ ⟨_,rfl,hst.m5⟩)
      case h6=>(intro x1 x4 y5 v88 v91 v18 v19 w' hst;refine op_at 6 rfl (fun K hK=>?_);simp only[put4,Act.put,List.setIfInBounds_toArray,List.set_cons_zero,List.set_cons_succ];go_simp;exact hK.out _ _ ⟨_,rfl,hst.m6⟩)
      case hinit=>exact⟨Below.refl _ _,fun h=>absurd h (by decide),fun h=>absurd h (by decide),fun h=>absurd h (by decide),fun h=>absurd h (by decide),fun h=>absurd h (by decide),fun h=>absurd h (by decide),fun h=>absurd h (by decide)⟩
      intro v88 v91 v18 v19 w8 hst
      obtain⟨hb8,hr,ha,hl,hp,n1,n2,n3⟩:=hst
      obtain⟨Bl,rfl,l1,R8⟩:=hr rfl
      obtain rfl:=ha rfl
      obtain⟨b18,rfl,l2,B18⟩:=hl rfl
      obtain⟨b19,rfl,l3,B19⟩:=hp rfl
      have n1:Bl≠b18:=n1 rfl rfl
      have n2:Bl≠b19:=n2 rfl rfl
      have n3:b18≠b19:=n3 rfl rfl
      have HB8:Hid (Below w7.heap.size w7 w8):=(Below.refl _ w7).drew.trans hb8
      have X8:Hid (Rw13 w8 Bl L (List.replicate L 0)/\Boxed w8 b18 25 (.slice none 0 0)/\Boxed w8 b19 3 (.int .i64 0)/\w7.heap.size<=Bl/\w7.heap.size<=b18/\w7.heap.size<=b19):=⟨R8,B18,B19,l1,l2,l3⟩
      have s1:=B18.cell
      have fz1:=B18.frozen
      clear hb8 hr ha hl hp R8 B18 B19 l1 l2 l3
      simp only[put4,Act.put,List.setIfInBounds_toArray,List.set_cons_zero,List.set_cons_succ]
      refine anyT_one 7 #[true,true,true,true,true,true,true,true,false] (by kernel_rfl) rfl rfl (fun K hK=>?_)
      go_simp
      have B19':Boxed (w8.setCell ⟨b18,0,none⟩ (.slice (some ⟨Bl,0,none⟩) L L)) b19 3 (.int .i64 0):=(Below.heap_setCell w8 ⟨b18,0,none⟩ (.slice (some ⟨Bl,0,none⟩) L L) b19 (fun e=>n3 e.symm)).trans X8.2.2.1
      have s2:=B19'.cell
      have fz2:=B19'.frozen
      have hb8s:Below w7.heap.size w7 (w8.setCell ⟨b18,0,none⟩ (.slice (some ⟨Bl,0,none⟩) L L)):=HB8.setCell (p:=⟨b18,0,none⟩) X8.2.2.2.2.1 _
      refine hK.out _ _ (fun _=>⟨cell_to lb hb8s,cell_to q1 hb8s⟩) ?_
      clear hK K
      refine anyT_one 8 #[true,true,true,true,true,true,true,true,true] (by kernel_rfl) rfl rfl (fun K hK=>?_)
      go_simp
      refine hK.out _ _ (fun h=>absurd h (by decide)) ?_
      clear hK K
      refine anyT_done (by kernel_rfl) ?_
      obtain⟨w9,hw9⟩:∃ w9,w9=(w8.setCell ⟨b18,0,none⟩ (.slice (some ⟨Bl,0,none⟩) L L)).setCell ⟨b19,0,none⟩ (.int .i64 (A:Nat)):=⟨_,rfl⟩
      rw[<-hw9]
      have hb:Below w7.heap.size w7 w9:=by rw[hw9];exact hb8s.setCell (p:=⟨b19,0,none⟩) X8.2.2.2.2.2 _
      have C18:w9.cell? ⟨b18,0,none⟩=some (.slice (some ⟨Bl,0,none⟩) L L):=by
       rw[hw9]
       exact cell_of_one ((Below.heap_setCell (w8.setCell ⟨b18,0,none⟩ (.slice (some ⟨Bl,0,none⟩) L L)) ⟨b19,0,none⟩ (.int .i64 (A:Nat)) b18 n3).trans (one_setCell (u:=.slice (some ⟨Bl,0,none⟩) L L) X8.2.1))
      have C19:w9.cell? ⟨b19,0,none⟩=some (.int .i64 (A:Nat)):=by
       rw[hw9]
       exact cell_of_one (one_setCell (u:=.int .i64 (A:Nat)) B19')
      have R9:Rw13 w9 Bl L (List.replicate L 0):=by
       rw[hw9]
       exact⟨X8.1.1,X8.1.2.of_block ((Below.heap_setCell (w8.setCell ⟨b18,0,none⟩ (.slice (some ⟨Bl,0,none⟩) L L)) ⟨b19,0,none⟩ (.int .i64 (A:Nat)) Bl n2).trans (Below.heap_setCell w8 ⟨b18,0,none⟩ (.slice (some ⟨Bl,0,none⟩) L L) Bl n1))⟩
      have hb':=hb
      have HB9:Hid (Below w.heap.size w w9):=HB7.trans (hb.mono HB7.size)
      have Pa9:Hid (Abx w9 (w.heap.size+1) _ _ _):=Pa7.go hb
      have Qb9:Hid (Abx w9 (w.heap.size+1+1) _ _ _):=Qb7.go hb
      have Rr9:Hid (Abx w9 (w.heap.size+1+1+1) (.bool false) (.slice none 0 0) (.slice none 0 0)):=Rr7.go hb
      have Lb9:Hid (Boxed w9 w1.heap.size 3 (.int .i64 (L:Nat))):=blk_to Lb7.out hb
      have Ff9:Hid (Boxed w9 w.heap.size 22 (.int .i64 f)):=blk_to Ff7.out hb
      have HQ:Hid (w9.cell? ⟨b18,0,none⟩=some (.slice (some ⟨Bl,0,none⟩) L L)/\w9.cell? ⟨b19,0,none⟩=some (.int .i64 (A:Nat))/\Rw13 w9 Bl L (List.replicate L 0)/\w7.heap.size<=Bl/\(Bl≠b18/\Bl≠b19)/\PairF w6.heap.size w9 (.func (.func k) #[] #[.pointer (some ⟨d,0,none⟩)]) g (c == c')/\w9.cell? ⟨w6.heap.size,0,none⟩=some (.func (.func k) #[] #[.pointer (some ⟨d,0,none⟩)])/\MidC w3.heap.size w4.heap.size w9 ga S gc):=⟨C18,C19,R9,X8.2.2.2.1,⟨n1,n2⟩,HK.1.go hb,cell_to HK.2.1 hb,HK.2.2.1.go (by have:=HK.2.2.2;omega) hb⟩
      have hw6s:=HK.2.2.2
      have hlw1:=Lb7.lt
      have hlR:=Rr7.lt
      clear hw9 hb hb' hb8s C18 C19 R9 B19' s1 s2 fz1 fz2 n1 n2 n3 lb q1 hmk HB8 X8 hps HW7
      have hask:∀ i,i<N->∀ w',(w9.grownBy w' (some Bl)/\∃ xs,Rw13 w' Bl L xs)->Calls Tryz.prog 223 (.int .i64 (i:Nat)::[.pointer (some ⟨b19,0,none⟩),.pointer (some ⟨w1.heap.size,0,none⟩),.pointer (some ⟨b18,0,none⟩),.pointer (some ⟨w6.heap.size,0,none⟩),.pointer (some ⟨w.heap.size+1,0,none⟩),.pointer (some ⟨w.heap.size+1+1,0,none⟩),.pointer (some ⟨w.heap.size,0,none⟩)]).toArray w' (AskJ (fun u=>w9.grownBy u (some Bl)/\∃ xs,Rw13 u Bl L xs) (fun i=>fdV f (inL g c sz dz c' sz' dz' (cr S i))) (fun i=>inX f g c sz dz c' sz' dz' (cr S i)) i w9.heap.size w'):=fun i hi w' hJ=>by
       obtain⟨hG,xs,hR⟩:=hJ
       have hpi:(i:Int)<prod (inS sz sz'):=by rw[<-HS.1,<-HN.1];omega
       have hei:errOf (inS sz sz')=0:=by rw[<-HS.1];exact HN.2.1
       obtain⟨o1,o2⟩:=in_at (dz:=dz) (dz':=dz') HLN.1 HLN.2.1 HLN.2.2.1 hei HLN.2.2.2 HA.out hpi
       obtain⟨e1,e2⟩:=ni_at (f:=f) (g:=g) (c:=c) (dz:=dz) (c':=c') (dz':=dz') HLN.1 HLN.2.1 HLN.2.2.1 hei HLN.2.2.2 HA.out hpi
       have hA4:A<=4096:=by
        have hp:=(cr_parts (s:=sz.take (sz.length-1)) (s':=sz'.drop 1) hei HA.out hpi).2.2.2
        have hz:=(errOf_zero.1 hei).2.2
        rw[show inS sz sz'=sz.take (sz.length-1)++sz'.drop 1 from rfl,prod_append,<-HA.out] at hz
        have h5:(1:Int)*(A:Int)<=prod (sz.take (sz.length-1))*(A:Int):=Int.mul_le_mul_of_nonneg_right (by have h0:=Int.lt_of_le_of_lt (Int.natCast_nonneg _) hp;omega) (by omega)
        omega
       have hdl:=(flawE_zero HF.2.2.1).2.1
       have hdl':=(flawE_zero HF.2.2.2).2.1
       have hz1:=(errOf_zero.1 (flawE_zero HF.2.2.1).1)
       have hz2:=(errOf_zero.1 (flawE_zero HF.2.2.2).1)
       have hI1:=HI.1.2.below HB9.out
       have hI2:=HI.2.2.below HB9.out
       have hBl:=HQ.2.2.2.1
       have hwBl:w.heap.size<=Bl:=by have:=HB7.size;omega
       have h0:=inner1_any f g (c == c') (fun h=>HF.1 (.inr h)) i L A dz.length dz'.length o1 hA4 (by omega) hL4 (by omega) (by omega) b19 w1.heap.size b18 w6.heap.size (w.heap.size+1) (w.heap.size+1+1) w.heap.size Bl w6.heap.size w.heap.size _ da dc dz da' dc' dz' rfl rfl (fun k hk=>by have:=(o2 k).2.2 hk;omega) HT.1 HT.2 w'
        (gb_cell hG HQ.2.1 (fun e=>HQ.2.2.2.2.1.2 e.symm)) (gb_cell hG Lb9.cell (by show w1.heap.size≠Bl;omega)) (gb_cell hG HQ.1 (fun e=>HQ.2.2.2.2.1.1 e.symm)) (gb_cell hG HQ.2.2.2.2.2.2.1 (by show w6.heap.size≠Bl;omega)) (gb_cell hG Pa9.c2 (by show w.heap.size+1≠Bl;omega)) (gb_cell hG Qb9.c2 (by show w.heap.size+1+1≠Bl;omega)) (gb_cell hG Ff9.cell (by show w.heap.size≠Bl;omega))
        (fun e=>HQ.2.2.2.2.1.2 e.symm) (by omega) (fun e=>HQ.2.2.2.2.1.1 e.symm) (by omega) (by omega) (by omega) (by omega) (HQ.2.2.2.2.2.1.grown hG (by omega)) (by omega) hwBl (Nat.le_trans HB9.size hG.size) (gb_ints hG hI1 hwBl HB9.size) (gb_ints hG hI2 hwBl HB9.size) xs hR
       refine h0.mono ?_
       rintro e w'' ⟨v,rfl,hv,hg2,ys,hR2⟩
       have hlt9:=HQ.2.2.1.2.lt
       refine⟨v,?_,?_,⟨gb_trans hG hg2,ys,hR2⟩,hg2.size,fun b0 hb0 hl=>hg2.block b0 hl (fun e=>by have:=Option.some.inj e;omega)⟩
       ·show _=Ending.returned (.tuple #[.int .i64 v,errV (inX f g c sz dz c' sz' dz' (cr S i))])
        rw[HS.1,e2]
       ·show inX f g c sz dz c' sz' dz' (cr S i)=0->v=fdV f (inL g c sz dz c' sz' dz' (cr S i))
        rw[HS.1,e1,e2]
        exact hv
      have htell:=ptell_any ga n gc N 223 [.pointer (some ⟨b19,0,none⟩),.pointer (some ⟨w1.heap.size,0,none⟩),.pointer (some ⟨b18,0,none⟩),.pointer (some ⟨w6.heap.size,0,none⟩),.pointer (some ⟨w.heap.size+1,0,none⟩),.pointer (some ⟨w.heap.size+1+1,0,none⟩),.pointer (some ⟨w.heap.size,0,none⟩)] (enters_of Tryz.func223 (by kernel_rfl) rfl) (fun i=>fdV f (inL g c sz dz c' sz' dz' (cr S i))) (fun i=>inX f g c sz dz c' sz' dz' (cr S i)) hN4 w9 (fun u=>w9.grownBy u (some Bl)/\∃ xs,Rw13 u Bl L xs) ⟨gb_refl _ _,_,HQ.2.2.1⟩ (fun u1 u2 h k=>⟨gb_bel h.1 (Nat.le_refl _) k,by obtain⟨xs,hx⟩:=h.2;exact⟨xs,hx.1,hx.2.of_block (k.block Bl HQ.2.2.1.2.lt)⟩⟩) hask
      have HTl:Hid (Calls Tryz.prog 219 #[.slice ga n gc,.int .i64 (N:Nat),.func (.func 223) #[] #[.pointer (some ⟨b19,0,none⟩),.pointer (some ⟨w1.heap.size,0,none⟩),.pointer (some ⟨b18,0,none⟩),.pointer (some ⟨w6.heap.size,0,none⟩),.pointer (some ⟨w.heap.size+1,0,none⟩),.pointer (some ⟨w.heap.size+1+1,0,none⟩),.pointer (some ⟨w.heap.size,0,none⟩)]] w9 (TlP (fun u=>w9.grownBy u (some Bl)/\∃ xs,Rw13 u Bl L xs) N (fun i=>fdV f (inL g c sz dz c' sz' dz' (cr S i))) (fun i=>inX f g c sz dz c' sz' dz' (cr S i)) ga n gc w9)):=htell
      have HZ:Hid (w6.heap.size+1=w7.heap.size/\w.heap.size+1+1+1<w7.heap.size):=⟨hw6s,hlR⟩
      clear htell hask hw6s hlw1 hlR
      go_wp2_with fail
      refine HTl.mono ?_
      rintro e w10 (⟨i,hi,hne,rfl,hb⟩ | ⟨hall,ya,yc,rfl,hY,hb⟩)
      ·have hbl:=HQ.2.2.2.1
       have Rr10:Hid (Abx w10 (w.heap.size+1+1+1) (.bool false) (.slice none 0 0) (.slice none 0 0)):=abx_gb Rr9.out hb.1 (by have:=HZ.2;omega)
       have HB10:Hid (Below w.heap.size w w10):=HB9.grown hb.1 HB9.size (fun k e=>by have:=Option.some.inj e;have:=HZ.2;omega)
       have HE:Hid (inE f g c sz dz c' sz' dz'=6/\inX f g c sz dz c' sz' dz' (cr S i)=6):=by
        refine⟨?_,?_⟩
        ·rw[HNE.out,<-HS.1,if_neg (not_not_intro HN.2.1),if_neg HC.out,if_neg HNN.out,if_neg]
         exact fun h=>hne (by simpa using List.all_eq_true.1 h i (List.mem_range.2 (by rw[<-HN.2.2];exact hi)))
        ·have h6:inX f g c sz dz c' sz' dz' (cr S i)=0\/inX f g c sz dz c' sz' dz' (cr S i)=6:=by
          unfold inX
          split
          ·exact fdE_cases (by have:=HF.1;omega) _
          ·exact .inr rfl
         exact h6.resolve_left hne
       simp only[HE.2]
       replace HE:Hid (inE f g c sz dz c' sz' dz'=6):=HE.1
       clear hb hne HTl hbl
       have r0:=Rr10.c0
       have r1:=Rr10.c1
       have r2:=Rr10.c2
       have f0:=Rr10.fr 0
       have f1:=Rr10.fr 1
       have f2:=Rr10.fr 2
       go_wp2_with fail
       have FF:=Rr10.set3 (.bool false) (.slice none 0 0) (.slice none 0 0)
       have z0:=FF.c0
       have z1:=FF.c1
       have z2:=FF.c2
       exact bodyPost_ret (v:=.tuple #[.agg #[.bool false,.slice none 0 0,.slice none 0 0],.iface 28 (.int .i64 6)]) (by simp[results,Tryz.results145,go_sem,z0,z1,z2]) rfl (ub13_no HE.out (by decide) (bel_set3 HB10.out (by omega) _ _ _))
      ·have hbl:=HQ.2.2.2.1
       have Rr10:Hid (Abx w10 (w.heap.size+1+1+1) (.bool false) (.slice none 0 0) (.slice none 0 0)):=abx_gb Rr9.out hb.1 (by have:=HZ.2;omega)
       have HB10:Hid (Below w.heap.size w w10):=HB9.grown hb.1 HB9.size (fun k e=>by have:=Option.some.inj e;have:=HZ.2;omega)
       have HE:Hid (inE f g c sz dz c' sz' dz'=0/\upP (fun i=>fdV f (inL g c sz dz c' sz' dz' (cr S i))) N=inZ13 f g c sz dz c' sz' dz'):=by
        refine⟨?_,?_⟩
        ·rw[HNE.out,<-HS.1,if_neg (not_not_intro HN.2.1),if_neg HC.out,if_neg HNN.out,if_pos]
         exact List.all_eq_true.2 fun i hi=>by
          have:=hall i (by rw[HN.2.2];exact List.mem_range.1 hi)
          simpa using this
        ·unfold upP inZ13 TA
         rw[<-HS.1,<-HN.2.2]
       have h49:w4.heap.size<=w9.heap.size:=by have:=HQ.2.2.1.2.lt;have:=HZ.1;omega
       have HX:Hid (MidC w3.heap.size w4.heap.size w10 ga S gc/\NewC w9.heap.size w10 ya (inZ13 f g c sz dz c' sz' dz') yc/\w9.heap.size<=w10.heap.size/\w4.heap.size<=w9.heap.size):=⟨mid_gb HQ.2.2.2.2.2.2.2 h49 hb.1 (by have:=HZ.1;omega),by rw[<-HE.2];exact hY,hb.1.size,h49⟩
       have hR3:=HM.2
       have hR9:=Rr9.lt
       have hw3:=HB2.size
       clear hb hall hY HTl hbl h49
       have r0:=Rr10.c0
       have r1:=Rr10.c1
       have r2:=Rr10.c2
       have f0:=Rr10.fr 0
       have f1:=Rr10.fr 1
       have f2:=Rr10.fr 2
       go_wp2_with fail
       have FF:=Rr10.set3 (.bool false) (.slice ga n gc) (.slice ya N yc)
       have z0:=FF.c0
       have z1:=FF.c1
       have z2:=FF.c2
       refine bodyPost_ret (v:=.tuple #[.agg #[.bool false,.slice ga n gc,.slice ya N yc],.nilIface]) (by simp[results,Tryz.results145,go_sem,z0,z1,z2]) rfl ?_
       have hX:=HX.1.s3 (b:=w.heap.size+1+1+1) (.inl (by omega)) (.bool false) (.slice ga n gc) (.slice ya N yc)
       have hY:=HX.2.1.set3 (b:=w.heap.size+1+1+1) (by omega) (.bool false) (.slice ga n gc) (.slice ya N yc)
       have h10:=HX.2.2.1
       have h49:=HX.2.2.2
       have hU:=ub13_ok (e:=inE f g c sz dz c' sz' dz') (w:=w) HE.1 (S:=S) (D:=inZ13 f g c sz dz c' sz' dz') (n:=n) (m:=N) HS.2 (by rw[<-HE.2,upP_length]) ⟨(hX.1.new (by rw[size_set3];omega)).low (by omega),hX.2⟩ (hY.low HB9.size) (bel_set3 HB10.out (b:=w.heap.size+1+1+1) (by omega) (.bool false) (.slice ga n gc) (.slice ya N yc))
       unfold niS13 niD13
       rw[<-HS.1]
       exact hU
   ·have HE:Hid (inE f g c sz dz c' sz' dz'=errOf S):=by
     show _=_
     rw[HNE.out,<-HS.1,if_pos he]
    have HN:Hid (errOf S≠0):=he
    rw[errV_pos he]
    clear he
    have r0:=Rr5.c0
    have r1:=Rr5.c1
    have r2:=Rr5.c2
    have f0:=Rr5.fr 0
    have f1:=Rr5.fr 1
    have f2:=Rr5.fr 2
    go_wp2_with fail
    have FF:=Rr5.set3 (.bool false) (.slice none 0 0) (.slice none 0 0)
    have z0:=FF.c0
    have z1:=FF.c1
    have z2:=FF.c2
    exact bodyPost_ret (v:=.tuple #[.agg #[.bool false,.slice none 0 0,.slice none 0 0],.iface 28 (.int .i64 (errOf S))]) (by simp[results,Tryz.results145,go_sem,z0,z1,z2]) rfl (ub13_no HE.out HN.out (bel_set3 HB5.out (by omega) _ _ _))
  ·have hlt1:0<=1:=by omega
   have HE:Hid (inE f g c sz dz c' sz' dz'=cmE sz sz'):=by
    show _=_
    unfold cmE at hce
    unfold inE cmE
    rw[if_neg HF.1,if_neg (not_not_intro HF.2.1)]
    by_cases h:sz.length=0\/sz'.length=0
    ·rw[if_pos h,if_pos h]
    ·rw[if_neg h] at hce
     rw[if_neg h,if_neg h]
     by_cases h2:inN sz=nth sz' 0
     ·rw[if_neg (not_not_intro h2)] at hce;exact absurd rfl hce
     ·rw[if_pos h2,if_pos h2]
   have HN:Hid (cmE sz sz'≠0):=hce
   rw[errV_pos hce]
   rw[HW2.out] at Rr2 HB2
   clear hce
   have r0:=Rr2.c0
   have r1:=Rr2.c1
   have r2:=Rr2.c2
   have f0:=Rr2.fr 0
   have f1:=Rr2.fr 1
   have f2:=Rr2.fr 2
   go_wp2_with fail
   have FF:=Rr2.set3 (.bool false) (.slice none 0 0) (.slice none 0 0)
   have z0:=FF.c0
   have z1:=FF.c1
   have z2:=FF.c2
   exact bodyPost_ret (v:=.tuple #[.agg #[.bool false,.slice none 0 0,.slice none 0 0],.iface 28 (.int .i64 (cmE sz sz'))]) (by simp[results,Tryz.results145,go_sem,z0,z1,z2]) rfl (ub13_no HE.out HN.out (bel_set3 HB2.out (by omega) _ _ _))
 ·have HE:Hid (inE f g c sz dz c' sz' dz'=pcE [f,g] c sz dz c' sz' dz'):=ni_pc he
  have HN:Hid (pcE [f,g] c sz dz c' sz' dz'≠0):=he
  rw[errV_pos he]
  clear he
  have r0:=Rr1.c0
  have r1:=Rr1.c1
  have r2:=Rr1.c2
  have f0:=Rr1.fr 0
  have f1:=Rr1.fr 1
  have f2:=Rr1.fr 2
  go_wp2_with fail
  have FF:=Rr1.set3 (.bool false) (.slice none 0 0) (.slice none 0 0)
  have z0:=FF.c0
  have z1:=FF.c1
  have z2:=FF.c2
  exact bodyPost_ret (v:=.tuple #[.agg #[.bool false,.slice none 0 0,.slice none 0 0],.iface 28 (.int .i64 (pcE [f,g] c sz dz c' sz' dz'))]) (by simp[results,Tryz.results145,go_sem,z0,z1,z2]) rfl (ub13_no HE.out HN.out (bel_set3 HB1.out (by omega) _ _ _))
end Go.Proofs.YtkmmkcpfhnifhaaGreatDoor
