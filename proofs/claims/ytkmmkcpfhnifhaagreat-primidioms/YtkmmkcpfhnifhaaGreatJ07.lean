/- What the program tells, in part. -/
import Derived.Test.YtkmmkcpfhnifhaaGreatJ06
import Derived.Deep.AppendLies
set_option linter.unusedVariables false
set_option maxHeartbeats 4000000
set_option maxRecDepth 100000
namespace Go.Proofs.YtkmmkcpfhnifhaaGreat
open Go.RowKit
theorem alongb_any (x:Int)(c:Bool)(sa:Option Addr)(sc:Nat)(sz:List Int)(da:Option Addr)(dc:Nat)(dz:List Int)(f:Nat)(cs:List Value)(hE:∀ args w,(callFunc f args).run Tryz.prog w=.ok (.enter f args) w)(g:Int->Int)(hx:In64 x)(h1:sz.length<=9223372036854775807)(h2:dz.length<=9223372036854775807)(w:World)(hs:IsC w.heap.size w sa sz sc)(hd:IsInts w.heap.size w da dz)
  (hg:∀ i,0<=i->i<nth sz x.toNat->0<=g i/\g i<nth sz x.toNat)
  (H:∀ i:Nat,(i:Int)<nth sz x.toNat->nth sz x.toNat<=4096->∀ w',Below w.heap.size w w'->Calls Tryz.prog f (.int .i64 (i:Nat)::.int .i64 (nth sz x.toNat)::cs).toArray w' (fun e w''=>e=.returned (.int .i64 (g i))/\w''=w')):
  Calls Tryz.prog 100 #[.int .i64 x,.agg #[.bool c,.slice sa sz.length sc,.slice da dz.length dc],.func (.func f) #[] cs.toArray] w (UB (axE x c sz dz) (onc (axE x c sz dz) c) (axS5 x c sz dz) (onl (axE x c sz dz) (GA sz dz sz (mvT x.toNat g))) w):=by
 have HI:Hid (IsC w.heap.size w sa sz sc/\IsInts w.heap.size w da dz):=⟨hs,hd⟩
 have HH:Hid (∀ i:Nat,(i:Int)<nth sz x.toNat->nth sz x.toNat<=4096->∀ w',Below w.heap.size w w'->Calls Tryz.prog f (.int .i64 (i:Nat)::.int .i64 (nth sz x.toNat)::cs).toArray w' (fun e w''=>e=.returned (.int .i64 (g i))/\w''=w')):=H
 have HG:Hid (∀ i,0<=i->i<nth sz x.toNat->0<=g i/\g i<nth sz x.toNat):=hg
 have HX:Hid (In64 x):=hx
 clear hs hd H hg hx
 have HB0:Hid (Below w.heap.size w ((w.alloc (.cells #[.bool c,.slice sa sz.length sc,.slice da dz.length dc] 24)).alloc (.cells #[.bool false,.slice none 0 0,.slice none 0 0] 24))):=((Below.refl _ w).alloc (Nat.le_refl _) _).alloc (by simp) _
 have pa:=(Abx.new w (.bool c) (.slice sa sz.length sc) (.slice da dz.length dc)).al (.cells #[.bool false,.slice none 0 0,.slice none 0 0] 24)
 have pr:=Abx.new1 w (.cells #[.bool c,.slice sa sz.length sc,.slice da dz.length dc] 24) (.bool false) (.slice none 0 0) (.slice none 0 0)
 have p0:=pa.c0
 have p1:=pa.c1
 have p2:=pa.c2
 by_cases h3:flawE c sz dz=0
 ·have H3:Hid (flawE c sz dz=0):=h3
  have HL:Hid (sz.length<=6/\dz.length<=4096):=flawE_short h3
  clear h3
  go_enter Tryz.func100,Tryz.ntmps100
  go_wp2_with fail
  refine (check_ok c sa sc sz da dc dz h1 h2 _ ((HI.1.1.below HB0.out).mono HB0.size) ((HI.2.below HB0.out).mono HB0.size) H3.out).mono ?_
  rintro e v1 ⟨rfl,hC⟩
  have HB1:Hid (Below w.heap.size w v1):=HB0.trans (hC.mono HB0.size)
  have HP:Hid (Abx v1 w.heap.size (.bool c) (.slice sa sz.length sc) (.slice da dz.length dc)):=pa.go hC
  have HR:Hid (Abx v1 (w.heap.size+1) (.bool false) (.slice none 0 0) (.slice none 0 0)):=pr.go hC
  clear hC pa pr p0 p1 p2 HB0
  have p0:=HP.c0
  have p1:=HP.c1
  have p2:=HP.c2
  by_cases hx0:x<0
  ·have HE:Hid (axE x c sz dz=5):=axE_index6 H3.out (.inl hx0)
   have r0:=HR.c0
   have r1:=HR.c1
   have r2:=HR.c2
   have f0:=HR.fr 0
   have f1:=HR.fr 1
   have f2:=HR.fr 2
   go_wp2_with fail
   have F:=HR.set3 (.bool false) (.slice none 0 0) (.slice none 0 0)
   have q0:=F.c0
   have q1:=F.c1
   have q2:=F.c2
   exact bodyPost_ret (v:=.tuple #[.agg #[.bool false,.slice none 0 0,.slice none 0 0],.iface 43 (.int .i64 5)]) (by simp[results,Tryz.results100,go_sem,q0,q1,q2]) rfl (UB.mkno HE.out (by decide) (bel_set3 HB1.out (by omega) _ _ _))
  ·by_cases hx1:(sz.length:Int)<=x
   ·have HE:Hid (axE x c sz dz=5):=axE_index6 H3.out (.inr hx1)
    have r0:=HR.c0
    have r1:=HR.c1
    have r2:=HR.c2
    have f0:=HR.fr 0
    have f1:=HR.fr 1
    have f2:=HR.fr 2
    go_wp2_with fail
    have F:=HR.set3 (.bool false) (.slice none 0 0) (.slice none 0 0)
    have q0:=F.c0
    have q1:=F.c1
    have q2:=F.c2
    exact bodyPost_ret (v:=.tuple #[.agg #[.bool false,.slice none 0 0,.slice none 0 0],.iface 43 (.int .i64 5)]) (by simp[results,Tryz.results100,go_sem,q0,q1,q2]) rfl (UB.mkno HE.out (by decide) (bel_set3 HB1.out (by omega) _ _ _))
   ·obtain⟨xn,rfl⟩:∃ xn:Nat,x=(xn:Int):=⟨x.toNat,by omega⟩
    have hxl:xn<sz.length:=by omega
    have HE:Hid (axE (xn:Int) c sz dz=0):=axE_zero.2 ⟨H3.out,by omega,by omega⟩
    have HF:Hid (errOf sz=0/\(dz.length:Int)=prod sz):=⟨(flawE_zero H3.out).1,(flawE_zero H3.out).2.1⟩
    rw[Int.toNat_natCast] at HH HG ⊢
    clear hx0
    obtain⟨bs,os,rfl,hbs,hcS⟩:=(HI.1.1.below HB1.out).at hxl
    have cs1:=hcS xn hxl
    clear hcS
    go_wp2_with fail
    refine bT 10 (fun w'=>w'.cell? ⟨w.heap.size,1,none⟩=some (.slice (some ⟨bs,os,none⟩) sz.length sc)/\w'.cell? ⟨bs,os+xn,none⟩=some (.int .i64 (nth sz xn))) 11 (⟨p1,cs1⟩) fun hq0=>?_
    refine pT 0 hq0 ?_;refine lT 1 hq0 ?_;refine pT 2 hq0 ?_;refine pT 3 hq0 ?_;refine lT 4 hq0 ?_;refine pT 5 hq0 ?_;refine lT 6 hq0 ?_;refine pT 7 hq0 ?_
    clear hq0
    refine oT 8 fun K hK=>?_
    go_simp
    go_wp2_with (go_at_call 162;refine (step_any (some ⟨bs,os,none⟩) sc sz xn hxl HF.1 v1.heap.size v1.drew ((HI.1.below HB1.out).mono HB1.size)).mono ?_;rintro e w2 ⟨rfl,rfl⟩)
    refine hK.out _ _ (fun _=>⟨p1,cs1⟩) ?_
    clear hK K
    refine oT 9 fun K hK=>?_
    go_simp
    refine hK.out _ _ (fun _=>⟨p1,cs1⟩) ?_
    clear hK K
    refine oT 10 fun K hK=>?_
    go_simp
    refine hK.out _ _ (fun h=>absurd h (by decide)) ?_
    clear hK K
    refine dT ?_
    obtain⟨v,hv⟩:∃ v,v=v1.drew:=⟨_,rfl⟩
    rw[<-hv]
    have HB2:Hid (Below w.heap.size w v):=by rw[hv];exact HB1.drew
    have HP2:Hid (Abx v w.heap.size (.bool c) (.slice (some ⟨bs,os,none⟩) sz.length sc) (.slice da dz.length dc)):=by rw[hv];exact HP.out
    have HR2:Hid (Abx v (w.heap.size+1) (.bool false) (.slice none 0 0) (.slice none 0 0)):=by rw[hv];exact HR.out
    clear hv HP HR HB1 p0 p1 p2 cs1
    obtain⟨D,hD⟩:∃ D,D=GA sz dz sz (mvT xn g):=⟨_,rfl⟩
    have HD:Hid (D=GA sz dz sz (mvT xn g)/\D.length=dz.length):=⟨hD,by rw[hD,GA_length];have:=HF.2;omega⟩
    obtain⟨n,hn⟩:∃ n,n=dz.length:=⟨_,rfl⟩
    have HN:Hid (n=dz.length/\n<=4096):=⟨hn,by rw[hn];exact HL.2⟩
    obtain⟨st,hst⟩:∃ st,st=stp sz xn:=⟨_,rfl⟩
    have HST:Hid (st=stp sz xn):=hst
    obtain⟨L,hL⟩:∃ L,L=nth sz xn:=⟨_,rfl⟩
    have HLL:Hid (L=nth sz xn):=hL
    have p2:=HP2.c2
    rw[<-hn] at p2
    have hmk:=run_make_row' (P:=Tryz.prog) 22 3 (.int .i64 0) 8 Tryz.underlying22 Tryz.infoInt rfl .i64 .i64 n (by have:=HN.2;omega) (by have:=HN.2;omega)
    rw[<-hst,<-hL]
    rw[Int.toNat_natCast]
    clear hst hL hn hD
    go_wp2_with fail
    clear hmk p2
    go_loopw [46] (fun i wr=>∃ k:Nat,k<=n/\i=.int .i64 k/\wr.rowIs v.heap.size 3 n (upTo (nth D) k)/\Abx wr w.heap.size (.bool c) (.slice (some ⟨bs,os,none⟩) sz.length sc) (.slice da n dc)/\Abx wr (w.heap.size+1) (.bool false) (.slice none 0 0) (.slice none 0 0)/\Below w.heap.size w wr) (fun i _=>n-(intOf i).toNat)
    case atStart=>
     refine⟨0,Nat.zero_le _,rfl,(World.rowIs_made v (.int .i64 0) n 3).congr (fun j _=>by simp[upTo]),?_,HR2.al _,HB2.alloc HB2.size _⟩
     rw[HN.1];exact HP2.al _
    case round=>
     obtain⟨k,hk,rfl,hrow,hA,hR,hB⟩:=hrel
     have hvR:w.heap.size+1<v.heap.size:=HR2.lt
     by_cases hlt:k<n
     ·obtain⟨y1,y2,y3,y4,⟨i,y5,y6,y7,y8,y9,y10,y11⟩,m,y12,y13,y14⟩:=mv_round (g:=g) HF.1 HF.2 hxl (j:=k) (by rw[<-HN.1];exact hlt) HG.out
      rw[<-HST.out] at y1 y2 y5 y7 y8 y9
      rw[<-HLL.out] at y3 y4 y5 y6 y11
      rw[<-HN.1] at y12
      have HV:Hid (nth dz m=nth D k):=by show _=_;rw[HD.1];exact y14
      have HM:Hid (m<dz.length):=by rw[<-HN.1];exact y12
      have hsum:(k:Int)+(g i-i)*st=m:=by rw[<-y7,y13]
      obtain⟨G,hG⟩:∃ G,G=g i:=⟨_,rfl⟩
      rw[<-hG] at y8 y9 y10 y11 hsum
      obtain⟨P,hP⟩:∃ P,P=(G-i)*st:=⟨_,rfl⟩
      rw[<-hP] at y8 y9 hsum
      have hn5:n<=4096:=HN.2
      have hw:IntKind.i64.wrap ((k:Int)+IntKind.i64.wrap (IntKind.i64.wrap (G-(i:Int))*st))=(m:Int):=by
       rw[IntWalk.i64_in (G-(i:Int)) (by omega),<-hP,IntWalk.i64_in P (by omega),hsum];exact IntWalk.i64_in _ (by omega)
      have HGi:Hid (g i=G):=hG.symm
      have y10':0<=G:=y10
      obtain⟨bd,od,rfl,hbd,hcD⟩:=(HI.2.below hB).at HM.out
      have cd:=hcD m HM.out
      have HC:Hid (Calls Tryz.prog f (.int .i64 (i:Nat)::.int .i64 L::cs).toArray wr.drew (fun e w''=>e=.returned (.int .i64 G)/\w''=wr.drew)):=by
       have h:=HH.out i (by rw[<-HLL.out];exact y6) (by rw[<-HLL.out];exact y4) wr.drew hB.drew
       rw[<-HLL.out,<-hG] at h
       exact h
      have HQ:Hid (wr.rowIs v.heap.size 3 n (upTo (nth D) k)/\Abx wr w.heap.size (.bool c) (.slice (some ⟨bs,os,none⟩) sz.length sc) (.slice (some ⟨bd,od,none⟩) n dc)/\Abx wr (w.heap.size+1) (.bool false) (.slice none 0 0) (.slice none 0 0)/\Below w.heap.size w wr):=⟨hrow,hA,hR,hB⟩
      have e2:=hA.c2
      have c2:=hrow.cell hlt
      have f2:=hrow.frozen k
      clear hrow hA hR hB hcD y7 y13 y14 hP hG y10
      have hn4:n<=4096:=HN.2
      have HQI:Hid ((wrap64 ((k:Int)/st)).tmod L=(i:Int)):=by
       have e0:0<=(k:Int)/st:=Int.ediv_nonneg (by omega) (by omega)
       have e1:(k:Int)/st<=k:=Int.ediv_le_self _ (by omega)
       show _=_
       rw[wrap64_small (by omega) (by omega),Int.tmod_eq_emod_of_nonneg e0,y5]
      clear y5
      go_wp2_with fail
      rw[HQI.out]
      refine bT 16 (fun w'=>w'.cell? ⟨w.heap.size,2,none⟩=some (.slice (some ⟨bd,od,none⟩) n dc)/\w'.cell? ⟨bd,od+m,none⟩=some (.int .i64 (nth dz m))) 18 (⟨e2,cd⟩) fun hq12=>?_
      refine pT 0 hq12 ?_;refine pT 1 hq12 ?_;refine pT 2 hq12 ?_;refine lT 3 hq12 ?_;refine pT 4 hq12 ?_;refine pT 5 hq12 ?_;refine pT 6 hq12 ?_;refine pT 7 hq12 ?_
      refine pT 9 hq12 ?_;refine pT 11 hq12 ?_
      clear hq12
      refine oT 8 fun K hK=>?_
      go_simp
      go_wp2_with fail
      refine HC.mono ?_
      rintro e w2 ⟨rfl,rfl⟩
      refine hK.out _ _ (fun _=>⟨e2,cd⟩) ?_
      clear hK K
      refine pT 10 (⟨e2,cd⟩) ?_;refine pT 12 (⟨e2,cd⟩) ?_;refine pT 13 (⟨e2,cd⟩) ?_;refine pT 14 (⟨e2,cd⟩) ?_;refine lT 15 (⟨e2,cd⟩) ?_
      refine oT 16 fun K hK=>?_
      go_simp
      refine hK.out _ _ (fun h=>absurd h (by decide)) ?_
      clear hK K
      refine oT 17 fun K hK=>?_
      go_simp
      refine hK.out _ _ (fun h=>absurd h (by decide)) ?_
      clear hK K
      refine dT ?_
      go_wp2_with fail
      refine⟨⟨k+1,by omega,by go_num,upTo_set HQ.1 _ HV.out,HQ.2.1.ot (a:=⟨v.heap.size,k,none⟩) (by show w.heap.size≠v.heap.size;omega) _,HQ.2.2.1.ot (a:=⟨v.heap.size,k,none⟩) (by show w.heap.size+1≠v.heap.size;omega) _,(HQ.2.2.2.drew).setCell (p:=⟨v.heap.size,k,none⟩) (by show w.heap.size<=v.heap.size;omega) _⟩,by simp[intOf];omega⟩
     ·obtain rfl:k=n:=by omega
      have HY:Hid (NewInts v.heap.size wr (some ⟨v.heap.size,0,none⟩) D):=upTo_new hrow (Nat.le_refl _) D (by rw[HD.2,HN.1]) (fun j hj=>rfl)
      have HDk:Hid (D.length=k):=by show _=_;rw[HD.2,HN.1]
      have HA:Hid (Abx wr w.heap.size (.bool c) (.slice (some ⟨bs,os,none⟩) sz.length sc) (.slice da k dc)):=hA
      have HB:Hid (Below w.heap.size w wr):=hB
      have HRR:Hid (Abx wr (w.heap.size+1) (.bool false) (.slice none 0 0) (.slice none 0 0)):=hR
      have e0:=hA.c0
      have e1:=hA.c1
      have hl6:=HL.1
      clear hrow hA hR hB hk hlt
      go_wp2_with fail
      refine bT 7 (fun w'=>w'.cell? ⟨w.heap.size,0,none⟩=some (.bool c)/\w'.cell? ⟨w.heap.size,1,none⟩=some (.slice (some ⟨bs,os,none⟩) sz.length sc)) 9 (⟨e0,e1⟩) fun hq31=>?_
      refine pT 0 hq31 ?_;refine lT 1 hq31 ?_;refine pT 2 hq31 ?_;refine lT 3 hq31 ?_;refine pT 5 hq31 ?_
      clear hq31
      refine oT 4 fun K hK=>?_
      go_simp
      go_wp2_with (go_at_call 22;refine (clone_any (some ⟨bs,os,none⟩) sc sz (by omega) wr.drew ((HI.1.1.below HB.out).mono HB.size)).mono ?_;rintro e w3 ⟨ga,gc,rfl,hN,hBc⟩)
      have HBc:Hid (Below wr.heap.size wr w3):=(Below.refl _ wr).drew.trans hBc
      have HNn:Hid (NewC wr.heap.size w3 ga sz gc):=hN
      have A3:=HA.go HBc.out
      have R3:=HRR.go HBc.out
      have r0:=R3.c0
      have r1:=R3.c1
      have r2:=R3.c2
      have f0:=R3.fr 0
      have f1:=R3.fr 1
      have f2:=R3.fr 2
      clear hN hBc
      refine hK.out _ _ (fun _=>⟨A3.c0,A3.c1⟩) ?_
      clear hK K
      refine pT 6 (⟨A3.c0,A3.c1⟩) ?_
      refine oT 7 fun K hK=>?_
      go_simp
      refine hK.out _ _ (fun h=>absurd h (by decide)) ?_
      clear hK K
      refine oT 8 fun K hK=>?_
      go_simp
      refine hK.out _ _ (fun h=>absurd h (by decide)) ?_
      clear hK K
      refine dT ?_
      go_wp2_with fail
      have F:=R3.set3 (.bool c) (.slice ga sz.length gc) (.slice (some ⟨v.heap.size,0,none⟩) k k)
      have q0:=F.c0
      have q1:=F.c1
      have q2:=F.c2
      refine bodyPost_ret (v:=.tuple #[.agg #[.bool c,.slice ga sz.length gc,.slice (some ⟨v.heap.size,0,none⟩) k k],.nilIface]) (by simp[results,Tryz.results100,go_sem,q0,q1,q2]) rfl ?_
      have hwr:w.heap.size+1<wr.heap.size:=HRR.lt
      have hX:=(HNn.set3 (b:=w.heap.size+1) (by omega) (.bool c) (.slice ga sz.length gc) (.slice (some ⟨v.heap.size,0,none⟩) k k)).low (lo':=w.heap.size) (by omega)
      have hY:=((HY.go HBc.out).set3 (b:=w.heap.size+1) (by omega) (.bool c) (.slice ga sz.length gc) (.slice (some ⟨v.heap.size,0,none⟩) k k)).low (lo':=w.heap.size) (by omega)
      have hZ:=bel_set3 (HB.trans (HBc.mono HB.size)) (b:=w.heap.size+1) (by omega) (.bool c) (.slice ga sz.length gc) (.slice (some ⟨v.heap.size,0,none⟩) k k)
      have hUA:=UB.mkok (c:=c) (yc:=k) HE.out hX ⟨hY,by rw[HDk.out];exact Nat.le_refl _⟩ hZ
      rw[HDk.out,HD.1] at hUA
      exact hUA
 ·have H3:Hid (flawE c sz dz≠0):=h3
  have HE:Hid (axE x c sz dz=flawE c sz dz):=axE_flaw6 h3
  clear h3
  go_enter Tryz.func100,Tryz.ntmps100
  go_wp2_with fail
  refine (check_no c sa sc sz da dc dz h1 h2 _ ((HI.1.1.below HB0.out).mono HB0.size) ((HI.2.below HB0.out).mono HB0.size) H3.out).mono ?_
  rintro e v1 ⟨rfl,hC⟩
  have HB1:Hid (Below w.heap.size w v1):=HB0.trans (hC.mono HB0.size)
  have HR:Hid (Abx v1 (w.heap.size+1) (.bool false) (.slice none 0 0) (.slice none 0 0)):=pr.go hC
  clear hC pa pr p0 p1 p2 HB0
  have r0:=HR.c0
  have r1:=HR.c1
  have r2:=HR.c2
  have f0:=HR.fr 0
  have f1:=HR.fr 1
  have f2:=HR.fr 2
  go_wp2_with fail
  have F:=HR.set3 (.bool false) (.slice none 0 0) (.slice none 0 0)
  have q0:=F.c0
  have q1:=F.c1
  have q2:=F.c2
  exact bodyPost_ret (v:=.tuple #[.agg #[.bool false,.slice none 0 0,.slice none 0 0],.iface 43 (.int .i64 (flawE c sz dz))]) (by simp[results,Tryz.results100,go_sem,q0,q1,q2]) rfl (UB.mkno HE.out H3.out (bel_set3 HB1.out (by omega) _ _ _))
def CRtB:Prop:=∀ (n x:Int) (c:Bool) (sa:Option Addr) (sc:Nat) (sz:List Int) (da:Option Addr) (dc:Nat) (dz:List Int) (w:World),In64 n->In64 x->sz.length<=9223372036854775807->dz.length<=9223372036854775807->IsC w.heap.size w sa sz sc->IsInts w.heap.size w da dz->(∀ j,In64 (nth dz j)) →
 Calls Tryz.prog 66 #[.int .i64 n,.int .i64 x,.agg #[.bool c,.slice sa sz.length sc,.slice da dz.length dc]] w (UB (axE x c sz dz) (onc (axE x c sz dz) c) (axS5 x c sz dz) (rtD5 x n c sz dz) w)
def CIx:Prop:=∀ (c:Bool) (sa:Option Addr) (sc:Nat) (sz:List Int) (da:Option Addr) (dc:Nat) (dz:List Int) (c':Bool) (sa':Option Addr) (sc':Nat) (sz':List Int) (da':Option Addr) (dc':Nat) (dz':List Int) (w:World),sz.length<=9223372036854775807->dz.length<=9223372036854775807->sz'.length<=9223372036854775807->dz'.length<=9223372036854775807->IsInts w.heap.size w sa sz->IsInts w.heap.size w da dz->IsInts w.heap.size w sa' sz'->IsInts w.heap.size w da' dz'->(∀ j,In64 (nth dz j))->(∀ j,In64 (nth dz' j)) →
 Calls Tryz.prog 69 #[.agg #[.bool c,.slice sa sz.length sc,.slice da dz.length dc],.agg #[.bool c',.slice sa' sz'.length sc',.slice da' dz'.length dc']] w (UB (ixE c sz dz c' sz' dz') (onc (ixE c sz dz c' sz' dz') false) (onl (ixE c sz dz c' sz' dz') (sz')) (onl (ixE c sz dz c' sz' dz') (ixD c dz c' dz')) w)
def CIn:Prop:=∀ (c:Bool) (sa:Option Addr) (sc:Nat) (sz:List Int) (da:Option Addr) (dc:Nat) (dz:List Int) (c':Bool) (sa':Option Addr) (sc':Nat) (sz':List Int) (da':Option Addr) (dc':Nat) (dz':List Int) (w:World),sz.length<=9223372036854775807->dz.length<=9223372036854775807->sz'.length<=9223372036854775807->dz'.length<=9223372036854775807->IsInts w.heap.size w sa sz->IsInts w.heap.size w da dz->IsInts w.heap.size w sa' sz'->IsInts w.heap.size w da' dz'->(∀ j,In64 (nth dz j))->(∀ j,In64 (nth dz' j)) →
 Calls Tryz.prog 70 #[.agg #[.bool c,.slice sa sz.length sc,.slice da dz.length dc],.agg #[.bool c',.slice sa' sz'.length sc',.slice da' dz'.length dc']] w (UB (flawsE c sz dz c' sz' dz') (onc (flawsE c sz dz c' sz' dz') false) (onl (flawsE c sz dz c' sz' dz') (sz)) (onl (flawsE c sz dz c' sz' dz') (inD c dz c' dz')) w)
def CNb:Prop:=∀ (c:Bool) (sa:Option Addr) (sc:Nat) (sz:List Int) (da:Option Addr) (dc:Nat) (dz:List Int) (w:World),sz.length<=9223372036854775807->dz.length<=9223372036854775807->IsInts w.heap.size w sa sz->IsInts w.heap.size w da dz->(∀ j,In64 (nth dz j)) →
 Calls Tryz.prog 52 #[.agg #[.bool c,.slice sa sz.length sc,.slice da dz.length dc]] w (UB (nbE c sz dz) (onc (nbE c sz dz) c) (onl (nbE c sz dz) ([((nbL dz).length:Int)])) (onl (nbE c sz dz) (nbL dz)) w)
def CWo:Prop:=∀ (c:Bool) (sa:Option Addr) (sc:Nat) (sz:List Int) (da:Option Addr) (dc:Nat) (dz:List Int) (c':Bool) (sa':Option Addr) (sc':Nat) (sz':List Int) (da':Option Addr) (dc':Nat) (dz':List Int) (w:World),sz.length<=9223372036854775807->dz.length<=9223372036854775807->sz'.length<=9223372036854775807->dz'.length<=9223372036854775807->IsInts w.heap.size w sa sz->IsInts w.heap.size w da dz->IsInts w.heap.size w sa' sz'->IsInts w.heap.size w da' dz'->(∀ j,In64 (nth dz j))->(∀ j,In64 (nth dz' j)) →
 Calls Tryz.prog 71 #[.agg #[.bool c,.slice sa sz.length sc,.slice da dz.length dc],.agg #[.bool c',.slice sa' sz'.length sc',.slice da' dz'.length dc']] w (UB (lsE c sz dz c' sz' dz') (onc (lsE c sz dz c' sz' dz') c) (onl (lsE c sz dz c' sz' dz') ([((shD c dz c' dz' false).length:Int)])) (onl (lsE c sz dz c' sz' dz') (shD c dz c' dz' false)) w)
def CMt:Prop:=∀ (c:Bool) (sa:Option Addr) (sc:Nat) (sz:List Int) (da:Option Addr) (dc:Nat) (dz:List Int) (c':Bool) (sa':Option Addr) (sc':Nat) (sz':List Int) (da':Option Addr) (dc':Nat) (dz':List Int) (w:World),sz.length<=9223372036854775807->dz.length<=9223372036854775807->sz'.length<=9223372036854775807->dz'.length<=9223372036854775807->IsInts w.heap.size w sa sz->IsInts w.heap.size w da dz->IsInts w.heap.size w sa' sz'->IsInts w.heap.size w da' dz'->(∀ j,In64 (nth dz j))->(∀ j,In64 (nth dz' j)) →
 Calls Tryz.prog 73 #[.agg #[.bool c,.slice sa sz.length sc,.slice da dz.length dc],.agg #[.bool c',.slice sa' sz'.length sc',.slice da' dz'.length dc']] w (UB (lsE c sz dz c' sz' dz') (onc (lsE c sz dz c' sz' dz') c) (onl (lsE c sz dz c' sz' dz') ([((shD c dz c' dz' true).length:Int)])) (onl (lsE c sz dz c' sz' dz') (shD c dz c' dz' true)) w)
def CUn:Prop:=∀ (c:Bool) (sa:Option Addr) (sc:Nat) (sz:List Int) (da:Option Addr) (dc:Nat) (dz:List Int) (c':Bool) (sa':Option Addr) (sc':Nat) (sz':List Int) (da':Option Addr) (dc':Nat) (dz':List Int) (w:World),sz.length<=9223372036854775807->dz.length<=9223372036854775807->sz'.length<=9223372036854775807->dz'.length<=9223372036854775807->IsInts w.heap.size w sa sz->IsInts w.heap.size w da dz->IsInts w.heap.size w sa' sz'->IsInts w.heap.size w da' dz'->(∀ j,In64 (nth dz j))->(∀ j,In64 (nth dz' j)) →
 Calls Tryz.prog 72 #[.agg #[.bool c,.slice sa sz.length sc,.slice da dz.length dc],.agg #[.bool c',.slice sa' sz'.length sc',.slice da' dz'.length dc']] w (UB (unE c sz dz c' sz' dz') (onc (unE c sz dz c' sz' dz') c) (onl (unE c sz dz c' sz' dz') ([((unD c dz c' dz').length:Int)])) (onl (unE c sz dz c' sz' dz') (unD c dz c' dz')) w)
section
variable (c : Bool) (sz dz : List Int) (c' : Bool) (sz' dz' : List Int)
end
structure K2:Prop where
 two:C2d
 tk:CTk
 dr:CDr
 jn:CJn
 rt:CRtB
 kp:CKp
 sp:CSp
 ix:CIx
 inn:CIn
 wo:CWo
 mt:CMt
 un:CUn
 va:CVa
 dg:CDg
theorem fu_rs (W:World):FuL (.func (.func 63) #[] #[]) W (fun l c sz dz=>anE (errOf l) c l (cyc dz (prod l).toNat (fillE c))):=
 ⟨63,[],rfl,(enters_of Tryz.func63 (by kernel_rfl) rfl),fun la lc l c sa sc sz da dc dz w hB hl T h4 hA=>rs16 la lc l c sa sc sz da dc dz w h4 hl.1 hA⟩
theorem fu_ma (W:World):Fu2 (.func (.func 76) #[] #[]) W (p2A 32):=
 ⟨76,[],rfl,(enters_of Tryz.func76 (by kernel_rfl) rfl),fun c sa sc sz da dc dz c' sa' sc' sz' da' dc' dz' w hB hA hA'=>pmatch_any c sa sc sz da dc dz c' sa' sc' sz' da' dc' dz' w hA hA'⟩
theorem t2_18  (w:World):Calls Tryz.prog 28 #[.int .i64 18] w (Mk2 (p2A 18) w):=by
 have HC:Hid (Calls Tryz.prog 62 #[.func (.func 63) #[] #[]] w (Mk2 (p2A 18) w)):=mk_list _ _ _ (fu_rs w)
 go_enter Tryz.func28,Tryz.ntmps28
 go_wp2_with fail
 refine HC.mono ?_
 rintro e v ⟨u,rfl,hU,hB⟩
 have HU:Hid (Fu2 u v (p2A 18)/\Below w.heap.size w v):=⟨hU,hB⟩
 obtain⟨F,cs,rfl,_,_⟩:=hU
 clear hB HC
 go_wp2_with fail
 go_ret
 exact⟨_,rfl,HU.out⟩
theorem t2_32  (w:World):Calls Tryz.prog 28 #[.int .i64 32] w (Mk2 (p2A 32) w):=by
 go_enter Tryz.func28,Tryz.ntmps28
 go_wp2_with fail
 go_ret
 exact⟨_,rfl,fu_ma _,Below.refl _ _⟩
abbrev BrV:Type:=Bool × ((Option Addr × Nat) × List Int) × ((Option Addr × Nat) × List Int)
def BrV.s (b:BrV):Value:=.slice b.2.1.1.1 b.2.1.2.length b.2.1.1.2
def BrV.d (b:BrV):Value:=.slice b.2.2.1.1 b.2.2.2.length b.2.2.1.2
def brz (bs:List BrV)(j:Nat):BrV:=bs.getD j (false,(((none,0),[]),((none,0),[])))
def IsBv (n:Nat)(W:World)(b:BrV):Prop:=
 b.2.1.2.length<=9223372036854775807/\b.2.2.2.length<=9223372036854775807/\IsInts n W b.2.1.1.1 b.2.1.2/\IsInts n W b.2.2.1.1 b.2.2.2
def IsBs (n:Nat)(W:World)(a:Option Addr)(bs:List BrV):Prop:=
 (bs=[]\/∃ b off,a=some ⟨b,off,none⟩/\b<n/\∀ j,j<bs.length->W.cell? ⟨b,off+j*3,none⟩=some (.bool (brz bs j).1)/\W.cell? ⟨b,off+j*3+1,none⟩=some (brz bs j).s/\W.cell? ⟨b,off+j*3+2,none⟩=some (brz bs j).d)/\∀ j,j<bs.length->IsBv n W (brz bs j)
section
variable {n n' : Nat} {W W' : World} {a : Option Addr} {bs : List BrV}
theorem IsBv.below {b:BrV}(hB:Below n W W')(h:IsBv n W b):IsBv n W' b:=⟨h.1,h.2.1,h.2.2.1.below hB,h.2.2.2.below hB⟩
theorem IsBv.mono {b:BrV}(hn:n<=n')(h:IsBv n W b):IsBv n' W b:=⟨h.1,h.2.1,h.2.2.1.mono hn,h.2.2.2.mono hn⟩
theorem IsBs.below (hB:Below n W W')(h:IsBs n W a bs):IsBs n W' a bs:=by
 refine⟨?_,fun j hj=>(h.2 j hj).below hB⟩
 rcases h.1 with e | ⟨b,off,e,hb,hc⟩
 ·exact .inl e
 ·exact .inr ⟨b,off,e,hb,fun j hj=>⟨(hB.cell (p:=⟨b,off+j*3,none⟩) hb).trans (hc j hj).1,(hB.cell (p:=⟨b,off+j*3+1,none⟩) hb).trans (hc j hj).2.1,(hB.cell (p:=⟨b,off+j*3+2,none⟩) hb).trans (hc j hj).2.2⟩⟩
theorem IsBs.mono (hn:n<=n')(h:IsBs n W a bs):IsBs n' W a bs:=by
 refine⟨?_,fun j hj=>(h.2 j hj).mono hn⟩
 rcases h.1 with e | ⟨b,off,e,hb,hc⟩
 ·exact .inl e
 ·exact .inr ⟨b,off,e,by omega,hc⟩
theorem IsBs.at (h:IsBs n W a bs){j:Nat}(hj:j<bs.length):∃ b off,a=some ⟨b,off,none⟩/\b<n/\∀ j,j<bs.length->W.cell? ⟨b,off+j*3,none⟩=some (.bool (brz bs j).1)/\W.cell? ⟨b,off+j*3+1,none⟩=some (brz bs j).s/\W.cell? ⟨b,off+j*3+2,none⟩=some (brz bs j).d:=by
 rcases h.1 with e | h
 ·subst e;simp at hj
 ·exact h
end
theorem isBs_one {W:World}{b:Nat}{c:Bool}{sa:Option Addr}{sc:Nat}{sz:List Int}{da:Option Addr}{dc:Nat}{dz:List Int}(h:Abx W b (.bool c) (.slice sa sz.length sc) (.slice da dz.length dc))(h1:sz.length<=9223372036854775807)(h2:dz.length<=9223372036854775807)(hs:IsInts W.heap.size W sa sz)(hd:IsInts W.heap.size W da dz):
  IsBs W.heap.size W (some ⟨b,0,none⟩) [(c,(((sa,sc),sz),((da,dc),dz)))]:=by
 refine⟨.inr ⟨b,0,rfl,h.lt,fun j hj=>?_⟩,fun j hj=>?_⟩
 ·obtain rfl:j=0:=by simp at hj;exact hj
  exact⟨h.c0,h.c1,h.c2⟩
 ·obtain rfl:j=0:=by simp at hj;exact hj
  exact⟨h1,h2,hs,hd⟩
def flB:List BrV->Int
 | []=>0
 | b::r=>if flawE b.1 b.2.1.2 b.2.2.2≠0 then flawE b.1 b.2.1.2 b.2.2.2 else flB r
def bsE (c:Bool)(sz dz:List Int)(bs:List BrV):Int:=if flawE c sz dz≠0 then flawE c sz dz else flB bs
theorem flB_append:∀ (l r:List BrV),flB l=0->flB (l++r)=flB r
 | [],_,_=>rfl
 | b::l,r,h=>by
  unfold flB at h
  by_cases e:flawE b.1 b.2.1.2 b.2.2.2=0
  ·rw[if_neg (not_not_intro e)] at h
   rw[List.cons_append,flB,if_neg (not_not_intro e)]
   exact flB_append l r h
  ·rw[if_pos e] at h;exact absurd h e
theorem brz_get {bs:List BrV}{k:Nat}(h:k<bs.length):brz bs k=bs[k]:=by unfold brz;rw[List.getD_eq_getElem?_getD,List.getElem?_eq_getElem h];rfl
theorem flB_next {bs:List BrV}{k:Nat}(hk:k<bs.length)(h:flB (bs.take k)=0)(e:flawE (brz bs k).1 (brz bs k).2.1.2 (brz bs k).2.2.2=0):flB (bs.take (k+1))=0:=by
 rw[brz_get hk] at e
 rw[List.take_succ_eq_append_getElem hk,flB_append _ _ h,flB,if_neg (not_not_intro e)];rfl
theorem flB_bad {bs:List BrV}{k:Nat}(hk:k<bs.length)(h:flB (bs.take k)=0)(e:flawE (brz bs k).1 (brz bs k).2.1.2 (brz bs k).2.2.2≠0):flB bs=flawE (brz bs k).1 (brz bs k).2.1.2 (brz bs k).2.2.2:=by
 rw[brz_get hk] at e ⊢
 obtain⟨b,hb⟩:∃ b,b=bs[k]:=⟨_,rfl⟩
 rw[<-hb] at e ⊢
 have:bs=bs.take k++(b::bs.drop (k+1)):=by rw[hb,<-List.drop_eq_getElem_cons hk,List.take_append_drop]
 rw[this,flB_append _ _ h,flB,if_pos e]
theorem bsE_one {c:Bool}{sz dz:List Int}{c':Bool}{p:Option Addr × Nat}{sz':List Int}{q:Option Addr × Nat}{dz':List Int}:bsE c sz dz [(c',((p,sz'),(q,dz')))]=flawsE c sz dz c' sz' dz':=by
 unfold bsE flawsE flB flB
 by_cases h:flawE c sz dz=0
 ·rw[if_neg (not_not_intro h),if_pos h]
  by_cases h':flawE c' sz' dz'=0
  ·rw[if_neg (not_not_intro h'),h']
  ·rw[if_pos h']
 ·rw[if_pos h,if_neg h]
theorem ret_err8 {e e':Int}(h0:e'≠0)(h:e=e'):Ending.returned (.iface 43 (.int .i64 e'))=.returned (errV e):=by rw[h,errV_pos h0]
theorem ret_nil8 {e:Int}(h:e=0):Ending.returned .nilIface=.returned (errV e):=by rw[h];rfl
theorem chkall8 (c:Bool)(sa:Option Addr)(sc:Nat)(sz:List Int)(da:Option Addr)(dc:Nat)(dz:List Int)(ba:Option Addr)(bc:Nat)(bs:List BrV)(h1:sz.length<=9223372036854775807)(h2:dz.length<=9223372036854775807)(h3:bs.length<=9223372036854775807)(w:World)(hs:IsInts w.heap.size w sa sz)(hd:IsInts w.heap.size w da dz)(hb:IsBs w.heap.size w ba bs):
  Calls Tryz.prog 17 #[.agg #[.bool c,.slice sa sz.length sc,.slice da dz.length dc],.slice ba bs.length bc] w fun e w'=>e=.returned (errV (bsE c sz dz bs))/\Below w.heap.size w w':=by
 have HB0:Hid (Below w.heap.size w (w.alloc (.cells #[.bool c,.slice sa sz.length sc,.slice da dz.length dc] 24))):=(Below.refl _ w).alloc (Nat.le_refl _) _
 have pa:=Abx.new w (.bool c) (.slice sa sz.length sc) (.slice da dz.length dc)
 have p0:=pa.c0
 have p1:=pa.c1
 have p2:=pa.c2
 have HI:Hid (IsInts w.heap.size w sa sz/\IsInts w.heap.size w da dz/\IsBs w.heap.size w ba bs):=⟨hs,hd,hb⟩
 clear hs hd hb
 by_cases h0:flawE c sz dz=0
 ·have HF:Hid (flawE c sz dz=0):=h0
  have HE:Hid (bsE c sz dz bs=flB bs):=by show _=_;unfold bsE;rw[if_neg (not_not_intro h0)]
  clear h0
  go_enter Tryz.func17,Tryz.ntmps17
  go_wp2_with fail
  refine (check_ok c sa sc sz da dc dz h1 h2 _ ((HI.1.below HB0.out).mono HB0.size) ((HI.2.1.below HB0.out).mono HB0.size) HF.out).mono ?_
  rintro e v1 ⟨rfl,hC⟩
  have HB1:Hid (Below w.heap.size w v1):=HB0.trans (hC.mono HB0.size)
  clear hC pa p0 p1 p2 HB0
  go_wp2_with fail
  go_loopw [16] (fun i wr=>∃ k:Nat,k<=bs.length/\i=.int .i64 k/\Hid (flB (bs.take k)=0)/\Below w.heap.size w wr) (fun i _=>bs.length-(intOf i).toNat)
  case atStart=>exact⟨0,Nat.zero_le _,rfl,rfl,HB1.out⟩
  case round=>
   obtain⟨k,hk,rfl,HT,hB⟩:=hrel
   by_cases hlt:k<bs.length
   ·have hav:=(HI.2.2.below hB).2 k hlt
    obtain⟨b,off,rfl,hbb,hcell⟩:=(HI.2.2.below hB).at hlt
    obtain⟨c0,c1,c2⟩:=hcell k hlt
    have HAV:Hid (IsBv w.heap.size wr (brz bs k)):=hav
    have HBw:Hid (Below w.heap.size w wr):=hB
    have HZ:Hid (flawE (brz bs k).1 (brz bs k).2.1.2 (brz bs k).2.2.2=0->flB (bs.take (k+1))=0):=fun q=>flB_next hlt HT.out q
    have HY:Hid (flawE (brz bs k).1 (brz bs k).2.1.2 (brz bs k).2.2.2≠0->flB bs=flawE (brz bs k).1 (brz bs k).2.1.2 (brz bs k).2.2.2):=fun q=>flB_bad hlt HT.out q
    clear hcell hav hB HT
    generalize brz bs k=B at *
    obtain⟨cb,⟨⟨sb,scb⟩,szb⟩,⟨⟨db,dcb⟩,dzb⟩⟩:=B
    unfold BrV.s at c1
    unfold BrV.d at c2
    dsimp only at c0 c1 c2 HAV HZ HY
    have HBx:Hid (Below w.heap.size wr (wr.alloc (.cells #[.bool cb,.slice sb szb.length scb,.slice db dzb.length dcb] 24))):=(Below.refl _ wr).alloc HBw.size _
    have pb:=Abx.new wr (.bool cb) (.slice sb szb.length scb) (.slice db dzb.length dcb)
    have q0:=pb.c0
    have q1:=pb.c1
    have q2:=pb.c2
    by_cases hf:flawE cb szb dzb=0
    ·have HN:Hid (flawE cb szb dzb=0/\flB (bs.take (k+1))=0):=⟨hf,HZ.out hf⟩
     clear hf HZ HY
     go_wp2_with fail
     refine (check_ok cb sb scb szb db dcb dzb HAV.1 HAV.2.1 _ ((HAV.2.2.1.below HBx.out).mono (HBw.trans HBx.out).size) ((HAV.2.2.2.below HBx.out).mono (HBw.trans HBx.out).size) HN.1).mono ?_
     rintro e v2 ⟨rfl,hC⟩
     clear pb q0 q1 q2 c0 c1 c2
     go_wp2_with fail
     exact⟨⟨k+1,by omega,by go_num,HN.2,(HBw.trans HBx.out).trans (hC.mono (HBw.trans HBx.out).size)⟩,by simp[intOf];omega⟩
    ·have HN:Hid (flawE cb szb dzb≠0/\flB bs=flawE cb szb dzb):=⟨hf,HY.out hf⟩
     clear hf HZ HY
     go_wp2_with fail
     refine (check_no cb sb scb szb db dcb dzb HAV.1 HAV.2.1 _ ((HAV.2.2.1.below HBx.out).mono (HBw.trans HBx.out).size) ((HAV.2.2.2.below HBx.out).mono (HBw.trans HBx.out).size) HN.1).mono ?_
     rintro e v2 ⟨rfl,hC⟩
     clear pb q0 q1 q2 c0 c1 c2
     go_wp2_with fail
     go_ret
     exact⟨ret_err8 HN.1 (by rw[HE.out,HN.2]),(HBw.trans HBx.out).trans (hC.mono (HBw.trans HBx.out).size)⟩
   ·obtain rfl:k=bs.length:=by omega
    have hfin:Hid (flB bs=0):=by
     have:=HT.out
     rwa [List.take_of_length_le (Nat.le_refl _)] at this
    clear HT
    go_wp2_with fail
    go_ret
    exact⟨ret_nil8 (by rw[HE.out,hfin.out]),hB⟩
 ·have HF:Hid (flawE c sz dz≠0):=h0
  have HE:Hid (bsE c sz dz bs=flawE c sz dz):=by show _=_;unfold bsE;rw[if_pos h0]
  clear h0
  go_enter Tryz.func17,Tryz.ntmps17
  go_wp2_with fail
  refine (check_no c sa sc sz da dc dz h1 h2 _ ((HI.1.below HB0.out).mono HB0.size) ((HI.2.1.below HB0.out).mono HB0.size) HF.out).mono ?_
  rintro e v1 ⟨rfl,hC⟩
  have HB1:Hid (Below w.heap.size w v1):=HB0.trans (hC.mono HB0.size)
  clear hC pa p0 p1 p2 HB0
  go_wp2_with fail
  go_ret
  exact⟨ret_err8 HF.out HE.out,HB1.out⟩
theorem act_h (w:World)(x y z:Value):(w.alloc (.cells #[x,y,z] 31)).heap[w.heap.size]?=some (.cells #[x,y,z] 31 (0,0)):=(MapKept.heap_alloc w _).1
theorem act_c0 (w:World)(x y z:Value):(w.alloc (.cells #[x,y,z] 31)).cell? ⟨w.heap.size,0,none⟩=some x:=by simp only[World.cell?];rw[act_h];rfl
theorem act_c1 (w:World)(x y z:Value):(w.alloc (.cells #[x,y,z] 31)).cell? ⟨w.heap.size,1,none⟩=some y:=by simp only[World.cell?];rw[act_h];rfl
theorem act_c2 (w:World)(x y z:Value):(w.alloc (.cells #[x,y,z] 31)).cell? ⟨w.heap.size,2,none⟩=some z:=by simp only[World.cell?];rw[act_h];rfl
theorem f2_0 (A:A2)(f g:Int)(H:∀ w',Calls Tryz.prog 28 #[.int .i64 f] w' (Mk2 A w'))(w:World):Calls Tryz.prog 16 #[.agg #[.int .i64 0,.int .i64 f,.int .i64 g]] w (Mk2 A w):=by
 have hb:Hid (Below w.heap.size w (w.alloc (.cells #[.int .i64 0,.int .i64 f,.int .i64 g] 31))):=(Below.refl _ w).alloc (Nat.le_refl _) _
 have p0:=act_c0 w (.int .i64 0) (.int .i64 f) (.int .i64 g)
 have p1:=act_c1 w (.int .i64 0) (.int .i64 f) (.int .i64 g)
 have p2:=act_c2 w (.int .i64 0) (.int .i64 f) (.int .i64 g)
 have HH:Hid (∀ w',Calls Tryz.prog 28 #[.int .i64 f] w' (Mk2 A w')):=H
 clear H
 go_enter Tryz.func16,Tryz.ntmps16
 go_wp2_with fail
 refine (HH.out _).mono ?_
 clear p0 p1 p2 HH
 rintro e v ⟨u,rfl,hU,hB⟩
 have HU:Hid (Fu2 u v A/\Below w.heap.size w v):=⟨hU,(goB16 hb hB).out⟩
 obtain⟨F,cs,rfl,_,_⟩:=hU
 clear hB
 go_wp2_with fail
 go_ret
 exact⟨_,rfl,HU.out⟩
theorem findTwo_ok (B:A2)(op f g:Int)(c:Bool)(sa:Option Addr)(sc:Nat)(sz:List Int)(da:Option Addr)(dc:Nat)(dz:List Int)(c':Bool)(sa':Option Addr)(sc':Nat)(sz':List Int)(da':Option Addr)(dc':Nat)(dz':List Int)(HF:∀ w',Calls Tryz.prog 16 #[.agg #[.int .i64 op,.int .i64 f,.int .i64 g]] w' (Mk2 B w'))(w:World)(l1:sz.length<=9223372036854775807)(l2:dz.length<=9223372036854775807)(hs:IsC w.heap.size w sa sz sc)(hd:IsC w.heap.size w da dz dc)(l1':sz'.length<=9223372036854775807)(l2':dz'.length<=9223372036854775807)(hs':IsC w.heap.size w sa' sz' sc')(hd':IsC w.heap.size w da' dz' dc')(hf:flawE c sz dz=0)(T:∀ j,In64 (nth dz j))(hf':flawE c' sz' dz'=0)(T':∀ j,In64 (nth dz' j)):Calls Tryz.prog 8 #[.agg #[.int .i64 op,.int .i64 f,.int .i64 g],.agg #[.bool c,.slice sa sz.length sc,.slice da dz.length dc],.agg #[.bool c',.slice sa' sz'.length sc',.slice da' dz'.length dc']] w (AnP (B c sz dz c' sz' dz') w):=by
 have h':Hid (flawsE c sz dz c' sz' dz'=0):=by show _=_;unfold flawsE;rw[if_pos hf];exact hf'
 have HA:Hid (ArF w c sa sc sz da dc dz/\ArF w c' sa' sc' sz' da' dc' dz'):=⟨⟨hs,hd,T,hf⟩,⟨hs',hd',T',hf'⟩⟩
 clear hf T hf' T'
 obtain⟨A,hAe⟩:∃ A,B c sz dz c' sz' dz'=A:=⟨_,rfl⟩
 have HAE:Hid (B c sz dz c' sz' dz'=A):=hAe
 rw[hAe]
 clear hAe
 have HH:Hid (∀ w',Calls Tryz.prog 16 #[.agg #[.int .i64 op,.int .i64 f,.int .i64 g]] w' (Mk2 B w')):=HF
 clear HF
 have hq:=eqn_fun Tryz.underlying49
 have HI:Hid (IsC w.heap.size w sa sz sc/\IsC w.heap.size w da dz dc/\IsC w.heap.size w sa' sz' sc'/\IsC w.heap.size w da' dz' dc'):=⟨hs,hd,hs',hd'⟩
 clear hs hd hs' hd'
 obtain⟨W0,hW⟩:∃ W0,W0=((((w.alloc (.cells #[.int .i64 op,.int .i64 f,.int .i64 g] 31)).alloc (.cells #[.bool c,.slice sa sz.length sc,.slice da dz.length dc] 24)).alloc (.cells #[.bool c',.slice sa' sz'.length sc',.slice da' dz'.length dc'] 24)).alloc (.cells #[.bool false,.slice none 0 0,.slice none 0 0] 24)):=⟨_,rfl⟩
 have he:=ent2 (w.alloc (.cells #[.int .i64 op,.int .i64 f,.int .i64 g] 31)) (.bool c) (.slice sa sz.length sc) (.slice da dz.length dc) (.bool c') (.slice sa' sz'.length sc') (.slice da' dz'.length dc')
 simp only[World.size_alloc] at he
 rw[<-hW] at he
 obtain⟨hb',pa,pb,pr⟩:=he
 have hb:Hid (Below w.heap.size w W0):=((Below.refl _ w).alloc (Nat.le_refl _) _).trans (hb'.mono (by omega))
 have q0:W0.cell? ⟨w.heap.size,0,none⟩=some (.int .i64 op):=(hb'.cell (p:=⟨w.heap.size,0,none⟩) (by show w.heap.size<w.heap.size+1;omega)).trans (act_c0 w _ _ _)
 have q1:W0.cell? ⟨w.heap.size,1,none⟩=some (.int .i64 f):=(hb'.cell (p:=⟨w.heap.size,1,none⟩) (by show w.heap.size<w.heap.size+1;omega)).trans (act_c1 w _ _ _)
 have q2:W0.cell? ⟨w.heap.size,2,none⟩=some (.int .i64 g):=(hb'.cell (p:=⟨w.heap.size,2,none⟩) (by show w.heap.size<w.heap.size+1;omega)).trans (act_c2 w _ _ _)
 clear hb'
 have hz0:=hb.size
 rw[hW] at q0 q1 q2
 go_enter Tryz.func8,Tryz.ntmps8
 go_wp2_with fail
 rw[<-hW]
 clear q0 q1 q2 hW
 refine (HH.out W0).mono ?_
 rintro e v1 ⟨u,rfl,hU,hB⟩
 have HU:Hid (Fu2 u v1 B):=hU
 replace pa:=goA16 pa hB
 replace pb:=goA16 pb hB
 replace pr:=goA16 pr hB
 replace hb:=goB16 hb hB
 obtain⟨F,cs,rfl,hE,_⟩:=hU
 clear hB HH
 have a0:=pa.c0
 have a1:=pa.c1
 have a2:=pa.c2
 have b0:=pb.c0
 have b1:=pb.c1
 have b2:=pb.c2
 have hM:Hid (Below v1.heap.size v1 (v1.alloc (.cells #[.bool c',.slice sa' sz'.length sc',.slice da' dz'.length dc'] 24))):=(Below.refl _ v1).alloc (Nat.le_refl _) _
 have pm:=Abx.new v1 (.bool c') (.slice sa' sz'.length sc') (.slice da' dz'.length dc')
 have HC:Hid (Calls Tryz.prog 17 #[.agg #[.bool c,.slice sa sz.length sc,.slice da dz.length dc],.slice (some ⟨v1.heap.size,0,none⟩) 1 1] (v1.alloc (.cells #[.bool c',.slice sa' sz'.length sc',.slice da' dz'.length dc'] 24)) fun e w'=>e=.returned (errV (flawsE c sz dz c' sz' dz'))/\Below ((v1.alloc (.cells #[.bool c',.slice sa' sz'.length sc',.slice da' dz'.length dc'] 24))).heap.size (v1.alloc (.cells #[.bool c',.slice sa' sz'.length sc',.slice da' dz'.length dc'] 24)) w'):=by
  have k:=chkall8 c sa sc sz da dc dz (some ⟨v1.heap.size,0,none⟩) 1 [(c',(((sa',sc'),sz'),((da',dc'),dz')))] l1 l2 (by simp) (v1.alloc (.cells #[.bool c',.slice sa' sz'.length sc',.slice da' dz'.length dc'] 24)) (goI16 HI.1.1 (hb.trans (hM.mono hb.size))) (goI16 HI.2.1.1 (hb.trans (hM.mono hb.size))) (isBs_one pm l1' l2' (goI16 HI.2.2.1.1 (hb.trans (hM.mono hb.size))) (goI16 HI.2.2.2.1 (hb.trans (hM.mono hb.size))))
  rw[bsE_one] at k
  exact k
 clear pm
 go_wp2_with fail
 refine HC.mono ?_
 rintro e v2 ⟨rfl,hB⟩
 replace hB:=hM.trans (hB.mono hM.size)
 rw[h'.out,show errV 0=.nilIface from rfl]
 replace pa:=goA16 pa hB
 replace pb:=goA16 pb hB
 replace pr:=goA16 pr hB
 have hB2:Hid (Below v1.heap.size v1 v2):=hB
 replace hb:=goB16 hb hB
 clear hB HC hM
 clear a0 a1 a2
 clear b0 b1 b2
 have a0:=pa.c0
 have a1:=pa.c1
 have a2:=pa.c2
 have b0:=pb.c0
 have b1:=pb.c1
 have b2:=pb.c2
 obtain⟨F',cs',he',hE',H'⟩:=HU.out
 have HD:Hid (Calls Tryz.prog F (.agg #[.bool c,.slice sa sz.length sc,.slice da dz.length dc]::.agg #[.bool c',.slice sa' sz'.length sc',.slice da' dz'.length dc']::cs).toArray v2 (AnP A v2)):=by
  have k:=H' c sa sc sz da dc dz c' sa' sc' sz' da' dc' dz' v2 hB2.out (HA.1.go hb.out) (HA.2.go hb.out)
  rw[HAE.out] at k
  obtain⟨rfl,rfl⟩:F=F'/\cs=cs':=by simpa using he'
  exact k
 clear he' hE' H'
 replace hE:∀ args w,(callFunc F args).run Tryz.prog w=.ok (.enter F args) w:=hE
 go_wp2_with fail
 refine HD.mono ?_
 clear HD
 clear a0 a1 a2
 clear b0 b1 b2
 intro e v9 hU
 obtain⟨xa,xc,ya,yc,E,rfl,HU⟩:=hU.out16
 clear hU
 have hz9:=HU.2.2.2.size
 have hlt:=pr.lt
 have HW:=HU.2
 replace pr:=goA16 pr HU.2.2.2
 have r0:=pr.c0
 have r1:=pr.c1
 have r2:=pr.c2
 have f0:=pr.fr 0
 have f1:=pr.fr 1
 have f2:=pr.fr 2
 go_wp2_with fail
 have FF:=pr.set3 (.bool A.c) (.slice xa A.s.length xc) (.slice ya A.d.length yc)
 have q0:=FF.c0
 have q1:=FF.c1
 have q2:=FF.c2
 exact bodyPost_ret (v:=.tuple #[.agg #[.bool A.c,.slice xa A.s.length xc,.slice ya A.d.length yc],E]) (by simp[results,Tryz.results8,go_sem,q0,q1,q2]) rfl (ret16 (A:=A) (by omega) hlt hb.out HU.2.1 HU.2.2.1 HU.2.2.2 HU.1 _ _ _)
def OrdTo (ps:List Int)(k:Nat):Prop:=(∀ j,j<k->0<=nth ps j/\nth ps j<ps.length)/\∀ i j,i<j->j<k->nth ps i≠nth ps j
theorem OrdTo.zero (ps:List Int):OrdTo ps 0:=⟨fun j hj=>by omega,fun i j _ hj=>by omega⟩
def CFlB:Prop:=∀ (pa:Option Addr) (pc:Nat) (p:List Int) (c:Bool) (sa:Option Addr) (sc:Nat) (sz:List Int) (da:Option Addr) (dc:Nat) (dz:List Int) (w:World),p.length<=9223372036854775807->sz.length<=9223372036854775807->dz.length<=9223372036854775807->IsInts w.heap.size w pa p->IsC w.heap.size w sa sz sc->IsInts w.heap.size w da dz->(∀ j,In64 (nth dz j)) →
 Calls Tryz.prog 102 #[.slice pa p.length pc,.agg #[.bool c,.slice sa sz.length sc,.slice da dz.length dc]] w (UB (flE p c sz dz) (onc (flE p c sz dz) c) (flS5 p c sz dz) (flD5 p c sz dz) w)
theorem line16_c (c:Bool)(a:Option Addr)(cap:Nat)(zs:List Int)(w:World):
  Calls Tryz.prog 97 #[.bool c,.slice a zs.length cap] w fun e w'=>∃ sa sc,e=.returned (.agg #[.bool c,.slice sa 1 sc,.slice a zs.length cap])/\NewC w.heap.size w' sa [(zs.length:Int)] sc/\Below w.heap.size w w':=by
 go_enter Tryz.func97,Tryz.ntmps97
 go_wp2_with fail
 refine bodyPost_ret (v:=.agg #[.bool c,.slice (some ⟨w.heap.size+1,0,none⟩) 1 1,.slice a zs.length cap]) (by simp[results,Tryz.results97,go_sem]) rfl ⟨some ⟨w.heap.size+1,0,none⟩,1,rfl,?_,((Below.refl _ w).alloc (Nat.le_refl _) _).alloc (by simp) _⟩
 have:=new_ints1 (w.alloc (.cells #[.bool c,.slice (some ⟨w.heap.size+1,0,none⟩) 1 1,.slice a zs.length cap] 24)) 3 zs.length
 rw[World.size_alloc w] at this
 exact⟨this.low (by omega),Nat.le_refl _⟩
theorem grown_below {w w1:World}{base:Nat}{e:TypeId}{v:Value}{n:Nat}{xs:List Value}(hown:w.ownsRow base e 1 v n xs)(hg:w.grownBy w1 v.ownBlock)(hb:base<=w.heap.size):Below base w w1:=
 (Below.refl base w).grown hg hb (own_ge hown)
theorem app_step {ops:Array Oper}{o:Oper}{a:Act}{K:Act->World->Prop}{Q:Exit->Act->World->Prop}{E:Prop}(d:Nat)(hd:o.dst=some d)(hgd:o.guard=none)(s x:Operand)
  (ho:o.op=.call { callee:=.builtin .append,args:=#[s,x],argTypes:=#[22,22] })(W:World)
  (base B:Nat)(v:Value)(zs:List Int)(y:Int)(hs:a.eval s=v)(hx:a.eval x=.slice (some ⟨B,0,none⟩) 1 1)(hown:W.ownsRow base 3 1 v zs.length (zs.map (Value.int .i64)))
  (hnew:W.heap[B]?=some (.cells #[.int .i64 y] 3 (0,0)))(hlen:zs.length<=1000000)(hbase:base<=W.heap.size)
  (h:∀ g gc w1,w1.ownsRow base 3 1 (.slice (some ⟨g,0,none⟩) (zs.length+1) gc) (zs.length+1) ((zs++[y]).map (Value.int .i64))->Below base W w1->K (a.put (some d) (.slice (some ⟨g,0,none⟩) (zs.length+1) gc)) w1):
  if Region.wanted o (yielded ops a.tmps)=true then Oper.wp Tryz.prog o a W K Q else E:=by
 obtain⟨i0,hi,hz0,hz1,hz2⟩:=info_parts Tryz.infoInt
 refine step_append_lies W hgd s x 22 ho base 3 i0 (.int .i64 0) 1 8 Tryz.underlying22 hi hz0 hz1 hz2 rfl (by decide) v zs.length (zs.map (Value.int .i64)) hs hown ⟨B,0,none⟩ 1 1 [.int .i64 y] hx rfl
  (World.news_of_block (cs:=#[.int .i64 y]) (t:=3) (fr:=(0,0)) hnew) (by simp[Value.oneCell']) (by omega) (by unfold maxLen;omega) (by omega) hbase W.heap.size rfl ?_
 intro g gc w1 hown1 hgrow _ _
 rw[hd]
 refine h g gc w1 ?_ (grown_below hown hgrow hbase)
 rw[List.map_append]
 exact hown1
end Go.Proofs.YtkmmkcpfhnifhaaGreat
