/- What the program tells, in part. -/
import Derived.Test.YtkmmkcpfhnifhaaGreatDoorJ20
import Derived.Test.YtkmmkcpfhnifhaaGreatDoorJ16
import Derived.Deep.AppendLies
set_option linter.unusedVariables false
set_option maxHeartbeats 4000000
set_option maxRecDepth 100000
namespace Go.Proofs.YtkmmkcpfhnifhaaGreatDoor
open Go.RowKit
def CFlB:Prop:=∀ (pa:Option Addr) (pc:Nat) (p:List Int) (c:Bool) (sa:Option Addr) (sc:Nat) (sz:List Int) (da:Option Addr) (dc:Nat) (dz:List Int) (w:World),p.length<=9223372036854775807->sz.length<=9223372036854775807->dz.length<=9223372036854775807->IsInts w.heap.size w pa p->IsC w.heap.size w sa sz sc->IsInts w.heap.size w da dz->(∀ j,In64 (nth dz j)) →
 Calls Tryz.prog 163 #[.slice pa p.length pc,.agg #[.bool c,.slice sa sz.length sc,.slice da dz.length dc]] w (UB (flE p c sz dz) (onc (flE p c sz dz) c) (flS5 p c sz dz) (flD5 p c sz dz) w)
theorem flE_flaw {p:List Int}{c:Bool}{sz dz:List Int}(h:flawE c sz dz≠0):flE p c sz dz=flawE c sz dz:=by unfold flE;rw[if_pos h]
theorem flE_ax {p:List Int}{c:Bool}{sz dz:List Int}(h:flawE c sz dz=0):flE p c sz dz=axErr sz p:=by unfold flE;rw[if_neg (by simpa using h)]
theorem axes_ok (a:Option Addr)(cap:Nat)(zs:List Int)(a':Option Addr)(cap':Nat)(ps:List Int)(h1:zs.length<=9223372036854775807)(h2:ps.length<=9223372036854775807)(w:World)(hI:IsInts w.heap.size w a zs)(hI':IsInts w.heap.size w a' ps)(h:axErr zs ps=0)(S:List Int)(hS:S=axVal zs ps):
  Calls Tryz.prog 232 #[.slice a zs.length cap,.slice a' ps.length cap'] w fun e w'=>∃ g c,e=.returned (.tuple #[.slice g S.length c,.nilIface])/\NewC w.heap.size w' g S c/\Below w.heap.size w w':=by
 subst hS
 refine (axes_new a cap zs a' cap' ps h1 h2 w hI hI').mono ?_
 rintro e w' ⟨g,c,rfl,hN,hB⟩
 rw[h]
 exact⟨g,c,rfl,hN,hB⟩
theorem axes_no (a:Option Addr)(cap:Nat)(zs:List Int)(a':Option Addr)(cap':Nat)(ps:List Int)(h1:zs.length<=9223372036854775807)(h2:ps.length<=9223372036854775807)(w:World)(hI:IsInts w.heap.size w a zs)(hI':IsInts w.heap.size w a' ps)(h:axErr zs ps≠0):
  Calls Tryz.prog 232 #[.slice a zs.length cap,.slice a' ps.length cap'] w fun e w'=>∃ g c,e=.returned (.tuple #[.slice g 0 c,.iface 28 (.int .i64 (axErr zs ps))])/\Below w.heap.size w w':=by
 refine (axes_new a cap zs a' cap' ps h1 h2 w hI hI').mono ?_
 rintro e w' ⟨g,c,rfl,hN,hB⟩
 rw[axVal_bad h,errV_pos h]
 exact⟨g,c,rfl,hB⟩
theorem row_list {wr:World}{B:Nat}{t:TypeId}{n:Nat}{xs:List Int}(h:wr.rowIs B t n (fun j=>.int .i64 (nth xs j)))(hx:xs.length=n)(lo:Nat)(hlo:lo<=B):NewInts lo wr (some ⟨B,0,none⟩) xs:=
 .inr ⟨B,0,rfl,hlo,h.lt,fun j hj=>by rw[Nat.zero_add];exact h.cell (by omega),fun j=>h.frozen _⟩
theorem row_put {wr:World}{B:Nat}{t:TypeId}{n:Nat}{xs:List Int}(h:wr.rowIs B t n (fun j=>.int .i64 (nth xs j)))(hx:xs.length=n)(i:Nat)(hi:i<n)(v:Int):(wr.setCell ⟨B,i,none⟩ (.int .i64 v)).rowIs B t n (fun j=>.int .i64 (nth (xs.set i v) j)):=by
 refine (h.set i _).congr fun j hj=>?_
 rw[nth_set _ _ _ _ (by omega)]
 by_cases e:j=i
 ·rw[if_pos e,if_pos e]
 ·rw[if_neg e,if_neg e]
theorem source_n (ga:Option Addr)(gc:Nat)(S:List Int)(ua:Option Addr)(uc:Nat)(U:List Int)(n k m:Nat)(hS:S.length=n)(hU:U.length=n)(he:errOf S=0)(hk:(k:Int)<prod S)(hm:srV S U k (dn S.length S.length)=(m:Nat))(w:World)(hI:IsInts w.heap.size w ga S)(hI':IsInts w.heap.size w ua U):
  Calls Tryz.prog 233 #[.slice ga n gc,.slice ua n uc,.int .i64 (k:Nat)] w fun e w'=>e=.returned (.int .i64 (m:Nat))/\Below w.heap.size w w':=by
 have h:=source_any ga gc S ua uc U k he hk (by omega) w hI hI'
 rw[hm,hU,hS] at h
 exact h
theorem flb_holds:CFlB:=by
 intro pa pc p c sa sc sz da dc dz w hpl h1 h2 hp hs hd T
 have HI:Hid (IsC w.heap.size w sa sz sc/\IsInts w.heap.size w da dz/\IsInts w.heap.size w pa p):=⟨hs,hd,hp⟩
 clear hs hd hp T
 have HB0:Hid (Below w.heap.size w ((w.alloc (.cells #[.bool c,.slice sa sz.length sc,.slice da dz.length dc] 27)).alloc (.cells #[.bool false,.slice none 0 0,.slice none 0 0] 27))):=((Below.refl _ w).alloc (Nat.le_refl _) _).alloc (by simp) _
 have pa0:=(Abx.new w (.bool c) (.slice sa sz.length sc) (.slice da dz.length dc)).al (.cells #[.bool false,.slice none 0 0,.slice none 0 0] 27)
 have pr:=Abx.new1 w (.cells #[.bool c,.slice sa sz.length sc,.slice da dz.length dc] 27) (.bool false) (.slice none 0 0) (.slice none 0 0)
 have p0:=pa0.c0
 have p1:=pa0.c1
 have p2:=pa0.c2
 by_cases h3:flawE c sz dz=0
 ·have H3:Hid (flawE c sz dz=0):=h3
  have HL:Hid (sz.length<=6/\dz.length<=4096):=flawE_short h3
  have HF:Hid (errOf sz=0/\(dz.length:Int)=prod sz):=⟨(flawE_zero h3).1,(flawE_zero h3).2.1⟩
  clear h3
  go_enter Tryz.func163,Tryz.ntmps163
  go_wp2_with fail
  refine (check_ok c sa sc sz da dc dz h1 h2 _ ((HI.1.1.below HB0.out).mono HB0.size) ((HI.2.1.below HB0.out).mono HB0.size) H3.out).mono ?_
  rintro e v1 ⟨rfl,hC⟩
  have HB1:Hid (Below w.heap.size w v1):=HB0.trans (hC.mono HB0.size)
  have HP:Hid (Abx v1 w.heap.size (.bool c) (.slice sa sz.length sc) (.slice da dz.length dc)):=pa0.go hC
  have HR:Hid (Abx v1 (w.heap.size+1) (.bool false) (.slice none 0 0) (.slice none 0 0)):=pr.go hC
  clear hC pa0 pr p0 p1 p2 HB0
  have p1:=HP.c1
  by_cases h4:axErr sz p=0
  ·have HE:Hid (flE p c sz dz=0):=(flE_ax H3.out).trans h4
   have HO:Hid (p.length=sz.length/\IsOrd p):=(axErr_zero.1 h4).2
   have H4:Hid (axErr sz p=0):=h4
   obtain⟨S,hS⟩:∃ S,S=axVal sz p:=⟨_,rfl⟩
   have HS:Hid (S=axVal sz p/\AxSpec sz p S):=⟨hS,by rw[hS];exact axVal_spec h4⟩
   have HSl:Hid (S.length=p.length):=HS.2.1.trans HO.1.symm
   have hp6:p.length<=6:=by have:=HO.1;have:=HL.1;omega
   clear h4 hS
   go_wp2_with fail
   refine (axes_ok sa sc sz pa pc p h1 hpl v1 ((HI.1.1.below HB1.out).mono HB1.size) ((HI.2.2.below HB1.out).mono HB1.size) H4.out S HS.1).mono ?_
   rintro e v2 ⟨ga,gc,rfl,hN,hB⟩
   have HB2:Hid (Below w.heap.size w v2):=HB1.trans (hB.mono HB1.size)
   have HP2:Hid (Abx v2 w.heap.size (.bool c) (.slice sa sz.length sc) (.slice da dz.length dc)):=HP.go hB
   have HR2:Hid (Abx v2 (w.heap.size+1) (.bool false) (.slice none 0 0) (.slice none 0 0)):=HR.go hB
   have HN:Hid (NewC v1.heap.size v2 ga S gc):=hN
   have HZ:Hid (w.heap.size+1<v1.heap.size):=HR.lt
   clear hB HP HR p1 hN
   obtain⟨n,hn⟩:∃ n,n=S.length:=⟨_,rfl⟩
   rw[<-hn]
   have HNn:Hid (n=S.length/\n=p.length):=⟨hn,by rw[hn];exact HSl.out⟩
   have hn6:n<=6:=by have:=HNn.2;omega
   clear hn
   have hmk:=run_make_row' (P:=Tryz.prog) 25 3 (.int .i64 0) 8 Tryz.underlying25 Tryz.infoInt rfl .i64 .i64 n (by omega) (by omega)
   go_wp2_with fail
   clear hmk
   go_loopw [36] (fun i wr=>∃ k:Nat,k<=p.length/\i=.int .i64 k/\wr.rowIs v2.heap.size 3 n (fun j=>.int .i64 (nth (stk sz p k) j))/\Below v2.heap.size v2 wr) (fun i _=>p.length-(intOf i).toNat)
   case atStart=>
    exact⟨0,Nat.zero_le _,rfl,(World.rowIs_made v2 (.int .i64 0) n 3).congr (fun j _=>by simp only[stk,nth_replicate]),(Below.refl _ v2).alloc (Nat.le_refl _) _⟩
   case round=>
    obtain⟨k,hk,rfl,hrow,hBv⟩:=hrel
    have hB:Below w.heap.size w wr:=HB2.trans (hBv.mono HB2.size)
    have hA:=HP2.go hBv
    have e1:=hA.c1
    by_cases hlt:k<p.length
    ·obtain⟨bp,op,rfl,hbp,hcP⟩:=(HI.2.2.below hB).at hlt
     have cp:=hcP k hlt
     have hbo:=HO.2.1 k hlt
     obtain⟨m,hm⟩:∃ m:Nat,nth p k=m:=⟨(nth p k).toNat,by omega⟩
     have hml:m<n:=by have:=HNn.2;omega
     rw[hm] at cp
     have HM:Hid ((nth p k).toNat=m):=by show _=_;rw[hm];exact Int.toNat_natCast m
     clear hcP hm hbo
     have c2:=hrow.cell hml
     have f2:=hrow.frozen m
     have HQ:Hid (wr.rowIs v2.heap.size 3 n (fun j=>.int .i64 (nth (stk sz p k) j))/\Below v2.heap.size v2 wr/\Below w.heap.size w wr):=⟨hrow,hBv,hB⟩
     clear hrow hBv hB hA
     go_wp2_with fail
     refine (step_any sa sc sz k (by have:=HO.1;omega) HF.1 wr.heap.size wr ((HI.1.below HQ.2.2).mono HQ.2.2.size)).mono ?_
     rintro e w2 ⟨rfl,rfl⟩
     go_wp2_with fail
     refine⟨⟨k+1,by omega,by go_num,?_,HQ.2.1.setCell (p:=⟨v2.heap.size,m,none⟩) (Nat.le_refl _) _⟩,by simp[intOf];omega⟩
     have h:=row_put HQ.1 (by rw[stk_length];exact HNn.2.symm) m hml (stp sz k)
     simp only[stk,HM.out]
     exact h
    ·obtain rfl:k=p.length:=by omega
     have HU0:Hid (NewInts v2.heap.size wr (some ⟨v2.heap.size,0,none⟩) (stk sz p p.length)):=row_list hrow (by rw[stk_length];exact HNn.2.symm) _ (Nat.le_refl _)
     obtain⟨U,hU⟩:∃ U,U=stk sz p p.length:=⟨_,rfl⟩
     have HU:Hid (NewInts v2.heap.size wr (some ⟨v2.heap.size,0,none⟩) U/\StSpec sz p U/\U.length=n):=by rw[hU];exact⟨HU0.out,stk_spec HO.2 HO.1,by rw[stk_length];exact HNn.2.symm⟩
     obtain⟨u,hu⟩:∃ u,u=wr:=⟨_,rfl⟩
     subst hu
     have HP3:Hid (Abx u w.heap.size (.bool c) (.slice sa sz.length sc) (.slice da dz.length dc)):=hA
     have HR3:Hid (Abx u (w.heap.size+1) (.bool false) (.slice none 0 0) (.slice none 0 0)):=HR2.go hBv
     have HB3:Hid (Below w.heap.size w u):=hB
     have HN3:Hid (NewC v1.heap.size u ga S gc):=HN.go hBv
     have HZ2:Hid (v2.heap.size<=u.heap.size/\w.heap.size+1<v2.heap.size):=⟨hBv.size,HR2.lt⟩
     clear hU HU0 hrow hBv hB hA e1 hlt hk HP2 HR2 HN
     obtain⟨q,hq⟩:∃ q,q=dz.length:=⟨_,rfl⟩
     have HQ0:Hid (q=dz.length/\q<=4096):=⟨hq,by rw[hq];exact HL.2⟩
     have e2:=HP3.c2
     rw[<-hq] at e2
     obtain⟨D,hD⟩:∃ D,D=GA sz dz S (flpT p):=⟨_,rfl⟩
     have hps:prod S=prod sz:=ax_prod HO.2 HO.1 HS.2
     have HD:Hid (D=GA sz dz S (flpT p)/\D.length=q):=⟨hD,by rw[hD,GA_length,hps];have:=HF.2;omega⟩
     have HSE:Hid (errOf S=0/\prod S=prod sz):=⟨ax_err HO.2 HO.1 HS.2 HF.1,hps⟩
     have hmk:=run_make_row' (P:=Tryz.prog) 25 3 (.int .i64 0) 8 Tryz.underlying25 Tryz.infoInt rfl .i64 .i64 q (by have:=HQ0.2;omega) (by have:=HQ0.2;omega)
     clear hq hD hps
     go_wp2_with fail
     clear hmk e2
     go_loopw [55] (fun i wx=>∃ k:Nat,k<=q/\i=.int .i64 k/\wx.rowIs u.heap.size 3 q (upTo (nth D) k)/\Below u.heap.size u wx) (fun i _=>q-(intOf i).toNat)
     case atStart=>
      exact⟨0,Nat.zero_le _,rfl,(World.rowIs_made u (.int .i64 0) q 3).congr (fun j _=>by simp[upTo]),(Below.refl _ u).alloc (Nat.le_refl _) _⟩
     case round=>
      obtain⟨k,hk,rfl,hrow,hBu⟩:=hrel
      have hB:Below w.heap.size w wr:=HB3.trans (hBu.mono HB3.size)
      have hA:=HP3.go hBu
      rw[<-HQ0.1] at hA
      have e2:=hA.c2
      have hq4:q<=4096:=HQ0.2
      by_cases hlt:k<q
      ·obtain⟨m,y1,y2,y3⟩:=sr_place HO.2 HO.1 HS.2 HF.1 HU.2.1 (j:=k) (by have:=HF.2;have:=HQ0.1;omega)
       have hmq:m<q:=by have:=HF.2;have:=HQ0.1;omega
       have HM:Hid (m<dz.length):=by rw[<-HQ0.1];exact hmq
       have HV:Hid (nth dz m=nth D k):=by
        show _=_
        rw[HD.1,GA_nth (by rw[HSE.2];have:=HF.2;have:=HQ0.1;omega),y3,Int.toNat_natCast]
       have HY:Hid (srV S U k (dn S.length S.length)=(m:Nat)/\(k:Int)<prod S):=⟨y2,by rw[HSE.2];have:=HF.2;have:=HQ0.1;omega⟩
       obtain⟨bd,od,rfl,hbd,hcD⟩:=(HI.2.1.below hB).at HM.out
       have cd:=hcD m HM.out
       have HQ:Hid (wr.rowIs u.heap.size 3 q (upTo (nth D) k)/\Abx wr w.heap.size (.bool c) (.slice sa sz.length sc) (.slice (some ⟨bd,od,none⟩) q dc)/\Below u.heap.size u wr/\Below w.heap.size w wr):=⟨hrow,hA,hBu,hB⟩
       clear hrow hA hBu hB hcD y1 y2 y3
       go_wp2_with fail
       refine bT 10 (fun w'=>w'.cell? ⟨w.heap.size,2,none⟩=some (.slice (some ⟨bd,od,none⟩) q dc)/\w'.cell? ⟨bd,od+m,none⟩=some (.int .i64 (nth dz m))) 12 (⟨e2,cd⟩) fun hq0=>?_
       refine pT 0 hq0 ?_;refine pT 1 hq0 ?_;refine pT 2 hq0 ?_;refine lT 3 hq0 ?_;refine pT 4 hq0 ?_;refine pT 5 hq0 ?_;refine pT 6 hq0 ?_
       clear hq0
       refine oT 7 fun K hK=>?_
       go_simp
       go_wp2_with (go_at_call 233;refine (source_n ga gc S (some ⟨v2.heap.size,0,none⟩) n U n k m HNn.1.symm HU.2.2 HSE.1 HY.2 HY.1 wr.drew ((HN3.go HQ.2.2.1).1.ints) ((HU.1.go HQ.2.2.1).ints)).mono ?_;rintro e w3 ⟨rfl,hBc⟩)
       have HBc:Hid (Below wr.heap.size wr w3):=(Below.refl _ wr).drew.trans hBc
       have A3:=HQ.2.1.go HBc.out
       have c3:w3.cell? ⟨bd,od+m,none⟩=some (.int .i64 (nth dz m)):=(HBc.cell (p:=⟨bd,od+m,none⟩) (by have:=HQ.2.2.2.size;show bd<wr.heap.size;omega)).trans cd
       have W3:Hid (w3.rowIs u.heap.size 3 q (upTo (nth D) k)):=HQ.1.of_block (HBc.block u.heap.size HQ.1.lt)
       have c2:=W3.cell hlt
       have f2:=W3.frozen k
       clear hBc
       refine hK.out _ _ (fun _=>⟨A3.c2,c3⟩) ?_
       clear hK K
       refine pT 8 (⟨A3.c2,c3⟩) ?_;refine lT 9 (⟨A3.c2,c3⟩) ?_
       refine oT 10 fun K hK=>?_
       go_simp
       refine hK.out _ _ (fun h=>absurd h (by decide)) ?_
       clear hK K
       refine oT 11 fun K hK=>?_
       go_simp
       refine hK.out _ _ (fun h=>absurd h (by decide)) ?_
       clear hK K
       refine dT ?_
       go_wp2_with fail
       refine⟨⟨k+1,by omega,by go_num,upTo_set W3.out _ HV.out,?_⟩,by simp[intOf];omega⟩
       exact (HQ.2.2.1.trans (HBc.mono HQ.2.2.1.size)).setCell (p:=⟨u.heap.size,k,none⟩) (Nat.le_refl _) _
      ·obtain rfl:k=q:=by omega
       have HY:Hid (NewInts u.heap.size wr (some ⟨u.heap.size,0,none⟩) D):=upTo_new hrow (Nat.le_refl _) D HD.2 (fun j hj=>rfl)
       have HR4:Hid (Abx wr (w.heap.size+1) (.bool false) (.slice none 0 0) (.slice none 0 0)):=HR3.go hBu
       have HN4:Hid (NewC v1.heap.size wr ga S gc):=HN3.go hBu
       have HB4:Hid (Below w.heap.size w wr):=hB
       have e0:=hA.c0
       have r0:=HR4.c0
       have r1:=HR4.c1
       have r2:=HR4.c2
       have f0:=HR4.fr 0
       have f1:=HR4.fr 1
       have f2:=HR4.fr 2
       clear hrow hA hBu hB hk hlt e2
       go_wp2_with fail
       have F:=HR4.set3 (.bool c) (.slice ga n gc) (.slice (some ⟨u.heap.size,0,none⟩) k k)
       have q0:=F.c0
       have q1:=F.c1
       have q2:=F.c2
       refine bodyPost_ret (v:=.tuple #[.agg #[.bool c,.slice ga n gc,.slice (some ⟨u.heap.size,0,none⟩) k k],.nilIface]) (by simp[results,Tryz.results163,go_sem,q0,q1,q2]) rfl ?_
       have hz1:=HZ.out
       have hz2:=HZ2.out
       have hX:=(HN4.set3 (b:=w.heap.size+1) (by omega) (.bool c) (.slice ga n gc) (.slice (some ⟨u.heap.size,0,none⟩) k k)).low (lo':=w.heap.size) (by omega)
       have hY:=(HY.set3 (b:=w.heap.size+1) (by omega) (.bool c) (.slice ga n gc) (.slice (some ⟨u.heap.size,0,none⟩) k k)).low (lo':=w.heap.size) (by omega)
       have hZ:=bel_set3 HB4.out (b:=w.heap.size+1) (by omega) (.bool c) (.slice ga n gc) (.slice (some ⟨u.heap.size,0,none⟩) k k)
       have hUA:=ub_ok (c:=c) (yc:=k) HE.out hX ⟨hY,Nat.le_of_eq HD.2⟩ hZ
       rw[HD.2,HD.1,<-HNn.1,HS.1] at hUA
       exact hUA
  ·have H4:Hid (axErr sz p≠0):=h4
   have HE:Hid (flE p c sz dz=axErr sz p):=flE_ax H3.out
   clear h4
   go_wp2_with fail
   refine (axes_no sa sc sz pa pc p h1 hpl v1 ((HI.1.1.below HB1.out).mono HB1.size) ((HI.2.2.below HB1.out).mono HB1.size) H4.out).mono ?_
   rintro e v2 ⟨ga,gc,rfl,hB⟩
   have HB2:Hid (Below w.heap.size w v2):=HB1.trans (hB.mono HB1.size)
   have HR2:Hid (Abx v2 (w.heap.size+1) (.bool false) (.slice none 0 0) (.slice none 0 0)):=HR.go hB
   clear hB HP HR p1
   have r0:=HR2.c0
   have r1:=HR2.c1
   have r2:=HR2.c2
   have f0:=HR2.fr 0
   have f1:=HR2.fr 1
   have f2:=HR2.fr 2
   go_wp2_with fail
   have F:=HR2.set3 (.bool false) (.slice none 0 0) (.slice none 0 0)
   have q0:=F.c0
   have q1:=F.c1
   have q2:=F.c2
   exact bodyPost_ret (v:=.tuple #[.agg #[.bool false,.slice none 0 0,.slice none 0 0],.iface 28 (.int .i64 (axErr sz p))]) (by simp[results,Tryz.results163,go_sem,q0,q1,q2]) rfl (ub_no HE.out H4.out (bel_set3 HB2.out (by omega) _ _ _))
 ·have H3:Hid (flawE c sz dz≠0):=h3
  have HE:Hid (flE p c sz dz=flawE c sz dz):=flE_flaw h3
  clear h3
  go_enter Tryz.func163,Tryz.ntmps163
  go_wp2_with fail
  refine (check_no c sa sc sz da dc dz h1 h2 _ ((HI.1.1.below HB0.out).mono HB0.size) ((HI.2.1.below HB0.out).mono HB0.size) H3.out).mono ?_
  rintro e v1 ⟨rfl,hC⟩
  have HB1:Hid (Below w.heap.size w v1):=HB0.trans (hC.mono HB0.size)
  have HR:Hid (Abx v1 (w.heap.size+1) (.bool false) (.slice none 0 0) (.slice none 0 0)):=pr.go hC
  clear hC pa0 pr p0 p1 p2 HB0
  have r0:=HR.c0
  have r1:=HR.c1
  have r2:=HR.c2
  have f0:=HR.fr 0
  have f1:=HR.fr 1
  have f2:=HR.fr 2
  go_wp2_with fail
  have F:=HR.set3 (.bool false) (.slice none 0 0) (.slice none 0 0)
  have q0:=F.c0
  have q1:=F.c1
  have q2:=F.c2
  exact bodyPost_ret (v:=.tuple #[.agg #[.bool false,.slice none 0 0,.slice none 0 0],.iface 28 (.int .i64 (flawE c sz dz))]) (by simp[results,Tryz.results163,go_sem,q0,q1,q2]) rfl (ub_no HE.out H3.out (bel_set3 HB1.out (by omega) _ _ _))
theorem line16_c (c:Bool)(a:Option Addr)(cap:Nat)(zs:List Int)(w:World):
  Calls Tryz.prog 158 #[.bool c,.slice a zs.length cap] w fun e w'=>∃ sa sc,e=.returned (.agg #[.bool c,.slice sa 1 sc,.slice a zs.length cap])/\NewC w.heap.size w' sa [(zs.length:Int)] sc/\Below w.heap.size w w':=by
 go_enter Tryz.func158,Tryz.ntmps158
 go_wp2_with fail
 refine bodyPost_ret (v:=.agg #[.bool c,.slice (some ⟨w.heap.size+1,0,none⟩) 1 1,.slice a zs.length cap]) (by simp[results,Tryz.results158,go_sem]) rfl ⟨some ⟨w.heap.size+1,0,none⟩,1,rfl,?_,((Below.refl _ w).alloc (Nat.le_refl _) _).alloc (by simp) _⟩
 have:=new_ints1 (w.alloc (.cells #[.bool c,.slice (some ⟨w.heap.size+1,0,none⟩) 1 1,.slice a zs.length cap] 27)) 3 zs.length
 rw[World.size_alloc w] at this
 exact⟨this.low (by omega),Nat.le_refl _⟩
def iot (n:Nat):List Int:=(List.range n).map Int.ofNat
theorem iot_length (n:Nat):(iot n).length=n:=by simp[iot]
theorem iot_nth (n:Nat){j:Nat}(h:j<n):nth (iot n) j=(j:Int):=by simp[iot,nth,h]
theorem line_c (c:Bool)(a:Option Addr)(cap:Nat)(zs:List Int)(w:World):
  Calls Tryz.prog 158 #[.bool c,.slice a zs.length cap] w fun e w'=>∃ sa sc,e=.returned (.agg #[.bool c,.slice sa 1 sc,.slice a zs.length cap])/\NewInts w.heap.size w' sa [(zs.length:Int)]/\1<=sc/\Below w.heap.size w w':=by
 go_enter Tryz.func158,Tryz.ntmps158
 go_wp2_with fail
 refine bodyPost_ret (v:=.agg #[.bool c,.slice (some ⟨w.heap.size+1,0,none⟩) 1 1,.slice a zs.length cap]) (by simp[results,Tryz.results158,go_sem]) rfl ⟨some ⟨w.heap.size+1,0,none⟩,1,rfl,?_,Nat.le_refl _,((Below.refl _ w).alloc (Nat.le_refl _) _).alloc (by simp) _⟩
 have:=new_ints1 (w.alloc (.cells #[.bool c,.slice (some ⟨w.heap.size+1,0,none⟩) 1 1,.slice a zs.length cap] 27)) 3 zs.length
 rw[World.size_alloc w] at this
 exact this.low (by omega)
theorem iota_c (n:Nat)(hn:n<=4096)(w:World):
  Calls Tryz.prog 165 #[.int .i64 (n:Int)] w fun e w'=>∃ xa xc ya yc,e=.returned (.tuple #[.agg #[.bool false,.slice xa 1 xc,.slice ya n yc],.nilIface])/\NewC w.heap.size w' xa [(n:Int)] xc/\NewC w.heap.size w' ya (iot n) yc/\Below w.heap.size w w':=by
 have hmk:=run_make_row' (P:=Tryz.prog) 25 3 (.int .i64 0) 8 Tryz.underlying25 Tryz.infoInt rfl .i64 .i64 n (by omega) (by omega)
 have t1:¬ (n:Int)<0:=by omega
 have t2:¬ (4096:Int)<(n:Int):=by omega
 have HL:Hid ((iot n).length=n):=iot_length n
 go_enter Tryz.func165,Tryz.ntmps165
 go_wp2_with fail
 clear hmk
 go_loopw [18] (fun i wr=>∃ k:Nat,k<=n/\i=.int .i64 k/\wr.rowIs (w.heap.size+1) 3 n (upTo (fun j=>(j:Int)) k)/\Abx wr w.heap.size (.bool false) (.slice none 0 0) (.slice none 0 0)/\Below w.heap.size w wr) (fun i _=>n-(intOf i).toNat)
 case atStart=>
  refine⟨0,Nat.zero_le _,rfl,?_,(Abx.new w _ _ _).al _,((Below.refl _ w).alloc (Nat.le_refl _) _).alloc (by simp) _⟩
  have:=World.rowIs_made (w.alloc (.cells #[.bool false,.slice none 0 0,.slice none 0 0] 27)) (.int .i64 0) n 3
  rw[World.size_alloc] at this
  exact this.congr (fun j _=>by simp[upTo])
 case round=>
  obtain⟨k,hk,rfl,hrow,hA,hB⟩:=hrel
  by_cases hlt:k<n
  ·have c2:=hrow.cell hlt
   have f2:=hrow.frozen k
   go_wp2_with fail
   exact⟨⟨k+1,by omega,by go_num,upTo_set hrow _ rfl,hA.ot (by simp) _,hB.setCell (p:=⟨w.heap.size+1,k,none⟩) (by show w.heap.size<=w.heap.size+1;omega) _⟩,by simp[intOf];omega⟩
  ·obtain rfl:k=n:=by omega
   have hN:NewInts (w.heap.size+1) wr (some ⟨w.heap.size+1,0,none⟩) (iot k):=upTo_new hrow (Nat.le_refl _) _ (iot_length k) (fun j hj=>iot_nth k hj)
   have hlt0:=hrow.lt
   clear hrow
   go_wp2_with fail
   have hln:=line_c false (some ⟨w.heap.size+1,0,none⟩) k (iot k) wr
   rw[HL.out] at hln
   refine hln.mono ?_
   rintro e w3 ⟨xa,xc,rfl,hX,hxc,hB3⟩
   clear hln
   have R4:=hA.go hB3
   have r0:=R4.c0
   have r1:=R4.c1
   have r2:=R4.c2
   have f0:=R4.fr 0
   have f1:=R4.fr 1
   have f2:=R4.fr 2
   go_wp2_with fail
   have F:=R4.set3 (.bool false) (.slice xa 1 xc) (.slice (some ⟨w.heap.size+1,0,none⟩) k k)
   have q0:=F.c0
   have q1:=F.c1
   have q2:=F.c2
   refine bodyPost_ret (v:=.tuple #[.agg #[.bool false,.slice xa 1 xc,.slice (some ⟨w.heap.size+1,0,none⟩) k k],.nilIface]) (by simp[results,Tryz.results165,go_sem,q0,q1,q2]) rfl ⟨xa,xc,some ⟨w.heap.size+1,0,none⟩,k,rfl,?_,?_,?_⟩
   ·exact⟨(hX.set3 (by omega) _ _ _).low (by omega),hxc⟩
   ·exact⟨((hN.go hB3).set3 (by omega) _ _ _).low (by omega),by rw[iot_length];exact Nat.le_refl _⟩
   ·exact bel_set3 (hB.trans (hB3.mono hB.size)) (Nat.le_refl _) _ _ _
theorem grown_below {w w1:World}{base:Nat}{e:TypeId}{v:Value}{n:Nat}{xs:List Value}(hown:w.ownsRow base e 1 v n xs)(hg:w.grownBy w1 v.ownBlock)(hb:base<=w.heap.size):Below base w w1:=
 (Below.refl base w).grown hg hb (own_ge hown)
theorem app_step {ops:Array Oper}{o:Oper}{a:Act}{K:Act->World->Prop}{Q:Exit->Act->World->Prop}{E:Prop}(d:Nat)(hd:o.dst=some d)(hgd:o.guard=none)(s x:Operand)
  (ho:o.op=.call { callee:=.builtin .append,args:=#[s,x],argTypes:=#[25,25] })(W:World)
  (base B:Nat)(v:Value)(zs:List Int)(y:Int)(hs:a.eval s=v)(hx:a.eval x=.slice (some ⟨B,0,none⟩) 1 1)(hown:W.ownsRow base 3 1 v zs.length (zs.map (Value.int .i64)))
  (hnew:W.heap[B]?=some (.cells #[.int .i64 y] 3 (0,0)))(hlen:zs.length<=1000000)(hbase:base<=W.heap.size)
  (h:∀ g gc w1,w1.ownsRow base 3 1 (.slice (some ⟨g,0,none⟩) (zs.length+1) gc) (zs.length+1) ((zs++[y]).map (Value.int .i64))->Below base W w1->K (a.put (some d) (.slice (some ⟨g,0,none⟩) (zs.length+1) gc)) w1):
  if Region.wanted o (yielded ops a.tmps)=true then Oper.wp Tryz.prog o a W K Q else E:=by
 obtain⟨i0,hi,hz0,hz1,hz2⟩:=info_parts Tryz.infoInt
 refine step_append_lies W hgd s x 25 ho base 3 i0 (.int .i64 0) 1 8 Tryz.underlying25 hi hz0 hz1 hz2 rfl (by decide) v zs.length (zs.map (Value.int .i64)) hs hown ⟨B,0,none⟩ 1 1 [.int .i64 y] hx rfl
  (World.news_of_block (cs:=#[.int .i64 y]) (t:=3) (fr:=(0,0)) hnew) (by simp[Value.oneCell']) (by omega) (by unfold maxLen;omega) (by omega) hbase W.heap.size rfl ?_
 intro g gc w1 hown1 hgrow _ _
 rw[hd]
 refine h g gc w1 ?_ (grown_below hown hgrow hbase)
 rw[List.map_append]
 exact hown1
theorem app_list {ops:Array Oper}{rest:List Oper}{o:Oper}{a:Act}{Q:Exit->Act->World->Prop}(hgd:o.guard=none)(s x:Operand)
  (ho:o.op=.call { callee:=.builtin .append,args:=#[s,x],argTypes:=#[25,25] })(W:World)
  (base B:Nat)(v:Value)(zs:List Int)(y:Int)(hs:a.eval s=v)(hx:a.eval x=.slice (some ⟨B,0,none⟩) 1 1)(hown:W.ownsRow base 3 1 v zs.length (zs.map (Value.int .i64)))
  (hnew:W.heap[B]?=some (.cells #[.int .i64 y] 3 (0,0)))(hlen:zs.length<=1000000)(hbase:base<=W.heap.size)
  (h:∀ g gc w1,w1.ownsRow base 3 1 (.slice (some ⟨g,0,none⟩) (zs.length+1) gc) (zs.length+1) ((zs++[y]).map (Value.int .i64))->Below base W w1->wpList Tryz.prog ops Q rest (a.put o.dst (.slice (some ⟨g,0,none⟩) (zs.length+1) gc)) w1):
  wpList Tryz.prog ops Q (o::rest) a W:=by
 obtain⟨i0,hi,hz0,hz1,hz2⟩:=info_parts Tryz.infoInt
 refine wpList_append_lies W hgd s x 25 ho base 3 i0 (.int .i64 0) 1 8 Tryz.underlying25 hi hz0 hz1 hz2 rfl (by decide) v zs.length (zs.map (Value.int .i64)) hs hown ⟨B,0,none⟩ 1 1 [.int .i64 y] hx rfl
  (World.news_of_block (cs:=#[.int .i64 y]) (t:=3) (fr:=(0,0)) hnew) (by simp[Value.oneCell']) (by omega) (by unfold maxLen;omega) (by omega) hbase W.heap.size rfl ?_
 intro g gc w1 hown1 hgrow _ _
 refine h g gc w1 ?_ (grown_below hown hgrow hbase)
 rw[List.map_append]
 exact hown1
theorem run_none7 (W:World)(ty:TypeId)(g:Option Addr)(n cap c:Nat)(h:n<=cap):
  (Builtin.append_ #[25,25] ty #[.slice g n cap,.slice none 0 c]).run Tryz.prog W=.ok (.slice g n cap) W:=by
 obtain⟨i0,hi,hz0,hz1,hz2⟩:=info_parts Tryz.infoInt
 have ht:Tryz.prog.underlying 25=some (.slice 3):=Tryz.underlying25
 cases g with
 | none=>simp[Builtin.append_,run_underlying ht,sizeOf,typeInfo,hi,Builtin.lenOf,Builtin.firstCells,h]
 | some x=>simp[Builtin.append_,run_underlying ht,sizeOf,typeInfo,hi,Builtin.lenOf,Builtin.firstCells,storeCells,h]
theorem app_wp {o:Oper}{a:Act}{K:Act->World->Prop}{Q:Exit->Act->World->Prop}(S T:Operand)(ho:o.op=.call { callee:=.builtin .append,args:=#[S,T],argTypes:=#[25,25] })
  (W:World)(base:Nat)(v:Value)(xs:List Int)(m:Nat)(hm:xs.length=m)(da:Option Addr)(dz:List Int)(n dc:Nat)(hn:dz.length=n)
  (hS:a.eval S=v)(hT:a.eval T=.slice da n dc)(hown:W.ownsRow base 3 1 v m (xs.map (Value.int .i64)))(hI:IsInts W.heap.size W da dz)(hlen:m+n<=1000000)(hbase:base<=W.heap.size)
  (k:∀ g gc w1,w1.ownsRow base 3 1 (.slice g (m+n) gc) (m+n) ((xs++dz).map (Value.int .i64))->NewC base w1 g (xs++dz) gc->Below base W w1->K (a.put o.dst (.slice g (m+n) gc)) w1):
  Oper.wp Tryz.prog o a W K Q:=by
 subst hn hm
 obtain⟨i0,hi,hz0,hz1,hz2⟩:=info_parts Tryz.infoInt
 cases da with
 | none=>
  have hz:dz=[]:=by
   rcases hI with h | ⟨_,_,h,_⟩
   ·exact h
   ·cases h
  subst hz
  obtain⟨g,cap,hv,hN⟩:=own_cap hown
  unfold Oper.wp execOp
  simp only[ho,resolve,invoke,builtin,Sem.run_bind,Sem.run_pure,Result.andThen_ok,List.map_toArray,List.map_cons,List.map_nil,hS,hT]
  rw[hv,List.length_nil,run_none7 W _ g xs.length cap dc hN.2]
  refine k g cap W ?_ ?_ (Below.refl _ _)
  ·rw[hv] at hown;simpa using hown
  ·simpa using hN
 | some ad=>
  have hne:∀ j u,(dz.map (Value.int .i64))[j]?=some u->W.cell? (ad.add j)=some u:=by
   intro j u hj
   rw[List.getElem?_map] at hj
   by_cases hl:j<dz.length
   ·obtain⟨b,off,e,hb,hc⟩:=hI.at hl
    cases e
    rw[List.getElem?_eq_getElem hl] at hj
    simp only[Option.map_some] at hj
    obtain rfl:=Option.some.inj hj
    rw[<-nth_get dz j hl]
    have e:(⟨b,off,none⟩:Addr).add j=⟨b,off+j,none⟩:=by
     unfold Addr.add;split
     ·rename_i h0;subst h0;rfl
     ·rfl
    rw[e];exact hc j hl
   ·rw[List.getElem?_eq_none (by omega)] at hj;cases hj
  refine wp_append_own W S T 25 ho base 3 i0 (.int .i64 0) 1 8 Tryz.underlying25 hi hz0 hz1 hz2 rfl (by decide) v xs.length (xs.map (Value.int .i64)) hS hown ad dz.length dc (dz.map (Value.int .i64)) hT (by simp) hne (fun x hx=>by obtain⟨y,_,rfl⟩:=List.mem_map.1 hx;rfl) (by unfold maxLen;omega) (by omega) hbase ?_
  intro v' w1 hown1 hgrow _
  rw[<-List.map_append] at hown1
  obtain⟨g,gc,hv',hN⟩:=own_cap hown1
  rw[List.length_append] at hv'
  rw[hv'] at hown1 ⊢
  exact k g gc w1 hown1 hN (grown_below hown hgrow hbase)
theorem app_all {ops:Array Oper}{rest:List Oper}{o:Oper}{a:Act}{Q:Exit->Act->World->Prop}(hgd:o.guard=none)(S T:Operand)(ho:o.op=.call { callee:=.builtin .append,args:=#[S,T],argTypes:=#[25,25] })
  (W:World)(base:Nat)(v:Value)(xs:List Int)(m:Nat)(hm:xs.length=m)(da:Option Addr)(dz:List Int)(n dc:Nat)(hn:dz.length=n)
  (hS:a.eval S=v)(hT:a.eval T=.slice da n dc)(hown:W.ownsRow base 3 1 v m (xs.map (Value.int .i64)))(hI:IsInts W.heap.size W da dz)(hlen:m+n<=1000000)(hbase:base<=W.heap.size)
  (k:∀ g gc w1,w1.ownsRow base 3 1 (.slice g (m+n) gc) (m+n) ((xs++dz).map (Value.int .i64))->NewC base w1 g (xs++dz) gc->Below base W w1->wpList Tryz.prog ops Q rest (a.put o.dst (.slice g (m+n) gc)) w1):
  wpList Tryz.prog ops Q (o::rest) a W:=
 wpList_plain hgd fun _ hK=>app_wp S T ho W base v xs m hm da dz n dc hn hS hT hown hI hlen hbase fun g gc w1 h1 h2 h3=>hK _ _ (k g gc w1 h1 h2 h3)
theorem app_all_step {ops:Array Oper}{o:Oper}{a:Act}{K:Act->World->Prop}{Q:Exit->Act->World->Prop}{E:Prop}(d:Nat)(hd:o.dst=some d)(hgd:o.guard=none)(S T:Operand)(ho:o.op=.call { callee:=.builtin .append,args:=#[S,T],argTypes:=#[25,25] })
  (W:World)(base:Nat)(v:Value)(xs:List Int)(m:Nat)(hm:xs.length=m)(da:Option Addr)(dz:List Int)(n dc:Nat)(hn:dz.length=n)
  (hS:a.eval S=v)(hT:a.eval T=.slice da n dc)(hown:W.ownsRow base 3 1 v m (xs.map (Value.int .i64)))(hI:IsInts W.heap.size W da dz)(hlen:m+n<=1000000)(hbase:base<=W.heap.size)
  (k:∀ g gc w1,w1.ownsRow base 3 1 (.slice g (m+n) gc) (m+n) ((xs++dz).map (Value.int .i64))->NewC base w1 g (xs++dz) gc->Below base W w1->K (a.put (some d) (.slice g (m+n) gc)) w1):
  if Region.wanted o (yielded ops a.tmps)=true then Oper.wp Tryz.prog o a W K Q else E:=by
 have hw:Region.wanted o (yielded ops a.tmps)=true:=by simp[Region.wanted,hgd]
 rw[if_pos hw]
 refine app_wp S T ho W base v xs m hm da dz n dc hn hS hT hown hI hlen hbase ?_
 rw[hd]
 exact k
end Go.Proofs.YtkmmkcpfhnifhaaGreatDoor
