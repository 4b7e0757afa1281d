/- What the program tells, in part. -/
import Derived.Test.YtkmmkcpfhnifhaaGreatJ14
set_option linter.unusedVariables false
set_option maxHeartbeats 8000000
set_option maxRecDepth 100000
namespace Go.Proofs.YtkmmkcpfhnifhaaGreat
open Go.RowKit
def UP (e:Int)(S P:List Int)(w:World)(r:Ending)(w':World):Prop:=
 ∃ xa xc ya yc,r=.returned (.tuple #[.slice xa S.length xc,.slice ya P.length yc,errV e])/\NewC w.heap.size w' xa S xc/\NewC w.heap.size w' ya P yc/\Below w.heap.size w w'
theorem up_no {e:Int}{S P:List Int}{w w':World}{e':Int}(h:e=e')(h0:e'≠0)(hB:Below w.heap.size w w'):UP e (onl e S) (onl e P) w (.returned (.tuple #[.slice none 0 0,.slice none 0 0,.iface 43 (.int .i64 e')])) w':=by
 subst h
 unfold UP
 rw[onl_no h0,onl_no h0,errV_pos h0]
 exact⟨none,0,none,0,rfl,⟨.inl rfl,Nat.le_refl _⟩,⟨.inl rfl,Nat.le_refl _⟩,hB⟩
theorem up_ok {e:Int}{S P:List Int}{w w':World}{xa:Option Addr}{xc:Nat}{ya:Option Addr}{yc n:Nat}(h:e=0)(hn:P.length=n)(hX:NewC w.heap.size w' xa S xc)(hY:NewC w.heap.size w' ya P yc)(hB:Below w.heap.size w w'):
  UP e (onl e S) (onl e P) w (.returned (.tuple #[.slice xa S.length xc,.slice ya n yc,.nilIface])) w':=by
 subst h hn
 exact⟨xa,xc,ya,yc,rfl,hX,hY,hB⟩
theorem picked_new (sa:Option Addr)(sc:Nat)(zs:List Int)(ba:Option Addr)(bc:Nat)(bs:List ArV)(he:errOf zs=0)(h3:bs.length<=9223372036854775807)(hf:flL (bya bs)=0)(w:World)(hI:IsInts w.heap.size w sa zs)(hR:IsAs w.heap.size w ba bs):
  Calls Tryz.prog 19 #[.slice sa zs.length sc,.slice ba bs.length bc] w (UP (nmE zs (bya bs)) (onl (nmE zs (bya bs)) (pkS (bya bs))) (onl (nmE zs (bya bs)) (plL zs (bya bs))) w):=by
 have HI:Hid (IsInts w.heap.size w sa zs/\IsAs w.heap.size w ba bs):=⟨hI,hR⟩
 have HF:Hid (errOf zs=0/\flL (bya bs)=0):=⟨he,hf⟩
 have hlz:zs.length<=6:=(errOf_zero.1 he).1
 clear hI hR he hf
 by_cases hc:ciE zs (bya bs)=0
 ·have HC:Hid (ciE zs (bya bs)=0):=hc
  have hbl:bs.length=zs.length:=by have:=(ciE_zero.1 hc).1;rwa [bya_length] at this
  have hb6:bs.length<=6:=by omega
  have HL:Hid (bs.length=zs.length):=hbl
  clear hbl
  have hp:=chkidx_any sa sc zs ba bc bs (by omega) h3 w HI.2
  rw[hc] at hp
  have er0:errV 0=.nilIface:=rfl
  rw[er0] at hp
  clear hc er0
  go_enter Tryz.func19,Tryz.ntmps19
  go_wp2_with fail
  refine hp.mono ?_
  clear hp
  rintro e v1 ⟨rfl,hC⟩
  have HB1:Hid (Below w.heap.size w v1):=hC
  clear hC
  go_wp2_with fail
  refine (joined_new ba bc bs hb6 HF.2 v1 ((HI.2.below HB1.out).mono HB1.size)).mono ?_
  rintro e v2 ⟨g,gc,rfl,hN,hC⟩
  obtain⟨S,hS⟩:∃ S,S=pkS (bya bs):=⟨_,rfl⟩
  rw[<-hS] at hN ⊢
  have HS:Hid (S=pkS (bya bs)):=hS
  have hSl:S.length<=36:=by rw[hS];have:=pkS_short (bya bs) HF.2;rw[bya_length] at this;omega
  have HB2:Hid (Below w.heap.size w v2):=HB1.trans (hC.mono HB1.size)
  have HN2:Hid (NewC v1.heap.size v2 g S gc):=hN
  have hz1:w.heap.size<=v1.heap.size:=HB1.size
  have hz2:v1.heap.size<=v2.heap.size:=hC.size
  clear hC hS hN
  go_wp2_with fail
  by_cases heS:errOf S=0
  ·have HE:Hid (errOf S=0):=heS
   have hpn:=prod_nonneg (errOf_zero.1 heS).2.1
   have hpm:=(errOf_zero.1 heS).2.2
   obtain⟨N,hNe⟩:∃ N:Nat,(N:Int)=prod S:=⟨(prod S).toNat,by omega⟩
   have hN4:N<=4096:=by omega
   have HNe:Hid ((N:Int)=prod S):=hNe
   have h:=count_ok g gc S (by omega) v2 HN2.ints.1 HE.out
   rw[<-hNe] at h
   clear hpn hpm hNe heS
   refine h.mono ?_
   clear h
   rintro e v3 ⟨rfl,hC⟩
   have HB3:Hid (Below w.heap.size w v3):=HB2.trans (hC.mono HB2.size)
   have HN3:Hid (NewC v1.heap.size v3 g S gc):=HN2.go hC
   have hz3:v2.heap.size<=v3.heap.size:=hC.size
   clear hC HB2 HN2
   go_wp2_with fail
   go_loopw [4,30] (fun t i wr=>∃ k:Nat,k<=zs.length/\i=.int .i64 k/\t=.slice g S.length gc/\Hid (∀ j,j<k->lowB (arz bs j).2.2.2 (nth zs j)=true)/\wr=v3) (fun _ i _=>zs.length-(intOf i).toNat)
   case atStart=>exact⟨0,Nat.zero_le _,rfl,rfl,fun j hj=>absurd hj (Nat.not_lt_zero j),rfl⟩
   case round=>
    obtain⟨k,hk,rfl,rfl,HA,hv⟩:=hrel
    obtain rfl:=hv.symm
    by_cases hlt:k<zs.length
    ·have hkb:k<bs.length:=by rw[HL.out];exact hlt
     obtain⟨bz,oz,rfl,hbz,hcz⟩:=(HI.1.below HB3.out).at hlt
     have cz:=hcz k hlt
     have hav:=(HI.2.below HB3.out).2 k hkb
     obtain⟨bb,ob,rfl,hbb,c0,c1,c2⟩:=(HI.2.below HB3.out).cells hkb
     have HAV:Hid (IsAv w.heap.size v3 (arz bs k)):=hav
     clear hcz hav c0 c1 hv
     cases hb:lowB (arz bs k).2.2.2 (nth zs k)
     ·have HX:Hid (nmE zs (bya bs)=5):=by
       refine nmE_ix HC.out (by rw[<-HS.out];exact HE.out) ?_
       by_cases hall:∀ i,i<(arz bs k).2.2.2.length->0<=nth (arz bs k).2.2.2 i/\nth (arz bs k).2.2.2 i<nth zs k
       ·rw[lowB_ok hall] at hb;cases hb
       ·obtain⟨i,hi⟩:=Classical.not_forall.1 hall
        obtain⟨h1,h2⟩:=Classical.not_imp.1 hi
        exact ix_bad bs zs hkb h1 h2
      have h:=below_any (arz bs k).2.2.1.1 (arz bs k).2.2.1.2 (arz bs k).2.2.2 (nth zs k) HAV.2.1 w.heap.size v3 HAV.2.2.2.1.1
      rw[hb] at h
      clear hb HA
      go_wp2_with fail
      refine h.mono ?_
      clear h
      rintro e v4 ⟨rfl,rfl⟩
      go_wp2_with fail
      go_ret3
      exact up_no HX.out (by decide) HB3.out
     ·have HA2:Hid (∀ j,j<k+1->lowB (arz bs j).2.2.2 (nth zs j)=true):=fun j hj=>by
       by_cases e:j=k
       ·subst e;exact hb
       ·exact HA.out j (by omega)
      have h:=below_any (arz bs k).2.2.1.1 (arz bs k).2.2.1.2 (arz bs k).2.2.2 (nth zs k) HAV.2.1 w.heap.size v3 HAV.2.2.2.1.1
      rw[hb] at h
      clear hb HA
      go_wp2_with fail
      refine h.mono ?_
      clear h
      rintro e v4 ⟨rfl,rfl⟩
      go_wp2_with fail
      exact⟨⟨k+1,by omega,by go_num,rfl,HA2,by first | rfl | trivial⟩,by simp[intOf];omega⟩
    ·obtain rfl:k=zs.length:=by omega
     have HIX:Hid (ixB (bya bs) zs=true):=ix_ok bs zs fun k hk i hi=>lowB_at (HA.out k (by rw[<-HL.out];exact hk)) hi
     have HZ:Hid (nmE zs (bya bs)=0):=nmE_ok HC.out (by rw[<-HS.out];exact HE.out) HIX.out
     obtain⟨P,hP⟩:∃ P,P=plL zs (bya bs):=⟨_,rfl⟩
     have HPe:Hid (P=plL zs (bya bs)):=hP
     have HP:Hid (P.length=N/\∀ j,j<N->nth P j=pkP zs (bya bs) j/\j<(prod (pkS (bya bs))).toNat):=by
      have e:=HNe.out
      rw[HS.out] at e
      refine⟨by rw[hP,plL_length];omega,fun j hj=>⟨by rw[hP,plL_nth _ _ (by omega)],by omega⟩⟩
     clear hP HA hlt hv hk
     have hmk:=run_make_row' (P:=Tryz.prog) 22 3 (.int .i64 0) 8 Tryz.underlying22 Tryz.infoInt rfl .i64 .i64 N (by omega) (by omega)
     go_wp2_with fail
     clear hmk
     go_loopw [49] (fun i wr=>∃ j:Nat,j<=N/\i=.int .i64 j/\wr.rowIs v3.heap.size 3 N (upTo (nth P) j)/\Below v3.heap.size v3 wr) (fun i _=>N-(intOf i).toNat)
     case atStart=>
      exact⟨0,Nat.zero_le _,rfl,(World.rowIs_made v3 (.int .i64 0) N 3).congr (fun j _=>by simp[upTo]),(Below.refl _ v3).alloc (Nat.le_refl _) _⟩
     case round=>
      obtain⟨j,hj,rfl,hrow,hBu⟩:=hrel
      have hB:Below w.heap.size w wr:=HB3.trans (hBu.mono HB3.size)
      by_cases hlt:j<N
      ·obtain⟨hPj,hjp⟩:=HP.2 j hlt
       have HPj:Hid (nth P j=pkP zs (bya bs) j/\j<(prod (pkS (bya bs))).toNat):=⟨hPj,hjp⟩
       have HQ:Hid (wr.rowIs v3.heap.size 3 N (upTo (nth P) j)/\Below v3.heap.size v3 wr/\Below w.heap.size w wr):=⟨hrow,hBu,hB⟩
       clear hrow hBu hB hPj hjp
       go_wp2_with fail
       refine (src7_any sa sc zs ba bc bs j HF.1 HL.out HF.2 (by rw[<-HS.out];exact HE.out) HIX.out HPj.2 wr ((HI.1.below HQ.2.2).mono HQ.2.2.size) ((HI.2.below HQ.2.2).mono HQ.2.2.size) (nth P j) HPj.1).mono ?_
       rintro e w3 ⟨rfl,hBc⟩
       have hrow3:w3.rowIs v3.heap.size 3 N (upTo (nth P) j):=HQ.1.of_block (hBc.block v3.heap.size HQ.1.lt)
       have c2:=hrow3.cell hlt
       have f2:=hrow3.frozen j
       have HQ3:Hid (w3.rowIs v3.heap.size 3 N (upTo (nth P) j)/\Below v3.heap.size v3 w3):=⟨hrow3,HQ.2.1.trans (hBc.mono HQ.2.1.size)⟩
       clear hrow3 hBc HQ
       go_wp2_with fail
       refine⟨⟨j+1,by omega,by go_num,upTo_set HQ3.1 _ rfl,HQ3.2.setCell (p:=⟨v3.heap.size,j,none⟩) (Nat.le_refl _) _⟩,by simp[intOf];omega⟩
      ·obtain rfl:j=N:=by omega
       have HY:Hid (NewInts v3.heap.size wr (some ⟨v3.heap.size,0,none⟩) P):=upTo_new hrow (Nat.le_refl _) P HP.1 (fun j hj=>rfl)
       have HX3:Hid (NewC v1.heap.size wr g S gc):=HN3.go hBu
       have HBw:Hid (Below w.heap.size w wr):=hB
       clear hrow hB hBu hlt hj
       go_wp2_with fail
       go_ret3
       have hX:=HX3.low (lo':=w.heap.size) (by omega)
       have hY:NewC w.heap.size wr (some ⟨v3.heap.size,0,none⟩) P j:=⟨HY.low (lo':=w.heap.size) (by omega),by rw[HP.1];exact Nat.le_refl _⟩
       rw[<-HS.out,<-HPe.out]
       exact up_ok HZ.out HP.1 hX hY HBw.out
  ·have HE:Hid (nmE zs (bya bs)=errOf S):=by show _=_;rw[HS.out];rw[HS.out] at heS;exact nmE_err HC.out heS
   have HE0:Hid (errOf S≠0):=heS
   clear heS
   refine (count_no g gc S (by omega) v2 HN2.ints.1 HE0.out).mono ?_
   rintro e v3 ⟨rfl,hC⟩
   have HB3:Hid (Below w.heap.size w v3):=HB2.trans (hC.mono HB2.size)
   clear hC HB2 HN2
   go_wp2_with fail
   go_ret3
   exact up_no HE.out HE0.out HB3.out
 ·have HC:Hid (nmE zs (bya bs)=ciE zs (bya bs)):=nmE_ci hc
  have HC0:Hid (ciE zs (bya bs)≠0):=hc
  have hp:=chkidx_any sa sc zs ba bc bs (by omega) h3 w HI.2
  rw[errV_pos hc] at hp
  clear hc
  go_enter Tryz.func19,Tryz.ntmps19
  go_wp2_with fail
  refine hp.mono ?_
  clear hp
  rintro e v1 ⟨rfl,hC⟩
  have HB1:Hid (Below w.heap.size w v1):=hC
  clear hC
  go_wp2_with fail
  go_ret3
  exact up_no HC.out HC0.out HB1.out
theorem at_holds:CAt:=by
 intro c sa sc sz da dc dz ba bc bs w h1 h2 h3 hs hd hb
 unfold pkS7 pkD7
 have HI:Hid (IsInts w.heap.size w sa sz/\IsInts w.heap.size w da dz/\IsAs w.heap.size w ba bs):=⟨hs,hd,hb⟩
 clear hs hd hb
 have HB0:Hid (Below w.heap.size w ((w.alloc (.cells #[.bool c,.slice sa sz.length sc,.slice da dz.length dc] 24)).alloc (.cells #[.bool false,.slice none 0 0,.slice none 0 0] 24))):=((Below.refl _ w).alloc (Nat.le_refl _) _).alloc (by simp) _
 have pa:=(Abx.new w (.bool c) (.slice sa sz.length sc) (.slice da dz.length dc)).al (.cells #[.bool false,.slice none 0 0,.slice none 0 0] 24)
 have pr:=Abx.new1 w (.cells #[.bool c,.slice sa sz.length sc,.slice da dz.length dc] 24) (.bool false) (.slice none 0 0) (.slice none 0 0)
 have p0:=pa.c0
 have p1:=pa.c1
 have p2:=pa.c2
 have hp:=chkall_any c sa sc sz da dc dz ba bc bs h1 h2 h3 ((w.alloc (.cells #[.bool c,.slice sa sz.length sc,.slice da dz.length dc] 24)).alloc (.cells #[.bool false,.slice none 0 0,.slice none 0 0] 24)) ((HI.1.below HB0.out).mono HB0.size) ((HI.2.1.below HB0.out).mono HB0.size) ((HI.2.2.below HB0.out).mono HB0.size)
 by_cases ha:alE c sz dz (bya bs)=0
 ·have HF:Hid (flawE c sz dz=0/\flL (bya bs)=0):=alE_zero ha
  have HPE:Hid (pkE c sz dz (bya bs)=nmE sz (bya bs)):=pkE_nm ha
  have er0:errV 0=.nilIface:=rfl
  rw[ha,er0] at hp
  clear ha er0
  go_enter Tryz.func10,Tryz.ntmps10
  go_wp2_with fail
  refine hp.mono ?_
  clear hp
  rintro e v1 ⟨rfl,hC⟩
  have HB1:Hid (Below w.heap.size w v1):=HB0.trans (hC.mono HB0.size)
  have HP:Hid (Abx v1 w.heap.size (.bool c) (.slice sa sz.length sc) (.slice da dz.length dc)):=pa.go hC
  have HR:Hid (Abx v1 (w.heap.size+1) (.bool false) (.slice none 0 0) (.slice none 0 0)):=pr.go hC
  have hR1:w.heap.size+1<v1.heap.size:=HR.lt
  clear hC pa pr p0 p1 p2 HB0
  have a1:=HP.c1
  go_wp2_with fail
  refine (picked_new sa sc sz ba bc bs (flawE_zero HF.1).1 h3 HF.2 v1 ((HI.1.below HB1.out).mono HB1.size) ((HI.2.2.below HB1.out).mono HB1.size)).mono ?_
  rintro e v2 ⟨g,gc,ga,gd,rfl,hS,hPl,hB⟩
  have HB2:Hid (Below w.heap.size w v2):=HB1.trans (hB.mono HB1.size)
  have HP2:Hid (Abx v2 w.heap.size (.bool c) (.slice sa sz.length sc) (.slice da dz.length dc)):=HP.go hB
  have HR2:Hid (Abx v2 (w.heap.size+1) (.bool false) (.slice none 0 0) (.slice none 0 0)):=HR.go hB
  have hR2:w.heap.size+1<v2.heap.size:=HR2.lt
  have hv12:v1.heap.size<=v2.heap.size:=hB.size
  clear hB a1 HP HR
  by_cases hn:nmE sz (bya bs)=0
  ·rw[onl_ok hn] at hS hPl
   rw[onl_ok hn,onl_ok hn,hn]
   have er0:errV 0=.nilIface:=rfl
   rw[er0]
   have HE:Hid (pkE c sz dz (bya bs)=0):=by show _=_;rw[HPE.out,hn]
   obtain⟨S,hS0⟩:∃ S,S=pkS (bya bs):=⟨_,rfl⟩
   obtain⟨P,hP0⟩:∃ P,P=plL sz (bya bs):=⟨_,rfl⟩
   obtain⟨D,hD0⟩:∃ D,D=pkD sz dz (bya bs):=⟨_,rfl⟩
   rw[<-hS0,<-hP0]
   rw[<-hS0] at hS
   rw[<-hP0] at hPl
   have HS:Hid (S=pkS (bya bs)/\D=pkD sz dz (bya bs)):=⟨hS0,hD0⟩
   obtain⟨q,hq⟩:∃ q,q=P.length:=⟨_,rfl⟩
   have HL:Hid (P.length=q/\D.length=q/\(prod (pkS (bya bs))).toNat=q):=⟨hq.symm,by rw[hq,hD0,hP0];unfold pkD;rw[TA_length,plL_length],by rw[hq,hP0,plL_length]⟩
   have hSl:S.length<=6/\q<=4096:=by have:=pk_len HE.out;rw[<-hD0,HL.2.1,<-hS0] at this;exact this
   have hdz4:dz.length<=4096:=(flawE_short HF.1).2
   have HPb:Hid (∀ k,k<q->0<=nth P k/\nth P k<dz.length/\nth D k=nth dz (nth P k).toNat):=fun k hk=>by
    have hk':k<(prod (pkS (bya bs))).toNat:=by rw[HL.2.2];exact hk
    have hb:=pkP_bd HE.out hk'
    rw[hP0,plL_nth _ _ hk',hD0,pkD_nth hk']
    exact⟨hb.1,by rw[(flawE_zero HF.1).2.1];exact hb.2,rfl⟩
   rw[<-hq]
   have HSP:Hid (NewC v1.heap.size v2 g S gc/\NewC v1.heap.size v2 ga P gd):=⟨hS,hPl⟩
   clear hn hS hPl hS0 hP0 hD0 hq er0
   obtain⟨hSl,hq4⟩:=hSl
   have hmk:=run_make_row' (P:=Tryz.prog) 22 3 (.int .i64 0) 8 Tryz.underlying22 Tryz.infoInt rfl .i64 .i64 q (by omega) (by omega)
   go_wp2_with fail
   clear hmk
   go_loopw [37] (fun i wr=>∃ k:Nat,k<=q/\i=.int .i64 k/\wr.rowIs v2.heap.size 3 q (upTo (nth D) k)/\Below v2.heap.size v2 wr) (fun i _=>q-(intOf i).toNat)
   case atStart=>
    exact⟨0,Nat.zero_le _,rfl,(World.rowIs_made v2 (.int .i64 0) q 3).congr (fun j _=>by simp[upTo]),(Below.refl _ v2).alloc (Nat.le_refl _) _⟩
   case round=>
    obtain⟨k,hk,rfl,hrow,hBu⟩:=hrel
    have hA:=HP2.go hBu
    have hB:Below w.heap.size w wr:=HB2.trans (hBu.mono HB2.size)
    by_cases hlt:k<q
    ·obtain⟨hL1,hL2,hL3⟩:=HPb.out k hlt
     obtain⟨L,hL⟩:∃ L:Nat,nth P k=L:=⟨(nth P k).toNat,by omega⟩
     rw[hL,Int.toNat_natCast] at hL3
     have hLd:L<dz.length:=by omega
     have hkP:k<P.length:=by rw[HL.1];exact hlt
     obtain⟨bp,op,rfl,hbp,hcP⟩:=(HSP.2.go hBu).ints.1.at hkP
     have cp:=hcP k hkP
     rw[hL] at cp
     obtain⟨bd,od,rfl,hbd,hcD⟩:=(HI.2.1.below hB).at hLd
     have cd:=hcD L hLd
     have HV:Hid (nth dz L=nth D k):=hL3.symm
     have a2:=hA.c2
     have c2:=hrow.cell hlt
     have f2:=hrow.frozen k
     have HQ:Hid (wr.rowIs v2.heap.size 3 q (upTo (nth D) k)/\Below v2.heap.size v2 wr):=⟨hrow,hBu⟩
     clear hrow hA hBu hB hcP hcD hL1 hL2 hL3 hL
     go_wp2_with fail
     refine⟨⟨k+1,by omega,by go_num,upTo_set HQ.1 _ HV.out,HQ.2.setCell (p:=⟨v2.heap.size,k,none⟩) (Nat.le_refl _) _⟩,by simp[intOf];omega⟩
    ·obtain rfl:k=q:=by omega
     have HY:Hid (NewInts v2.heap.size wr (some ⟨v2.heap.size,0,none⟩) D):=upTo_new hrow (Nat.le_refl _) D HL.2.1 (fun j hj=>rfl)
     have HR3:Hid (Abx wr (w.heap.size+1) (.bool false) (.slice none 0 0) (.slice none 0 0)):=HR2.go hBu
     have HX3:Hid (NewC v1.heap.size wr g S gc):=HSP.1.go hBu
     have HB3:Hid (Below w.heap.size w wr):=hB
     have e0:=hA.c0
     have r0:=HR3.c0
     have r1:=HR3.c1
     have r2:=HR3.c2
     have f0:=HR3.fr 0
     have f1:=HR3.fr 1
     have f2:=HR3.fr 2
     clear hrow hA hB hBu hlt hk
     go_wp2_with fail
     have F:=HR3.set3 (.bool c) (.slice g S.length gc) (.slice (some ⟨v2.heap.size,0,none⟩) k k)
     have q0:=F.c0
     have q1:=F.c1
     have q2:=F.c2
     refine bodyPost_ret (v:=.tuple #[.agg #[.bool c,.slice g S.length gc,.slice (some ⟨v2.heap.size,0,none⟩) k k],.nilIface]) (by simp[results,Tryz.results10,go_sem,q0,q1,q2]) rfl ?_
     have hX:=(HX3.set3 (b:=w.heap.size+1) (by omega) (.bool c) (.slice g S.length gc) (.slice (some ⟨v2.heap.size,0,none⟩) k k)).low (lo':=w.heap.size) (by omega)
     have hY:=(HY.set3 (b:=w.heap.size+1) (by omega) (.bool c) (.slice g S.length gc) (.slice (some ⟨v2.heap.size,0,none⟩) k k)).low (lo':=w.heap.size) (by omega)
     have hZ:=bel_set3 HB3.out (b:=w.heap.size+1) (by omega) (.bool c) (.slice g S.length gc) (.slice (some ⟨v2.heap.size,0,none⟩) k k)
     have hUB:=ub_ok (c:=c) (xc:=gc) (yc:=k) HE.out hX ⟨hY,by rw[HL.2.1];exact Nat.le_refl _⟩ hZ
     rw[HL.2.1] at hUB
     rw[<-HS.1,<-HS.2]
     exact hUB
  ·have HE:Hid (pkE c sz dz (bya bs)=nmE sz (bya bs)):=HPE.out
   have HA:Hid (nmE sz (bya bs)≠0):=hn
   rw[onl_no hn,onl_no hn,errV_pos hn]
   clear hn hS hPl
   have r0:=HR2.c0
   have r1:=HR2.c1
   have r2:=HR2.c2
   have f0:=HR2.fr 0
   have f1:=HR2.fr 1
   have f2:=HR2.fr 2
   go_wp2_with fail
   have F:=HR2.set3 (.bool false) (.slice none 0 0) (.slice none 0 0)
   have q0:=F.c0
   have q1:=F.c1
   have q2:=F.c2
   exact bodyPost_ret (v:=.tuple #[.agg #[.bool false,.slice none 0 0,.slice none 0 0],.iface 43 (.int .i64 (nmE sz (bya bs)))]) (by simp[results,Tryz.results10,go_sem,q0,q1,q2]) rfl (ub_no HE.out HA.out (bel_set3 HB2.out (by omega) _ _ _))
 ·have HE:Hid (pkE c sz dz (bya bs)=alE c sz dz (bya bs)):=pkE_al ha
  have HA:Hid (alE c sz dz (bya bs)≠0):=ha
  rw[errV_pos ha] at hp
  clear ha
  go_enter Tryz.func10,Tryz.ntmps10
  go_wp2_with fail
  refine hp.mono ?_
  clear hp
  rintro e v1 ⟨rfl,hC⟩
  have HB1:Hid (Below w.heap.size w v1):=HB0.trans (hC.mono HB0.size)
  have HR:Hid (Abx v1 (w.heap.size+1) (.bool false) (.slice none 0 0) (.slice none 0 0)):=pr.go hC
  clear hC pa pr p0 p1 p2 HB0
  have r0:=HR.c0
  have r1:=HR.c1
  have r2:=HR.c2
  have f0:=HR.fr 0
  have f1:=HR.fr 1
  have f2:=HR.fr 2
  go_wp2_with fail
  have F:=HR.set3 (.bool false) (.slice none 0 0) (.slice none 0 0)
  have q0:=F.c0
  have q1:=F.c1
  have q2:=F.c2
  exact bodyPost_ret (v:=.tuple #[.agg #[.bool false,.slice none 0 0,.slice none 0 0],.iface 43 (.int .i64 (alE c sz dz (bya bs)))]) (by simp[results,Tryz.results10,go_sem,q0,q1,q2]) rfl (ub_no HE.out HA.out (bel_set3 HB1.out (by omega) _ _ _))
end Go.Proofs.YtkmmkcpfhnifhaaGreat
