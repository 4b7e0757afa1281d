/- What the program tells, in part. -/
import Derived.Test.YtkmmkcpfhnifhaaGreatDoorJ21
import Derived.Test.YtkmmkcpfhnifhaaGreatDoorJ18
set_option linter.unusedVariables false
set_option maxHeartbeats 2000000
set_option maxRecDepth 100000
namespace Go.Proofs.YtkmmkcpfhnifhaaGreatDoor
open Go.RowKit
theorem iota_neg (n:Int)(h:n<0)(w:World):Calls Tryz.prog 165 #[.int .i64 n] w (AnP (anN 6) w):=by
 have hb:Hid (Below w.heap.size w (w.alloc (.cells #[.bool false,.slice none 0 0,.slice none 0 0] 27))):=(Below.refl _ w).alloc (Nat.le_refl _) _
 go_enter Tryz.func165,Tryz.ntmps165
 go_wp2_with fail
 exact bodyPost_ret (v:=.tuple #[.agg #[.bool false,.slice none 0 0,.slice none 0 0],.iface 28 (.int .i64 6)]) (by simp[results,Tryz.results165,go_sem]) rfl (err0 (by decide) hb.out)
theorem iota_big (n:Int)(h:4096<n)(w:World):Calls Tryz.prog 165 #[.int .i64 n] w (AnP (anN 7) w):=by
 have hb:Hid (Below w.heap.size w (w.alloc (.cells #[.bool false,.slice none 0 0,.slice none 0 0] 27))):=(Below.refl _ w).alloc (Nat.le_refl _) _
 have h2:¬ n<0:=by omega
 go_enter Tryz.func165,Tryz.ntmps165
 go_wp2_with fail
 exact bodyPost_ret (v:=.tuple #[.agg #[.bool false,.slice none 0 0,.slice none 0 0],.iface 28 (.int .i64 7)]) (by simp[results,Tryz.results165,go_sem]) rfl (err0 (by decide) hb.out)
theorem iota16 (n:Int)(w:World):Calls Tryz.prog 165 #[.int .i64 n] w (AnP (if n<0 then anN 6 else if 4096<n then anN 7 else anA false [n] ((List.range n.toNat).map Int.ofNat)) w):=by
 by_cases h0:n<0
 ·rw[if_pos h0];exact iota_neg n h0 w
 ·rw[if_neg h0]
  by_cases h1:4096<n
  ·rw[if_pos h1];exact iota_big n h1 w
  ·rw[if_neg h1]
   obtain⟨m,rfl⟩:∃ m:Nat,n=(m:Int):=⟨n.toNat,by omega⟩
   refine (iota_c m (by omega) w).mono ?_
   rintro e w' ⟨xa,xc,ya,yc,rfl,hX,hY,hB⟩
   refine⟨xa,xc,ya,yc,?_,hX,hY,hB⟩
   show _=Ending.returned (.tuple #[.agg #[.bool false,.slice xa 1 xc,.slice ya ((List.range (m:Int).toNat).map Int.ofNat).length yc],errV 0])
   rw[List.length_map,List.length_range];rfl
theorem lengths_any  (c:Bool)(sa:Option Addr)(sc:Nat)(sz:List Int)(da:Option Addr)(dc:Nat)(dz:List Int)(w:World)(hA:ArF w c sa sc sz da dc dz):
  Calls Tryz.prog 98 #[.agg #[.bool c,.slice sa sz.length sc,.slice da dz.length dc]] w (AnP (anA false [(sz.length:Int)] sz) w):=by
 have HA:Hid (ArF w c sa sc sz da dc dz):=hA
 have h6:=hA.s6.1
 clear hA
 obtain⟨hb,pa,pr⟩:=ent1 w (.bool c) (.slice sa sz.length sc) (.slice da dz.length dc)
 have a0:=pa.c0
 have a1:=pa.c1
 have a2:=pa.c2
 have hz0:=hb.size
 have hlt0:=pr.lt
 have HI:Hid (IsInts _ _ sa sz):=goI16 HA.1.1 hb.out
 go_enter Tryz.func98,Tryz.ntmps98
 go_wp2_with (at_builtin;refine app_all rfl _ _ rfl _ _ (.slice none 0 0) [] 0 rfl sa sz sz.length sc rfl rfl rfl (World.ownsRow_nil _ _ _ _) HI.out (by omega) (Nat.le_refl _) ?_;intro g gc v1 _ hN hB)
 have HN:Hid (NewC _ v1 g sz gc):=hN
 have hz1:=hB.size
 replace pr:=goA16 pr hB
 replace hb:=goB16 hb hB
 clear hB hN pa
 clear a0 a1 a2
 refine (pline_any g gc sz v1).mono ?_
 rintro e' v2 ⟨sa',rfl,hX,hB⟩
 have HX:Hid (NewC v1.heap.size v2 sa' _ 1):=hX
 have HY:Hid (NewC _ v2 g sz gc):=HN.go hB
 have hlt1:=pr.lt
 have hz2:=hB.size
 replace pr:=goA16 pr hB
 replace hb:=goB16 hb hB
 clear hX hB HN
 have r0:=pr.c0
 have r1:=pr.c1
 have r2:=pr.c2
 have f0:=pr.fr 0
 have f1:=pr.fr 1
 have f2:=pr.fr 2
 go_wp2_with fail
 have FF:=pr.set3 (.bool false) (.slice sa' 1 1) (.slice g sz.length gc)
 have q0:=FF.c0
 have q1:=FF.c1
 have q2:=FF.c2
 exact bodyPost_ret (v:=.tuple #[.agg #[.bool false,.slice sa' 1 1,.slice g sz.length gc],.nilIface]) (by simp[results,Tryz.results98,go_sem,q0,q1,q2]) rfl (ok16 (S:=[(sz.length:Int)]) (D:=sz) rfl rfl rfl (by omega) hlt0 (by omega) (HX.low hz1) HY.out hb.out _ _ _)
theorem rvl_length (n:Nat):(rvl n).length=n:=by simp[rvl]
theorem rvl_nth {n k:Nat}(h:k<n):nth (rvl n) k=(n:Int)-1-(k:Int):=by simp[nth,rvl,h]
theorem flip_any (HC:CFlB)  (c:Bool)(sa:Option Addr)(sc:Nat)(sz:List Int)(da:Option Addr)(dc:Nat)(dz:List Int)(w:World)(hA:ArF w c sa sc sz da dc dz):
  Calls Tryz.prog 102 #[.agg #[.bool c,.slice sa sz.length sc,.slice da dz.length dc]] w (AnP (flA c sz dz) w):=by
 have HA:Hid (ArF w c sa sc sz da dc dz):=hA
 have h6:=hA.s6.1
 clear hA
 obtain⟨n,hn⟩:∃ n,n=sz.length:=⟨_,rfl⟩
 have HN:Hid (n=sz.length):=hn
 obtain⟨A,hAe⟩:∃ A,flA c sz dz=A:=⟨_,rfl⟩
 have HAE:Hid (flA c sz dz=A):=hAe
 rw[hAe,<-hn]
 clear hAe
 obtain⟨hb,pa,pr⟩:=ent1 w (.bool c) (.slice sa n sc) (.slice da dz.length dc)
 have a0:=pa.c0
 have a1:=pa.c1
 have a2:=pa.c2
 have hz0:=hb.size
 have hlt0:=pr.lt
 rw[<-hn] at h6
 have hmk:=run_make_row' (P:=Tryz.prog) 25 3 (.int .i64 0) 8 Tryz.underlying25 Tryz.infoInt rfl .i64 .i64 n (by omega) (by omega)
 clear hn
 go_enter Tryz.func102,Tryz.ntmps102
 go_wp2_with fail
 clear hmk
 obtain⟨W0,hW⟩:∃ W0,W0=((w.alloc (.cells #[.bool c,.slice sa n sc,.slice da dz.length dc] 27)).alloc (.cells #[.bool false,.slice none 0 0,.slice none 0 0] 27)):=⟨_,rfl⟩
 have hwz:W0.heap.size=w.heap.size+1+1:=by rw[hW];simp
 rw[<-hW] at hb pa pr a0 a1 a2 hlt0 hz0 ⊢
 have hm0:=World.rowIs_made W0 (.int .i64 0) n 3
 have hB0:Hid (Below W0.heap.size W0 (W0.alloc (.cells (madeCells #[.int .i64 0] n) 3))):=(Below.refl _ W0).alloc (Nat.le_refl _) _
 rw[hwz] at hm0
 clear hW
 go_loopw [12] (fun i wr=>∃ k:Nat,k<=n/\i=.int .i64 k/\wr.rowIs (w.heap.size+1+1) 3 n (upTo (nth (rvl n)) k)/\Below W0.heap.size W0 wr) (fun i _=>n-(intOf i).toNat)
 case atStart=>exact⟨0,Nat.zero_le _,rfl,hm0.congr (fun j _=>by simp[upTo]),hB0.out⟩
 case round=>
  obtain⟨k,hk,rfl,hrow,hB⟩:=hrel
  by_cases hlt:k<n
  ·have c2:=hrow.cell hlt
   have f2:=hrow.frozen k
   have HV:Hid ((n:Int)-1-(k:Int)=nth (rvl n) k):=(rvl_nth hlt).symm
   have HQ:Hid (wr.rowIs (w.heap.size+1+1) 3 n (upTo (nth (rvl n)) k)/\Below W0.heap.size W0 wr):=⟨hrow,hB⟩
   clear hrow hB
   go_wp2_with fail
   exact⟨⟨k+1,by omega,by go_num,upTo_set HQ.1 _ HV.out,HQ.2.setCell (p:=⟨w.heap.size+1+1,k,none⟩) (by show W0.heap.size<=w.heap.size+1+1;omega) _⟩,by simp[intOf];omega⟩
  ·obtain rfl:k=n:=by omega
   have HP:Hid (IsInts wr.heap.size wr (some ⟨w.heap.size+1+1,0,none⟩) (rvl k)):=(upTo_new hrow (Nat.le_refl _) _ (rvl_length k) (fun j hj=>rfl)).ints
   replace pa:=goA16 pa hB
   replace pr:=goA16 pr hB
   replace hb:=goB16 hb hB
   have hz1:=hB.size
   clear hrow hB a0 a1 a2
   have a0:=pa.c0
   have a1:=pa.c1
   have a2:=pa.c2
   have hC:Calls Tryz.prog 163 #[.slice (some ⟨w.heap.size+1+1,0,none⟩) k k,.agg #[.bool c,.slice sa k sc,.slice da dz.length dc]] wr (AnP A wr):=by
    have h:=HC (some ⟨w.heap.size+1+1,0,none⟩) k (rvl k) c sa sc sz da dc dz wr (by rw[rvl_length];omega) HA.h1 HA.h2 HP.out (HA.go hb.out).1 (HA.go hb.out).2.1.1 HA.2.2.1
    rw[rvl_length,<-HN.out] at h
    rw[<-HAE.out]
    unfold flA
    rw[<-HN.out]
    exact h
   have HC':Hid (Calls Tryz.prog 163 #[.slice (some ⟨w.heap.size+1+1,0,none⟩) k k,.agg #[.bool c,.slice sa k sc,.slice da dz.length dc]] wr (AnP A wr)):=hC
   clear hC HP
   go_wp2_with fail
   refine HC'.mono ?_
   clear HC'
   clear a0 a1 a2
   intro e v9 hU
   obtain⟨xa,xc,ya,yc,E,rfl,HU⟩:=hU.out16
   clear hU
   have hz9:=HU.2.2.2.size
   have hlt:=pr.lt
   have HW:=HU.2
   replace pr:=goA16 pr HU.2.2.2
   have r0:=pr.c0
   have r1:=pr.c1
   have r2:=pr.c2
   have f0:=pr.fr 0
   have f1:=pr.fr 1
   have f2:=pr.fr 2
   go_wp2_with fail
   have FF:=pr.set3 (.bool A.c) (.slice xa A.s.length xc) (.slice ya A.d.length yc)
   have q0:=FF.c0
   have q1:=FF.c1
   have q2:=FF.c2
   exact bodyPost_ret (v:=.tuple #[.agg #[.bool A.c,.slice xa A.s.length xc,.slice ya A.d.length yc],E]) (by simp[results,Tryz.results102,go_sem,q0,q1,q2]) rfl (ret16 (A:=A) (by omega) hlt hb.out HU.2.1 HU.2.2.1 HU.2.2.2 HU.1 _ _ _)
theorem first_any  (c:Bool)(sa:Option Addr)(sc:Nat)(sz:List Int)(da:Option Addr)(dc:Nat)(dz:List Int)(w:World)(hA:ArF w c sa sc sz da dc dz):
  Calls Tryz.prog 103 #[.agg #[.bool c,.slice sa sz.length sc,.slice da dz.length dc]] w (AnP (fiA c sz dz) w):=by
 have HA:Hid (ArF w c sa sc sz da dc dz):=hA
 have h6:=hA.s6.1
 clear hA
 by_cases h:numE c sz=0
 ·have h':Hid (numE c sz=0):=h
  obtain⟨A,hAe⟩:∃ A,fiA c sz dz=A:=⟨_,rfl⟩
  have HAE:Hid (fiA c sz dz=A):=hAe
  rw[hAe]
  clear h hAe
  obtain⟨n,hn⟩:∃ n,n=nth dz 0:=⟨_,rfl⟩
  have HN:Hid (n=nth dz 0):=hn
  clear hn
  obtain⟨hb,pa,pr⟩:=ent1 w (.bool c) (.slice sa sz.length sc) (.slice da dz.length dc)
  have a0:=pa.c0
  have a1:=pa.c1
  have a2:=pa.c2
  have hz0:=hb.size
  have hlt0:=pr.lt
  go_enter Tryz.func103,Tryz.ntmps103
  go_wp2_with fail
  refine (nmb_ok c sa sc sz da dc dz h'.out HA.2.2.2 _ (goI16 HA.2.1.1 hb.out)).mono ?_
  rintro e v1 ⟨rfl,hB⟩
  have hz1:=hB.size
  replace pr:=goA16 pr hB
  replace hb:=goB16 hb hB
  clear hB
  clear pa
  clear a0 a1 a2
  rw[<-HN.out]
  have HC:Hid (Calls Tryz.prog 165 #[.int .i64 n] v1 (AnP A v1)):=by show Calls _ _ _ _ _;rw[<-HAE.out];unfold fiA;rw[if_pos h'.out,<-HN.out];exact iota16 n v1
  go_wp2_with fail
  refine HC.mono ?_
  clear HC
  intro e v9 hU
  obtain⟨xa,xc,ya,yc,E,rfl,HU⟩:=hU.out16
  clear hU
  have hz9:=HU.2.2.2.size
  have hlt:=pr.lt
  have HW:=HU.2
  replace pr:=goA16 pr HU.2.2.2
  have r0:=pr.c0
  have r1:=pr.c1
  have r2:=pr.c2
  have f0:=pr.fr 0
  have f1:=pr.fr 1
  have f2:=pr.fr 2
  go_wp2_with fail
  have FF:=pr.set3 (.bool A.c) (.slice xa A.s.length xc) (.slice ya A.d.length yc)
  have q0:=FF.c0
  have q1:=FF.c1
  have q2:=FF.c2
  exact bodyPost_ret (v:=.tuple #[.agg #[.bool A.c,.slice xa A.s.length xc,.slice ya A.d.length yc],E]) (by simp[results,Tryz.results103,go_sem,q0,q1,q2]) rfl (ret16 (A:=A) (by omega) hlt hb.out HU.2.1 HU.2.2.1 HU.2.2.2 HU.1 _ _ _)
 ·have h':Hid (numE c sz≠0):=h
  rw[show fiA c sz dz=anN (numE c sz) by unfold fiA;rw[if_neg h]]
  clear h
  obtain⟨hb,pa,pr⟩:=ent1 w (.bool c) (.slice sa sz.length sc) (.slice da dz.length dc)
  have a0:=pa.c0
  have a1:=pa.c1
  have a2:=pa.c2
  have hz0:=hb.size
  have hlt0:=pr.lt
  go_enter Tryz.func103,Tryz.ntmps103
  go_wp2_with fail
  refine (nmb_no c sa sc sz da dc dz h'.out h6 _).mono ?_
  rintro e v1 ⟨rfl,hB⟩
  have hz1:=hB.size
  replace pr:=goA16 pr hB
  replace hb:=goB16 hb hB
  clear hB
  clear a0 a1 a2
  have r0:=pr.c0
  have r1:=pr.c1
  have r2:=pr.c2
  have f0:=pr.fr 0
  have f1:=pr.fr 1
  have f2:=pr.fr 2
  go_wp2_with fail
  have FF:=pr.set3 (.bool false) (.slice none 0 0) (.slice none 0 0)
  have q0:=FF.c0
  have q1:=FF.c1
  have q2:=FF.c2
  exact bodyPost_ret (v:=.tuple #[.agg #[.bool false,.slice none 0 0,.slice none 0 0],.iface 28 (.int .i64 (numE c sz))]) (by simp[results,Tryz.results103,go_sem,q0,q1,q2]) rfl (err16 rfl h'.out (by omega) hb.out _ _ _)
theorem ravel_c (c:Bool)(sa:Option Addr)(sc:Nat)(sz:List Int)(da:Option Addr)(dc:Nat)(dz:List Int)(h1:sz.length<=9223372036854775807)(h2:dz.length<=9223372036854775807)(w:World)(hs:IsInts w.heap.size w sa sz)(hd:IsInts w.heap.size w da dz)(hf:flawE c sz dz=0):
  Calls Tryz.prog 99 #[.agg #[.bool c,.slice sa sz.length sc,.slice da dz.length dc]] w fun e w'=>∃ xa xc ya yc,e=.returned (.tuple #[.agg #[.bool c,.slice xa 1 xc,.slice ya dz.length yc],.nilIface])/\NewC w.heap.size w' xa [(dz.length:Int)] xc/\NewC w.heap.size w' ya dz yc/\Below w.heap.size w w':=by
 have HB0:Hid (Below w.heap.size w ((w.alloc (.cells #[.bool c,.slice sa sz.length sc,.slice da dz.length dc] 27)).alloc (.cells #[.bool false,.slice none 0 0,.slice none 0 0] 27))):=((Below.refl _ w).alloc (Nat.le_refl _) _).alloc (by simp) _
 have HI:Hid (IsInts w.heap.size w sa sz/\IsInts w.heap.size w da dz):=⟨hs,hd⟩
 have HF:Hid (flawE c sz dz=0):=hf
 have HD:Hid (dz.length<=4096):=(flawE_short hf).2
 clear hs hd hf
 go_enter Tryz.func99,Tryz.ntmps99
 go_wp2_with fail
 refine (check_ok c sa sc sz da dc dz h1 h2 _ ((HI.1.below HB0.out).mono HB0.size) ((HI.2.below HB0.out).mono HB0.size) HF.out).mono ?_
 rintro e w1 ⟨rfl,hC1⟩
 have HB1:Hid (Below w.heap.size w w1):=HB0.trans (hC1.mono HB0.size)
 have P1:Hid (Abx w1 w.heap.size (.bool c) (.slice sa sz.length sc) (.slice da dz.length dc)):=((Abx.new w _ _ _).al _).go hC1
 have R1:Hid (Abx w1 (w.heap.size+1) (.bool false) (.slice none 0 0) (.slice none 0 0)):=(Abx.new1 w _ _ _ _).go hC1
 clear hC1
 have c0:=P1.c0
 have c2:=P1.c2
 go_wp2_with fail
 have HBd:Hid (Below w.heap.size w w1.drew):=HB1.drew
 refine bT 6 (fun w'=>w'.cell? ⟨w.heap.size,0,none⟩=some (.bool c)/\w'.cell? ⟨w.heap.size,2,none⟩=some (.slice da dz.length dc)) 8 (⟨c0,c2⟩) fun hq0=>?_
 refine pT 0 hq0 ?_;refine lT 1 hq0 ?_;refine pT 2 hq0 ?_;refine lT 3 hq0 ?_
 clear hq0
 refine oT 4 fun K hK=>?_
 go_simp
 go_wp2_with (go_at_call 159;refine (fresh_c da dc dz (by have:=HD.out;omega) w1.drew ((HI.2.below HBd.out).mono HBd.size)).mono ?_;rintro e w2 ⟨ya,yc,rfl,hY,hB2⟩)
 have P2:=P1.dr.go hB2
 refine hK.out _ _ (fun _=>⟨P2.c0,P2.c2⟩) ?_
 clear hK K
 refine oT 5 fun K hK=>?_
 go_simp
 go_wp2_with (go_at_call 158;refine (line16_c c ya yc dz w2).mono ?_;rintro e w3 ⟨xa,xc,rfl,hX,hB3⟩)
 have P3:=P2.go hB3
 have R3:=(R1.dr.go hB2).go hB3
 have r0:=R3.c0
 have r1:=R3.c1
 have r2:=R3.c2
 have f0:=R3.fr 0
 have f1:=R3.fr 1
 have f2:=R3.fr 2
 refine hK.out _ _ (fun _=>⟨P3.c0,P3.c2⟩) ?_
 clear hK K
 refine oT 6 fun K hK=>?_
 go_simp
 refine hK.out _ _ (fun h=>absurd h (by decide)) ?_
 clear hK K
 refine oT 7 fun K hK=>?_
 go_simp
 refine hK.out _ _ (fun h=>absurd h (by decide)) ?_
 clear hK K
 refine dT ?_
 go_wp2_with fail
 have F:=R3.set3 (.bool c) (.slice xa 1 xc) (.slice ya dz.length yc)
 have q0:=F.c0
 have q1:=F.c1
 have q2:=F.c2
 have z1:=R1.lt
 have z2:=hB2.size
 have z3:=R3.lt
 refine bodyPost_ret (v:=.tuple #[.agg #[.bool c,.slice xa 1 xc,.slice ya dz.length yc],.nilIface]) (by simp[results,Tryz.results99,go_sem,q0,q1,q2]) rfl ⟨xa,xc,ya,yc,rfl,?_,?_,?_⟩
 ·exact (hX.set3 (by simp at z2;omega) _ _ _).low (by simp at z2;omega)
 ·exact ((hY.go hB3).set3 (by simpa using z1) _ _ _).low (by simp;omega)
 ·exact bel_set3 (HBd.trans ((hB2.mono HBd.size).trans (hB3.mono (by have:=HBd.size;omega)))) (by omega) _ _ _
def CRvB:Prop:=∀ (x:Int) (c:Bool) (sa:Option Addr) (sc:Nat) (sz:List Int) (da:Option Addr) (dc:Nat) (dz:List Int) (w:World),In64 x->sz.length<=9223372036854775807->dz.length<=9223372036854775807->IsC w.heap.size w sa sz sc->IsInts w.heap.size w da dz->(∀ j,In64 (nth dz j)) →
 Calls Tryz.prog 101 #[.int .i64 x,.agg #[.bool c,.slice sa sz.length sc,.slice da dz.length dc]] w (UB (axE x c sz dz) (onc (axE x c sz dz) c) (axS5 x c sz dz) (rvD5 x c sz dz) w)
theorem rv1_any (i:Nat)(L:Int)(h:(i:Int)<L)(hL:L<=4096)(w:World):
  Calls Tryz.prog 162 #[.int .i64 (i:Nat),.int .i64 L] w (fun e w'=>e=.returned (.int .i64 (L-1-i))/\w'=w):=by
 go_enter Tryz.func162,Tryz.ntmps162
 go_wp2_with fail
 go_ret
 exact⟨rfl,rfl⟩
theorem rvb_holds:CRvB:=by
 intro x c sa sc sz da dc dz w hx h1 h2 hs hd T
 have HI:Hid (IsC w.heap.size w sa sz sc/\IsInts w.heap.size w da dz):=⟨hs,hd⟩
 have HX:Hid (In64 x):=hx
 clear hs hd hx T
 obtain⟨S,hS⟩:∃ S,S=axS5 x c sz dz:=⟨_,rfl⟩
 obtain⟨D,hD⟩:∃ D,D=rvD5 x c sz dz:=⟨_,rfl⟩
 obtain⟨C,hC⟩:∃ C,C=onc (axE x c sz dz) c:=⟨_,rfl⟩
 obtain⟨E,hE⟩:∃ E,E=errV (axE x c sz dz):=⟨_,rfl⟩
 have HB0:Hid (Below w.heap.size w ((w.alloc (.cells #[.bool c,.slice sa sz.length sc,.slice da dz.length dc] 27)).alloc (.cells #[.bool false,.slice none 0 0,.slice none 0 0] 27))):=((Below.refl _ w).alloc (Nat.le_refl _) _).alloc (by simp) _
 have pa:=(Abx.new w (.bool c) (.slice sa sz.length sc) (.slice da dz.length dc)).al (.cells #[.bool false,.slice none 0 0,.slice none 0 0] 27)
 have pr:=Abx.new1 w (.cells #[.bool c,.slice sa sz.length sc,.slice da dz.length dc] 27) (.bool false) (.slice none 0 0) (.slice none 0 0)
 have p0:=pa.c0
 have p1:=pa.c1
 have p2:=pa.c2
 have hU:=alongb_any x c sa sc sz da dc dz 162 [] (enters_of Tryz.func162 (by kernel_rfl) rfl) (fun i=>nth sz x.toNat-1-i) HX.out h1 h2 _ ((HI.1.below HB0.out).mono HB0.size) ((HI.2.below HB0.out).mono HB0.size) (fun i h0 h1=>by omega) (fun i hi hL w' _=>rv1_any i _ hi hL w')
 have hU':Calls Tryz.prog 161 #[.int .i64 x,.agg #[.bool c,.slice sa sz.length sc,.slice da dz.length dc],.func (.func 162) #[] #[]] ((w.alloc (.cells #[.bool c,.slice sa sz.length sc,.slice da dz.length dc] 27)).alloc (.cells #[.bool false,.slice none 0 0,.slice none 0 0] 27)) (UB (axE x c sz dz) C S D ((w.alloc (.cells #[.bool c,.slice sa sz.length sc,.slice da dz.length dc] 27)).alloc (.cells #[.bool false,.slice none 0 0,.slice none 0 0] 27))):=by rw[hS,hD,hC];exact hU
 unfold UB at hU'
 rw[<-hE] at hU'
 have HU:Hid (UB (axE x c sz dz) (onc (axE x c sz dz) c) (axS5 x c sz dz) (rvD5 x c sz dz) w=UB (axE x c sz dz) C S D w/\errV (axE x c sz dz)=E):=by rw[hS,hD,hC,hE];exact⟨rfl,rfl⟩
 rw[HU.1]
 clear hS hD hC hE hU
 go_enter Tryz.func101,Tryz.ntmps101
 go_wp2_with fail
 refine hU'.mono ?_
 rintro e v1 ⟨xa,xc,ya,yc,rfl,hX,hY,hB⟩
 have HR:=pr.go hB
 have HB1:Hid (Below w.heap.size w v1):=HB0.trans (hB.mono HB0.size)
 have HN:Hid (NewC (w.heap.size+2) v1 xa S xc/\NewC (w.heap.size+2) v1 ya D yc):=by
  simp only[World.size_alloc] at hX hY
  exact⟨hX,hY⟩
 clear hB hX hY pa pr p0 p1 p2 hU'
 have r_0:=HR.c0
 have r_1:=HR.c1
 have r_2:=HR.c2
 have f_0:=HR.fr 0
 have f_1:=HR.fr 1
 have f_2:=HR.fr 2
 go_wp2_with fail
 have FF:=HR.set3 (.bool C) (.slice xa S.length xc) (.slice ya D.length yc)
 have q0:=FF.c0
 have q1:=FF.c1
 have q2:=FF.c2
 refine bodyPost_ret (v:=.tuple #[.agg #[.bool C,.slice xa S.length xc,.slice ya D.length yc],E]) (by simp[results,Tryz.results101,go_sem,q0,q1,q2]) rfl ?_
 unfold UB
 rw[HU.2]
 exact⟨xa,xc,ya,yc,rfl,(HN.1.set3 (by omega) _ _ _).low (by omega),(HN.2.set3 (by omega) _ _ _).low (by omega),bel_set3 HB1.out (by omega) _ _ _⟩
def P1c (f:Int)(c:Bool)(sz dz:List Int)(w:World)(e:Ending)(w':World):Prop:=
 (e1E f c sz dz≠0/\e=.returned (.tuple #[.agg #[.bool false,.slice none 0 0,.slice none 0 0],.iface 28 (.int .i64 (e1E f c sz dz))])/\Below w.heap.size w w') ∨
 (e1E f c sz dz=0/\∃ xa xc ya yc,e=.returned (.tuple #[.agg #[.bool false,.slice xa sz.length xc,.slice ya (e1V f dz).length yc],.nilIface])/\NewC w.heap.size w' xa sz xc/\NewC w.heap.size w' ya (e1V f dz) yc/\Below w.heap.size w w')
theorem P1c.no {f:Int}{c:Bool}{sz dz:List Int}{w w':World}{e:Int}(h:e1E f c sz dz=e)(h0:e≠0)(hB:Below w.heap.size w w'):P1c f c sz dz w (.returned (.tuple #[.agg #[.bool false,.slice none 0 0,.slice none 0 0],.iface 28 (.int .i64 e)])) w':=by
 subst h;exact .inl ⟨h0,rfl,hB⟩
def C1c:Prop:=∀ (f:Int) (c:Bool) (sa:Option Addr) (sc:Nat) (sz:List Int) (da:Option Addr) (dc:Nat) (dz:List Int) (w:World),In64 f->sz.length<=9223372036854775807->dz.length<=9223372036854775807->IsInts w.heap.size w sa sz->IsInts w.heap.size w da dz->(∀ j,In64 (nth dz j)) →
 Calls Tryz.prog 97 #[.int .i64 f,.agg #[.bool c,.slice sa sz.length sc,.slice da dz.length dc]] w fun e w'=>P1c f c sz dz w e w'
theorem C1c.plain (H:C1c):C1:=fun f c sa sc sz da dc dz w hf h1 h2 h3 h4 h5=>
 (H f c sa sc sz da dc dz w hf h1 h2 h3 h4 h5).mono fun e w' h=>h.elim .inl (fun ⟨h0,xa,xc,ya,yc,he,hX,hY,hB⟩=>.inr ⟨h0,xa,xc,ya,yc,he,hX.1,hY.1,hB⟩)
structure K1:Prop where
 one:C1c
 rv:CRvB
 fl:CFlB
 up:CUp
 dn:CDn
 nb:CNb
def No1 (w:World)(r:Ending)(w':World):Prop:=r=.returned .nilFunc/\Below w.heap.size w w'
def e1A (f:Int):A1:=fun c sz dz=>anE (e1E f c sz dz) false sz (e1V f dz)
theorem c1an (H:C1c)(f:Int)(hf:In64 f)(c:Bool)(sa:Option Addr)(sc:Nat)(sz:List Int)(da:Option Addr)(dc:Nat)(dz:List Int)(w:World)(hA:ArF w c sa sc sz da dc dz):Calls Tryz.prog 97 #[.int .i64 f,.agg #[.bool c,.slice sa sz.length sc,.slice da dz.length dc]] w (AnP (e1A f c sz dz) w):=
 (H f c sa sc sz da dc dz w hf hA.h1 hA.h2 hA.1.1 hA.2.1.1 hA.2.2.1).mono fun _ _ k=>k.elim (fun q=>anp_no q.1 q.2) (fun q=>anp_ok q.1 q.2)
theorem fu_cells1 (H:C1c){p:Nat}{f:Int}{W:World}(hf:In64 f)(hc:W.cell? ⟨p,0,none⟩=some (.int .i64 f)):Fu1 (.func (.func 96) #[] #[.pointer (some ⟨p,0,none⟩)]) W (e1A f):=
 ⟨96,[.pointer (some ⟨p,0,none⟩)],rfl,(enters_of Tryz.func96 (by kernel_rfl) rfl),fun c sa sc sz da dc dz w hB hA=>b_cells1 _ f p c sa sc sz da dc dz w (cell_to16 hB hc) fun w' hB'=>c1an H f hf c sa sc sz da dc dz w' (hA.go hB')⟩
theorem fu_len (W:World):Fu1 (.func (.func 98) #[] #[]) W (p1A 18):=⟨98,[],rfl,(enters_of Tryz.func98 (by kernel_rfl) rfl),fun c sa sc sz da dc dz w hB hA=>lengths_any c sa sc sz da dc dz w hA⟩
theorem fu_rav (W:World):Fu1 (.func (.func 99) #[] #[]) W (p1A 19):=⟨99,[],rfl,(enters_of Tryz.func99 (by kernel_rfl) rfl),fun c sa sc sz da dc dz w hB hA=>ravel_c c sa sc sz da dc dz hA.h1 hA.h2 w hA.1.1 hA.2.1.1 hA.2.2.2⟩
theorem fu_rv (H:CRvB)(W:World):FuX (.func (.func 101) #[] #[]) W rvA:=⟨101,[],rfl,(enters_of Tryz.func101 (by kernel_rfl) rfl),fun x c sa sc sz da dc dz w hB hx h0 hA=>H x c sa sc sz da dc dz w (by have:=hA.s6.1;unfold In64;omega) hA.h1 hA.h2 hA.1 hA.2.1.1 hA.2.2.1⟩
theorem fu_fl (H:CFlB)(W:World):Fu1 (.func (.func 102) #[] #[]) W flA:=⟨102,[],rfl,(enters_of Tryz.func102 (by kernel_rfl) rfl),fun c sa sc sz da dc dz w hB hA=>flip_any H c sa sc sz da dc dz w hA⟩
theorem fu_fi (W:World):Fu1 (.func (.func 103) #[] #[]) W fiA:=⟨103,[],rfl,(enters_of Tryz.func103 (by kernel_rfl) rfl),fun c sa sc sz da dc dz w hB hA=>first_any c sa sc sz da dc dz w hA⟩
theorem fu_nb (H:CNb)(W:World):Fu1 (.func (.func 107) #[] #[]) W (p1A 28):=⟨107,[],rfl,(enters_of Tryz.func107 (by kernel_rfl) rfl),fun c sa sc sz da dc dz w hB hA=>H c sa sc sz da dc dz w hA.h1 hA.h2 hA.1.1 hA.2.1.1 hA.2.2.1⟩
theorem fg_up (H:CUp)(W:World):FuG (.func (.func 105) #[] #[]) W gdE (fun c sz dz=>onL (gdE c sz dz) (gdO false sz dz)):=⟨105,[],rfl,(enters_of Tryz.func105 (by kernel_rfl) rfl),fun c sa sc sz da dc dz w hB hA=>H c sa sc sz da dc dz w hA.h1 hA.h2 hA.1 hA.2.1⟩
theorem fg_dn (H:CDn)(W:World):FuG (.func (.func 106) #[] #[]) W gdE (fun c sz dz=>onL (gdE c sz dz) (gdO true sz dz)):=⟨106,[],rfl,(enters_of Tryz.func106 (by kernel_rfl) rfl),fun c sa sc sz da dc dz w hB hA=>H c sa sc sz da dc dz w hA.h1 hA.h2 hA.1 hA.2.1⟩
theorem li_eq (d:Bool)(c:Bool)(sz dz:List Int):liA (gdO d) c sz dz=if gdE c sz dz=0 then anA false [((onL (gdE c sz dz) (gdO d sz dz)).length:Int)] (onL (gdE c sz dz) (gdO d sz dz)) else anN (gdE c sz dz):=by
 unfold liA onL
 by_cases h:gdE c sz dz=0
 ·rw[if_pos h,if_pos h,anE_ok h]
 ·rw[if_neg h,anE_no h]
theorem mk_lines (v:Value)(w:World)(E:Bool->List Int->List Int->Int)(L:Bool->List Int->List Int->List Int)(A:A1)(h:FuG v w E L)(hA:∀ c sz dz,A c sz dz=if E c sz dz=0 then anA false [((L c sz dz).length:Int)] (L c sz dz) else anN (E c sz dz)):Calls Tryz.prog 104 #[v] w (Mk1 A w):=by
 have h':=h
 obtain⟨F,cs,rfl,_,_⟩:=h'
 refine (k_lines F _ w).mono fun _ _ ⟨e,hc,hB⟩=>⟨_,e,fu_lines hc ?_ hA,hB⟩
 obtain⟨F2,cs2,e2,hE,H⟩:=h
 exact⟨F2,cs2,e2,hE,fun c sa sc sz da dc dz w2 hB2=>H c sa sc sz da dc dz w2 (hB.trans (hB2.mono hB.size))⟩
theorem t1_1 (H:C1c)(w:World):Calls Tryz.prog 69 #[.int .i64 1] w (Mk1 (p1A 1) w):=by
 have hb:Hid (Below w.heap.size w (w.alloc (.cells #[.int .i64 1] 22))):=(Below.refl _ w).alloc (Nat.le_refl _) _
 have hc:=box16 w (.int .i64 1) 22
 go_enter Tryz.func69,Tryz.ntmps69
 go_wp2_with fail
 go_ret
 exact⟨_,rfl,fu_cells1 H (by unfold In64;omega) (box16 w _ _),hb.out⟩
theorem t1_2 (H:C1c)(w:World):Calls Tryz.prog 69 #[.int .i64 2] w (Mk1 (p1A 2) w):=by
 have hb:Hid (Below w.heap.size w (w.alloc (.cells #[.int .i64 2] 22))):=(Below.refl _ w).alloc (Nat.le_refl _) _
 have hc:=box16 w (.int .i64 2) 22
 go_enter Tryz.func69,Tryz.ntmps69
 go_wp2_with fail
 go_ret
 exact⟨_,rfl,fu_cells1 H (by unfold In64;omega) (box16 w _ _),hb.out⟩
theorem t1_3 (H:C1c)(w:World):Calls Tryz.prog 69 #[.int .i64 3] w (Mk1 (p1A 3) w):=by
 have hb:Hid (Below w.heap.size w (w.alloc (.cells #[.int .i64 3] 22))):=(Below.refl _ w).alloc (Nat.le_refl _) _
 have hc:=box16 w (.int .i64 3) 22
 go_enter Tryz.func69,Tryz.ntmps69
 go_wp2_with fail
 go_ret
 exact⟨_,rfl,fu_cells1 H (by unfold In64;omega) (box16 w _ _),hb.out⟩
theorem t1_5 (H:C1c)(w:World):Calls Tryz.prog 69 #[.int .i64 5] w (Mk1 (p1A 5) w):=by
 have hb:Hid (Below w.heap.size w (w.alloc (.cells #[.int .i64 5] 22))):=(Below.refl _ w).alloc (Nat.le_refl _) _
 have hc:=box16 w (.int .i64 5) 22
 go_enter Tryz.func69,Tryz.ntmps69
 go_wp2_with fail
 go_ret
 exact⟨_,rfl,fu_cells1 H (by unfold In64;omega) (box16 w _ _),hb.out⟩
theorem t1_17 (H:C1c)(w:World):Calls Tryz.prog 69 #[.int .i64 17] w (Mk1 (p1A 17) w):=by
 have hb:Hid (Below w.heap.size w (w.alloc (.cells #[.int .i64 17] 22))):=(Below.refl _ w).alloc (Nat.le_refl _) _
 have hc:=box16 w (.int .i64 17) 22
 go_enter Tryz.func69,Tryz.ntmps69
 go_wp2_with fail
 go_ret
 exact⟨_,rfl,fu_cells1 H (by unfold In64;omega) (box16 w _ _),hb.out⟩
theorem t1_18  (w:World):Calls Tryz.prog 69 #[.int .i64 18] w (Mk1 (p1A 18) w):=by
 have hb:Hid (Below w.heap.size w (w.alloc (.cells #[.int .i64 18] 22))):=(Below.refl _ w).alloc (Nat.le_refl _) _
 have hc:=box16 w (.int .i64 18) 22
 go_enter Tryz.func69,Tryz.ntmps69
 go_wp2_with fail
 go_ret
 exact⟨_,rfl,fu_len _,hb.out⟩
theorem t1_19  (w:World):Calls Tryz.prog 69 #[.int .i64 19] w (Mk1 (p1A 19) w):=by
 have hb:Hid (Below w.heap.size w (w.alloc (.cells #[.int .i64 19] 22))):=(Below.refl _ w).alloc (Nat.le_refl _) _
 have hc:=box16 w (.int .i64 19) 22
 go_enter Tryz.func69,Tryz.ntmps69
 go_wp2_with fail
 go_ret
 exact⟨_,rfl,fu_rav _,hb.out⟩
theorem t1_20 (H:CRvB)(w:World):Calls Tryz.prog 69 #[.int .i64 20] w (Mk1 (p1A 20) w):=by
 have hb:Hid (Below w.heap.size w (w.alloc (.cells #[.int .i64 20] 22))):=(Below.refl _ w).alloc (Nat.le_refl _) _
 have hc:=box16 w (.int .i64 20) 22
 have HC:Hid (Calls Tryz.prog 100 #[.func (.func 101) #[] #[]] (w.alloc (.cells #[.int .i64 20] 22)) (Mk1 (p1A 20) (w.alloc (.cells #[.int .i64 20] 22)))):=mk_last _ _ _ (fu_rv H _)
 go_enter Tryz.func69,Tryz.ntmps69
 go_wp2_with fail
 refine HC.mono ?_
 rintro e v ⟨u,rfl,hU,hB⟩
 have HU:Hid (Fu1 u v (p1A 20)/\Below w.heap.size w v):=⟨hU,hb.trans (hB.mono hb.size)⟩
 obtain⟨F,cs,rfl,_,_⟩:=hU
 clear hB HC
 go_wp2_with fail
 go_ret
 exact⟨_,rfl,HU.out⟩
theorem t1_21 (H:CFlB)(w:World):Calls Tryz.prog 69 #[.int .i64 21] w (Mk1 (p1A 21) w):=by
 have hb:Hid (Below w.heap.size w (w.alloc (.cells #[.int .i64 21] 22))):=(Below.refl _ w).alloc (Nat.le_refl _) _
 have hc:=box16 w (.int .i64 21) 22
 go_enter Tryz.func69,Tryz.ntmps69
 go_wp2_with fail
 go_ret
 exact⟨_,rfl,fu_fl H _,hb.out⟩
theorem t1_24  (w:World):Calls Tryz.prog 69 #[.int .i64 24] w (Mk1 (p1A 24) w):=by
 have hb:Hid (Below w.heap.size w (w.alloc (.cells #[.int .i64 24] 22))):=(Below.refl _ w).alloc (Nat.le_refl _) _
 have hc:=box16 w (.int .i64 24) 22
 go_enter Tryz.func69,Tryz.ntmps69
 go_wp2_with fail
 go_ret
 exact⟨_,rfl,fu_fi _,hb.out⟩
theorem t1_26 (H:CUp)(w:World):Calls Tryz.prog 69 #[.int .i64 26] w (Mk1 (p1A 26) w):=by
 have hb:Hid (Below w.heap.size w (w.alloc (.cells #[.int .i64 26] 22))):=(Below.refl _ w).alloc (Nat.le_refl _) _
 have hc:=box16 w (.int .i64 26) 22
 have HC:Hid (Calls Tryz.prog 104 #[.func (.func 105) #[] #[]] (w.alloc (.cells #[.int .i64 26] 22)) (Mk1 (p1A 26) (w.alloc (.cells #[.int .i64 26] 22)))):=mk_lines _ _ _ _ _ (fg_up H _) (li_eq false)
 go_enter Tryz.func69,Tryz.ntmps69
 go_wp2_with fail
 refine HC.mono ?_
 rintro e v ⟨u,rfl,hU,hB⟩
 have HU:Hid (Fu1 u v (p1A 26)/\Below w.heap.size w v):=⟨hU,hb.trans (hB.mono hb.size)⟩
 obtain⟨F,cs,rfl,_,_⟩:=hU
 clear hB HC
 go_wp2_with fail
 go_ret
 exact⟨_,rfl,HU.out⟩
theorem t1_27 (H:CDn)(w:World):Calls Tryz.prog 69 #[.int .i64 27] w (Mk1 (p1A 27) w):=by
 have hb:Hid (Below w.heap.size w (w.alloc (.cells #[.int .i64 27] 22))):=(Below.refl _ w).alloc (Nat.le_refl _) _
 have hc:=box16 w (.int .i64 27) 22
 have HC:Hid (Calls Tryz.prog 104 #[.func (.func 106) #[] #[]] (w.alloc (.cells #[.int .i64 27] 22)) (Mk1 (p1A 27) (w.alloc (.cells #[.int .i64 27] 22)))):=mk_lines _ _ _ _ _ (fg_dn H _) (li_eq true)
 go_enter Tryz.func69,Tryz.ntmps69
 go_wp2_with fail
 refine HC.mono ?_
 rintro e v ⟨u,rfl,hU,hB⟩
 have HU:Hid (Fu1 u v (p1A 27)/\Below w.heap.size w v):=⟨hU,hb.trans (hB.mono hb.size)⟩
 obtain⟨F,cs,rfl,_,_⟩:=hU
 clear hB HC
 go_wp2_with fail
 go_ret
 exact⟨_,rfl,HU.out⟩
theorem t1_28 (H:CNb)(w:World):Calls Tryz.prog 69 #[.int .i64 28] w (Mk1 (p1A 28) w):=by
 have hb:Hid (Below w.heap.size w (w.alloc (.cells #[.int .i64 28] 22))):=(Below.refl _ w).alloc (Nat.le_refl _) _
 have hc:=box16 w (.int .i64 28) 22
 go_enter Tryz.func69,Tryz.ntmps69
 go_wp2_with fail
 go_ret
 exact⟨_,rfl,fu_nb H _,hb.out⟩
theorem t1_no (f:Int)(hf:In64 f)(h:p1K f=false)(w:World):Calls Tryz.prog 69 #[.int .i64 f] w (No1 w):=by
 have h:=of_decide_eq_false h
 have t1:(f == 1)=false:=beq_eq_false_iff_ne.2 (by omega)
 have t2:(f == 2)=false:=beq_eq_false_iff_ne.2 (by omega)
 have t3:(f == 3)=false:=beq_eq_false_iff_ne.2 (by omega)
 have t5:(f == 5)=false:=beq_eq_false_iff_ne.2 (by omega)
 have t17:(f == 17)=false:=beq_eq_false_iff_ne.2 (by omega)
 have t18:(f == 18)=false:=beq_eq_false_iff_ne.2 (by omega)
 have t19:(f == 19)=false:=beq_eq_false_iff_ne.2 (by omega)
 have t20:(f == 20)=false:=beq_eq_false_iff_ne.2 (by omega)
 have t21:(f == 21)=false:=beq_eq_false_iff_ne.2 (by omega)
 have t24:(f == 24)=false:=beq_eq_false_iff_ne.2 (by omega)
 have t26:(f == 26)=false:=beq_eq_false_iff_ne.2 (by omega)
 have t27:(f == 27)=false:=beq_eq_false_iff_ne.2 (by omega)
 have t28:(f == 28)=false:=beq_eq_false_iff_ne.2 (by omega)
 have hb:Hid (Below w.heap.size w (w.alloc (.cells #[.int .i64 f] 22))):=(Below.refl _ w).alloc (Nat.le_refl _) _
 have hc:=box16 w (.int .i64 f) 22
 clear h hf
 go_enter Tryz.func69,Tryz.ntmps69
 go_wp2_with fail
 go_ret
 exact⟨rfl,hb.out⟩
theorem t1_any (K:K1)(f:Int)(hf:In64 f)(h:p1K f=true)(w:World):Calls Tryz.prog 69 #[.int .i64 f] w (Mk1 (p1A f) w):=by
 have h:=of_decide_eq_true h
 have:f=1\/f=2\/f=3\/f=5\/f=17\/f=18\/f=19\/f=20\/f=21\/f=24\/f=26\/f=27\/f=28:=by omega
 rcases this with rfl | rfl | rfl | rfl | rfl | rfl | rfl | rfl | rfl | rfl | rfl | rfl | rfl
 ·exact t1_1 K.one w
 ·exact t1_2 K.one w
 ·exact t1_3 K.one w
 ·exact t1_5 K.one w
 ·exact t1_17 K.one w
 ·exact t1_18 w
 ·exact t1_19 w
 ·exact t1_20 K.rv w
 ·exact t1_21 K.fl w
 ·exact t1_24 w
 ·exact t1_26 K.up w
 ·exact t1_27 K.dn w
 ·exact t1_28 K.nb w
end Go.Proofs.YtkmmkcpfhnifhaaGreatDoor
