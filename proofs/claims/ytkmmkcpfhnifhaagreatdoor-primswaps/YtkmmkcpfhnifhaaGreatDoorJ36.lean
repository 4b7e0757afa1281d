/- What the program tells, in part. -/
import Derived.Lib.LazyBuf
import Derived.Test.YtkmmkcpfhnifhaaGreatDoorJ35
set_option linter.unusedVariables false
set_option maxHeartbeats 8000000
set_option maxRecDepth 100000
namespace Go.Proofs.YtkmmkcpfhnifhaaGreatDoor
open Go.RowKit
theorem grown_set12 (w:World)(b o:Nat)(v:Value):w.grownBy (w.setCell ⟨b,o,none⟩ v) (some b):=by
 refine⟨rfl,rfl,rfl,by simp[World.setCell],fun k hk hne=>?_⟩
 exact Below.heap_setCell w _ v k (by simp only;intro e;exact hne (by rw[e]))
theorem grown_t12 {a b c:World}{r:Nat}(h:a.grownBy b (some r))(k:b.grownBy c (some r)):a.grownBy c (some r):=by
 obtain⟨h1,h2,h3,h4,h5⟩:=h
 obtain⟨k1,k2,k3,k4,k5⟩:=k
 exact⟨by rw[k1,h1],by rw[k2,h2],by rw[k3,h3],Nat.le_trans h4 k4,fun i hi hn=>(k5 i (Nat.lt_of_lt_of_le hi h4) hn).trans (h5 i hi hn)⟩
theorem grown_cells12 (b:Nat):∀ (vs:List Value) (o:Nat) (w:World),w.grownBy (w.setCells b o vs) (some b)
 | [],_,w=>⟨rfl,rfl,rfl,Nat.le_refl _,fun _ _ _=>rfl⟩
 | v::r,o,w=>grown_t12 (grown_set12 w b o v) (grown_cells12 b r (o+1) _)
theorem del12 (b off n c x:Nat)(S:List Int)(lo hi:Nat)(hn:S.length=n)(hx:x<n)(hc:c<=9223372036854775807)(w:World)(h:MidC lo hi w (some ⟨b,off,none⟩) S c):
  Calls Tryz.prog 114 #[.slice (some ⟨b,off,none⟩) n c,.int .i64 (x:Nat),.int .i64 ((x+1:Nat):Int)] w fun e w'=>e=.returned (.slice (some ⟨b,off,none⟩) (n-1) c)/\MidC lo hi w' (some ⟨b,off,none⟩) (xout x S) c/\w.grownBy w' (some b):=by
 obtain⟨hM,hcap⟩:=h
 rcases hM with e0 | ⟨b1,o1,e,hlo,hhi,hcell,hfr⟩
 ·rw[e0] at hn;simp at hn;omega
 ·cases e
  have hd:=Any.slices_Delete_int_cells Tryz.laysDelete b off n c x (x+1) S w (by omega) (by omega) hc (by omega) (by omega) (fun j hj=>hcell j hj) (fun j _=>hfr j)
  refine Calls.mono (f:=114) hd ?_
  rintro e w' ⟨rfl,q,rfl⟩
  have hT:S.take n=S:=List.take_of_length_le (by omega)
  have hvs:((S.take n).take x++(S.take n).drop (x+1)++List.replicate (x+1-x) 0)=xout x S++[0]:=by rw[hT,show x+1-x=1 by omega];rfl
  rw[hvs]
  have hol:=xout_length (x:=x) (s:=S) (by omega)
  have hgr:w.grownBy ((w.drewN q).setCells b off ((xout x S++[0]).map (Value.int .i64))) (some b):=grown_t12 (show w.grownBy (w.drewN q) (some b) from ⟨rfl,rfl,rfl,Nat.le_refl _,fun _ _ _=>rfl⟩) (grown_cells12 _ _ _ _)
  refine⟨by rw[show x+1-x=1 by omega],⟨.inr ⟨b,off,rfl,hlo,hhi,fun j hj=>?_,fun j=>?_⟩,by omega⟩,hgr⟩
  ·have h1:=World.cell?_setCells_in b ((xout x S++[0]).map (Value.int .i64)) off (w.drewN q) (fun k hk=>by
    rw[List.length_map,List.length_append,List.length_singleton] at hk
    rw[show (w.drewN q).cell? ⟨b,off+k,none⟩=w.cell? ⟨b,off+k,none⟩ from rfl,hcell k (by omega)];rfl) j (by rw[List.length_map,List.length_append];omega)
   rw[h1,List.getElem_map,List.getElem_append_left hj,nth_get _ _ hj]
  ·rw[World.frozen?_setCells];exact hfr j
theorem abx_grown {w w':World}{b r:Nat}{x y z:Value}(h:Abx w b x y z)(hg:w.grownBy w' (some r))(hne:b≠r):Abx w' b x y z:=by
 exact h.of (hg.block b h.lt (fun e=>hne (Option.some.inj e)))
theorem mid_grown {w w':World}{lo hi r:Nat}{a:Option Addr}{zs:List Int}{c:Nat}(h:MidC lo hi w a zs c)(hh:hi<=w.heap.size)(hg:w.grownBy w' (some r))(hr:r<lo):MidC lo hi w' a zs c:=by
 refine⟨?_,h.2⟩
 rcases h.1 with e | ⟨b,o,e,h0,h1,h2,h3⟩
 ·exact .inl e
 ·have hbk:=hg.block b (by omega) (fun e=>by have:=Option.some.inj e;omega)
  refine .inr ⟨b,o,e,h0,h1,fun j hj=>(World.cell?_of_block (w:=w) hbk).trans (h2 j hj),fun j=>?_⟩
  have:=h3 j
  unfold World.frozen? at this ⊢
  rw[hbk];exact this
theorem reduce1_any (k n q:Nat)(w:World)(h:w.cell? ⟨q,0,none⟩=some (.int .i64 (n:Nat))):Calls Tryz.prog 113 #[.int .i64 (k:Nat),.pointer (some ⟨q,0,none⟩)] w (EnP 0 n w):=by
 go_enter Tryz.func113,Tryz.ntmps113
 go_wp2_with fail
 go_quiet (fail)
 go_wp2_with fail
 go_ret2
 exact⟨by first | rfl | simp,bel_drewN (Below.refl _ _) _⟩
def RdQ (E:Int)(l:Nat)(S D:List Int)(v:World)(e:Ending)(w':World):Prop:=
 (E=0/\∃ bx ox xc ya yc mid,e=.returned (.tuple #[.agg #[.bool false,.slice (some ⟨bx,ox,none⟩) l xc,.slice ya D.length yc],.nilIface])/\MidC v.heap.size mid w' (some ⟨bx,ox,none⟩) S xc/\NewC mid w' ya D yc/\(v.heap.size<=mid/\mid<=w'.heap.size)/\xc<=9223372036854775807/\Below v.heap.size v w') ∨
 (E≠0/\∃ xa xc ya yc,e=.returned (.tuple #[.agg #[.bool false,.slice xa 0 xc,.slice ya 0 yc],.iface 28 (.int .i64 E)])/\Below v.heap.size v w')
theorem rd_post {E:Int}{S R D:List Int}{v w':World}{e:Ending}{l x:Nat}(hl:S.length=l)(hx:x<l)(hD:E=0->R=D)(h:UBr E (onl E S) (onl E R) v e w'):RdQ E l S D v e w':=by
 obtain⟨xa,xc,ya,yc,mid,rfl,hX,hY,hmd,hc,hB⟩:=h
 by_cases h0:E=0
 ·rw[onl_ok h0] at hX
  rw[onl_ok h0,hD h0] at hY
  rw[onl_ok h0,onl_ok h0,hD h0,h0,hl]
  obtain⟨bx,ox,rfl,_⟩:=hX.at (i:=x) (by omega)
  exact .inl ⟨rfl,bx,ox,xc,ya,yc,mid,rfl,hX,hY,hmd,hc,hB⟩
 ·rw[onl_no h0,onl_no h0,errV_pos h0]
  exact .inr ⟨h0,xa,xc,ya,yc,rfl,hB⟩
theorem rd_holds:CRd:=by
 intro f x c sa sc sz da dc dz w hf hx h1 h2 hs hd T
 have HI:Hid (IsC w.heap.size w sa sz sc/\IsInts w.heap.size w da dz/\∀ j,In64 (nth dz j)):=⟨hs,hd,T⟩
 have HB0:Hid (Below w.heap.size w ((w.alloc (.cells #[.bool c,.slice sa sz.length sc,.slice da dz.length dc] 27)).alloc (.cells #[.bool false,.slice none 0 0,.slice none 0 0] 27))):=((Below.refl _ w).alloc (Nat.le_refl _) _).alloc (by simp) _
 have pa:=(Abx.new w (.bool c) (.slice sa sz.length sc) (.slice da dz.length dc)).al (.cells #[.bool false,.slice none 0 0,.slice none 0 0] 27)
 have pr:=Abx.new1 w (.cells #[.bool c,.slice sa sz.length sc,.slice da dz.length dc] 27) (.bool false) (.slice none 0 0) (.slice none 0 0)
 have p0:=pa.c0
 have p1:=pa.c1
 have p2:=pa.c2
 have hC:=fcheck_any f x c sa sc sz da dc dz h1 h2 _ ((HI.1.1.below HB0.out).mono HB0.size) ((HI.2.1.below HB0.out).mono HB0.size)
 clear hs hd T hf hx
 by_cases he:lnE f x c sz dz=0
 ·rw[he,errV_zero] at hC
  obtain⟨hfn,hfl,hx,hc⟩:=lnE_zero.1 he
  subst hc
  obtain⟨xn,rfl⟩:∃ xn:Nat,x=(xn:Int):=⟨x.toNat,by omega⟩
  have hxl:xn<sz.length:=by omega
  have hz:=(errOf_zero.1 (flawE_zero hfl).1)
  have hln:=hz.2.1.nth xn
  have HH:Hid (lnE f (xn:Int) false sz dz=0/\(1<=f/\f<=16)/\flawE false sz dz=0):=⟨he,hfn,hfl⟩
  obtain⟨L,hL⟩:∃ L:Nat,(L:Int)=nth sz xn:=⟨(nth sz xn).toNat,by omega⟩
  have HL:Hid ((L:Int)=nth sz xn):=hL
  have hL4:L<=4096:=by omega
  have hl6:=hz.1
  go_enter Tryz.func71,Tryz.ntmps71
  go_wp2_with fail
  refine hC.mono ?_
  rintro e v1 ⟨rfl,hB⟩
  have HB1:Hid (Below w.heap.size w v1):=HB0.trans (hB.mono HB0.size)
  have HP:Hid (Abx v1 w.heap.size (.bool false) (.slice sa sz.length sc) (.slice da dz.length dc)):=pa.go hB
  have HR:Hid (Abx v1 (w.heap.size+1) (.bool false) (.slice none 0 0) (.slice none 0 0)):=pr.go hB
  obtain⟨bs,os,rfl,hbs,hcS⟩:=(HI.1.1.below HB1.out).at hxl
  have cs1:=hcS xn hxl
  rw[<-hL] at cs1
  clear hcS hC hB pa pr p0 p1 p2 HB0 he hfl hz hln hL hfn
  have hvr:w.heap.size+1<v1.heap.size:=HR.lt
  obtain⟨v2,hv2⟩:∃ v2,v2=v1.alloc (.cells #[.int .i64 (L:Nat)] 3):=⟨_,rfl⟩
  have HV2:Hid (v1.alloc (.cells #[.int .i64 (L:Nat)] 3)=v2):=hv2.symm
  have hs2:v2.heap.size=v1.heap.size+1:=by rw[hv2];simp
  have HB2:Hid (Below w.heap.size w v2):=by rw[hv2];exact HB1.alloc HB1.size _
  have HP2:Hid (Abx v2 w.heap.size (.bool false) (.slice (some ⟨bs,os,none⟩) sz.length sc) (.slice da dz.length dc)):=by rw[hv2];exact HP.al _
  have HR2:Hid (Abx v2 (w.heap.size+1) (.bool false) (.slice none 0 0) (.slice none 0 0)):=by rw[hv2];exact HR.al _
  have HQ2:Hid (Boxed v2 v1.heap.size 3 (.int .i64 (L:Nat))):=by rw[hv2];exact Boxed.new _ _ _
  have p1:=HP.c1
  have y0:=(HP.al (.cells #[.int .i64 (L:Nat)] 3)).c0
  have y1:=(HP.al (.cells #[.int .i64 (L:Nat)] 3)).c1
  have y2:=(HP.al (.cells #[.int .i64 (L:Nat)] 3)).c2
  clear hv2 HP
  have p0:=HP2.c0
  have p2:=HP2.c2
  have cq:=HQ2.cell
  by_cases hL0:L=0
  ·have hl0:((L:Int) == 0)=true:=by simp[hL0]
   by_cases hn0:neutE f=0
   ·have hN:∀ w,Calls Tryz.prog 111 #[.int .i64 f] w fun e w'=>e=.returned (.tuple #[.int .i64 (neutV f),.nilIface])/\w'=w:=fun w=>(neut_any f w).mono fun e w' h=>by rw[hn0] at h;exact h
    have hnn:¬ (nth sz xn=0/\neutE f≠0):=fun h=>h.2 hn0
    have HRn:Hid (rnE f sz dz xn 1 (fun _=>0) (fun _=>L)=rdE f (xn:Int) false sz dz/\(rdE f (xn:Int) false sz dz=0->rnD f sz dz xn 1 (fun _=>0) (fun _=>L)=rdD f sz dz xn/\errOf (sz.set xn 1)=0)):=rn_reduce hxl HH.1 hnn HL.out
    have hU:=runs_any f xn (some ⟨bs,os,none⟩) sc sz da dc dz 1 113 [.pointer (some ⟨v1.heap.size,0,none⟩)] (enters_of Tryz.func113 (by kernel_rfl) rfl) (fun _=>0) (fun _=>L) HH.2.1 HH.2.2 hxl (by decide) HI.2.2 (fun k hk=>⟨by rw[<-HL.out];omega,by rw[<-HL.out];exact Int.le_refl _⟩) v2 ((HI.1.below HB2.out).mono HB2.size) ((HI.2.1.below HB2.out).mono HB2.size) (fun k hk w' hB'=>reduce1_any k L _ w' ((hB'.cell (p:=⟨v1.heap.size,0,none⟩) (by show v1.heap.size<_;omega)).trans HQ2.cell))
    rw[HRn.1] at hU
    have HU:Hid (Calls Tryz.prog 112 #[.int .i64 f,.int .i64 (xn:Nat),.agg #[.bool false,.slice (some ⟨bs,os,none⟩) sz.length sc,.slice da dz.length dc],.int .i64 1,.func (.func 113) #[] #[.pointer (some ⟨v1.heap.size,0,none⟩)]] v2 (RdQ (rdE f (xn:Int) false sz dz) sz.length (sz.set xn 1) (rdD f sz dz xn) v2)):=Calls.mono hU fun _ _ h=>rd_post List.length_set hxl (fun h0=>(HRn.2 h0).1) h
    clear hU hnn
    clear hn0 hL0
    go_wp2_with fail
    refine (hN _).mono ?_
    rintro e v3 ⟨rfl,hv3⟩
    subst hv3
    clear hN hl0
    go_wp2_with fail
    rw[HV2.out]
    refine HU.mono ?_
    rintro e w3 (⟨hz,bx,ox,xc,ya,yc,mid,rfl,hM,hY,hmd,hxc,hBc⟩ | ⟨hz,xa,xc,ya,yc,rfl,hBc⟩)
    ·have HBc:Hid (Below v2.heap.size v2 w3):=hBc
     have HR3:Hid (Abx w3 (w.heap.size+1) (.bool false) (.slice none 0 0) (.slice none 0 0)):=HR2.go hBc
     have HZ:Hid (rdE f (xn:Int) false sz dz=0):=hz
     have hz3:=hBc.size
     have hw2:=HB2.size
     have hSl:(sz.set xn 1).length=sz.length:=List.length_set
     obtain⟨D,hD⟩:∃ D,D=rdD f sz dz xn:=⟨_,rfl⟩
     have HD:Hid (D=rdD f sz dz xn):=hD
     rw[<-hD] at hY ⊢
     have hbx:v2.heap.size<=bx/\bx<mid:=by
      obtain⟨_,_,e1,h1,h2,_⟩:=hM.at (i:=xn) (by rw[hSl];exact hxl)
      cases e1
      exact⟨h1,h2⟩
     obtain⟨w4,hw4⟩:∃ w4,w4=w3.alloc (.cells #[.bool false,.slice (some ⟨bx,ox,none⟩) sz.length xc,.slice ya D.length yc] 27):=⟨_,rfl⟩
     have HW4:Hid (w3.alloc (.cells #[.bool false,.slice (some ⟨bx,ox,none⟩) sz.length xc,.slice ya D.length yc] 27)=w4):=hw4.symm
     have P4:Hid (Abx w4 w3.heap.size (.bool false) (.slice (some ⟨bx,ox,none⟩) sz.length xc) (.slice ya D.length yc)):=by rw[hw4];exact Abx.new _ _ _ _
     have R4:Hid (Abx w4 (w.heap.size+1) (.bool false) (.slice none 0 0) (.slice none 0 0)):=by rw[hw4];exact HR3.al _
     have hs4:w4.heap.size=w3.heap.size+1:=by rw[hw4];simp
     have hM4:MidC v2.heap.size mid w4 (some ⟨bx,ox,none⟩) (sz.set xn 1) xc:=by rw[hw4];exact hM.al hmd.2 _
     have Y4:Hid (MidC mid w3.heap.size w4 ya D yc):=by rw[hw4];exact hY.midc.al (Nat.le_refl _) _
     have B4:Hid (Below w.heap.size w w4):=by rw[hw4];exact (HB2.trans (HBc.mono HB2.size)).alloc (by omega) _
     have hdel:=del12 bx ox sz.length xc xn (sz.set xn 1) v2.heap.size mid hSl hxl hxc w4 hM4
     rw[xout_set] at hdel
     have HDel:Hid (Calls Tryz.prog 114 #[.slice (some ⟨bx,ox,none⟩) sz.length xc,.int .i64 (xn:Nat),.int .i64 ((xn:Int)+1)] w4 fun e w'=>e=.returned (.slice (some ⟨bx,ox,none⟩) (sz.length-1) xc)/\MidC v2.heap.size mid w' (some ⟨bx,ox,none⟩) (xout xn sz) xc/\w4.grownBy w' (some bx)):=hdel
     have k1:(w3.alloc (.cells #[.bool false,.slice (some ⟨bx,ox,none⟩) sz.length xc,.slice ya D.length yc] 27)).cell? ⟨w3.heap.size,1,none⟩=some (.slice (some ⟨bx,ox,none⟩) sz.length xc):=(Abx.new _ _ _ _).c1
     clear hdel hM hw4 hM4 hY hBc hz hD p0 p1 p2 cq cs1 HU y0 y1 y2
     go_wp2_with fail
     rw[HW4.out]
     refine HDel.mono ?_
     rintro e w5 ⟨rfl,hM5,hg5⟩
     have P5:=abx_grown P4.out hg5 (by omega)
     have R5:=abx_grown R4.out hg5 (by omega)
     have HP5:Hid (Abx w5 w3.heap.size (.bool false) (.slice (some ⟨bx,ox,none⟩) sz.length xc) (.slice ya D.length yc)):=P5
     have HR5:Hid (Abx w5 (w.heap.size+1) (.bool false) (.slice none 0 0) (.slice none 0 0)):=R5
     have HM5:Hid (MidC v2.heap.size mid w5 (some ⟨bx,ox,none⟩) (xout xn sz) xc):=hM5
     have HG5:Hid (w4.grownBy w5 (some bx)):=hg5
     have c0:=P5.c0
     have c1:=P5.c1
     have c2:=P5.c2
     have e1:=P5.fr 1
     have r0:=R5.c0
     have r1:=R5.c1
     have r2:=R5.c2
     have f0:=R5.fr 0
     have f1:=R5.fr 1
     have f2:=R5.fr 2
     have hne:w3.heap.size≠w.heap.size+1:=by omega
     clear hM5 hg5 P5 R5 k1
     go_wp2_with fail
     have R6:=HR5.ot (a:=⟨w3.heap.size,1,none⟩) (by show w.heap.size+1≠w3.heap.size;omega) (.slice (some ⟨bx,ox,none⟩) (sz.length-1) xc)
     have F:=R6.set3 (.bool false) (.slice (some ⟨bx,ox,none⟩) (sz.length-1) xc) (.slice ya D.length yc)
     have q0:=F.c0
     have q1:=F.c1
     have q2:=F.c2
     have hs5:w4.heap.size<=w5.heap.size:=HG5.size
     have hol:=xout_length (x:=xn) (s:=sz) hxl
     have hB5:Below w.heap.size w w5:=B4.grown HG5.out B4.size (fun j e=>by have:=Option.some.inj e;omega)
     refine bodyPost_ret (v:=.tuple #[.agg #[.bool false,.slice (some ⟨bx,ox,none⟩) (sz.length-1) xc,.slice ya D.length yc],.nilIface]) (by simp[results,Tryz.results71,go_sem,q0,q1,q2]) rfl ?_
     have hX:=(HM5.s1 (p:=⟨w3.heap.size,1,none⟩) (.inr (by show mid<=w3.heap.size;omega)) (.slice (some ⟨bx,ox,none⟩) (sz.length-1) xc)).s3 (b:=w.heap.size+1) (.inl (by omega)) (.bool false) (.slice (some ⟨bx,ox,none⟩) (sz.length-1) xc) (.slice ya D.length yc)
     have hY:=((mid_grown Y4.out (by omega) HG5.out (by omega)).s1 (p:=⟨w3.heap.size,1,none⟩) (.inr (Nat.le_refl _)) (.slice (some ⟨bx,ox,none⟩) (sz.length-1) xc)).s3 (b:=w.heap.size+1) (.inl (by omega)) (.bool false) (.slice (some ⟨bx,ox,none⟩) (sz.length-1) xc) (.slice ya D.length yc)
     have hsz:((((w5.setCell ⟨w3.heap.size,1,none⟩ (.slice (some ⟨bx,ox,none⟩) (sz.length-1) xc)).setCell ⟨w.heap.size+1,0,none⟩ (.bool false)).setCell ⟨w.heap.size+1,1,none⟩ (.slice (some ⟨bx,ox,none⟩) (sz.length-1) xc)).setCell ⟨w.heap.size+1,2,none⟩ (.slice ya D.length yc)).heap.size=w5.heap.size:=by simp[World.setCell]
     have hU:=ub12_ok (e:=rdE f (xn:Int) false sz dz) (w:=w) HZ.out (S:=xout xn sz) (D:=D) (n:=sz.length-1) (m:=D.length) (by omega) rfl ⟨(hX.1.new (by rw[hsz];omega)).low (by omega),hX.2⟩ ⟨(hY.1.new (by rw[hsz];omega)).low (by omega),hY.2⟩ (bel_set3 (hB5.setCell (p:=⟨w3.heap.size,1,none⟩) (by show w.heap.size<=w3.heap.size;omega) (.slice (some ⟨bx,ox,none⟩) (sz.length-1) xc)) (b:=w.heap.size+1) (by omega) (.bool false) (.slice (some ⟨bx,ox,none⟩) (sz.length-1) xc) (.slice ya D.length yc))
     unfold rdS12 rdD12
     rw[Int.toNat_natCast,<-HD.out]
     exact hU
    ·have HBc:Hid (Below v2.heap.size v2 w3):=hBc
     have HR3:Hid (Abx w3 (w.heap.size+1) (.bool false) (.slice none 0 0) (.slice none 0 0)):=HR2.go hBc
     have HZ:Hid (rdE f (xn:Int) false sz dz≠0):=hz
     have hz3:=hBc.size
     have hw2:=HB2.size
     clear p0 p1 p2 cq cs1 HU hBc hz y0 y1 y2
     have HN3:Hid (Abx (w3.alloc (.cells #[.bool false,.slice xa 0 xc,.slice ya 0 yc] 27)) (w.heap.size+1) (.bool false) (.slice none 0 0) (.slice none 0 0)):=HR3.al _
     have r0:=HN3.c0
     have r1:=HN3.c1
     have r2:=HN3.c2
     have f0:=HN3.fr 0
     have f1:=HN3.fr 1
     have f2:=HN3.fr 2
     go_wp2_with fail
     have F:=HN3.set3 (.bool false) (.slice none 0 0) (.slice none 0 0)
     have q0:=F.c0
     have q1:=F.c1
     have q2:=F.c2
     exact bodyPost_ret (v:=.tuple #[.agg #[.bool false,.slice none 0 0,.slice none 0 0],.iface 28 (.int .i64 (rdE f (xn:Int) false sz dz))]) (by simp[results,Tryz.results71,go_sem,q0,q1,q2]) rfl (ub12_no rfl HZ.out (bel_set3 ((HB2.trans (HBc.mono HB2.size)).alloc (by omega) _) (by omega) _ _ _))
   ·have hN:∀ w,Calls Tryz.prog 111 #[.int .i64 f] w fun e w'=>e=.returned (.tuple #[.int .i64 (neutV f),.iface 28 (.int .i64 (neutE f))])/\w'=w:=fun w=>(neut_any f w).mono fun e w' h=>by rw[errV_pos hn0] at h;exact h
    have HE:Hid (rdE f (xn:Int) false sz dz=neutE f):=by show _=_;unfold rdE;rw[if_neg (not_not_intro HH.1),Int.toNat_natCast,if_pos ⟨by rw[<-HL.out];omega,hn0⟩]
    have HN:Hid (neutE f≠0):=hn0
    clear hn0 hL0
    go_wp2_with fail
    refine (hN _).mono ?_
    rintro e v3 ⟨rfl,hv3⟩
    subst hv3
    clear hN hl0
    rw[HV2.out]
    have r0:=HR2.c0
    have r1:=HR2.c1
    have r2:=HR2.c2
    have f0:=HR2.fr 0
    have f1:=HR2.fr 1
    have f2:=HR2.fr 2
    go_wp2_with fail
    have F:=HR2.set3 (.bool false) (.slice none 0 0) (.slice none 0 0)
    have q0:=F.c0
    have q1:=F.c1
    have q2:=F.c2
    exact bodyPost_ret (v:=.tuple #[.agg #[.bool false,.slice none 0 0,.slice none 0 0],.iface 28 (.int .i64 (neutE f))]) (by simp[results,Tryz.results71,go_sem,q0,q1,q2]) rfl (ub12_no HE.out HN.out (bel_set3 HB2.out (by omega) _ _ _))
  ·have hl0:((L:Int) == 0)=false:=by simp;exact hL0
   have hnn:¬ (nth sz xn=0/\neutE f≠0):=fun h=>hL0 (by have:=h.1;rw[<-HL.out] at this;omega)
   have HRn:Hid (rnE f sz dz xn 1 (fun _=>0) (fun _=>L)=rdE f (xn:Int) false sz dz/\(rdE f (xn:Int) false sz dz=0->rnD f sz dz xn 1 (fun _=>0) (fun _=>L)=rdD f sz dz xn/\errOf (sz.set xn 1)=0)):=rn_reduce hxl HH.1 hnn HL.out
   have hU:=runs_any f xn (some ⟨bs,os,none⟩) sc sz da dc dz 1 113 [.pointer (some ⟨v1.heap.size,0,none⟩)] (enters_of Tryz.func113 (by kernel_rfl) rfl) (fun _=>0) (fun _=>L) HH.2.1 HH.2.2 hxl (by decide) HI.2.2 (fun k hk=>⟨by rw[<-HL.out];omega,by rw[<-HL.out];exact Int.le_refl _⟩) v2 ((HI.1.below HB2.out).mono HB2.size) ((HI.2.1.below HB2.out).mono HB2.size) (fun k hk w' hB'=>reduce1_any k L _ w' ((hB'.cell (p:=⟨v1.heap.size,0,none⟩) (by show v1.heap.size<_;omega)).trans HQ2.cell))
   rw[HRn.1] at hU
   have HU:Hid (Calls Tryz.prog 112 #[.int .i64 f,.int .i64 (xn:Nat),.agg #[.bool false,.slice (some ⟨bs,os,none⟩) sz.length sc,.slice da dz.length dc],.int .i64 1,.func (.func 113) #[] #[.pointer (some ⟨v1.heap.size,0,none⟩)]] v2 (RdQ (rdE f (xn:Int) false sz dz) sz.length (sz.set xn 1) (rdD f sz dz xn) v2)):=Calls.mono hU fun _ _ h=>rd_post List.length_set hxl (fun h0=>(HRn.2 h0).1) h
   clear hU hnn
   clear hL0
   go_wp2_with fail
   clear hl0
   rw[HV2.out]
   refine HU.mono ?_
   rintro e w3 (⟨hz,bx,ox,xc,ya,yc,mid,rfl,hM,hY,hmd,hxc,hBc⟩ | ⟨hz,xa,xc,ya,yc,rfl,hBc⟩)
   ·have HBc:Hid (Below v2.heap.size v2 w3):=hBc
    have HR3:Hid (Abx w3 (w.heap.size+1) (.bool false) (.slice none 0 0) (.slice none 0 0)):=HR2.go hBc
    have HZ:Hid (rdE f (xn:Int) false sz dz=0):=hz
    have hz3:=hBc.size
    have hw2:=HB2.size
    have hSl:(sz.set xn 1).length=sz.length:=List.length_set
    obtain⟨D,hD⟩:∃ D,D=rdD f sz dz xn:=⟨_,rfl⟩
    have HD:Hid (D=rdD f sz dz xn):=hD
    rw[<-hD] at hY ⊢
    have hbx:v2.heap.size<=bx/\bx<mid:=by
     obtain⟨_,_,e1,h1,h2,_⟩:=hM.at (i:=xn) (by rw[hSl];exact hxl)
     cases e1
     exact⟨h1,h2⟩
    obtain⟨w4,hw4⟩:∃ w4,w4=w3.alloc (.cells #[.bool false,.slice (some ⟨bx,ox,none⟩) sz.length xc,.slice ya D.length yc] 27):=⟨_,rfl⟩
    have HW4:Hid (w3.alloc (.cells #[.bool false,.slice (some ⟨bx,ox,none⟩) sz.length xc,.slice ya D.length yc] 27)=w4):=hw4.symm
    have P4:Hid (Abx w4 w3.heap.size (.bool false) (.slice (some ⟨bx,ox,none⟩) sz.length xc) (.slice ya D.length yc)):=by rw[hw4];exact Abx.new _ _ _ _
    have R4:Hid (Abx w4 (w.heap.size+1) (.bool false) (.slice none 0 0) (.slice none 0 0)):=by rw[hw4];exact HR3.al _
    have hs4:w4.heap.size=w3.heap.size+1:=by rw[hw4];simp
    have hM4:MidC v2.heap.size mid w4 (some ⟨bx,ox,none⟩) (sz.set xn 1) xc:=by rw[hw4];exact hM.al hmd.2 _
    have Y4:Hid (MidC mid w3.heap.size w4 ya D yc):=by rw[hw4];exact hY.midc.al (Nat.le_refl _) _
    have B4:Hid (Below w.heap.size w w4):=by rw[hw4];exact (HB2.trans (HBc.mono HB2.size)).alloc (by omega) _
    have hdel:=del12 bx ox sz.length xc xn (sz.set xn 1) v2.heap.size mid hSl hxl hxc w4 hM4
    rw[xout_set] at hdel
    have HDel:Hid (Calls Tryz.prog 114 #[.slice (some ⟨bx,ox,none⟩) sz.length xc,.int .i64 (xn:Nat),.int .i64 ((xn:Int)+1)] w4 fun e w'=>e=.returned (.slice (some ⟨bx,ox,none⟩) (sz.length-1) xc)/\MidC v2.heap.size mid w' (some ⟨bx,ox,none⟩) (xout xn sz) xc/\w4.grownBy w' (some bx)):=hdel
    have k1:(w3.alloc (.cells #[.bool false,.slice (some ⟨bx,ox,none⟩) sz.length xc,.slice ya D.length yc] 27)).cell? ⟨w3.heap.size,1,none⟩=some (.slice (some ⟨bx,ox,none⟩) sz.length xc):=(Abx.new _ _ _ _).c1
    clear hdel hM hw4 hM4 hY hBc hz hD p0 p1 p2 cq cs1 HU y0 y1 y2
    go_wp2_with fail
    rw[HW4.out]
    refine HDel.mono ?_
    rintro e w5 ⟨rfl,hM5,hg5⟩
    have P5:=abx_grown P4.out hg5 (by omega)
    have R5:=abx_grown R4.out hg5 (by omega)
    have HP5:Hid (Abx w5 w3.heap.size (.bool false) (.slice (some ⟨bx,ox,none⟩) sz.length xc) (.slice ya D.length yc)):=P5
    have HR5:Hid (Abx w5 (w.heap.size+1) (.bool false) (.slice none 0 0) (.slice none 0 0)):=R5
    have HM5:Hid (MidC v2.heap.size mid w5 (some ⟨bx,ox,none⟩) (xout xn sz) xc):=hM5
    have HG5:Hid (w4.grownBy w5 (some bx)):=hg5
    have c0:=P5.c0
    have c1:=P5.c1
    have c2:=P5.c2
    have e1:=P5.fr 1
    have r0:=R5.c0
    have r1:=R5.c1
    have r2:=R5.c2
    have f0:=R5.fr 0
    have f1:=R5.fr 1
    have f2:=R5.fr 2
    have hne:w3.heap.size≠w.heap.size+1:=by omega
    clear hM5 hg5 P5 R5 k1
    go_wp2_with fail
    have R6:=HR5.ot (a:=⟨w3.heap.size,1,none⟩) (by show w.heap.size+1≠w3.heap.size;omega) (.slice (some ⟨bx,ox,none⟩) (sz.length-1) xc)
    have F:=R6.set3 (.bool false) (.slice (some ⟨bx,ox,none⟩) (sz.length-1) xc) (.slice ya D.length yc)
    have q0:=F.c0
    have q1:=F.c1
    have q2:=F.c2
    have hs5:w4.heap.size<=w5.heap.size:=HG5.size
    have hol:=xout_length (x:=xn) (s:=sz) hxl
    have hB5:Below w.heap.size w w5:=B4.grown HG5.out B4.size (fun j e=>by have:=Option.some.inj e;omega)
    refine bodyPost_ret (v:=.tuple #[.agg #[.bool false,.slice (some ⟨bx,ox,none⟩) (sz.length-1) xc,.slice ya D.length yc],.nilIface]) (by simp[results,Tryz.results71,go_sem,q0,q1,q2]) rfl ?_
    have hX:=(HM5.s1 (p:=⟨w3.heap.size,1,none⟩) (.inr (by show mid<=w3.heap.size;omega)) (.slice (some ⟨bx,ox,none⟩) (sz.length-1) xc)).s3 (b:=w.heap.size+1) (.inl (by omega)) (.bool false) (.slice (some ⟨bx,ox,none⟩) (sz.length-1) xc) (.slice ya D.length yc)
    have hY:=((mid_grown Y4.out (by omega) HG5.out (by omega)).s1 (p:=⟨w3.heap.size,1,none⟩) (.inr (Nat.le_refl _)) (.slice (some ⟨bx,ox,none⟩) (sz.length-1) xc)).s3 (b:=w.heap.size+1) (.inl (by omega)) (.bool false) (.slice (some ⟨bx,ox,none⟩) (sz.length-1) xc) (.slice ya D.length yc)
    have hsz:((((w5.setCell ⟨w3.heap.size,1,none⟩ (.slice (some ⟨bx,ox,none⟩) (sz.length-1) xc)).setCell ⟨w.heap.size+1,0,none⟩ (.bool false)).setCell ⟨w.heap.size+1,1,none⟩ (.slice (some ⟨bx,ox,none⟩) (sz.length-1) xc)).setCell ⟨w.heap.size+1,2,none⟩ (.slice ya D.length yc)).heap.size=w5.heap.size:=by simp[World.setCell]
    have hU:=ub12_ok (e:=rdE f (xn:Int) false sz dz) (w:=w) HZ.out (S:=xout xn sz) (D:=D) (n:=sz.length-1) (m:=D.length) (by omega) rfl ⟨(hX.1.new (by rw[hsz];omega)).low (by omega),hX.2⟩ ⟨(hY.1.new (by rw[hsz];omega)).low (by omega),hY.2⟩ (bel_set3 (hB5.setCell (p:=⟨w3.heap.size,1,none⟩) (by show w.heap.size<=w3.heap.size;omega) (.slice (some ⟨bx,ox,none⟩) (sz.length-1) xc)) (b:=w.heap.size+1) (by omega) (.bool false) (.slice (some ⟨bx,ox,none⟩) (sz.length-1) xc) (.slice ya D.length yc))
    unfold rdS12 rdD12
    rw[Int.toNat_natCast,<-HD.out]
    exact hU
   ·have HBc:Hid (Below v2.heap.size v2 w3):=hBc
    have HR3:Hid (Abx w3 (w.heap.size+1) (.bool false) (.slice none 0 0) (.slice none 0 0)):=HR2.go hBc
    have HZ:Hid (rdE f (xn:Int) false sz dz≠0):=hz
    have hz3:=hBc.size
    have hw2:=HB2.size
    clear p0 p1 p2 cq cs1 HU hBc hz y0 y1 y2
    have HN3:Hid (Abx (w3.alloc (.cells #[.bool false,.slice xa 0 xc,.slice ya 0 yc] 27)) (w.heap.size+1) (.bool false) (.slice none 0 0) (.slice none 0 0)):=HR3.al _
    have r0:=HN3.c0
    have r1:=HN3.c1
    have r2:=HN3.c2
    have f0:=HN3.fr 0
    have f1:=HN3.fr 1
    have f2:=HN3.fr 2
    go_wp2_with fail
    have F:=HN3.set3 (.bool false) (.slice none 0 0) (.slice none 0 0)
    have q0:=F.c0
    have q1:=F.c1
    have q2:=F.c2
    exact bodyPost_ret (v:=.tuple #[.agg #[.bool false,.slice none 0 0,.slice none 0 0],.iface 28 (.int .i64 (rdE f (xn:Int) false sz dz))]) (by simp[results,Tryz.results71,go_sem,q0,q1,q2]) rfl (ub12_no rfl HZ.out (bel_set3 ((HB2.trans (HBc.mono HB2.size)).alloc (by omega) _) (by omega) _ _ _))
 ·rw[errV_pos he] at hC
  have HE:Hid (rdE f x c sz dz=lnE f x c sz dz):=by show _=_;unfold rdE;rw[if_pos he]
  have HN:Hid (lnE f x c sz dz≠0):=he
  clear he
  go_enter Tryz.func71,Tryz.ntmps71
  go_wp2_with fail
  refine hC.mono ?_
  rintro e v1 ⟨rfl,hB⟩
  have HB1:Hid (Below w.heap.size w v1):=HB0.trans (hB.mono HB0.size)
  have HR:Hid (Abx v1 (w.heap.size+1) (.bool false) (.slice none 0 0) (.slice none 0 0)):=pr.go hB
  clear hB hC pa pr p0 p1 p2 HB0
  have r0:=HR.c0
  have r1:=HR.c1
  have r2:=HR.c2
  have f0:=HR.fr 0
  have f1:=HR.fr 1
  have f2:=HR.fr 2
  go_wp2_with fail
  have F:=HR.set3 (.bool false) (.slice none 0 0) (.slice none 0 0)
  have q0:=F.c0
  have q1:=F.c1
  have q2:=F.c2
  exact bodyPost_ret (v:=.tuple #[.agg #[.bool false,.slice none 0 0,.slice none 0 0],.iface 28 (.int .i64 (lnE f x c sz dz))]) (by simp[results,Tryz.results71,go_sem,q0,q1,q2]) rfl (ub12_no HE.out HN.out (bel_set3 HB1.out (by omega) _ _ _))
end Go.Proofs.YtkmmkcpfhnifhaaGreatDoor
namespace Go.Proofs.YtkmmkcpfhnifhaaGreatDoor
section
variable {P : Program} {ops : Array Oper} {Q : Exit → Act → World → Prop} {md : Region.Mode} {s : Nat} {C : World → Prop}
theorem anyT_free (n:Nat)(I:Nat->Array Bool->Act->World->Prop)
  (hs:∀ m l a w,I (m+1) l a w->Region.ready md ops l≠[]/\∀ i∈Region.ready md ops l,wpOp P ops Q i (fun a' w'=>Till s C (l.setIfInBounds i true) w'/\I m (l.setIfInBounds i true) a' w') a w)
  (h0:∀ l a w,I 0 l a w->anyT P md ops Q s C n l a w):∀ m l a w,I m l a w->anyT P md ops Q s C (n+m) l a w
 | 0,l,a,w,h=>h0 l a w h
 | m+1,l,a,w,h=>⟨fun h'=>absurd h' (hs m l a w h).1,fun i hi=>wpOp_mono (fun a' w' k=>⟨k.1,anyT_free n I hs h0 m _ a' w' k.2⟩) ((hs m l a w h).2 i hi)⟩
theorem op_at {R:Act->World->Prop}(i:Nat){o:Oper}{a:Act}{w:World}(ho:ops[i]?=some o)
  (h:∀ K:Act->World->Prop,RowKit.Hid (∀ a w,R a w->K a w)->if Region.wanted o (yielded ops a.tmps)=true then Oper.wp P o a w K Q else K (a.put o.dst undef) w):wpOp P ops Q i R a w:=
 wpOp_step ho fun K hK=>h K hK
end
def allB (p:Bool->Bool):Bool:=p false && p true
theorem allB_at {p:Bool->Bool}(h:allB p=true):∀ x,p x=true:=by
 unfold allB at h
 rw[Bool.and_eq_true] at h
 intro x
 cases x
 ·exact h.1
 ·exact h.2
def cnt4 (x:Bool):Nat:=if x=true then 0 else 1
def ok4 (i1 i2 i3 i4:Nat)(x1 x2 x3 x4:Bool)(i:Nat):Bool:=(i == i1 && !x1) || (i == i2 && !x2) || (i == i3 && !x3) || (i == i4 && !x4)
def chk4 (md:Region.Mode)(ops:Array Oper)(i1 i2 i3 i4:Nat)(L:Bool->Bool->Bool->Bool->Array Bool):Bool:=allB fun x1=>allB fun x2=>allB fun x3=>allB fun x4=>
 (x1 && x2 && x3 && x4) || ((Region.ready md ops (L x1 x2 x3 x4)).all (ok4 i1 i2 i3 i4 x1 x2 x3 x4) && !(Region.ready md ops (L x1 x2 x3 x4)).isEmpty)
def put4 (a:Act)(d1 d2 d3 d4:Nat)(v1 v2 v3 v4:Value):Act:=(((a.put (some d1) v1).put (some d2) v2).put (some d3) v3).put (some d4) v4
section
variable {P : Program} {ops : Array Oper} {Q : Exit → Act → World → Prop} {md : Region.Mode} {C : World → Prop}
theorem free4 {a0:Act}{wI:World}(s n k:Nat)(hk:n+4=k)(i1 i2 i3 i4 d1 d2 d3 d4:Nat)(L:Bool->Bool->Bool->Bool->Array Bool)(St:Bool->Bool->Bool->Bool->Value->Value->Value->Value->World->Prop)(hchk:chk4 md ops i1 i2 i3 i4 L=true)
  (s1:∀ x1 x2 x3 x4,(L x1 x2 x3 x4).setIfInBounds i1 true=L true x2 x3 x4)(s2:∀ x1 x2 x3 x4,(L x1 x2 x3 x4).setIfInBounds i2 true=L x1 true x3 x4)(s3:∀ x1 x2 x3 x4,(L x1 x2 x3 x4).setIfInBounds i3 true=L x1 x2 true x4)(s4:∀ x1 x2 x3 x4,(L x1 x2 x3 x4).setIfInBounds i4 true=L x1 x2 x3 true)
  (hC:∀ x1 x2 x3 x4 v1 v2 v3 v4 w,St x1 x2 x3 x4 v1 v2 v3 v4 w->C w)
  (h1:∀ x2 x3 x4 v1 v2 v3 v4 w,St false x2 x3 x4 v1 v2 v3 v4 w->wpOp P ops Q i1 (fun a' w'=>∃ v,a'=put4 a0 d1 d2 d3 d4 v v2 v3 v4/\St true x2 x3 x4 v v2 v3 v4 w') (put4 a0 d1 d2 d3 d4 v1 v2 v3 v4) w)
  (h2:∀ x1 x3 x4 v1 v2 v3 v4 w,St x1 false x3 x4 v1 v2 v3 v4 w->wpOp P ops Q i2 (fun a' w'=>∃ v,a'=put4 a0 d1 d2 d3 d4 v1 v v3 v4/\St x1 true x3 x4 v1 v v3 v4 w') (put4 a0 d1 d2 d3 d4 v1 v2 v3 v4) w)
  (h3:∀ x1 x2 x4 v1 v2 v3 v4 w,St x1 x2 false x4 v1 v2 v3 v4 w->wpOp P ops Q i3 (fun a' w'=>∃ v,a'=put4 a0 d1 d2 d3 d4 v1 v2 v v4/\St x1 x2 true x4 v1 v2 v v4 w') (put4 a0 d1 d2 d3 d4 v1 v2 v3 v4) w)
  (h4:∀ x1 x2 x3 v1 v2 v3 v4 w,St x1 x2 x3 false v1 v2 v3 v4 w->wpOp P ops Q i4 (fun a' w'=>∃ v,a'=put4 a0 d1 d2 d3 d4 v1 v2 v3 v/\St x1 x2 x3 true v1 v2 v3 v w') (put4 a0 d1 d2 d3 d4 v1 v2 v3 v4) w)
  (h0:∀ v1 v2 v3 v4 w,St true true true true v1 v2 v3 v4 w->anyT P md ops Q s C n (L true true true true) (put4 a0 d1 d2 d3 d4 v1 v2 v3 v4) w)
  (hid:put4 a0 d1 d2 d3 d4 (a0.tmps.getD d1 undef) (a0.tmps.getD d2 undef) (a0.tmps.getD d3 undef) (a0.tmps.getD d4 undef)=a0)
  (hinit:St false false false false (a0.tmps.getD d1 undef) (a0.tmps.getD d2 undef) (a0.tmps.getD d3 undef) (a0.tmps.getD d4 undef) wI):
  anyT P md ops Q s C k (L false false false false) a0 wI:=by
 subst hk
 refine anyT_free n (fun m l a w=>∃ x1 x2 x3 x4 v1 v2 v3 v4,l=L x1 x2 x3 x4/\a=put4 a0 d1 d2 d3 d4 v1 v2 v3 v4/\m=cnt4 x1+cnt4 x2+cnt4 x3+cnt4 x4/\St x1 x2 x3 x4 v1 v2 v3 v4 w) ?_ ?_ 4 _ _ _ ⟨_,_,_,_,_,_,_,_,rfl,hid.symm,rfl,hinit⟩
 ·rintro m l a w ⟨x1,x2,x3,x4,v1,v2,v3,v4,rfl,rfl,hm,hst⟩
  have hc:=allB_at (allB_at (allB_at (allB_at hchk x1) x2) x3) x4
  have n3:(x1 && x2 && x3 && x4)=false:=by
   cases hh:(x1 && x2 && x3 && x4)
   ·rfl
   ·simp only[Bool.and_eq_true] at hh
    obtain⟨⟨⟨rfl,rfl⟩,rfl⟩,rfl⟩:=hh
    simp[cnt4] at hm
  rw[n3,Bool.false_or,Bool.and_eq_true] at hc
  refine⟨fun h=>?_,fun i hi=>?_⟩
  ·have h':=hc.2
   rw[h] at h'
   simp at h'
  ·have ho:=List.all_eq_true.1 hc.1 i hi
   clear hc hi
   unfold ok4 at ho
   simp only[Bool.or_eq_true,Bool.and_eq_true,beq_iff_eq,Bool.not_eq_true'] at ho
   rcases ho with ((⟨rfl,rfl⟩ | ⟨rfl,rfl⟩) | ⟨rfl,rfl⟩) | ⟨rfl,rfl⟩
   ·exact wpOp_mono (fun a' w' ⟨v,e,h⟩=>⟨fun _=>hC _ _ _ _ _ _ _ _ _ h,_,_,_,_,_,_,_,_,s1 _ _ _ _,e,by simp[cnt4] at hm ⊢;omega,h⟩) (h1 _ _ _ _ _ _ _ _ hst)
   ·exact wpOp_mono (fun a' w' ⟨v,e,h⟩=>⟨fun _=>hC _ _ _ _ _ _ _ _ _ h,_,_,_,_,_,_,_,_,s2 _ _ _ _,e,by simp[cnt4] at hm ⊢;omega,h⟩) (h2 _ _ _ _ _ _ _ _ hst)
   ·exact wpOp_mono (fun a' w' ⟨v,e,h⟩=>⟨fun _=>hC _ _ _ _ _ _ _ _ _ h,_,_,_,_,_,_,_,_,s3 _ _ _ _,e,by simp[cnt4] at hm ⊢;omega,h⟩) (h3 _ _ _ _ _ _ _ _ hst)
   ·exact wpOp_mono (fun a' w' ⟨v,e,h⟩=>⟨fun _=>hC _ _ _ _ _ _ _ _ _ h,_,_,_,_,_,_,_,_,s4 _ _ _ _,e,by simp[cnt4] at hm ⊢;omega,h⟩) (h4 _ _ _ _ _ _ _ _ hst)
 ·rintro l a w ⟨x1,x2,x3,x4,v1,v2,v3,v4,rfl,rfl,hm,hst⟩
  have t:∀ {x:Bool},cnt4 x=0->x=true:=fun {x} h=>by cases x;exact absurd h (by decide);rfl
  obtain rfl:x1=true:=t (by omega)
  obtain rfl:x2=true:=t (by omega)
  obtain rfl:x3=true:=t (by omega)
  obtain rfl:x4=true:=t (by omega)
  exact h0 _ _ _ _ w hst
end
end Go.Proofs.YtkmmkcpfhnifhaaGreatDoor
