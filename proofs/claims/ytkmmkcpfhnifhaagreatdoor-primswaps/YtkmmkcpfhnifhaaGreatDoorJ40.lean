/- What the program tells, in part. -/
import Derived.Test.YtkmmkcpfhnifhaaGreatDoorJ39
set_option linter.unusedVariables false
set_option maxHeartbeats 4000000
set_option maxRecDepth 100000
namespace Go.Proofs.YtkmmkcpfhnifhaaGreatDoor
open Go.RowKit
theorem heap_newKeep (w:World)(o:Obj):(w.alloc o).heap[w.heap.size]?=some o:=World.alloc_heap_new w o
theorem kpE_ax {m:List Int}{x:Int}{c:Bool}{s dz:List Int}(h:axE x c s dz≠0):kpE m x c s dz=axE x c s dz:=by unfold kpE;rw[if_pos h]
theorem kpE_len {m:List Int}{x:Int}{c:Bool}{s dz:List Int}(h:axE x c s dz=0)(k:(m.length:Int)≠nth s x.toNat):kpE m x c s dz=4:=by unfold kpE;rw[if_neg (by simpa using h),if_pos k]
theorem kpE_msk {m:List Int}{x:Int}{c:Bool}{s dz:List Int}(h:axE x c s dz=0)(k:(m.length:Int)=nth s x.toNat)(q:mskB m=false):kpE m x c s dz=6:=by unfold kpE;rw[if_neg (by simpa using h),if_neg (by simpa using k),if_pos q]
theorem kp_holds:CKp:=by
 intro ma mc m x c sa sc sz da dc dz w h0 T0 hx h1 h2 hm hs hd T
 have HI:Hid (IsC w.heap.size w sa sz sc/\IsC w.heap.size w da dz dc/\IsC w.heap.size w ma m mc):=⟨hs,hd,hm⟩
 have HX:Hid (In64 x):=hx
 clear hs hd hm T T0 hx
 have HB0:Hid (Below w.heap.size w ((w.alloc (.cells #[.bool c,.slice sa sz.length sc,.slice da dz.length dc] 27)).alloc (.cells #[.bool false,.slice none 0 0,.slice none 0 0] 27))):=((Below.refl _ w).alloc (Nat.le_refl _) _).alloc (by simp) _
 have pa:=(Abx.new w (.bool c) (.slice sa sz.length sc) (.slice da dz.length dc)).al (.cells #[.bool false,.slice none 0 0,.slice none 0 0] 27)
 have pr:=Abx.new1 w (.cells #[.bool c,.slice sa sz.length sc,.slice da dz.length dc] 27) (.bool false) (.slice none 0 0) (.slice none 0 0)
 have p0:=pa.c0
 have p1:=pa.c1
 have p2:=pa.c2
 by_cases h3:axE x c sz dz=0
 ·have H3:Hid (axE x c sz dz=0):=h3
  obtain⟨hf,hx0,hx1⟩:=axE_zero.1 h3
  obtain⟨xn,rfl⟩:∃ xn:Nat,x=(xn:Int):=⟨x.toNat,by omega⟩
  rw[Int.toNat_natCast] at hx1
  have HF:Hid (flawE c sz dz=0):=hf
  clear h3 hf hx0
  go_enter Tryz.func133,Tryz.ntmps133
  go_wp2_with fail
  refine (axis_ok (xn:Int) c sa sc sz da dc dz h1 h2 _ ((HI.1.1.below HB0.out).mono HB0.size) ((HI.2.1.1.below HB0.out).mono HB0.size) H3.out).mono ?_
  rintro e v1 ⟨rfl,hC⟩
  have HB1:Hid (Below w.heap.size w v1):=HB0.trans (hC.mono HB0.size)
  have HP:Hid (Abx v1 w.heap.size (.bool c) (.slice sa sz.length sc) (.slice da dz.length dc)):=pa.go hC
  have HR:Hid (Abx v1 (w.heap.size+1) (.bool false) (.slice none 0 0) (.slice none 0 0)):=pr.go hC
  clear hC pa pr p0 p1 p2 HB0
  have a1:=HP.c1
  obtain⟨bs,os,rfl,hbs,hcS⟩:=(HI.1.1.below HB1.out).at hx1
  have cs:=hcS xn hx1
  clear hcS
  by_cases hlen:(m.length:Int)=nth sz xn
  ·have HLN:Hid ((m.length:Int)=nth sz xn):=hlen
   rw[<-hlen] at cs
   clear hlen
   go_wp2_with fail
   refine (mask6_any ma mc m h0 v1.heap.size v1 ((HI.2.2.1.below HB1.out).mono HB1.size)).mono ?_
   rintro e v2 ⟨rfl,hv2⟩
   obtain rfl:=hv2.symm
   clear hv2
   by_cases hmk:mskB m=true
   ·have HK:Hid (kpE m (xn:Int) c sz dz=0/\mskB m=true):=⟨kpZ.2 ⟨HF.out,hx1,HLN.out,hmk⟩,hmk⟩
    have hm4:m.length<=4096:=by have:=((errOf_zero.1 (flawE_zero HF.out).1).2.1.nth xn).2;have:=HLN.out;omega
    rw[hmk]
    clear hmk
    go_wp2_with fail
    go_loopw [9,36] (fun v i wr=>∃ k:Nat,k<=m.length/\i=.int .i64 k/\wr.ownsRow v1.heap.size 3 1 v (kpl m k).length ((kpl m k).map (Value.int .i64))/\Below v1.heap.size v1 wr) (fun v i _=>m.length-(intOf i).toNat)
    case atStart=>exact⟨0,Nat.zero_le _,rfl,World.ownsRow_nil _ _ _ _,Below.refl _ _⟩
    case round=>
     obtain⟨k,hk,rfl,hown,hBv⟩:=hrel
     have hB:Below w.heap.size w wr:=HB1.trans (hBv.mono HB1.size)
     have hsz2:v1.heap.size<=wr.heap.size:=hBv.size
     by_cases hlt:k<m.length
     ·obtain⟨bm,om,rfl,hbm,hcM⟩:=(HI.2.2.1.below hB).at hlt
      have cm:=hcM k hlt
      clear hcM
      by_cases hbit:nth m k=1
      ·have HS:Hid (kpl m (k+1)=kpl m k++[(k:Int)]):=by show _=_;simp only[kpl];rw[if_pos hbit]
       have hll:(kpl m k).length<=1000000:=by have:=kpl_le m k;omega
       rw[hbit] at cm
       have HQ:Hid (Below v1.heap.size v1 wr):=hBv
       clear hbit hBv hB
       go_wp2_with (at_builtin;refine app_list rfl _ _ rfl _ v1.heap.size wr.heap.size _ (kpl m k) (k:Int) rfl rfl (hown.alloc _) (heap_newKeep wr _) hll (by simp;omega) ?_;intro g1 gc1 w9 hown9 hB9)
       refine⟨⟨k+1,by omega,by go_num,?_,(HQ.alloc hsz2 _).trans hB9⟩,by simp[intOf];omega⟩
       rw[HS.out,List.length_append]
       exact hown9
      ·have HS:Hid (kpl m (k+1)=kpl m k):=by show _=_;simp only[kpl];rw[if_neg hbit]
       have t1:(nth m k == 1)=false:=by simpa using hbit
       go_wp2_with fail
       refine⟨⟨k+1,by omega,by go_num,?_,hBv⟩,by simp[intOf];omega⟩
       rw[HS.out]
       exact hown
     ·obtain rfl:k=m.length:=by omega
      obtain⟨g,gc,rfl,hN⟩:=own_cap hown
      have HN:Hid (NewC v1.heap.size wr g (kpl m m.length) gc):=hN
      have HBw:Hid (Below w.heap.size w wr):=hB
      have HRw:Hid (Abx wr (w.heap.size+1) (.bool false) (.slice none 0 0) (.slice none 0 0)):=HR.go hBv
      have hPw:=HP.go hBv
      have b0:=hPw.c0
      have b1:=hPw.c1
      have b2:=hPw.c2
      have HE:Hid (kpE m (xn:Int) c sz dz=errOf (kpS m xn sz)/\kpS6 m (xn:Int) c sz dz=onl (errOf (kpS m xn sz)) (kpS m xn sz)/\kpD6 m (xn:Int) c sz dz=onl (errOf (kpS m xn sz)) (kpD m xn sz dz)):=by
       have e1:=kp_err HK.1
       have e2:=HK.1
       unfold kpS6 kpD6
       rw[e1,e2,Int.toNat_natCast]
       exact⟨rfl,rfl,rfl⟩
      clear hown hBv hB hPw hN
      go_wp2_with fail
      refine (alongc_any xn g gc (kpl m m.length) (kpl m m.length).length rfl c (some ⟨bs,os,none⟩) sc sz da dc dz (kpS m xn sz) (kpD m xn sz dz) HF.out hx1 (kp_ga HK.1).1 (fun _=>(kp_ga HK.1).2) wr HN.ints ((HI.1.below HBw.out).mono HBw.size) ((HI.2.1.below HBw.out).mono HBw.size)).mono ?_
      clear b0 b1 b2
      rintro e w3 ⟨xa,xc,ya,yc,rfl,hX,hY,hB⟩
      have HX:Hid (NewC wr.heap.size w3 xa (onl (errOf (kpS m xn sz)) (kpS m xn sz)) xc/\NewC wr.heap.size w3 ya (onl (errOf (kpS m xn sz)) (kpD m xn sz dz)) yc/\Below wr.heap.size wr w3):=⟨hX,hY,hB⟩
      have HG6:Hid (kpE m (xn:Int) c sz dz=errOf (kpS m xn sz)/\onc (kpE m (xn:Int) c sz dz) c=onc (errOf (kpS m xn sz)) c/\kpS6 m (xn:Int) c sz dz=onl (errOf (kpS m xn sz)) (kpS m xn sz)/\kpD6 m (xn:Int) c sz dz=onl (errOf (kpS m xn sz)) (kpD m xn sz dz)):=⟨HE.1,by rw[HE.1],HE.2.1,HE.2.2⟩
      have R3:=HRw.go hB
      have hwr:w.heap.size+1<wr.heap.size:=HRw.lt
      clear hX hY hB HE
      generalize onl (errOf (kpS m xn sz)) (kpS m xn sz)=S' at *
      generalize onl (errOf (kpS m xn sz)) (kpD m xn sz dz)=D' at *
      generalize onc (errOf (kpS m xn sz)) c=C' at *
      generalize errOf (kpS m xn sz)=E' at *
      have r0:=R3.c0
      have r1:=R3.c1
      have r2:=R3.c2
      have f0:=R3.fr 0
      have f1:=R3.fr 1
      have f2:=R3.fr 2
      go_wp2_with fail
      have F:=R3.set3 (.bool C') (.slice xa S'.length xc) (.slice ya D'.length yc)
      have q0:=F.c0
      have q1:=F.c1
      have q2:=F.c2
      have k1:=HX.1
      have k2:=HX.2.1
      have k3:=HX.2.2
      have hX1:=(k1.set3 (b:=w.heap.size+1) (by omega) (.bool C') (.slice xa S'.length xc) (.slice ya D'.length yc)).low (lo':=w.heap.size) (by omega)
      have hX2:=(k2.set3 (b:=w.heap.size+1) (by omega) (.bool C') (.slice xa S'.length xc) (.slice ya D'.length yc)).low (lo':=w.heap.size) (by omega)
      have hX3:=bel_set3 (HBw.trans (k3.mono HBw.size)) (b:=w.heap.size+1) (by omega) (.bool C') (.slice xa S'.length xc) (.slice ya D'.length yc)
      exact bodyPost_ret (v:=.tuple #[.agg #[.bool C',.slice xa S'.length xc,.slice ya D'.length yc],errV E']) (by simp[results,Tryz.results133,go_sem,q0,q1,q2]) rfl (by rw[HG6.2.2.1,HG6.2.2.2,HG6.2.1,HG6.1];exact⟨xa,xc,ya,yc,rfl,hX1,hX2,hX3⟩)
   ·have hmf:mskB m=false:=by simpa using hmk
    have HE:Hid (kpE m (xn:Int) c sz dz=6):=kpE_msk H3.out HLN.out hmf
    rw[hmf]
    clear hmk hmf
    have r0:=HR.c0
    have r1:=HR.c1
    have r2:=HR.c2
    have f0:=HR.fr 0
    have f1:=HR.fr 1
    have f2:=HR.fr 2
    go_wp2_with fail
    have F:=HR.set3 (.bool false) (.slice none 0 0) (.slice none 0 0)
    have q0:=F.c0
    have q1:=F.c1
    have q2:=F.c2
    exact bodyPost_ret (v:=.tuple #[.agg #[.bool false,.slice none 0 0,.slice none 0 0],.iface 28 (.int .i64 6)]) (by simp[results,Tryz.results133,go_sem,q0,q1,q2]) rfl (UB.mkno HE.out (by decide) (bel_set3 HB1.out (by omega) _ _ _))
  ·have HE:Hid (kpE m (xn:Int) c sz dz=4):=kpE_len H3.out hlen
   have t1:((m.length:Int) != nth sz xn)=true:=by simpa using hlen
   have r0:=HR.c0
   have r1:=HR.c1
   have r2:=HR.c2
   have f0:=HR.fr 0
   have f1:=HR.fr 1
   have f2:=HR.fr 2
   go_wp2_with fail
   have F:=HR.set3 (.bool false) (.slice none 0 0) (.slice none 0 0)
   have q0:=F.c0
   have q1:=F.c1
   have q2:=F.c2
   exact bodyPost_ret (v:=.tuple #[.agg #[.bool false,.slice none 0 0,.slice none 0 0],.iface 28 (.int .i64 4)]) (by simp[results,Tryz.results133,go_sem,q0,q1,q2]) rfl (UB.mkno HE.out (by decide) (bel_set3 HB1.out (by omega) _ _ _))
 ·have H3:Hid (axE x c sz dz≠0):=h3
  have HE:Hid (kpE m x c sz dz=axE x c sz dz):=kpE_ax h3
  clear h3
  go_enter Tryz.func133,Tryz.ntmps133
  go_wp2_with fail
  refine (axis_no x HX.out c sa sc sz da dc dz h1 h2 _ ((HI.1.1.below HB0.out).mono HB0.size) ((HI.2.1.1.below HB0.out).mono HB0.size) H3.out).mono ?_
  rintro e v1 ⟨rfl,hC⟩
  have HB1:Hid (Below w.heap.size w v1):=HB0.trans (hC.mono HB0.size)
  have HP:Hid (Abx v1 w.heap.size (.bool c) (.slice sa sz.length sc) (.slice da dz.length dc)):=pa.go hC
  have HR:Hid (Abx v1 (w.heap.size+1) (.bool false) (.slice none 0 0) (.slice none 0 0)):=pr.go hC
  clear hC pa pr p0 p1 p2 HB0
  have r0:=HR.c0
  have r1:=HR.c1
  have r2:=HR.c2
  have f0:=HR.fr 0
  have f1:=HR.fr 1
  have f2:=HR.fr 2
  go_wp2_with fail
  have F:=HR.set3 (.bool false) (.slice none 0 0) (.slice none 0 0)
  have q0:=F.c0
  have q1:=F.c1
  have q2:=F.c2
  exact bodyPost_ret (v:=.tuple #[.agg #[.bool false,.slice none 0 0,.slice none 0 0],.iface 28 (.int .i64 (axE x c sz dz))]) (by simp[results,Tryz.results133,go_sem,q0,q1,q2]) rfl (UB.mkno HE.out H3.out (bel_set3 HB1.out (by omega) _ _ _))
theorem spE_ax {m:List Int}{x:Int}{c:Bool}{s dz:List Int}(h:axE x c s dz≠0):spE m x c s dz=axE x c s dz:=by unfold spE;rw[if_pos h]
theorem spE_msk {m:List Int}{x:Int}{c:Bool}{s dz:List Int}(h:axE x c s dz=0)(q:mskB m=false):spE m x c s dz=6:=by unfold spE;rw[if_neg (by simpa using h),if_pos q]
theorem spE_len {m:List Int}{x:Int}{c:Bool}{s dz:List Int}(h:axE x c s dz=0)(q:mskB m=true)(k:sumI m≠nth s x.toNat):spE m x c s dz=4:=by unfold spE;rw[if_neg (by simpa using h),if_neg (by rw[q];decide),if_pos k]
theorem spE_fit {m:List Int}{x:Int}{c:Bool}{s dz:List Int}(h:axE x c s dz=0)(q:mskB m=true)(k:sumI m=nth s x.toNat):spE m x c s dz=errOf (spS m x.toNat s):=by unfold spE;rw[if_neg (by simpa using h),if_neg (by rw[q];decide),if_neg (by simpa using k)]
theorem sp_full {m:List Int}{x:Nat}{s:List Int}(he:errOf s=0)(hx:x<s.length)(hm:4096<m.length):errOf (spS m x s)=7:=by
 have hz:=errOf_zero.1 he
 have hb:∀ (s:List Int) (x:Nat),AllIn s->x<s.length->bad (s.set x (m.length:Int))=7:=by
  intro s
  induction s with
  | nil=>intro x _ h;simp at h
  | cons y r ih=>
   intro x ha h
   have hy:=ha y List.mem_cons_self
   cases x with
   | zero=>simp only[List.set_cons_zero,bad];rw[if_neg (by omega),if_pos (by omega)]
   | succ x=>simp only[List.set_cons_succ,bad];rw[if_neg (by omega),if_neg (by omega)];exact ih x ha.tail (by simpa using h)
 have h:=hb s x hz.2.1 hx
 unfold spS errOf
 rw[List.length_set,if_neg (by omega),h,if_pos (by decide)]
theorem sp_holds:CSp:=by
 intro ma mc m x c sa sc sz da dc dz w h0 T0 hx h1 h2 hm hs hd T
 have HI:Hid (IsC w.heap.size w sa sz sc/\IsC w.heap.size w da dz dc/\IsC w.heap.size w ma m mc):=⟨hs,hd,hm⟩
 have HX:Hid (In64 x):=hx
 clear hs hd hm T T0 hx
 have HB0:Hid (Below w.heap.size w ((w.alloc (.cells #[.bool c,.slice sa sz.length sc,.slice da dz.length dc] 27)).alloc (.cells #[.bool false,.slice none 0 0,.slice none 0 0] 27))):=((Below.refl _ w).alloc (Nat.le_refl _) _).alloc (by simp) _
 have pa:=(Abx.new w (.bool c) (.slice sa sz.length sc) (.slice da dz.length dc)).al (.cells #[.bool false,.slice none 0 0,.slice none 0 0] 27)
 have pr:=Abx.new1 w (.cells #[.bool c,.slice sa sz.length sc,.slice da dz.length dc] 27) (.bool false) (.slice none 0 0) (.slice none 0 0)
 have p0:=pa.c0
 have p1:=pa.c1
 have p2:=pa.c2
 by_cases h3:axE x c sz dz=0
 ·have H3:Hid (axE x c sz dz=0):=h3
  obtain⟨hf,hx0,hx1⟩:=axE_zero.1 h3
  obtain⟨xn,rfl⟩:∃ xn:Nat,x=(xn:Int):=⟨x.toNat,by omega⟩
  rw[Int.toNat_natCast] at hx1
  have HF:Hid (flawE c sz dz=0):=hf
  clear h3 hf hx0
  go_enter Tryz.func134,Tryz.ntmps134
  go_wp2_with fail
  refine (axis_ok (xn:Int) c sa sc sz da dc dz h1 h2 _ ((HI.1.1.below HB0.out).mono HB0.size) ((HI.2.1.1.below HB0.out).mono HB0.size) H3.out).mono ?_
  rintro e v1 ⟨rfl,hC⟩
  have HB1:Hid (Below w.heap.size w v1):=HB0.trans (hC.mono HB0.size)
  have HP:Hid (Abx v1 w.heap.size (.bool c) (.slice sa sz.length sc) (.slice da dz.length dc)):=pa.go hC
  have HR:Hid (Abx v1 (w.heap.size+1) (.bool false) (.slice none 0 0) (.slice none 0 0)):=pr.go hC
  clear hC pa pr p0 p1 p2 HB0
  go_wp2_with fail
  refine (mask6_any ma mc m h0 v1.heap.size v1 ((HI.2.2.1.below HB1.out).mono HB1.size)).mono ?_
  rintro e v2 ⟨rfl,hv2⟩
  obtain rfl:=hv2.symm
  clear hv2
  by_cases hmk:mskB m=true
  ·have HM:Hid (mskB m=true):=hmk
   rw[hmk]
   clear hmk
   have a1:=HP.c1
   obtain⟨bs,os,rfl,hbs,hcS⟩:=(HI.1.1.below HB1.out).at hx1
   have cs:=hcS xn hx1
   clear hcS
   have hzn:=(errOf_zero.1 (flawE_zero HF.out).1).2.1.nth xn
   go_wp2_with fail
   go_quiet ((go_at_call 211;refine Calls.quiet_of_same (ones_any ma mc m h0 HM.out v1.heap.size _ ?_);exact ((HI.2.2.1.below HB1.out).mono HB1.size)))
   obtain⟨u,hu⟩:∃ u,u=v1.drewN nq:=⟨_,rfl⟩
   rw[<-hu]
   have HBu:Hid (Below w.heap.size w u):=by rw[hu];exact below_drewN HB1.out _
   have HPu:Hid (Abx u w.heap.size (.bool c) (.slice (some ⟨bs,os,none⟩) sz.length sc) (.slice da dz.length dc)):=by rw[hu];exact HP.out
   have HRu:Hid (Abx u (w.heap.size+1) (.bool false) (.slice none 0 0) (.slice none 0 0)):=by rw[hu];exact HR.out
   clear hu HB1 HP HR a1 cs
   by_cases hsum:sumI m=nth sz xn
   ·have HSM:Hid (sumI m=nth sz xn):=hsum
    have HFT:Hid (spE m (xn:Int) c sz dz=errOf (spS m xn sz)):=by have:=spE_fit H3.out HM.out (x:=(xn:Int)) (by rw[Int.toNat_natCast];exact hsum);rwa [Int.toNat_natCast] at this
    have hnf:(sumI m != nth sz xn)=false:=by simp[hsum]
    rw[hsum]
    clear hsum hnf
    by_cases hbig:4096<m.length
    ·have HE:Hid (spE m (xn:Int) c sz dz=7):=HFT.trans (sp_full (flawE_zero HF.out).1 hx1 hbig)
     have r0:=HRu.c0
     have r1:=HRu.c1
     have r2:=HRu.c2
     have f0:=HRu.fr 0
     have f1:=HRu.fr 1
     have f2:=HRu.fr 2
     go_wp2_with fail
     have F:=HRu.set3 (.bool false) (.slice none 0 0) (.slice none 0 0)
     have q0:=F.c0
     have q1:=F.c1
     have q2:=F.c2
     exact bodyPost_ret (v:=.tuple #[.agg #[.bool false,.slice none 0 0,.slice none 0 0],.iface 28 (.int .i64 7)]) (by simp[results,Tryz.results134,go_sem,q0,q1,q2]) rfl (UB.mkno HE.out (by decide) (bel_set3 HBu.out (by omega) _ _ _))
    ·have hmk:=run_make_row' (P:=Tryz.prog) 25 3 (.int .i64 0) 8 Tryz.underlying25 Tryz.infoInt rfl .i64 .i64 m.length (by omega) (by omega)
     go_wp2_with fail
     clear hmk
     go_loopw [10,45] (fun q i wr=>∃ k:Nat,k<=m.length/\i=.int .i64 k/\q=.int .i64 (rnk m k)/\wr.rowIs u.heap.size 3 m.length (upTo (nth (spl m)) k)/\Below u.heap.size u wr) (fun _ i _=>m.length-(intOf i).toNat)
     case atStart=>exact⟨0,Nat.zero_le _,rfl,rfl,(World.rowIs_made u (.int .i64 0) m.length 3).congr (fun j _=>by simp[upTo]),(Below.refl _ u).alloc (Nat.le_refl _) _⟩
     case round=>
      obtain⟨k,hk,rfl,rfl,hrow,hBv⟩:=hrel
      have hB:Below w.heap.size w wr:=HBu.trans (hBv.mono HBu.size)
      by_cases hlt:k<m.length
      ·obtain⟨bm,om,rfl,hbm,hcM⟩:=(HI.2.2.1.below hB).at hlt
       have cm:=hcM k hlt
       clear hcM
       have c2:=hrow.cell hlt
       have f2:=hrow.frozen k
       have hrk:=rnk_bd HM.out k (by omega)
       have hm1:=mskB_nth HM.out hlt
       have hzw:u.heap.size<=wr.heap.size:=hBv.size
       have hbu:bm<u.heap.size:=by have:=HBu.size;omega
       have HQ:Hid (wr.rowIs u.heap.size 3 m.length (upTo (nth (spl m)) k)/\Below u.heap.size u wr):=⟨hrow,hBv⟩
       by_cases hbit:nth m k=1
       ·have HV:Hid (rnk m k=nth (spl m) k):=by show _=_;rw[spl_nth m hlt,if_pos hbit]
        have HRK:Hid (rnk m (k+1)=rnk m k+1):=by show _=_;rw[rnk_succ m hlt,hbit]
        have hr1:=upF_first HQ.1 (-1)
        have c3:=hr1.cell hlt
        have f3:=hr1.frozen k
        have HW:Hid ((wr.setCell ⟨u.heap.size,k,none⟩ (.int .i64 (-1))).rowIs u.heap.size 3 m.length (upF (nth (spl m)) k (-1))):=hr1
        rw[hbit] at cm
        clear hbit hrow hBv hB hr1 hm1
        generalize rnk m k=Q0 at *
        go_wp2_with fail
        refine⟨⟨k+1,by omega,by go_num,int_eq HRK.symm,upF_done (upF_set HW.out _) HV.out,(HQ.2.setCell (p:=⟨u.heap.size,k,none⟩) (Nat.le_refl _) _).setCell (p:=⟨u.heap.size,k,none⟩) (Nat.le_refl _) _⟩,by simp[intOf];omega⟩
       ·have HV:Hid (-1=nth (spl m) k):=by show _=_;rw[spl_nth m hlt,if_neg hbit]
        have HRK:Hid (rnk m (k+1)=rnk m k):=by show _=_;rw[rnk_succ m hlt];omega
        have t1:nth m k=0:=by omega
        rw[t1] at cm
        clear hbit hrow hBv hB t1 hm1
        generalize rnk m k=Q0 at *
        go_wp2_with fail
        refine⟨⟨k+1,by omega,by go_num,int_eq HRK.symm,upTo_set HQ.1 _ HV.out,HQ.2.setCell (p:=⟨u.heap.size,k,none⟩) (Nat.le_refl _) _⟩,by simp[intOf];omega⟩
      ·obtain rfl:k=m.length:=by omega
       have HY:Hid (NewInts u.heap.size wr (some ⟨u.heap.size,0,none⟩) (spl m)):=upTo_new hrow (Nat.le_refl _) _ (spl_length m) (fun j hj=>rfl)
       have HBw:Hid (Below w.heap.size w wr):=hB
       have HRw:Hid (Abx wr (w.heap.size+1) (.bool false) (.slice none 0 0) (.slice none 0 0)):=HRu.go hBv
       have hPw:=HPu.go hBv
       have b0:=hPw.c0
       have b1:=hPw.c1
       have b2:=hPw.c2
       have HE:Hid (spE m (xn:Int) c sz dz=errOf (spS m xn sz)/\spS6 m (xn:Int) c sz dz=onl (errOf (spS m xn sz)) (spS m xn sz)/\spD6 m (xn:Int) c sz dz=onl (errOf (spS m xn sz)) (spD m xn c sz dz)):=by
        unfold spS6 spD6
        rw[HFT.out,Int.toNat_natCast]
        exact⟨rfl,rfl,rfl⟩
       have HGA:Hid (errOf (spS m xn sz)=0->gaD c sz dz (alR sz xn (spl m))=spD m xn c sz dz):=fun he=>(sp_ga (HFT.trans he)).2
       clear hrow hBv hB hPw hk hlt
       go_wp2_with fail
       refine (alongc_any xn (some ⟨u.heap.size,0,none⟩) m.length (spl m) m.length (spl_length m) c (some ⟨bs,os,none⟩) sc sz da dc dz (spS m xn sz) (spD m xn c sz dz) HF.out hx1 (sp_err6 (errOf_zero.1 (flawE_zero HF.out).1).2.1 hx1) HGA.out wr ⟨HY.ints,by rw[spl_length];exact Nat.le_refl _⟩ ((HI.1.below HBw.out).mono HBw.size) ((HI.2.1.below HBw.out).mono HBw.size)).mono ?_
       clear b0 b1 b2
       rintro e w3 ⟨xa,xc,ya,yc,rfl,hX,hY,hB⟩
       have HX:Hid (NewC wr.heap.size w3 xa (onl (errOf (spS m xn sz)) (spS m xn sz)) xc/\NewC wr.heap.size w3 ya (onl (errOf (spS m xn sz)) (spD m xn c sz dz)) yc/\Below wr.heap.size wr w3):=⟨hX,hY,hB⟩
       have HG6:Hid (spE m (xn:Int) c sz dz=errOf (spS m xn sz)/\onc (spE m (xn:Int) c sz dz) c=onc (errOf (spS m xn sz)) c/\spS6 m (xn:Int) c sz dz=onl (errOf (spS m xn sz)) (spS m xn sz)/\spD6 m (xn:Int) c sz dz=onl (errOf (spS m xn sz)) (spD m xn c sz dz)):=⟨HE.1,by rw[HE.1],HE.2.1,HE.2.2⟩
       have R3:=HRw.go hB
       have hwr:w.heap.size+1<wr.heap.size:=HRw.lt
       clear hX hY hB HE HFT
       generalize onl (errOf (spS m xn sz)) (spS m xn sz)=S' at *
       generalize onl (errOf (spS m xn sz)) (spD m xn c sz dz)=D' at *
       generalize onc (errOf (spS m xn sz)) c=C' at *
       generalize errOf (spS m xn sz)=E' at *
       have r0:=R3.c0
       have r1:=R3.c1
       have r2:=R3.c2
       have f0:=R3.fr 0
       have f1:=R3.fr 1
       have f2:=R3.fr 2
       go_wp2_with fail
       have F:=R3.set3 (.bool C') (.slice xa S'.length xc) (.slice ya D'.length yc)
       have q0:=F.c0
       have q1:=F.c1
       have q2:=F.c2
       have k1:=HX.1
       have k2:=HX.2.1
       have k3:=HX.2.2
       have hX1:=(k1.set3 (b:=w.heap.size+1) (by omega) (.bool C') (.slice xa S'.length xc) (.slice ya D'.length yc)).low (lo':=w.heap.size) (by omega)
       have hX2:=(k2.set3 (b:=w.heap.size+1) (by omega) (.bool C') (.slice xa S'.length xc) (.slice ya D'.length yc)).low (lo':=w.heap.size) (by omega)
       have hX3:=bel_set3 (HBw.trans (k3.mono HBw.size)) (b:=w.heap.size+1) (by omega) (.bool C') (.slice xa S'.length xc) (.slice ya D'.length yc)
       exact bodyPost_ret (v:=.tuple #[.agg #[.bool C',.slice xa S'.length xc,.slice ya D'.length yc],errV E']) (by simp[results,Tryz.results134,go_sem,q0,q1,q2]) rfl (by rw[HG6.2.2.1,HG6.2.2.2,HG6.2.1,HG6.1];exact⟨xa,xc,ya,yc,rfl,hX1,hX2,hX3⟩)
   ·have HE:Hid (spE m (xn:Int) c sz dz=4):=spE_len H3.out HM.out (by rw[Int.toNat_natCast];exact hsum)
    have t1:(sumI m != nth sz xn)=true:=by simpa using hsum
    have r0:=HRu.c0
    have r1:=HRu.c1
    have r2:=HRu.c2
    have f0:=HRu.fr 0
    have f1:=HRu.fr 1
    have f2:=HRu.fr 2
    go_wp2_with fail
    have F:=HRu.set3 (.bool false) (.slice none 0 0) (.slice none 0 0)
    have q0:=F.c0
    have q1:=F.c1
    have q2:=F.c2
    exact bodyPost_ret (v:=.tuple #[.agg #[.bool false,.slice none 0 0,.slice none 0 0],.iface 28 (.int .i64 4)]) (by simp[results,Tryz.results134,go_sem,q0,q1,q2]) rfl (UB.mkno HE.out (by decide) (bel_set3 HBu.out (by omega) _ _ _))
  ·have hmf:mskB m=false:=by simpa using hmk
   have HE:Hid (spE m (xn:Int) c sz dz=6):=spE_msk H3.out hmf
   rw[hmf]
   clear hmk hmf
   have r0:=HR.c0
   have r1:=HR.c1
   have r2:=HR.c2
   have f0:=HR.fr 0
   have f1:=HR.fr 1
   have f2:=HR.fr 2
   go_wp2_with fail
   have F:=HR.set3 (.bool false) (.slice none 0 0) (.slice none 0 0)
   have q0:=F.c0
   have q1:=F.c1
   have q2:=F.c2
   exact bodyPost_ret (v:=.tuple #[.agg #[.bool false,.slice none 0 0,.slice none 0 0],.iface 28 (.int .i64 6)]) (by simp[results,Tryz.results134,go_sem,q0,q1,q2]) rfl (UB.mkno HE.out (by decide) (bel_set3 HB1.out (by omega) _ _ _))
 ·have H3:Hid (axE x c sz dz≠0):=h3
  have HE:Hid (spE m x c sz dz=axE x c sz dz):=spE_ax h3
  clear h3
  go_enter Tryz.func134,Tryz.ntmps134
  go_wp2_with fail
  refine (axis_no x HX.out c sa sc sz da dc dz h1 h2 _ ((HI.1.1.below HB0.out).mono HB0.size) ((HI.2.1.1.below HB0.out).mono HB0.size) H3.out).mono ?_
  rintro e v1 ⟨rfl,hC⟩
  have HB1:Hid (Below w.heap.size w v1):=HB0.trans (hC.mono HB0.size)
  have HP:Hid (Abx v1 w.heap.size (.bool c) (.slice sa sz.length sc) (.slice da dz.length dc)):=pa.go hC
  have HR:Hid (Abx v1 (w.heap.size+1) (.bool false) (.slice none 0 0) (.slice none 0 0)):=pr.go hC
  clear hC pa pr p0 p1 p2 HB0
  have r0:=HR.c0
  have r1:=HR.c1
  have r2:=HR.c2
  have f0:=HR.fr 0
  have f1:=HR.fr 1
  have f2:=HR.fr 2
  go_wp2_with fail
  have F:=HR.set3 (.bool false) (.slice none 0 0) (.slice none 0 0)
  have q0:=F.c0
  have q1:=F.c1
  have q2:=F.c2
  exact bodyPost_ret (v:=.tuple #[.agg #[.bool false,.slice none 0 0,.slice none 0 0],.iface 28 (.int .i64 (axE x c sz dz))]) (by simp[results,Tryz.results134,go_sem,q0,q1,q2]) rfl (UB.mkno HE.out H3.out (bel_set3 HB1.out (by omega) _ _ _))
end Go.Proofs.YtkmmkcpfhnifhaaGreatDoor
