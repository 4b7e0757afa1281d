/- What the program tells, in part. -/
import Derived.Test.YtkmmkcpfhnifhaaGreatDoorJ17
import Derived.Test.YtkmmkcpfhnifhaaGreatDoorJ21
import Derived.WalkSmall
set_option linter.unusedVariables false
set_option maxHeartbeats 4000000
set_option maxRecDepth 100000
namespace Go.Proofs.YtkmmkcpfhnifhaaGreatDoor
open Go.RowKit
theorem Tryz.infoSl:(Tryz.prog.info? 25).map (fun i=>(i.zero,i.size,i.bytes))=some (some (.slice none 0 0),1,24):=by kernel_rfl
theorem onl_congr {e:Int}{D D':List Int}(h:e=0->D=D'):onl e D=onl e D':=by
 unfold onl
 split
 ·rename_i q;exact h q
 ·rfl
theorem take_rl {L:List (List Int)}{k:Nat}(h:k<L.length):L.take (k+1)=L.take k++[rl L k]:=by
 rw[List.take_succ_eq_append_getElem h]
 simp[rl,h]
theorem gather_n (fa:Option Addr)(fc:Nat)(rs:List Rw)(l:Nat)(c:Bool)(sa:Option Addr)(sc:Nat)(sz:List Int)(da:Option Addr)(dc:Nat)(dz:List Int)(S D:List Int)(hrl:rs.length=l)(hS:gaS (rwl rs)=S)(hD:errOf S=0->gaD c sz dz (rwl rs)=D)(hf:flawE c sz dz=0)(hl:l=sz.length)(w:World)(hR:IsR w.heap.size w fa rs)(hs:IsC w.heap.size w sa sz sc)(hd:IsC w.heap.size w da dz dc):
  Calls Tryz.prog 245 #[.slice fa l fc,.agg #[.bool c,.slice sa sz.length sc,.slice da dz.length dc]] w (UB (errOf S) (onc (errOf S) c) (onl (errOf S) S) (onl (errOf S) D) w):=by
 subst hrl hS
 rw[<-onl_congr hD]
 exact gather_any fa fc rs c sa sc sz da dc dz hf hl w hR hs hd
structure Grow (L:List (List Int)) (B n:Nat) (c:Bool) (sa:Option Addr) (sc:Nat) (sz:List Int) (da:Option Addr) (dc:Nat) (dz:List Int) (w wr:World) (k:Nat) (rs:List Rw):Prop where
 len:rs.length=k
 rows:rwl rs=L.take k
 row:wr.rowIs B 25 n (fun j=>rv (rwa rs j))
 new:NewR (B+1) wr rs
 arr:Abx wr w.heap.size (.bool c) (.slice sa sz.length sc) (.slice da dz.length dc)
 res:Abx wr (w.heap.size+1) (.bool false) (.slice none 0 0) (.slice none 0 0)
 bel:Below w.heap.size w wr
theorem Grow.next {L:List (List Int)}{B n:Nat}{c:Bool}{sa:Option Addr}{sc:Nat}{sz:List Int}{da:Option Addr}{dc:Nat}{dz:List Int}{w wr:World}{k:Nat}{rs:List Rw}(h:Grow L B n c sa sc sz da dc dz w wr k rs)(hB:B=w.heap.size+1+1)(hk:k<L.length){w2:World}{g:Option Addr}{gc:Nat}{z:List Int}(hz:rl L k=z)(hN:NewC wr.heap.size w2 g z gc)(hb:Below wr.heap.size wr w2):
  Grow L B n c sa sc sz da dc dz w (w2.setCell ⟨B,k,none⟩ (.slice g z.length gc)) (k+1) (rs++[((g,gc),z)]):=by
 have hlt:B<wr.heap.size:=h.row.lt
 have hrow2:w2.rowIs B 25 n (fun j=>rv (rwa rs j)):=h.row.of_block (hb.block B hlt)
 refine⟨by simp[h.len],by rw[rwl_snoc,h.rows,take_rl hk,hz],?_,?_,?_,?_,?_⟩
 ·have:=row_snoc g gc z hrow2
  rw[h.len] at this
  exact this
 ·exact ((h.new.go hb).snoc (hN.low (by omega))).set (p:=⟨B,k,none⟩) (by show B<B+1;omega) _
 ·exact (h.arr.go hb).ot (a:=⟨B,k,none⟩) (by show w.heap.size≠B;omega) _
 ·exact (h.res.go hb).ot (a:=⟨B,k,none⟩) (by show w.heap.size+1≠B;omega) _
 ·exact (h.bel.trans (hb.mono h.bel.size)).setCell (p:=⟨B,k,none⟩) (by show w.heap.size<=B;omega) _
theorem Grow.start (L:List (List Int))(n:Nat)(c:Bool)(sa:Option Addr)(sc:Nat)(sz:List Int)(da:Option Addr)(dc:Nat)(dz:List Int)(w:World):
  Grow L (w.heap.size+1+1) n c sa sc sz da dc dz w (((w.alloc (.cells #[.bool c,.slice sa sz.length sc,.slice da dz.length dc] 27)).alloc (.cells #[.bool false,.slice none 0 0,.slice none 0 0] 27)).alloc (.cells (madeCells #[.slice none 0 0] n) 25)) 0 []:=by
 have HB0:Below w.heap.size w ((w.alloc (.cells #[.bool c,.slice sa sz.length sc,.slice da dz.length dc] 27)).alloc (.cells #[.bool false,.slice none 0 0,.slice none 0 0] 27)):=((Below.refl _ w).alloc (Nat.le_refl _) _).alloc (by simp) _
 have pa:=(Abx.new w (.bool c) (.slice sa sz.length sc) (.slice da dz.length dc)).al (.cells #[.bool false,.slice none 0 0,.slice none 0 0] 27)
 have pr:=Abx.new1 w (.cells #[.bool c,.slice sa sz.length sc,.slice da dz.length dc] 27) (.bool false) (.slice none 0 0) (.slice none 0 0)
 have r0:=World.rowIs_made ((w.alloc (.cells #[.bool c,.slice sa sz.length sc,.slice da dz.length dc] 27)).alloc (.cells #[.bool false,.slice none 0 0,.slice none 0 0] 27)) (.slice none 0 0) n 25
 simp only[World.size_alloc] at r0
 exact⟨rfl,rfl,r0.congr (fun j _=>rfl),NewR.nil _ _,pa.al _,pr.al _,HB0.alloc HB0.size _⟩
theorem ends_any (na:Option Addr)(nc:Nat)(n:List Int)(c:Bool)(sa:Option Addr)(sc:Nat)(sz:List Int)(da:Option Addr)(dc:Nat)(dz:List Int)(hf:flawE c sz dz=0)(hl:n.length=sz.length)(hn:∀ k,k<n.length->-4096<=nth n k/\nth n k<=4096)(w:World)(hI:IsInts w.heap.size w na n)(hs:IsC w.heap.size w sa sz sc)(hd:IsC w.heap.size w da dz dc):
  Calls Tryz.prog 194 #[.slice na sz.length nc,.agg #[.bool c,.slice sa sz.length sc,.slice da dz.length dc]] w (UB (errOf (tkS n)) (onc (errOf (tkS n)) c) (onl (errOf (tkS n)) (tkS n)) (onl (errOf (tkS n)) (tkD n c sz dz)) w):=by
 have HI:Hid (IsC w.heap.size w sa sz sc/\IsC w.heap.size w da dz dc/\IsInts w.heap.size w na n):=⟨hs,hd,hI⟩
 have HF:Hid (flawE c sz dz=0):=hf
 have HL:Hid (n.length=sz.length):=hl
 have HN:Hid (∀ k,k<n.length->-4096<=nth n k/\nth n k<=4096):=hn
 have HA:Hid (AllIn sz):=(errOf_zero.1 (flawE_zero hf).1).2.1
 have hl6:sz.length<=6:=(flawE_short hf).1
 clear hs hd hI hf hl hn
 have HG:Hid (Grow (tkR sz n) (w.heap.size+1+1) sz.length c sa sc sz da dc dz w (((w.alloc (.cells #[.bool c,.slice sa sz.length sc,.slice da dz.length dc] 27)).alloc (.cells #[.bool false,.slice none 0 0,.slice none 0 0] 27)).alloc (.cells (madeCells #[.slice none 0 0] sz.length) 25)) 0 []):=Grow.start _ _ _ _ _ _ _ _ _ _
 have e1:=HG.arr.c1
 have hmk:=run_make_row' (P:=Tryz.prog) 161 25 (.slice none 0 0) 24 Tryz.underlying161 Tryz.infoSl rfl .i64 .i64 sz.length (by omega) (by omega)
 go_enter Tryz.func194,Tryz.ntmps194
 go_wp2_with fail
 clear hmk e1
 go_loopw [15] (fun i wr=>∃ (k:Nat) (rs:List Rw),k<=sz.length/\i=.int .i64 k/\Grow (tkR sz n) (w.heap.size+1+1) sz.length c sa sc sz da dc dz w wr k rs) (fun i _=>sz.length-(intOf i).toNat)
 case atStart=>exact⟨0,[],Nat.zero_le _,rfl,HG.out⟩
 case round=>
  obtain⟨k,rs,hk,rfl,hG⟩:=hrel
  clear HG
  have HG:Hid (Grow (tkR sz n) (w.heap.size+1+1) sz.length c sa sc sz da dc dz w wr k rs):=hG
  clear hG
  by_cases hlt:k<sz.length
  ·have hkz:k<sz.length:=hlt
   have hkn:k<n.length:=by rw[HL.out];exact hlt
   obtain⟨bs,os,rfl,hbs,hcS⟩:=(HI.1.1.below HG.bel).at hkz
   have cs:=hcS k hkz
   obtain⟨bn,on,rfl,hbn,hcN⟩:=(HI.2.2.below HG.bel).at hkn
   have cn:=hcN k hkn
   have hn:=HN.out k hkn
   have hz:=HA.nth k
   have HZ:Hid (rl (tkR sz n) k=endL (nth n k) (nth sz k)):=tkR_at sz n hkn
   clear hcS hcN
   generalize nth n k=N0 at *
   generalize nth sz k=Z0 at *
   go_wp2_with fail
   refine (end_any N0 Z0 hn.1 hn.2 hz.1 hz.2 wr).mono ?_
   rintro e w2 ⟨g,gc,rfl,hE,hB⟩
   have HE:Hid (NewC wr.heap.size w2 g (endL N0 Z0) gc/\Below wr.heap.size wr w2):=⟨hE,hB⟩
   have hrow2:w2.rowIs (w.heap.size+1+1) 25 sz.length (fun j=>rv (rwa rs j)):=HG.row.of_block (hB.block (w.heap.size+1+1) HG.row.lt)
   have c2:=hrow2.cell hlt
   have f2:=hrow2.frozen k
   clear hE hB hrow2
   go_wp2_with fail
   exact⟨⟨k+1,_,by omega,by go_num,HG.next rfl (by rw[tkR_length];exact hkn) HZ.out HE.1 HE.2⟩,by simp[intOf];omega⟩
  ·obtain rfl:k=sz.length:=by omega
   have a0:=HG.arr.c0
   have a1:=HG.arr.c1
   have a2:=HG.arr.c2
   go_wp2_with fail
   refine (gather_n (some ⟨w.heap.size+1+1,0,none⟩) sz.length rs sz.length c sa sc sz da dc dz (tkS n) (tkD n c sz dz) HG.len ?_ ?_ HF.out rfl wr ?_ ((HI.1.below HG.bel).mono HG.bel.size) ((HI.2.1.below HG.bel).mono HG.bel.size)).mono ?_
   ·rw[HG.rows,List.take_of_length_le (by rw[tkR_length,HL.out];exact Nat.le_refl _)];exact tkR_S sz n
   ·intro he
    rw[HG.rows,List.take_of_length_le (by rw[tkR_length,HL.out];exact Nat.le_refl _)]
    exact tk_ga he
   ·have hr:=HG.row
    have hle:=HG.len
    rw[<-hle] at hr
    exact HG.new.is hr
   ·rintro e w3 ⟨xa,xc,ya,yc,rfl,hX,hY,hB⟩
    have HX:Hid (NewC wr.heap.size w3 xa (onl (errOf (tkS n)) (tkS n)) xc/\NewC wr.heap.size w3 ya (onl (errOf (tkS n)) (tkD n c sz dz)) yc/\Below wr.heap.size wr w3):=⟨hX,hY,hB⟩
    have R3:=HG.res.go hB
    have hwr:w.heap.size+1<wr.heap.size:=HG.res.lt
    clear hX hY hB a0 a1 a2
    generalize onl (errOf (tkS n)) (tkS n)=S at *
    generalize onl (errOf (tkS n)) (tkD n c sz dz)=D at *
    generalize onc (errOf (tkS n)) c=C at *
    generalize errOf (tkS n)=E at *
    have r0:=R3.c0
    have r1:=R3.c1
    have r2:=R3.c2
    have f0:=R3.fr 0
    have f1:=R3.fr 1
    have f2:=R3.fr 2
    go_wp2_with fail
    have F:=R3.set3 (.bool C) (.slice xa S.length xc) (.slice ya D.length yc)
    have q0:=F.c0
    have q1:=F.c1
    have q2:=F.c2
    exact bodyPost_ret (v:=.tuple #[.agg #[.bool C,.slice xa S.length xc,.slice ya D.length yc],errV E]) (by simp[results,Tryz.results194,go_sem,q0,q1,q2]) rfl ⟨xa,xc,ya,yc,rfl,(HX.1.set3 (b:=w.heap.size+1) (by omega) _ _ _).low (by omega),(HX.2.1.set3 (b:=w.heap.size+1) (by omega) _ _ _).low (by omega),bel_set3 (HG.bel.trans (HX.2.2.mono HG.bel.size)) (by omega) _ _ _⟩
theorem ends_n (na:Option Addr)(nc:Nat)(n:List Int)(sz:List Int)(l:Nat)(hnl:l=sz.length)(c:Bool)(sa:Option Addr)(sc:Nat)(da:Option Addr)(dc:Nat)(dz:List Int)(hf:flawE c sz dz=0)(hl:n.length=sz.length)(hn:∀ k,k<n.length->-4096<=nth n k/\nth n k<=4096)(w:World)(hI:IsInts w.heap.size w na n)(hs:IsC w.heap.size w sa sz sc)(hd:IsC w.heap.size w da dz dc):
  Calls Tryz.prog 194 #[.slice na l nc,.agg #[.bool c,.slice sa sz.length sc,.slice da dz.length dc]] w (UB (errOf (tkS n)) (onc (errOf (tkS n)) c) (onl (errOf (tkS n)) (tkS n)) (onl (errOf (tkS n)) (tkD n c sz dz)) w):=by
 subst hnl
 exact ends_any na nc n c sa sc sz da dc dz hf hl hn w hI hs hd
theorem alongc_any (x:Nat)(ia:Option Addr)(ic:Nat)(L:List Int)(l:Nat)(hLl:L.length=l)(c:Bool)(sa:Option Addr)(sc:Nat)(sz:List Int)(da:Option Addr)(dc:Nat)(dz:List Int)(S D:List Int)(hf:flawE c sz dz=0)(hx:x<sz.length)(hS:gaS (alR sz x L)=S)(hD:errOf S=0->gaD c sz dz (alR sz x L)=D)(w:World)(hI:IsC w.heap.size w ia L ic)(hs:IsC w.heap.size w sa sz sc)(hd:IsC w.heap.size w da dz dc):
  Calls Tryz.prog 210 #[.int .i64 (x:Nat),.slice ia l ic,.agg #[.bool c,.slice sa sz.length sc,.slice da dz.length dc]] w (UB (errOf S) (onc (errOf S) c) (onl (errOf S) S) (onl (errOf S) D) w):=by
 subst hLl
 have HI:Hid (IsC w.heap.size w sa sz sc/\IsC w.heap.size w da dz dc/\IsC w.heap.size w ia L ic):=⟨hs,hd,hI⟩
 have HF:Hid (flawE c sz dz=0/\gaS (alR sz x L)=S/\(errOf S=0->gaD c sz dz (alR sz x L)=D)):=⟨hf,hS,hD⟩
 have HA:Hid (AllIn sz):=(errOf_zero.1 (flawE_zero hf).1).2.1
 have hl6:sz.length<=6:=(flawE_short hf).1
 clear hs hd hI hf hS hD
 have HG:Hid (Grow (idR sz) (w.heap.size+1+1) sz.length c sa sc sz da dc dz w (((w.alloc (.cells #[.bool c,.slice sa sz.length sc,.slice da dz.length dc] 27)).alloc (.cells #[.bool false,.slice none 0 0,.slice none 0 0] 27)).alloc (.cells (madeCells #[.slice none 0 0] sz.length) 25)) 0 []):=Grow.start _ _ _ _ _ _ _ _ _ _
 have e1:=HG.arr.c1
 have e1':=((Abx.new w (.bool c) (.slice sa sz.length sc) (.slice da dz.length dc)).al (.cells #[.bool false,.slice none 0 0,.slice none 0 0] 27)).c1
 have hmk:=run_make_row' (P:=Tryz.prog) 161 25 (.slice none 0 0) 24 Tryz.underlying161 Tryz.infoSl rfl .i64 .i64 sz.length (by omega) (by omega)
 go_enter Tryz.func210,Tryz.ntmps210
 go_wp2_with fail
 clear hmk e1 e1'
 go_loopw [18] (fun i wr=>∃ (k:Nat) (rs:List Rw),k<=sz.length/\i=.int .i64 k/\Grow (idR sz) (w.heap.size+1+1) sz.length c sa sc sz da dc dz w wr k rs) (fun i _=>sz.length-(intOf i).toNat)
 case atStart=>exact⟨0,[],Nat.zero_le _,rfl,HG.out⟩
 case round=>
  obtain⟨k,rs,hk,rfl,hG⟩:=hrel
  clear HG
  have HG:Hid (Grow (idR sz) (w.heap.size+1+1) sz.length c sa sc sz da dc dz w wr k rs):=hG
  clear hG
  by_cases hlt:k<sz.length
  ·obtain⟨bs,os,rfl,hbs,hcS⟩:=(HI.1.1.below HG.bel).at hlt
   have cs:=hcS k hlt
   have hz:=HA.nth k
   have HZ:Hid (rl (idR sz) k=runL 0 (nth sz k).toNat):=idR_at sz hlt
   clear hcS
   generalize nth sz k=Z0 at *
   go_wp2_with fail
   refine (run_n 0 Z0 Z0.toNat (by omega) (by omega) (by omega) (by omega) wr).mono ?_
   rintro e w2 ⟨g,gc,rfl,hE,hB⟩
   have HE:Hid (NewC wr.heap.size w2 g (runL 0 Z0.toNat) gc/\Below wr.heap.size wr w2):=⟨hE,hB⟩
   have hrow2:w2.rowIs (w.heap.size+1+1) 25 sz.length (fun j=>rv (rwa rs j)):=HG.row.of_block (hB.block (w.heap.size+1+1) HG.row.lt)
   have c2:=hrow2.cell hlt
   have f2:=hrow2.frozen k
   clear hE hB hrow2
   go_wp2_with fail
   have hG:=HG.next rfl (by rw[idR_length];exact hlt) HZ.out HE.1 HE.2
   rw[runL_length] at hG
   exact⟨⟨k+1,_,by omega,by go_num,hG⟩,by simp[intOf];omega⟩
  ·obtain rfl:k=sz.length:=by omega
   obtain⟨y,hy⟩:∃ y,y=wr.setCell ⟨w.heap.size+1+1,x,none⟩ (.slice ia L.length ic):=⟨_,rfl⟩
   have hxr:x<rs.length:=by rw[HG.len];exact hx
   have hBy:Below w.heap.size w y:=by rw[hy];exact HG.bel.setCell (p:=⟨w.heap.size+1+1,x,none⟩) (by show w.heap.size<=w.heap.size+1+1;omega) _
   have hAy:Abx y w.heap.size (.bool c) (.slice sa sz.length sc) (.slice da dz.length dc):=by rw[hy];exact HG.arr.ot (a:=⟨w.heap.size+1+1,x,none⟩) (by show w.heap.size≠w.heap.size+1+1;omega) _
   have hRy:Abx y (w.heap.size+1) (.bool false) (.slice none 0 0) (.slice none 0 0):=by rw[hy];exact HG.res.ot (a:=⟨w.heap.size+1+1,x,none⟩) (by show w.heap.size+1≠w.heap.size+1+1;omega) _
   have hWy:y.rowIs (w.heap.size+1+1) 25 sz.length (fun j=>rv (rwa (rs.set x ((ia,ic),L)) j)):=by rw[hy];exact row_setR ia ic L hxr HG.row
   have hNy:NewR (w.heap.size+1+1+1) y rs:=by rw[hy];exact HG.new.set (p:=⟨w.heap.size+1+1,x,none⟩) (by show w.heap.size+1+1<w.heap.size+1+1+1;omega) _
   have hIL:IsC y.heap.size y ia L ic:=(HI.2.2.below hBy).mono hBy.size
   have HY:Hid (IsR y.heap.size y (some ⟨w.heap.size+1+1,0,none⟩) (rs.set x ((ia,ic),L))/\(rs.set x ((ia,ic),L)).length=sz.length/\rwl (rs.set x ((ia,ic),L))=alR sz x L):=by
    refine⟨⟨.inr ⟨w.heap.size+1+1,0,rfl,hWy.lt,fun j hj=>?_⟩,fun j hj=>?_⟩,by rw[List.length_set];exact HG.len,?_⟩
    ·rw[Nat.zero_add]
     rw[List.length_set,HG.len] at hj
     exact hWy.cell hj
    ·rw[List.length_set] at hj
     rw[rwa_set _ _ _ hxr]
     split
     ·exact hIL
     ·exact (hNy j hj).ints
    ·rw[rwl_set,HG.rows,List.take_of_length_le (by rw[idR_length];exact Nat.le_refl _)]
     rfl
   have HYB:Hid (Below w.heap.size w y/\Abx y (w.heap.size+1) (.bool false) (.slice none 0 0) (.slice none 0 0)):=⟨hBy,hRy⟩
   have c2:=HG.row.cell hx
   have f2:=HG.row.frozen x
   have a0:=hAy.c0
   have a1:=hAy.c1
   have a2:=hAy.c2
   rw[hy] at a0 a1 a2
   have HHY:Hid (y=wr.setCell ⟨w.heap.size+1+1,x,none⟩ (.slice ia L.length ic)):=hy
   clear hy hBy hAy hRy hWy hNy hIL hxr
   go_wp2_with fail
   rw[<-HHY.out]
   clear a0 a1 a2 c2 f2 HHY HG
   refine (gather_n (some ⟨w.heap.size+1+1,0,none⟩) sz.length (rs.set x ((ia,ic),L)) sz.length c sa sc sz da dc dz S D HY.2.1 (by rw[HY.2.2];exact HF.2.1) (by rw[HY.2.2];exact HF.2.2) HF.1 rfl y HY.1 ((HI.1.below HYB.1).mono HYB.1.size) ((HI.2.1.below HYB.1).mono HYB.1.size)).mono ?_
   rintro e w3 ⟨xa,xc,ya,yc,rfl,hX,hY,hB⟩
   have HX:Hid (NewC y.heap.size w3 xa (onl (errOf S) S) xc/\NewC y.heap.size w3 ya (onl (errOf S) D) yc/\Below y.heap.size y w3):=⟨hX,hY,hB⟩
   have R3:=HYB.2.go hB
   have hwr:w.heap.size+1<y.heap.size:=HYB.2.lt
   clear hX hY hB
   generalize onl (errOf S) S=S' at *
   generalize onl (errOf S) D=D' at *
   generalize onc (errOf S) c=C at *
   generalize errOf S=E at *
   have r0:=R3.c0
   have r1:=R3.c1
   have r2:=R3.c2
   have f0:=R3.fr 0
   have f1:=R3.fr 1
   have f2:=R3.fr 2
   go_wp2_with fail
   have F:=R3.set3 (.bool C) (.slice xa S'.length xc) (.slice ya D'.length yc)
   have q0:=F.c0
   have q1:=F.c1
   have q2:=F.c2
   exact bodyPost_ret (v:=.tuple #[.agg #[.bool C,.slice xa S'.length xc,.slice ya D'.length yc],errV E]) (by simp[results,Tryz.results210,go_sem,q0,q1,q2]) rfl ⟨xa,xc,ya,yc,rfl,(HX.1.set3 (b:=w.heap.size+1) (by omega) _ _ _).low (by omega),(HX.2.1.set3 (b:=w.heap.size+1) (by omega) _ _ _).low (by omega),bel_set3 (HYB.1.trans (HX.2.2.mono HYB.1.size)) (by omega) _ _ _⟩
theorem tkE_num {n:List Int}{c:Bool}{s dz:List Int}(h:drE n c s dz≠0):tkE n c s dz=drE n c s dz:=by
 unfold tkE drE at *
 by_cases h1:flawE c s dz=0<;>by_cases h2:n.length=s.length<;>simp_all
theorem tkE_big {n:List Int}{c:Bool}{s dz:List Int}(h:drE n c s dz=0){k:Nat}(hk:k<n.length)(hb:4096<nth n k\/nth n k < -4096):tkE n c s dz=7:=by
 obtain⟨h1,h2⟩:=drE_zero.1 h
 have hB:tkBig n=true:=by
  unfold tkBig
  rw[List.any_eq_true]
  exact⟨nth n k,nth_mem n k hk,by simpa using hb⟩
 unfold tkE
 rw[if_neg (by simpa using h1),if_neg (by simpa using h2),if_pos hB]
theorem tkE_fit {n:List Int}{c:Bool}{s dz:List Int}(h:drE n c s dz=0)(hb:∀ k,k<n.length->-4096<=nth n k/\nth n k<=4096):tkE n c s dz=errOf (tkS n):=by
 obtain⟨h1,h2⟩:=drE_zero.1 h
 have hB:tkBig n=false:=by
  cases hc:tkBig n
  ·rfl
  ·unfold tkBig at hc
   rw[List.any_eq_true] at hc
   obtain⟨y,hy,hb'⟩:=hc
   obtain⟨j,hj,rfl⟩:=List.mem_iff_getElem.1 hy
   rw[<-nth_get n j hj] at hb'
   have:=hb j hj
   simp at hb'
   omega
 unfold tkE
 rw[if_neg (by simpa using h1),if_neg (by simpa using h2),if_neg (by rw[hB];decide)]
theorem tk_holds:CTk:=by
 intro na nc n c sa sc sz da dc dz w h0 T0 h1 h2 hn hs hd T
 have HI:Hid (IsC w.heap.size w sa sz sc/\IsC w.heap.size w da dz dc/\IsC w.heap.size w na n nc):=⟨hs,hd,hn⟩
 clear hs hd hn T
 have HB0:Hid (Below w.heap.size w ((w.alloc (.cells #[.bool c,.slice sa sz.length sc,.slice da dz.length dc] 27)).alloc (.cells #[.bool false,.slice none 0 0,.slice none 0 0] 27))):=((Below.refl _ w).alloc (Nat.le_refl _) _).alloc (by simp) _
 have pa:=(Abx.new w (.bool c) (.slice sa sz.length sc) (.slice da dz.length dc)).al (.cells #[.bool false,.slice none 0 0,.slice none 0 0] 27)
 have pr:=Abx.new1 w (.cells #[.bool c,.slice sa sz.length sc,.slice da dz.length dc] 27) (.bool false) (.slice none 0 0) (.slice none 0 0)
 have p0:=pa.c0
 have p1:=pa.c1
 have p2:=pa.c2
 by_cases h3:drE n c sz dz=0
 ·have H3:Hid (drE n c sz dz=0):=h3
  clear h3
  go_enter Tryz.func122,Tryz.ntmps122
  go_wp2_with fail
  refine (num_ok na nc n c sa sc sz da dc dz h1 h2 _ ((HI.1.1.below HB0.out).mono HB0.size) ((HI.2.1.1.below HB0.out).mono HB0.size) H3.out).mono ?_
  rintro e v1 ⟨rfl,hC⟩
  have HB1:Hid (Below w.heap.size w v1):=HB0.trans (hC.mono HB0.size)
  have HP:Hid (Abx v1 w.heap.size (.bool c) (.slice sa sz.length sc) (.slice da dz.length dc)):=pa.go hC
  have HR:Hid (Abx v1 (w.heap.size+1) (.bool false) (.slice none 0 0) (.slice none 0 0)):=pr.go hC
  clear hC pa pr p0 p1 p2 HB0
  go_wp2_with fail
  go_loopw [18] (fun i wr=>∃ k:Nat,k<=n.length/\i=.int .i64 k/\Hid (∀ j,j<k->-4096<=nth n j/\nth n j<=4096)/\wr=v1) (fun i _=>n.length-(intOf i).toNat)
  case atStart=>exact⟨0,Nat.zero_le _,rfl,fun j hj=>absurd hj (Nat.not_lt_zero j),rfl⟩
  case round=>
   obtain⟨k,hk,rfl,HA,hv⟩:=hrel
   obtain rfl:=hv.symm
   by_cases hlt:k<n.length
   ·obtain⟨bn,on,rfl,hbn,hcN⟩:=(HI.2.2.1.below HB1.out).at hlt
    have cn:=hcN k hlt
    have t64:=T0 k
    clear hcN
    by_cases hb:4096<nth n k
    ·have HE:Hid (tkE n c sz dz=7):=tkE_big H3.out hlt (.inl hb)
     have r0:=HR.c0
     have r1:=HR.c1
     have r2:=HR.c2
     have f0:=HR.fr 0
     have f1:=HR.fr 1
     have f2:=HR.fr 2
     go_wp2_with fail
     have F:=HR.set3 (.bool false) (.slice none 0 0) (.slice none 0 0)
     have q0:=F.c0
     have q1:=F.c1
     have q2:=F.c2
     exact bodyPost_ret (v:=.tuple #[.agg #[.bool false,.slice none 0 0,.slice none 0 0],.iface 28 (.int .i64 7)]) (by simp[results,Tryz.results122,go_sem,q0,q1,q2]) rfl (UB.mkno HE.out (by decide) (bel_set3 HB1.out (by omega) _ _ _))
    ·by_cases hb2:nth n k < -4096
     ·have HE:Hid (tkE n c sz dz=7):=tkE_big H3.out hlt (.inr hb2)
      have r0:=HR.c0
      have r1:=HR.c1
      have r2:=HR.c2
      have f0:=HR.fr 0
      have f1:=HR.fr 1
      have f2:=HR.fr 2
      go_wp2_with fail
      have F:=HR.set3 (.bool false) (.slice none 0 0) (.slice none 0 0)
      have q0:=F.c0
      have q1:=F.c1
      have q2:=F.c2
      exact bodyPost_ret (v:=.tuple #[.agg #[.bool false,.slice none 0 0,.slice none 0 0],.iface 28 (.int .i64 7)]) (by simp[results,Tryz.results122,go_sem,q0,q1,q2]) rfl (UB.mkno HE.out (by decide) (bel_set3 HB1.out (by omega) _ _ _))
     ·have HA2:Hid (∀ j,j<k+1->-4096<=nth n j/\nth n j<=4096):=fun j hj=>by
       by_cases e:j=k
       ·subst e;exact⟨by omega,by omega⟩
       ·exact HA.out j (by omega)
      go_wp2_with fail
      exact⟨⟨k+1,by omega,by go_num,HA2,by first | rfl | trivial⟩,by simp[intOf];omega⟩
   ·obtain rfl:k=n.length:=by omega
    have HE:Hid (tkE n c sz dz=errOf (tkS n)):=tkE_fit H3.out HA.out
    have HD:Hid (flawE c sz dz=0/\n.length=sz.length):=drE_zero.1 H3.out
    have a0:=HP.c0
    have a1:=HP.c1
    have a2:=HP.c2
    go_wp2_with fail
    refine (ends_n na nc n sz n.length HD.2 c sa sc da dc dz HD.1 HD.2 HA.out v1 ((HI.2.2.1.below HB1.out).mono HB1.size) ((HI.1.below HB1.out).mono HB1.size) ((HI.2.1.below HB1.out).mono HB1.size)).mono ?_
    clear a0 a1 a2
    rintro e w3 ⟨xa,xc,ya,yc,rfl,hX,hY,hB⟩
    have HX:Hid (NewC v1.heap.size w3 xa (onl (errOf (tkS n)) (tkS n)) xc/\NewC v1.heap.size w3 ya (onl (errOf (tkS n)) (tkD n c sz dz)) yc/\Below v1.heap.size v1 w3):=⟨hX,hY,hB⟩
    have HG6:Hid (tkE n c sz dz=errOf (tkS n)/\onc (tkE n c sz dz) c=onc (errOf (tkS n)) c/\tkS6 n c sz dz=onl (errOf (tkS n)) (tkS n)/\tkD6 n c sz dz=onl (errOf (tkS n)) (tkD n c sz dz)):=by unfold tkS6 tkD6;rw[HE.out];exact⟨rfl,rfl,rfl,rfl⟩
    have R3:=HR.go hB
    have hwr:w.heap.size+1<v1.heap.size:=HR.lt
    clear hX hY hB HE
    generalize onl (errOf (tkS n)) (tkS n)=S' at *
    generalize onl (errOf (tkS n)) (tkD n c sz dz)=D' at *
    generalize onc (errOf (tkS n)) c=C' at *
    generalize errOf (tkS n)=E' at *
    have r0:=R3.c0
    have r1:=R3.c1
    have r2:=R3.c2
    have f0:=R3.fr 0
    have f1:=R3.fr 1
    have f2:=R3.fr 2
    go_wp2_with fail
    have F:=R3.set3 (.bool C') (.slice xa S'.length xc) (.slice ya D'.length yc)
    have q0:=F.c0
    have q1:=F.c1
    have q2:=F.c2
    have k1:=HX.1
    have k2:=HX.2.1
    have k3:=HX.2.2
    have hX1:=(k1.set3 (b:=w.heap.size+1) (by omega) (.bool C') (.slice xa S'.length xc) (.slice ya D'.length yc)).low (lo':=w.heap.size) (by omega)
    have hX2:=(k2.set3 (b:=w.heap.size+1) (by omega) (.bool C') (.slice xa S'.length xc) (.slice ya D'.length yc)).low (lo':=w.heap.size) (by omega)
    have hX3:=bel_set3 (HB1.trans (k3.mono HB1.size)) (b:=w.heap.size+1) (by omega) (.bool C') (.slice xa S'.length xc) (.slice ya D'.length yc)
    exact bodyPost_ret (v:=.tuple #[.agg #[.bool C',.slice xa S'.length xc,.slice ya D'.length yc],errV E']) (by simp[results,Tryz.results122,go_sem,q0,q1,q2]) rfl (by rw[HG6.2.2.1,HG6.2.2.2,HG6.2.1,HG6.1];exact⟨xa,xc,ya,yc,rfl,hX1,hX2,hX3⟩)
 ·have H3:Hid (drE n c sz dz≠0):=h3
  have HE:Hid (tkE n c sz dz=drE n c sz dz):=tkE_num h3
  clear h3
  go_enter Tryz.func122,Tryz.ntmps122
  go_wp2_with fail
  refine (num_no na nc n c sa sc sz da dc dz h0 h1 h2 _ ((HI.1.1.below HB0.out).mono HB0.size) ((HI.2.1.1.below HB0.out).mono HB0.size) H3.out).mono ?_
  rintro e v1 ⟨rfl,hC⟩
  have HB1:Hid (Below w.heap.size w v1):=HB0.trans (hC.mono HB0.size)
  have HP:Hid (Abx v1 w.heap.size (.bool c) (.slice sa sz.length sc) (.slice da dz.length dc)):=pa.go hC
  have HR:Hid (Abx v1 (w.heap.size+1) (.bool false) (.slice none 0 0) (.slice none 0 0)):=pr.go hC
  clear hC pa pr p0 p1 p2 HB0
  have r0:=HR.c0
  have r1:=HR.c1
  have r2:=HR.c2
  have f0:=HR.fr 0
  have f1:=HR.fr 1
  have f2:=HR.fr 2
  go_wp2_with fail
  have F:=HR.set3 (.bool false) (.slice none 0 0) (.slice none 0 0)
  have q0:=F.c0
  have q1:=F.c1
  have q2:=F.c2
  exact bodyPost_ret (v:=.tuple #[.agg #[.bool false,.slice none 0 0,.slice none 0 0],.iface 28 (.int .i64 (drE n c sz dz))]) (by simp[results,Tryz.results122,go_sem,q0,q1,q2]) rfl (UB.mkno HE.out H3.out (bel_set3 HB1.out (by omega) _ _ _))
theorem rst_bd {n l:Int}(h0:0<=l)(h1:l<=4096):-4096<=rst n l/\rst n l<=4096:=by
 unfold rst
 split<;>omega
theorem dr_holds:CDr:=by
 intro na nc n c sa sc sz da dc dz w h0 T0 h1 h2 hn hs hd T
 have HI:Hid (IsC w.heap.size w sa sz sc/\IsC w.heap.size w da dz dc/\IsC w.heap.size w na n nc):=⟨hs,hd,hn⟩
 clear hs hd hn T
 have HB0:Hid (Below w.heap.size w ((w.alloc (.cells #[.bool c,.slice sa sz.length sc,.slice da dz.length dc] 27)).alloc (.cells #[.bool false,.slice none 0 0,.slice none 0 0] 27))):=((Below.refl _ w).alloc (Nat.le_refl _) _).alloc (by simp) _
 have pa:=(Abx.new w (.bool c) (.slice sa sz.length sc) (.slice da dz.length dc)).al (.cells #[.bool false,.slice none 0 0,.slice none 0 0] 27)
 have pr:=Abx.new1 w (.cells #[.bool c,.slice sa sz.length sc,.slice da dz.length dc] 27) (.bool false) (.slice none 0 0) (.slice none 0 0)
 have p0:=pa.c0
 have p1:=pa.c1
 have p2:=pa.c2
 by_cases h3:drE n c sz dz=0
 ·have H3:Hid (drE n c sz dz=0):=h3
  have HD:Hid (flawE c sz dz=0/\n.length=sz.length):=drE_zero.1 h3
  have HA:Hid (AllIn sz):=(errOf_zero.1 (flawE_zero HD.1).1).2.1
  have hl6:sz.length<=6:=(flawE_short HD.1).1
  have hn6:n.length<=6:=by have:=HD.2;omega
  clear h3
  go_enter Tryz.func123,Tryz.ntmps123
  go_wp2_with fail
  refine (num_ok na nc n c sa sc sz da dc dz h1 h2 _ ((HI.1.1.below HB0.out).mono HB0.size) ((HI.2.1.1.below HB0.out).mono HB0.size) H3.out).mono ?_
  rintro e v1 ⟨rfl,hC⟩
  have HB1:Hid (Below w.heap.size w v1):=HB0.trans (hC.mono HB0.size)
  have HP:Hid (Abx v1 w.heap.size (.bool c) (.slice sa sz.length sc) (.slice da dz.length dc)):=pa.go hC
  have HR:Hid (Abx v1 (w.heap.size+1) (.bool false) (.slice none 0 0) (.slice none 0 0)):=pr.go hC
  clear hC pa pr p0 p1 p2 HB0
  have hmk:=run_make_row' (P:=Tryz.prog) 25 3 (.int .i64 0) 8 Tryz.underlying25 Tryz.infoInt rfl .i64 .i64 n.length (by omega) (by omega)
  have e1:=(HP.al (.cells (madeCells #[.int .i64 0] n.length) 3)).c1
  go_wp2_with fail
  clear hmk e1
  go_loopw [23] (fun i wr=>∃ k:Nat,k<=sz.length/\i=.int .i64 k/\wr.rowIs v1.heap.size 3 n.length (upTo (nth (lft sz n)) k)/\Below v1.heap.size v1 wr) (fun i _=>sz.length-(intOf i).toNat)
  case atStart=>
   exact⟨0,Nat.zero_le _,rfl,(World.rowIs_made v1 (.int .i64 0) n.length 3).congr (fun j _=>by simp[upTo]),(Below.refl _ v1).alloc (Nat.le_refl _) _⟩
  case round=>
   obtain⟨k,hk,rfl,hrow,hBv⟩:=hrel
   have hB:Below w.heap.size w wr:=HB1.trans (hBv.mono HB1.size)
   by_cases hlt:k<sz.length
   ·have hkn:k<n.length:=by rw[HD.2];exact hlt
    obtain⟨bs,os,rfl,hbs,hcS⟩:=(HI.1.1.below hB).at hlt
    have cs:=hcS k hlt
    obtain⟨bn,on,rfl,hbn,hcN⟩:=(HI.2.2.1.below hB).at hkn
    have cn:=hcN k hkn
    have hz:=HA.nth k
    have HT:Hid (In64 (nth n k)):=T0 k
    have HV:Hid (rst (nth n k) (nth sz k)=nth (lft sz n) k):=(lft_nth sz n hkn).symm
    have c2:=hrow.cell hkn
    have f2:=hrow.frozen k
    have HQ:Hid (wr.rowIs v1.heap.size 3 n.length (upTo (nth (lft sz n)) k)/\Below v1.heap.size v1 wr):=⟨hrow,hBv⟩
    clear hrow hBv hB hcS hcN
    generalize nth n k=N0 at *
    generalize nth sz k=Z0 at *
    go_wp2_with fail
    refine (rest_any N0 Z0 HT.out hz.1 hz.2 wr).mono ?_
    rintro e w2 ⟨rfl,rfl⟩
    go_wp2_with fail
    refine⟨⟨k+1,by omega,by go_num,upTo_set HQ.1 _ HV.out,HQ.2.setCell (p:=⟨v1.heap.size,k,none⟩) (Nat.le_refl _) _⟩,by simp[intOf];omega⟩
   ·obtain rfl:k=sz.length:=by omega
    rw[<-HD.2] at hrow
    have HY:Hid (NewInts v1.heap.size wr (some ⟨v1.heap.size,0,none⟩) (lft sz n)):=upTo_new hrow (Nat.le_refl _) _ (lft_length sz n) (fun j hj=>rfl)
    have HBw:Hid (Below w.heap.size w wr):=hB
    have HRw:Hid (Abx wr (w.heap.size+1) (.bool false) (.slice none 0 0) (.slice none 0 0)):=HR.go hBv
    have hPw:=HP.go hBv
    have a0:=hPw.c0
    have a1:=hPw.c1
    have a2:=hPw.c2
    have HE:Hid (drE n c sz dz=errOf (tkS (lft sz n))/\drS6 n c sz dz=onl (errOf (tkS (lft sz n))) (tkS (lft sz n))/\drD6 n c sz dz=onl (errOf (tkS (lft sz n))) (tkD (lft sz n) c sz dz)):=by
     have e1:=lft_S HA.out HD.2
     have e2:=lft_U HA.out HD.2
     have e3:=dr_err H3.out
     unfold drS6 drD6 tkD drD
     rw[e1,e2,e3,H3.out]
     exact⟨rfl,rfl,rfl⟩
    clear hrow hBv hB hPw
    go_wp2_with fail
    refine (ends_n (some ⟨v1.heap.size,0,none⟩) n.length (lft sz n) sz n.length HD.2 c sa sc da dc dz HD.1 (by rw[lft_length];exact HD.2) (fun k hk=>by rw[lft_length] at hk;rw[lft_nth sz n hk];exact rst_bd (HA.nth k).1 (HA.nth k).2) wr HY.ints ((HI.1.below HBw.out).mono HBw.size) ((HI.2.1.below HBw.out).mono HBw.size)).mono ?_
    clear a0 a1 a2
    rintro e w3 ⟨xa,xc,ya,yc,rfl,hX,hY,hB⟩
    have HX:Hid (NewC wr.heap.size w3 xa (onl (errOf (tkS (lft sz n))) (tkS (lft sz n))) xc/\NewC wr.heap.size w3 ya (onl (errOf (tkS (lft sz n))) (tkD (lft sz n) c sz dz)) yc/\Below wr.heap.size wr w3):=⟨hX,hY,hB⟩
    have HG6:Hid (drE n c sz dz=errOf (tkS (lft sz n))/\onc (drE n c sz dz) c=onc (errOf (tkS (lft sz n))) c/\drS6 n c sz dz=onl (errOf (tkS (lft sz n))) (tkS (lft sz n))/\drD6 n c sz dz=onl (errOf (tkS (lft sz n))) (tkD (lft sz n) c sz dz)):=⟨HE.1,by rw[HE.1],HE.2.1,HE.2.2⟩
    have R3:=HRw.go hB
    have hwr:w.heap.size+1<wr.heap.size:=HRw.lt
    clear hX hY hB HE
    generalize onl (errOf (tkS (lft sz n))) (tkS (lft sz n))=S' at *
    generalize onl (errOf (tkS (lft sz n))) (tkD (lft sz n) c sz dz)=D' at *
    generalize onc (errOf (tkS (lft sz n))) c=C' at *
    generalize errOf (tkS (lft sz n))=E' at *
    have r0:=R3.c0
    have r1:=R3.c1
    have r2:=R3.c2
    have f0:=R3.fr 0
    have f1:=R3.fr 1
    have f2:=R3.fr 2
    go_wp2_with fail
    have F:=R3.set3 (.bool C') (.slice xa S'.length xc) (.slice ya D'.length yc)
    have q0:=F.c0
    have q1:=F.c1
    have q2:=F.c2
    have k1:=HX.1
    have k2:=HX.2.1
    have k3:=HX.2.2
    have hX1:=(k1.set3 (b:=w.heap.size+1) (by omega) (.bool C') (.slice xa S'.length xc) (.slice ya D'.length yc)).low (lo':=w.heap.size) (by omega)
    have hX2:=(k2.set3 (b:=w.heap.size+1) (by omega) (.bool C') (.slice xa S'.length xc) (.slice ya D'.length yc)).low (lo':=w.heap.size) (by omega)
    have hX3:=bel_set3 (HBw.trans (k3.mono HBw.size)) (b:=w.heap.size+1) (by omega) (.bool C') (.slice xa S'.length xc) (.slice ya D'.length yc)
    exact bodyPost_ret (v:=.tuple #[.agg #[.bool C',.slice xa S'.length xc,.slice ya D'.length yc],errV E']) (by simp[results,Tryz.results123,go_sem,q0,q1,q2]) rfl (by rw[HG6.2.2.1,HG6.2.2.2,HG6.2.1,HG6.1];exact⟨xa,xc,ya,yc,rfl,hX1,hX2,hX3⟩)
 ·have H3:Hid (drE n c sz dz≠0):=h3
  clear h3
  go_enter Tryz.func123,Tryz.ntmps123
  go_wp2_with fail
  refine (num_no na nc n c sa sc sz da dc dz h0 h1 h2 _ ((HI.1.1.below HB0.out).mono HB0.size) ((HI.2.1.1.below HB0.out).mono HB0.size) H3.out).mono ?_
  rintro e v1 ⟨rfl,hC⟩
  have HB1:Hid (Below w.heap.size w v1):=HB0.trans (hC.mono HB0.size)
  have HP:Hid (Abx v1 w.heap.size (.bool c) (.slice sa sz.length sc) (.slice da dz.length dc)):=pa.go hC
  have HR:Hid (Abx v1 (w.heap.size+1) (.bool false) (.slice none 0 0) (.slice none 0 0)):=pr.go hC
  clear hC pa pr p0 p1 p2 HB0
  have r0:=HR.c0
  have r1:=HR.c1
  have r2:=HR.c2
  have f0:=HR.fr 0
  have f1:=HR.fr 1
  have f2:=HR.fr 2
  go_wp2_with fail
  have F:=HR.set3 (.bool false) (.slice none 0 0) (.slice none 0 0)
  have q0:=F.c0
  have q1:=F.c1
  have q2:=F.c2
  exact bodyPost_ret (v:=.tuple #[.agg #[.bool false,.slice none 0 0,.slice none 0 0],.iface 28 (.int .i64 (drE n c sz dz))]) (by simp[results,Tryz.results123,go_sem,q0,q1,q2]) rfl (UB.mkno rfl H3.out (bel_set3 HB1.out (by omega) _ _ _))
end Go.Proofs.YtkmmkcpfhnifhaaGreatDoor
