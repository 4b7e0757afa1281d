/- What the program tells, in part. -/
import Derived.Test.YtkmmkcpfhnifhaaGreatDoorJ15
set_option linter.unusedVariables false
set_option maxHeartbeats 1000000
set_option maxRecDepth 100000
namespace Go.Proofs.YtkmmkcpfhnifhaaGreatDoor
open Go.RowKit
theorem fll_any (c:Bool)(w:World):Calls Tryz.prog 187 #[.bool c] w fun e w'=>e=.returned (.int .i64 (fillE c))/\w'=w:=by
 cases c
 all_goals
  go_enter Tryz.func187,Tryz.ntmps187
  go_wp2_with fail
  go_ret
  exact⟨rfl,rfl⟩
theorem run_n (f:Int)(mi:Int)(m:Nat)(hmi:mi=m)(hf0:-1000000<=f)(hf1:f<=1000000)(hm:m<=4096)(w:World):
  Calls Tryz.prog 250 #[.int .i64 f,.int .i64 mi] w fun e w'=>∃ g c,e=.returned (.slice g m c)/\NewC w.heap.size w' g (runL f m) c/\Below w.heap.size w w':=by
 subst hmi
 have hmk:=run_make_row' (P:=Tryz.prog) 25 3 (.int .i64 0) 8 Tryz.underlying25 Tryz.infoInt rfl .i64 .i64 m (by omega) (by omega)
 go_enter Tryz.func250,Tryz.ntmps250
 go_wp2_with fail
 clear hmk
 go_loopw [11] (fun i wr=>∃ k:Nat,k<=m/\i=.int .i64 k/\wr.rowIs w.heap.size 3 m (upTo (nth (runL f m)) k)/\Below w.heap.size w wr) (fun i _=>m-(intOf i).toNat)
 case atStart=>exact⟨0,Nat.zero_le _,rfl,(World.rowIs_made w (.int .i64 0) m 3).congr (fun j _=>by simp[upTo]),(Below.refl _ w).alloc (Nat.le_refl _) _⟩
 case round=>
  obtain⟨k,hk,rfl,hrow,hB⟩:=hrel
  by_cases hlt:k<m
  ·have HV:Hid (f+(k:Int)=nth (runL f m) k):=(runL_nth f hlt).symm
   have c2:=hrow.cell hlt
   have f2:=hrow.frozen k
   have HQ:Hid (wr.rowIs w.heap.size 3 m (upTo (nth (runL f m)) k)/\Below w.heap.size w wr):=⟨hrow,hB⟩
   clear hrow hB
   go_wp2_with fail
   refine⟨⟨k+1,by omega,by go_num,upTo_set HQ.1 _ HV.out,HQ.2.setCell (p:=⟨w.heap.size,k,none⟩) (Nat.le_refl _) _⟩,by simp[intOf];omega⟩
  ·obtain rfl:k=m:=by omega
   have HQ:Hid (wr.rowIs w.heap.size 3 k (upTo (nth (runL f k)) k)/\Below w.heap.size w wr):=⟨hrow,hB⟩
   clear hrow hB
   go_wp2_with fail
   go_ret
   exact⟨some ⟨w.heap.size,0,none⟩,k,rfl,⟨upTo_new HQ.1 (Nat.le_refl _) _ (runL_length f k) (fun j hj=>rfl),by rw[runL_length];exact Nat.le_refl _⟩,HQ.2⟩
theorem end_any (n l:Int)(h0:-4096<=n)(h1:n<=4096)(l0:0<=l)(l1:l<=4096)(w:World):
  Calls Tryz.prog 244 #[.int .i64 n,.int .i64 l] w fun e w'=>∃ g c,e=.returned (.slice g (endL n l).length c)/\NewC w.heap.size w' g (endL n l) c/\Below w.heap.size w w':=by
 by_cases hn:n<0
 ·have HE:Hid (endL n l=runL (l+n) (-n).toNat):=by show _=_;unfold endL tks;rw[if_neg (by omega),if_neg (by omega)]
  go_enter Tryz.func244,Tryz.ntmps244
  go_wp2_with fail
  refine (run_n (l+n) (-n) (-n).toNat (by omega) (by omega) (by omega) (by omega) w).mono ?_
  rintro e w' ⟨g,c,rfl,hN,hB⟩
  go_wp2_with fail
  go_ret
  rw[HE.out,runL_length]
  exact⟨g,c,rfl,hN,hB⟩
 ·have HE:Hid (endL n l=runL 0 n.toNat):=by show _=_;unfold endL tks;rw[if_pos (by omega),if_pos (by omega)]
  go_enter Tryz.func244,Tryz.ntmps244
  go_wp2_with fail
  refine (run_n 0 n n.toNat (by omega) (by omega) (by omega) (by omega) w).mono ?_
  rintro e w' ⟨g,c,rfl,hN,hB⟩
  go_wp2_with fail
  go_ret
  rw[HE.out,runL_length]
  exact⟨g,c,rfl,hN,hB⟩
theorem rest_any (n l:Int)(hn:In64 n)(l0:0<=l)(l1:l<=4096)(w:World):
  Calls Tryz.prog 195 #[.int .i64 n,.int .i64 l] w fun e w'=>e=.returned (.int .i64 (rst n l))/\w'=w:=by
 obtain⟨hn0,hn1⟩:=hn
 by_cases hn:n<0
 ·have HE:Hid (rst n l=max (l+n) 0):=by show _=_;unfold rst;rw[if_pos hn]
  go_enter Tryz.func195,Tryz.ntmps195
  go_wp2_with fail
  all_goals
   go_ret
   refine⟨ret_int ?_,rfl⟩
   rw[HE.out]
   omega
 ·have HE:Hid (rst n l=-max (l-n) 0):=by show _=_;unfold rst;rw[if_neg hn]
  go_enter Tryz.func195,Tryz.ntmps195
  go_wp2_with fail
  all_goals
   go_ret
   refine⟨ret_int ?_,rfl⟩
   rw[HE.out]
   omega
theorem msk_bad6 {m:List Int}{k:Nat}(hk:k<m.length)(h0:nth m k≠0)(h1:nth m k≠1):mskB m=false:=by
 cases h:mskB m
 ·rfl
 ·have:=mskB_nth h hk;omega
theorem msk_snoc6 {m:List Int}{k:Nat}(hk:k<m.length)(h:mskB (m.take k)=true)(h1:nth m k=0\/nth m k=1):mskB (m.take (k+1))=true:=by
 unfold mskB at *
 rw[List.take_succ_eq_append_getElem hk,List.all_append,h,<-nth_get m k hk]
 simpa using h1
theorem mask6_any (a:Option Addr)(cap:Nat)(m:List Int)(hreach:m.length<=9223372036854775807)(n₀:Nat)(w:World)(hI:IsInts n₀ w a m):
  Calls Tryz.prog 209 #[.slice a m.length cap] w fun e w'=>e=.returned (.bool (mskB m))/\w'=w:=by
 go_enter Tryz.func209,Tryz.ntmps209
 go_wp2_with fail
 go_loop [7] (fun i=>∃ k:Nat,k<=m.length/\i=.int .i64 k/\Hid (mskB (m.take k)=true)) (fun i=>m.length-(intOf i).toNat)
 case atStart=>exact⟨0,Nat.zero_le _,rfl,rfl⟩
 case round=>
  obtain⟨k,hk,rfl,HA⟩:=hrel
  by_cases hlt:k<m.length
  ·obtain⟨b,off,rfl,hb,hcell⟩:=hI.at hlt
   have hc:=hcell k hlt
   clear hcell
   by_cases h0:nth m k=0
   ·have hst:Hid (mskB (m.take (k+1))=true):=msk_snoc6 hlt HA.out (.inl h0)
    rw[h0] at hc
    clear h0
    go_wp2_with fail
    go_round
    case rel=>exact⟨k+1,by omega,by go_num,hst⟩
    case measure=>simp[intOf];omega
   ·by_cases h1:nth m k=1
    ·have hst:Hid (mskB (m.take (k+1))=true):=msk_snoc6 hlt HA.out (.inr h1)
     rw[h1] at hc
     clear h0 h1
     go_wp2_with fail
     go_round
     case rel=>exact⟨k+1,by omega,by go_num,hst⟩
     case measure=>simp[intOf];omega
    ·have hfin:Hid (mskB m=false):=msk_bad6 hlt h0 h1
     have t0:(nth m k != 0)=true:=by simpa using h0
     have t1:(nth m k != 1)=true:=by simpa using h1
     go_wp2_with fail
     go_ret
     exact⟨ret_bool hfin.symm,rfl⟩
  ·obtain rfl:k=m.length:=by omega
   have hfin:Hid (mskB m=true):=by have:=HA.out;rwa [List.take_length] at this
   go_wp2_with fail
   go_ret
   exact⟨ret_bool hfin.symm,rfl⟩
theorem ones_any (a:Option Addr)(cap:Nat)(m:List Int)(hreach:m.length<=9223372036854775807)(hm:mskB m=true)(n₀:Nat)(w:World)(hI:IsInts n₀ w a m):
  Calls Tryz.prog 211 #[.slice a m.length cap] w fun e w'=>e=.returned (.int .i64 (sumI m))/\w'=w:=by
 have HM:Hid (mskB m=true):=hm
 clear hm
 go_enter Tryz.func211,Tryz.ntmps211
 go_wp2_with fail
 go_loop [3,8] (fun pv i=>∃ k:Nat,k<=m.length/\i=.int .i64 k/\pv=.int .i64 (rnk m k)) (fun _ i=>m.length-(intOf i).toNat)
 case atStart=>exact⟨0,Nat.zero_le _,rfl,rfl⟩
 case round=>
  obtain⟨k,hk,rfl,rfl⟩:=hrel
  by_cases hlt:k<m.length
  ·obtain⟨b,off,rfl,hb,hcell⟩:=hI.at hlt
   have hc:=hcell k hlt
   clear hcell
   have HR:Hid (rnk m (k+1)=rnk m k+nth m k):=rnk_succ m hlt
   have hr:=rnk_bd HM.out (k+1) hlt
   rw[HR.out] at hr
   go_wp2_with fail
   exact⟨⟨k+1,by omega,by go_num,int_eq HR.symm⟩,by simp[intOf];omega⟩
  ·obtain rfl:k=m.length:=by omega
   have hfin:Hid (rnk m m.length=sumI m):=rnk_all m
   go_wp2_with fail
   go_ret
   exact⟨ret_int hfin.out,rfl⟩
theorem block_any (a:Option Addr)(cap:Nat)(zs:List Int)(x:Nat)(hx:x<zs.length)(he:errOf zs=0)(n₀:Nat)(w:World)(hI:IsC n₀ w a zs cap):
  Calls Tryz.prog 243 #[.int .i64 (x:Nat),.slice a zs.length cap] w fun e w'=>e=.returned (.int .i64 (blk zs x))/\w'=w:=by
 obtain⟨hI,hcap⟩:=hI
 obtain⟨b,off,rfl,hb,hcell⟩:=hI.at hx
 have hz:=errOf_zero.1 he
 have hl6:zs.length<=6:=hz.1
 have HA:Hid (AllIn zs/\prod zs<=4096):=⟨hz.2.1,hz.2.2⟩
 have HC:Hid (∀ j,j<zs.length->w.cell? ⟨b,off+j,none⟩=some (.int .i64 (nth zs j))):=hcell
 obtain⟨m,hm⟩:∃ m,zs.length=x+m:=⟨zs.length-x,by omega⟩
 obtain⟨s,hs⟩:∃ s,s=zs.drop x:=⟨_,rfl⟩
 have hsl:s.length=m:=by rw[hs,List.length_drop];omega
 have HS:Hid (s.length=m/\(∀ j,j<m->nth s j=nth zs (x+j))/\AllIn s/\prod s=blk zs x):=⟨hsl,fun j hj=>by rw[hs];simp[nth],by rw[hs];exact HA.1.drop _,by rw[hs];rfl⟩
 have HW:Hid (∀ k,k<m->0<=prod (s.take (k+1))/\prod (s.take (k+1))<=1152921504606846976):=by
  intro k hk
  by_cases h5:k+1<=5
  ·refine prod_60 (fun y hy=>HS.2.2.1 y (List.mem_of_mem_take hy)) ?_
   rw[List.length_take];omega
  ·have e:s.take (k+1)=zs:=by
    have hx0:x=0:=by omega
    rw[List.take_of_length_le (by omega),hs,hx0,List.drop_zero]
   rw[e]
   have:=prod_nonneg HA.1
   have:=HA.2
   omega
 clear hs hsl hcell HA
 have hx1:x<9223372036854775806:=by omega
 have hm6:m<=6:=by omega
 go_enter Tryz.func243,Tryz.ntmps243
 go_wp2_with fail
 go_loop [5,12] (fun pv i=>∃ k:Nat,k<=m/\i=.int .i64 k/\pv=.int .i64 (prod (s.take k))) (fun _ i=>m-(intOf i).toNat)
 case atStart=>exact⟨0,Nat.zero_le _,rfl,rfl⟩
 case round=>
  obtain⟨k,hk,rfl,rfl⟩:=hrel
  by_cases hlt:k<m
  ·have hc:w.cell? ⟨b,off+x+k,none⟩=some (.int .i64 (nth s k)):=by
    rw[HS.2.1 k hlt,<-HC.out (x+k) (by omega),Nat.add_assoc]
   have HP:Hid (prod (s.take k)*nth s k=prod (s.take (k+1))/\0<=prod (s.take (k+1))/\prod (s.take (k+1))<=1152921504606846976):=
    ⟨(prod_take1 s k (by rw[HS.1];exact hlt)).symm,HW.out k hlt⟩
   obtain⟨P,hP⟩:∃ P,P=prod (s.take k):=⟨_,rfl⟩
   obtain⟨Q,hQ⟩:∃ Q,Q=prod (s.take (k+1)):=⟨_,rfl⟩
   rw[<-hP]
   have HPQ:Hid (P*nth s k=Q/\0<=Q/\Q<=1152921504606846976):=by rw[hP,hQ];exact HP.out
   have HQ:Hid (Q=prod (s.take (k+1))):=hQ
   have hw:IntKind.i64.wrap (P*nth s k)=Q:=by rw[HPQ.1];exact IntWalk.i64_in _ (by have:=HPQ.2;omega)
   clear hP hQ HP
   go_wp2_with fail
   exact⟨⟨k+1,by omega,by go_num,int_eq HQ.out⟩,by simp[intOf];omega⟩
  ·obtain rfl:k=m:=by omega
   have hfin:Hid (prod (s.take k)=blk zs x):=by
    have h:=HS.out
    rw[List.take_of_length_le (by omega)]
    exact h.2.2.2
   go_wp2_with fail
   go_ret
   exact⟨ret_int hfin.out,rfl⟩
theorem ub_no {e:Int}{c:Bool}{S D:List Int}{w w':World}{e':Int}(h:e=e')(h0:e'≠0)(hB:Below w.heap.size w w'):UB e (onc e c) (onl e S) (onl e D) w (.returned (.tuple #[.agg #[.bool false,.slice none 0 0,.slice none 0 0],.iface 28 (.int .i64 e')])) w':=by
 subst h
 rw[onc_no h0,onl_no h0,onl_no h0]
 exact⟨none,0,none,0,by rw[errV_pos h0];rfl,⟨.inl rfl,Nat.le_refl _⟩,⟨.inl rfl,Nat.le_refl _⟩,hB⟩
theorem ub_ok {e:Int}{c:Bool}{S D:List Int}{w w':World}{xa:Option Addr}{xc:Nat}{ya:Option Addr}{yc:Nat}(h:e=0)(hX:NewC w.heap.size w' xa S xc)(hY:NewC w.heap.size w' ya D yc)(hB:Below w.heap.size w w'):
  UB e (onc e c) (onl e S) (onl e D) w (.returned (.tuple #[.agg #[.bool c,.slice xa S.length xc,.slice ya D.length yc],.nilIface])) w':=by
 subst h
 exact⟨xa,xc,ya,yc,rfl,hX,hY,hB⟩
theorem axE_flaw6 {x:Int}{c:Bool}{sz dz:List Int}(h:flawE c sz dz≠0):axE x c sz dz=flawE c sz dz:=by unfold axE;rw[if_pos h]
theorem axE_index6 {x:Int}{c:Bool}{sz dz:List Int}(h:flawE c sz dz=0)(k:x<0\/(sz.length:Int)<=x):axE x c sz dz=5:=by unfold axE;rw[if_neg (by simpa using h),if_pos k]
theorem UB.mkno {e:Int}{c:Bool}{S D:List Int}{w w':World}{e':Int}(h:e=e')(h0:e'≠0)(hB:Below w.heap.size w w'):UB e (onc e c) (onl e S) (onl e D) w (.returned (.tuple #[.agg #[.bool false,.slice none 0 0,.slice none 0 0],.iface 28 (.int .i64 e')])) w':=by
 subst h
 rw[onc_no h0,onl_no h0,onl_no h0]
 exact⟨none,0,none,0,by rw[errV_pos h0];rfl,⟨.inl rfl,Nat.le_refl _⟩,⟨.inl rfl,Nat.le_refl _⟩,hB⟩
theorem UB.mkok {e:Int}{c:Bool}{S D:List Int}{w w':World}{xa:Option Addr}{xc:Nat}{ya:Option Addr}{yc:Nat}(h:e=0)(hX:NewC w.heap.size w' xa S xc)(hY:NewC w.heap.size w' ya D yc)(hB:Below w.heap.size w w'):
  UB e (onc e c) (onl e S) (onl e D) w (.returned (.tuple #[.agg #[.bool c,.slice xa S.length xc,.slice ya D.length yc],.nilIface])) w':=by
 subst h
 exact⟨xa,xc,ya,yc,rfl,hX,hY,hB⟩
theorem num_ok (na:Option Addr)(nc:Nat)(n:List Int)(c:Bool)(sa:Option Addr)(sc:Nat)(sz:List Int)(da:Option Addr)(dc:Nat)(dz:List Int)(h1:sz.length<=9223372036854775807)(h2:dz.length<=9223372036854775807)(w:World)(hs:IsInts w.heap.size w sa sz)(hd:IsInts w.heap.size w da dz)(h:drE n c sz dz=0):
  Calls Tryz.prog 193 #[.slice na n.length nc,.agg #[.bool c,.slice sa sz.length sc,.slice da dz.length dc]] w fun e w'=>e=.returned .nilIface/\Below w.heap.size w w':=by
 have HB0:Hid (Below w.heap.size w (w.alloc (.cells #[.bool c,.slice sa sz.length sc,.slice da dz.length dc] 27))):=(Below.refl _ w).alloc (Nat.le_refl _) _
 have pa:=Abx.new w (.bool c) (.slice sa sz.length sc) (.slice da dz.length dc)
 have p0:=pa.c0
 have p1:=pa.c1
 have p2:=pa.c2
 have HI:Hid (IsInts w.heap.size w sa sz/\IsInts w.heap.size w da dz):=⟨hs,hd⟩
 have hE:=drE_zero.1 h
 have H3:Hid (flawE c sz dz=0):=hE.1
 have hne:((n.length:Int) != (sz.length:Int))=false:=by simp[hE.2]
 have hl:=hE.2
 clear hE h hs hd
 go_enter Tryz.func193,Tryz.ntmps193
 go_wp2_with fail
 refine (check_ok c sa sc sz da dc dz h1 h2 _ ((HI.1.below HB0.out).mono HB0.size) ((HI.2.below HB0.out).mono HB0.size) H3.out).mono ?_
 rintro e v1 ⟨rfl,hC⟩
 have HB1:Hid (Below w.heap.size w v1):=HB0.trans (hC.mono HB0.size)
 have q1:=(pa.go hC).c1
 clear hC pa p0 p1 p2 HB0
 go_wp2_with fail
 go_ret
 exact⟨rfl,HB1.out⟩
theorem num_no (na:Option Addr)(nc:Nat)(n:List Int)(c:Bool)(sa:Option Addr)(sc:Nat)(sz:List Int)(da:Option Addr)(dc:Nat)(dz:List Int)(h0:n.length<=9223372036854775807)(h1:sz.length<=9223372036854775807)(h2:dz.length<=9223372036854775807)(w:World)(hs:IsInts w.heap.size w sa sz)(hd:IsInts w.heap.size w da dz)(h:drE n c sz dz≠0):
  Calls Tryz.prog 193 #[.slice na n.length nc,.agg #[.bool c,.slice sa sz.length sc,.slice da dz.length dc]] w fun e w'=>e=.returned (.iface 28 (.int .i64 (drE n c sz dz)))/\Below w.heap.size w w':=by
 have HB0:Hid (Below w.heap.size w (w.alloc (.cells #[.bool c,.slice sa sz.length sc,.slice da dz.length dc] 27))):=(Below.refl _ w).alloc (Nat.le_refl _) _
 have pa:=Abx.new w (.bool c) (.slice sa sz.length sc) (.slice da dz.length dc)
 have p0:=pa.c0
 have p1:=pa.c1
 have p2:=pa.c2
 have HI:Hid (IsInts w.heap.size w sa sz/\IsInts w.heap.size w da dz):=⟨hs,hd⟩
 by_cases h3:flawE c sz dz=0
 ·have hl:n.length≠sz.length:=fun e=>h (drE_zero.2 ⟨h3,e⟩)
  have HE:Hid (drE n c sz dz=4):=by show _=_;unfold drE;rw[if_neg (by simpa using h3),if_pos hl]
  have hne:((n.length:Int) != (sz.length:Int))=true:=by simp;omega
  have H3:Hid (flawE c sz dz=0):=h3
  clear h3 h hs hd
  go_enter Tryz.func193,Tryz.ntmps193
  go_wp2_with fail
  refine (check_ok c sa sc sz da dc dz h1 h2 _ ((HI.1.below HB0.out).mono HB0.size) ((HI.2.below HB0.out).mono HB0.size) H3.out).mono ?_
  rintro e v1 ⟨rfl,hC⟩
  have HB1:Hid (Below w.heap.size w v1):=HB0.trans (hC.mono HB0.size)
  have q1:=(pa.go hC).c1
  clear hC pa p0 p1 p2 HB0
  go_wp2_with fail
  go_ret
  exact⟨by first | (rw[HE.out];done) | (rw[HE.out];rfl),HB1.out⟩
 ·have HE:Hid (drE n c sz dz=flawE c sz dz):=by show _=_;unfold drE;rw[if_pos h3]
  have H3:Hid (flawE c sz dz≠0):=h3
  clear h3 h hs hd
  go_enter Tryz.func193,Tryz.ntmps193
  go_wp2_with fail
  refine (check_no c sa sc sz da dc dz h1 h2 _ ((HI.1.below HB0.out).mono HB0.size) ((HI.2.below HB0.out).mono HB0.size) H3.out).mono ?_
  rintro e v1 ⟨rfl,hC⟩
  have HB1:Hid (Below w.heap.size w v1):=HB0.trans (hC.mono HB0.size)
  clear hC pa p0 p1 p2 HB0
  go_wp2_with fail
  go_ret
  exact⟨by first | (rw[HE.out];done) | (rw[HE.out];rfl),HB1.out⟩
theorem axis_ok (x:Int)(c:Bool)(sa:Option Addr)(sc:Nat)(sz:List Int)(da:Option Addr)(dc:Nat)(dz:List Int)(h1:sz.length<=9223372036854775807)(h2:dz.length<=9223372036854775807)(w:World)(hs:IsInts w.heap.size w sa sz)(hd:IsInts w.heap.size w da dz)(h:axE x c sz dz=0):
  Calls Tryz.prog 208 #[.int .i64 x,.agg #[.bool c,.slice sa sz.length sc,.slice da dz.length dc]] w fun e w'=>e=.returned .nilIface/\Below w.heap.size w w':=by
 have HB0:Hid (Below w.heap.size w (w.alloc (.cells #[.bool c,.slice sa sz.length sc,.slice da dz.length dc] 27))):=(Below.refl _ w).alloc (Nat.le_refl _) _
 have pa:=Abx.new w (.bool c) (.slice sa sz.length sc) (.slice da dz.length dc)
 have p0:=pa.c0
 have p1:=pa.c1
 have p2:=pa.c2
 have HI:Hid (IsInts w.heap.size w sa sz/\IsInts w.heap.size w da dz):=⟨hs,hd⟩
 obtain⟨h3,hx0,hx1⟩:=axE_zero.1 h
 have H3:Hid (flawE c sz dz=0):=h3
 have hx2:x<sz.length:=by omega
 have hx3:¬ ((sz.length:Int)<=x):=by omega
 clear h h3 hs hd hx1
 go_enter Tryz.func208,Tryz.ntmps208
 go_wp2_with fail
 refine (check_ok c sa sc sz da dc dz h1 h2 _ ((HI.1.below HB0.out).mono HB0.size) ((HI.2.below HB0.out).mono HB0.size) H3.out).mono ?_
 rintro e v1 ⟨rfl,hC⟩
 have HB1:Hid (Below w.heap.size w v1):=HB0.trans (hC.mono HB0.size)
 have q1:=(pa.go hC).c1
 clear hC pa p0 p1 p2 HB0
 go_wp2_with fail
 go_ret
 exact⟨rfl,HB1.out⟩
theorem axis_no (x:Int)(hx:In64 x)(c:Bool)(sa:Option Addr)(sc:Nat)(sz:List Int)(da:Option Addr)(dc:Nat)(dz:List Int)(h1:sz.length<=9223372036854775807)(h2:dz.length<=9223372036854775807)(w:World)(hs:IsInts w.heap.size w sa sz)(hd:IsInts w.heap.size w da dz)(h:axE x c sz dz≠0):
  Calls Tryz.prog 208 #[.int .i64 x,.agg #[.bool c,.slice sa sz.length sc,.slice da dz.length dc]] w fun e w'=>e=.returned (.iface 28 (.int .i64 (axE x c sz dz)))/\Below w.heap.size w w':=by
 have HB0:Hid (Below w.heap.size w (w.alloc (.cells #[.bool c,.slice sa sz.length sc,.slice da dz.length dc] 27))):=(Below.refl _ w).alloc (Nat.le_refl _) _
 have pa:=Abx.new w (.bool c) (.slice sa sz.length sc) (.slice da dz.length dc)
 have p0:=pa.c0
 have p1:=pa.c1
 have p2:=pa.c2
 have HI:Hid (IsInts w.heap.size w sa sz/\IsInts w.heap.size w da dz):=⟨hs,hd⟩
 obtain⟨hx0,hx1⟩:=hx
 by_cases h3:flawE c sz dz=0
 ·have H3:Hid (flawE c sz dz=0):=h3
  have hk:x<0\/(sz.length:Int)<=x:=by
   by_cases hc:x<0\/(sz.length:Int)<=x
   ·exact hc
   ·exact absurd (axE_zero.2 ⟨h3,by omega,by omega⟩) h
  have HE:Hid (axE x c sz dz=5):=axE_index6 h3 hk
  clear h3 h hs hd
  rcases hk with hk | hk
  all_goals
   go_enter Tryz.func208,Tryz.ntmps208
   go_wp2_with fail
   refine (check_ok c sa sc sz da dc dz h1 h2 _ ((HI.1.below HB0.out).mono HB0.size) ((HI.2.below HB0.out).mono HB0.size) H3.out).mono ?_
   rintro e v1 ⟨rfl,hC⟩
   have HB1:Hid (Below w.heap.size w v1):=HB0.trans (hC.mono HB0.size)
   have q1:=(pa.go hC).c1
   clear hC pa p0 p1 p2 HB0
   go_wp2_with fail
   go_ret
   exact⟨by first | (rw[HE.out];done) | (rw[HE.out];rfl),HB1.out⟩
 ·have HE:Hid (axE x c sz dz=flawE c sz dz):=axE_flaw6 h3
  have H3:Hid (flawE c sz dz≠0):=h3
  clear h3 h hs hd
  go_enter Tryz.func208,Tryz.ntmps208
  go_wp2_with fail
  refine (check_no c sa sc sz da dc dz h1 h2 _ ((HI.1.below HB0.out).mono HB0.size) ((HI.2.below HB0.out).mono HB0.size) H3.out).mono ?_
  rintro e v1 ⟨rfl,hC⟩
  have HB1:Hid (Below w.heap.size w v1):=HB0.trans (hC.mono HB0.size)
  clear hC pa p0 p1 p2 HB0
  go_wp2_with fail
  go_ret
  exact⟨by first | (rw[HE.out];done) | (rw[HE.out];rfl),HB1.out⟩
theorem count_l (a:Option Addr)(cap:Nat)(zs:List Int)(l:Nat)(hl:zs.length=l)(N:Nat)(hreach:l<=9223372036854775807)(w:World)(hI:IsInts w.heap.size w a zs)(he:errOf zs=0)(hN:(N:Int)=prod zs):
  Calls Tryz.prog 48 #[.slice a l cap] w fun e w'=>e=.returned (.tuple #[.int .i64 (N:Int),.nilIface])/\Below w.heap.size w w':=by
 subst hl
 rw[hN]
 exact count_ok a cap zs hreach w hI he
theorem count_lno (a:Option Addr)(cap:Nat)(zs:List Int)(l:Nat)(hl:zs.length=l)(hreach:l<=9223372036854775807)(w:World)(hI:IsInts w.heap.size w a zs)(he:errOf zs≠0):
  Calls Tryz.prog 48 #[.slice a l cap] w fun e w'=>e=.returned (.tuple #[.int .i64 0,.iface 28 (.int .i64 (errOf zs))])/\Below w.heap.size w w':=by
 subst hl
 exact count_no a cap zs hreach w hI he
end Go.Proofs.YtkmmkcpfhnifhaaGreatDoor
