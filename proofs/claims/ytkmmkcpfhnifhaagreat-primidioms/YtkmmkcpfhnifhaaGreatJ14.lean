/- What the program tells, in part. -/
import Derived.Test.YtkmmkcpfhnifhaaGreatJ13
set_option linter.unusedVariables false
set_option maxHeartbeats 4000000
set_option maxRecDepth 100000
namespace Go.Proofs.YtkmmkcpfhnifhaaGreat
open Go.RowKit
theorem ret_err7 {e e':Int}(h0:e'≠0)(h:e=e'):Ending.returned (.iface 43 (.int .i64 e'))=.returned (errV e):=by rw[h,errV_pos h0]
theorem ret_nil7 {e:Int}(h:e=0):Ending.returned .nilIface=.returned (errV e):=by rw[h];rfl
theorem chkall_any (c:Bool)(sa:Option Addr)(sc:Nat)(sz:List Int)(da:Option Addr)(dc:Nat)(dz:List Int)(ba:Option Addr)(bc:Nat)(bs:List ArV)(h1:sz.length<=9223372036854775807)(h2:dz.length<=9223372036854775807)(h3:bs.length<=9223372036854775807)(w:World)(hs:IsInts w.heap.size w sa sz)(hd:IsInts w.heap.size w da dz)(hb:IsAs w.heap.size w ba bs):
  Calls Tryz.prog 17 #[.agg #[.bool c,.slice sa sz.length sc,.slice da dz.length dc],.slice ba bs.length bc] w fun e w'=>e=.returned (errV (alE c sz dz (bya bs)))/\Below w.heap.size w w':=by
 have HB0:Hid (Below w.heap.size w (w.alloc (.cells #[.bool c,.slice sa sz.length sc,.slice da dz.length dc] 24))):=(Below.refl _ w).alloc (Nat.le_refl _) _
 have pa:=Abx.new w (.bool c) (.slice sa sz.length sc) (.slice da dz.length dc)
 have p0:=pa.c0
 have p1:=pa.c1
 have p2:=pa.c2
 have HI:Hid (IsInts w.heap.size w sa sz/\IsInts w.heap.size w da dz/\IsAs w.heap.size w ba bs):=⟨hs,hd,hb⟩
 clear hs hd hb
 by_cases h0:flawE c sz dz=0
 ·have HF:Hid (flawE c sz dz=0):=h0
  have HE:Hid (alE c sz dz (bya bs)=flL (bya bs)):=alE_ok _ h0
  clear h0
  go_enter Tryz.func17,Tryz.ntmps17
  go_wp2_with fail
  refine (check_ok c sa sc sz da dc dz h1 h2 _ ((HI.1.below HB0.out).mono HB0.size) ((HI.2.1.below HB0.out).mono HB0.size) HF.out).mono ?_
  rintro e v1 ⟨rfl,hC⟩
  have HB1:Hid (Below w.heap.size w v1):=HB0.trans (hC.mono HB0.size)
  clear hC pa p0 p1 p2 HB0
  go_wp2_with fail
  go_loopw [16] (fun i wr=>∃ k:Nat,k<=bs.length/\i=.int .i64 k/\Hid (flL ((bya bs).take k)=0)/\Below w.heap.size w wr) (fun i _=>bs.length-(intOf i).toNat)
  case atStart=>exact⟨0,Nat.zero_le _,rfl,rfl,HB1.out⟩
  case round=>
   obtain⟨k,hk,rfl,HT,hB⟩:=hrel
   by_cases hlt:k<bs.length
   ·have hav:=(HI.2.2.below hB).2 k hlt
    obtain⟨b,off,rfl,hbb,hcell⟩:=(HI.2.2.below hB).at hlt
    obtain⟨c0,c1,c2⟩:=hcell k hlt
    have HAV:Hid (IsAv w.heap.size wr (arz bs k)):=hav
    have HBw:Hid (Below w.heap.size w wr):=hB
    have HZ:Hid (flawE (arz bs k).1 (arz bs k).2.1.2 (arz bs k).2.2.2=0->flL ((bya bs).take (k+1))=0):=fun q=>fl_next bs hlt HT.out q
    have HY:Hid (flawE (arz bs k).1 (arz bs k).2.1.2 (arz bs k).2.2.2≠0->flL (bya bs)=flawE (arz bs k).1 (arz bs k).2.1.2 (arz bs k).2.2.2):=fun q=>fl_bad bs hlt HT.out q
    clear hcell hav hB HT
    generalize arz bs k=B at *
    obtain⟨cb,⟨⟨sb,scb⟩,szb⟩,⟨⟨db,dcb⟩,dzb⟩⟩:=B
    unfold ArV.s at c1
    unfold ArV.d at c2
    dsimp only at c0 c1 c2 HAV HZ HY
    have HBx:Hid (Below w.heap.size wr (wr.alloc (.cells #[.bool cb,.slice sb szb.length scb,.slice db dzb.length dcb] 24))):=(Below.refl _ wr).alloc HBw.size _
    have pb:=Abx.new wr (.bool cb) (.slice sb szb.length scb) (.slice db dzb.length dcb)
    have q0:=pb.c0
    have q1:=pb.c1
    have q2:=pb.c2
    by_cases hf:flawE cb szb dzb=0
    ·have HN:Hid (flawE cb szb dzb=0/\flL ((bya bs).take (k+1))=0):=⟨hf,HZ.out hf⟩
     clear hf HZ HY
     go_wp2_with fail
     refine (check_ok cb sb scb szb db dcb dzb HAV.1 HAV.2.1 _ ((HAV.2.2.1.1.below HBx.out).mono (HBw.trans HBx.out).size) ((HAV.2.2.2.1.1.below HBx.out).mono (HBw.trans HBx.out).size) HN.1).mono ?_
     rintro e v2 ⟨rfl,hC⟩
     clear pb q0 q1 q2 c0 c1 c2
     go_wp2_with fail
     exact⟨⟨k+1,by omega,by go_num,HN.2,(HBw.trans HBx.out).trans (hC.mono (HBw.trans HBx.out).size)⟩,by simp[intOf];omega⟩
    ·have HN:Hid (flawE cb szb dzb≠0/\flL (bya bs)=flawE cb szb dzb):=⟨hf,HY.out hf⟩
     clear hf HZ HY
     go_wp2_with fail
     refine (check_no cb sb scb szb db dcb dzb HAV.1 HAV.2.1 _ ((HAV.2.2.1.1.below HBx.out).mono (HBw.trans HBx.out).size) ((HAV.2.2.2.1.1.below HBx.out).mono (HBw.trans HBx.out).size) HN.1).mono ?_
     rintro e v2 ⟨rfl,hC⟩
     clear pb q0 q1 q2 c0 c1 c2
     go_wp2_with fail
     go_ret
     exact⟨ret_err7 HN.1 (by rw[HE.out,HN.2]),(HBw.trans HBx.out).trans (hC.mono (HBw.trans HBx.out).size)⟩
   ·obtain rfl:k=bs.length:=by omega
    have hfin:Hid (flL (bya bs)=0):=by
     have:=HT.out
     rwa [List.take_of_length_le (by rw[bya_length];exact Nat.le_refl _)] at this
    clear HT
    go_wp2_with fail
    go_ret
    exact⟨ret_nil7 (by rw[HE.out,hfin.out]),hB⟩
 ·have HF:Hid (flawE c sz dz≠0):=h0
  have HE:Hid (alE c sz dz (bya bs)=flawE c sz dz):=alE_no _ h0
  clear h0
  go_enter Tryz.func17,Tryz.ntmps17
  go_wp2_with fail
  refine (check_no c sa sc sz da dc dz h1 h2 _ ((HI.1.below HB0.out).mono HB0.size) ((HI.2.1.below HB0.out).mono HB0.size) HF.out).mono ?_
  rintro e v1 ⟨rfl,hC⟩
  have HB1:Hid (Below w.heap.size w v1):=HB0.trans (hC.mono HB0.size)
  clear hC pa p0 p1 p2 HB0
  go_wp2_with fail
  go_ret
  exact⟨ret_err7 HF.out HE.out,HB1.out⟩
theorem chkidx_any (sa:Option Addr)(sc:Nat)(sz:List Int)(ba:Option Addr)(bc:Nat)(bs:List ArV)(h1:sz.length<=9223372036854775807)(h3:bs.length<=9223372036854775807)(w:World)(hb:IsAs w.heap.size w ba bs):
  Calls Tryz.prog 34 #[.slice sa sz.length sc,.slice ba bs.length bc] w fun e w'=>e=.returned (errV (ciE sz (bya bs)))/\Below w.heap.size w w':=by
 have HI:Hid (IsAs w.heap.size w ba bs):=hb
 clear hb
 by_cases hl:bs.length=sz.length
 ·have HL:Hid ((bya bs).length=sz.length):=by show _=_;rw[bya_length];exact hl
  have tl:((bs.length:Int) != (sz.length:Int))=false:=by simp[hl]
  clear hl
  go_enter Tryz.func34,Tryz.ntmps34
  go_wp2_with fail
  clear tl
  go_loopw [15] (fun i wr=>∃ k:Nat,k<=bs.length/\i=.int .i64 k/\Hid (chL ((bya bs).take k)=false)/\Below w.heap.size w wr) (fun i _=>bs.length-(intOf i).toNat)
  case atStart=>exact⟨0,Nat.zero_le _,rfl,rfl,Below.refl _ _⟩
  case round=>
   obtain⟨k,hk,rfl,HT,hB⟩:=hrel
   by_cases hlt:k<bs.length
   ·obtain⟨b,off,rfl,hbb,hcell⟩:=(HI.below hB).at hlt
    obtain⟨c0,c1,c2⟩:=hcell k hlt
    have HBw:Hid (Below w.heap.size w wr):=hB
    have HZ:Hid ((arz bs k).1=false->chL ((bya bs).take (k+1))=false):=fun q=>by rw[chL_take bs hlt,HT.out,q];rfl
    have HY:Hid ((arz bs k).1=true->chL (bya bs)=true):=fun q=>chL_bad bs hlt q
    clear hcell hB HT
    generalize arz bs k=B at *
    obtain⟨cb,⟨⟨sb,scb⟩,szb⟩,⟨⟨db,dcb⟩,dzb⟩⟩:=B
    unfold ArV.s at c1
    unfold ArV.d at c2
    dsimp only at c0 c1 c2 HZ HY
    have HBx:Hid (Below w.heap.size wr (wr.alloc (.cells #[.bool cb,.slice sb szb.length scb,.slice db dzb.length dcb] 24))):=(Below.refl _ wr).alloc HBw.size _
    have pb:=Abx.new wr (.bool cb) (.slice sb szb.length scb) (.slice db dzb.length dcb)
    have q0:=pb.c0
    have q1:=pb.c1
    have q2:=pb.c2
    cases cb
    ·have HN:Hid (chL ((bya bs).take (k+1))=false):=HZ.out rfl
     clear HZ HY
     go_wp2_with fail
     exact⟨⟨k+1,by omega,by go_num,HN.out,HBw.trans HBx.out⟩,by simp[intOf];omega⟩
    ·have HN:Hid (chL (bya bs)=true):=HY.out rfl
     clear HZ HY
     go_wp2_with fail
     go_ret
     exact⟨ret_err7 (by decide) (by unfold ciE;rw[if_neg (not_not_intro HL.out),if_pos HN.out]),HBw.trans HBx.out⟩
   ·obtain rfl:k=bs.length:=by omega
    have hfin:Hid (chL (bya bs)=false):=by
     have:=HT.out
     rwa [List.take_of_length_le (by rw[bya_length];exact Nat.le_refl _)] at this
    clear HT
    go_wp2_with fail
    go_ret
    exact⟨ret_nil7 (ciE_zero.2 ⟨HL.out,hfin.out⟩),hB⟩
 ·have HE:Hid (ciE sz (bya bs)=3):=by show ciE _ _=_;unfold ciE;rw[if_pos (by rw[bya_length];exact hl)]
  have tl:((bs.length:Int) != (sz.length:Int))=true:=by simp;omega
  clear hl
  go_enter Tryz.func34,Tryz.ntmps34
  go_wp2_with fail
  go_ret
  exact⟨ret_err7 (by decide) HE.out,Below.refl _ _⟩
theorem joined_new (ba:Option Addr)(bc:Nat)(bs:List ArV)(h3:bs.length<=6)(hf:flL (bya bs)=0)(w:World)(hb:IsAs w.heap.size w ba bs):
  Calls Tryz.prog 35 #[.slice ba bs.length bc] w fun e w'=>∃ g gc,e=.returned (.slice g (pkS (bya bs)).length gc)/\NewC w.heap.size w' g (pkS (bya bs)) gc/\Below w.heap.size w w':=by
 have HI:Hid (IsAs w.heap.size w ba bs):=hb
 have HF:Hid (∀ k,k<bs.length->(arz bs k).2.1.2.length<=6/\offs bs k<=36):=fun k hk=>by
  have h1:=(flawE_short (fl_at bs hf hk)).1
  have h2:=pkS_short (bya bs) hf
  have h4:=offs_le bs hk
  rw[bya_length] at h2
  omega
 clear hb hf
 obtain⟨S,hS⟩:∃ S,S=pkS (bya bs):=⟨_,rfl⟩
 rw[<-hS]
 have HS0:Hid (S=pkS (bya bs)):=hS
 clear hS
 go_enter Tryz.func35,Tryz.ntmps35
 go_wp2_with fail
 go_loopw [3,8] (fun v i wr=>∃ k:Nat,k<=bs.length/\i=.int .i64 k/\wr.ownsRow w.heap.size 3 1 v (offs bs k) ((pkS ((bya bs).take k)).map (Value.int .i64))/\Below w.heap.size w wr) (fun _ i _=>bs.length-(intOf i).toNat)
 case atStart=>exact⟨0,Nat.zero_le _,rfl,World.ownsRow_nil _ _ _ _,Below.refl _ _⟩
 case round=>
  obtain⟨k,hk,rfl,hown,hB⟩:=hrel
  by_cases hlt:k<bs.length
  ·have hav:=(HI.below hB).2 k hlt
   obtain⟨b,off,rfl,hbb,hcell⟩:=(HI.below hB).at hlt
   obtain⟨c0,c1,c2⟩:=hcell k hlt
   obtain⟨hl6,ho6⟩:=HF.out k hlt
   have HO:Hid (offs bs (k+1)=offs bs k+(arz bs k).2.1.2.length/\pkS ((bya bs).take (k+1))=pkS ((bya bs).take k)++(arz bs k).2.1.2):=⟨offs_succ bs hlt,by rw[bya_take bs hlt,pkS_append];simp[pkS,ArV.ar]⟩
   have HAV:Hid (IsAv w.heap.size wr (arz bs k)):=hav
   have HBw:Hid (Below w.heap.size w wr):=hB
   have hLo:(pkS ((bya bs).take k)).length=offs bs k:=rfl
   clear hcell hav hB
   generalize arz bs k=B at *
   obtain⟨cb,⟨⟨sb,scb⟩,szb⟩,⟨⟨db,dcb⟩,dzb⟩⟩:=B
   unfold ArV.s at c1
   unfold ArV.d at c2
   dsimp only at c0 c1 c2 HAV HO hl6
   have HBx:Hid (Below w.heap.size wr (wr.alloc (.cells #[.bool cb,.slice sb szb.length scb,.slice db dzb.length dcb] 24))):=(Below.refl _ wr).alloc HBw.size _
   have pb:=Abx.new wr (.bool cb) (.slice sb szb.length scb) (.slice db dzb.length dcb)
   have q0:=pb.c0
   have q1:=pb.c1
   have q2:=pb.c2
   have HW:Hid ((wr.alloc (.cells #[.bool cb,.slice sb szb.length scb,.slice db dzb.length dcb] 24)).ownsRow w.heap.size 3 1 u3 (offs bs k) ((pkS ((bya bs).take k)).map (Value.int .i64))):=hown.alloc _
   have HS:Hid (IsInts (wr.alloc (.cells #[.bool cb,.slice sb szb.length scb,.slice db dzb.length dcb] 24)).heap.size (wr.alloc (.cells #[.bool cb,.slice sb szb.length scb,.slice db dzb.length dcb] 24)) sb szb):=(HAV.2.2.1.1.below HBx.out).mono (HBw.trans HBx.out).size
   have HL:Hid ((pkS ((bya bs).take k)).length=offs bs k):=hLo
   clear hown hLo
   generalize pkS ((bya bs).take k)=L at *
   generalize offs bs k=m at *
   go_wp2_with (at_builtin;refine app_all rfl _ _ rfl _ w.heap.size u3 L m HL.out sb szb szb.length scb rfl rfl rfl HW.out HS.out (by omega) (HBw.trans HBx.out).size ?_;intro g gc w1 hown1 hN1 hB1)
   refine⟨⟨k+1,by omega,by go_num,?_,(HBw.trans HBx.out).trans hB1⟩,by simp[intOf];omega⟩
   rw[HO.1,HO.2]
   exact hown1
  ·obtain rfl:k=bs.length:=by omega
   rw[offs_all,List.take_of_length_le (by rw[bya_length];exact Nat.le_refl _),<-HS0.out] at hown
   obtain⟨g,gc,rfl,hN⟩:=own_cap hown
   clear hown
   go_wp2_with fail
   go_ret
   exact⟨g,gc,rfl,hN,hB⟩
theorem ret_bool7 {b b':Bool}(h:b'=b):Ending.returned (.bool b)=.returned (.bool b'):=by rw[h]
def lowB (zs:List Int)(l:Int):Bool:=zs.all fun i=>decide (0<=i/\i<l)
theorem lowB_ok {zs:List Int}{l:Int}(h:∀ j,j<zs.length->0<=nth zs j/\nth zs j<l):lowB zs l=true:=by
 unfold lowB
 rw[List.all_eq_true]
 intro y hy
 obtain⟨i,hi,e⟩:=List.mem_iff_getElem.1 hy
 have:=h i hi
 rw[nth_get _ _ hi,e] at this
 exact decide_eq_true this
theorem lowB_at {zs:List Int}{l:Int}(h:lowB zs l=true){j:Nat}(hj:j<zs.length):0<=nth zs j/\nth zs j<l:=by
 unfold lowB at h
 exact of_decide_eq_true (List.all_eq_true.1 h _ (nth_mem zs j hj))
theorem lowB_no {zs:List Int}{l:Int}{j:Nat}(hj:j<zs.length)(h:¬ (0<=nth zs j/\nth zs j<l)):lowB zs l=false:=by
 cases e:lowB zs l
 ·rfl
 ·exact absurd (lowB_at e hj) h
theorem below_any (a:Option Addr)(cap:Nat)(zs:List Int)(l:Int)(h1:zs.length<=9223372036854775807)(n₀:Nat)(w:World)(hI:IsInts n₀ w a zs):
  Calls Tryz.prog 36 #[.slice a zs.length cap,.int .i64 l] w fun e w'=>e=.returned (.bool (lowB zs l))/\w'=w:=by
 go_enter Tryz.func36,Tryz.ntmps36
 go_wp2_with fail
 go_loopw [9] (fun i wr=>∃ k:Nat,k<=zs.length/\i=.int .i64 k/\Hid (∀ j,j<k->0<=nth zs j/\nth zs j<l)/\wr=w) (fun i _=>zs.length-(intOf i).toNat)
 case atStart=>exact⟨0,Nat.zero_le _,rfl,fun j hj=>absurd hj (Nat.not_lt_zero j),rfl⟩
 case round=>
  obtain⟨k,hk,rfl,HA,hv⟩:=hrel
  obtain rfl:=hv.symm
  by_cases hlt:k<zs.length
  ·obtain⟨b,off,rfl,hb,hc⟩:=hI.at hlt
   have ck:=hc k hlt
   clear hc
   by_cases hn:nth zs k<0
   ·have HN:Hid (lowB zs l=false):=lowB_no hlt (by omega)
    go_wp2_with fail
    go_ret
    exact⟨ret_bool7 HN.out,rfl⟩
   ·by_cases hm:l<=nth zs k
    ·have HN:Hid (lowB zs l=false):=lowB_no hlt (by omega)
     go_wp2_with fail
     go_ret
     exact⟨ret_bool7 HN.out,rfl⟩
    ·have HA2:Hid (∀ j,j<k+1->0<=nth zs j/\nth zs j<l):=fun j hj=>by
      by_cases e:j=k
      ·subst e;exact⟨by omega,by omega⟩
      ·exact HA.out j (by omega)
     go_wp2_with fail
     exact⟨⟨k+1,by omega,by go_num,HA2,by first | rfl | trivial⟩,by simp[intOf];omega⟩
  ·obtain rfl:k=zs.length:=by omega
   have HN:Hid (lowB zs l=true):=lowB_ok HA.out
   go_wp2_with fail
   go_ret
   exact⟨ret_bool7 HN.out,rfl⟩
end Go.Proofs.YtkmmkcpfhnifhaaGreat
namespace Go.Proofs.YtkmmkcpfhnifhaaGreat
open Go.RowKit Go.Shelf
attribute [local go_sem] Oper.semAt_some
theorem bxd7 {W:World}{b:Nat}{t:TypeId}{v:Value}(h:Boxed W b t v):Boxed W.drew b t v:=h
theorem kpt_alloc {n₀ Bs:Nat}(W:World)(o:Obj)(h:n₀<=W.heap.size)(hB:Bs<W.heap.size):Kpt n₀ Bs W (W.alloc o):=fun k hk=>Below.heap_alloc W o k (by omega)
theorem abx_own {β:Type}(X:Nat)(x y z:Value)(B:Nat):OwnFrom B (fun (_:β) W=>Abx W X x y z):=fun s W W' row hs hg hr=>
 hs.of (hg.block X hs.lt (fun e=>by obtain⟨_,o,ho,hc⟩:=hr X e.symm;rw[show W.heap[X]?=_ from hs] at ho;cases ho;cases hc))
theorem pk_pos {bys:List Ar}(hf:flL bys=0)(hl:bys.length<=6)(he:errOf (pkS bys)=0){p:Nat}(hp:p<(prod (pkS bys)).toNat):AllPos (gaS (pkR bys)):=
 allPos_of_prod (pkR_in bys hf) (by rw[pkR_prod bys hf];omega)
theorem src7_any (sa:Option Addr)(sc:Nat)(zs:List Int)(ba:Option Addr)(bc:Nat)(bs:List ArV)(p:Nat)(he:errOf zs=0)(hl:bs.length=zs.length)(hf:flL (bya bs)=0)(heS:errOf (pkS (bya bs))=0)(hix:ixB (bya bs) zs=true)(hp:p<(prod (pkS (bya bs))).toNat)(w:World)(hI:IsInts w.heap.size w sa zs)(hR:IsAs w.heap.size w ba bs)(V:Int)(hV:V=pkP zs (bya bs) p):
  Calls Tryz.prog 37 #[.slice sa zs.length sc,.slice ba bs.length bc,.int .i64 (p:Nat)] w fun e w'=>e=.returned (.int .i64 V)/\Below w.heap.size w w':=by
 have hz:=errOf_zero.1 he
 have hzS:=errOf_zero.1 heS
 have hlz:zs.length<=6:=hz.1
 have hbl:(bya bs).length<=6:=by rw[bya_length];omega
 have HP:Hid (AllPos (gaS (pkR (bya bs)))):=pk_pos hf hbl heS hp
 have HAS:Hid (AllIn (gaS (pkR (bya bs)))):=pkR_in _ hf
 have hp3:(p:Int)<4096:=by omega
 have HL:Hid (bs.length=zs.length):=hl
 have HN:Hid (bs.length=(pkR (bya bs)).length):=by show _=_;rw[pkR_length,bya_length]
 have hin:=pkT_in (by rw[bya_length];exact hl) hf hix (cr_in heS hp).1
 have HV:Hid (wrap64 (place zs (gaT (pkR (bya bs)) (cr (gaS (pkR (bya bs))) p)))=V):=by
  show _=_
  rw[<-pk_ga hf hbl heS hp,hV]
  have hb:=place_bd hin
  exact w_small (by omega) (by omega)
 have hrl:bs.length<=6:=by omega
 have hreach:bs.length<=9223372036854775807:=by omega
 clear hz hzS hl he heS hp hV hin hf hix hbl
 refine (callsIn_wide (n:=5)).1 ?_
 refine callsIn_of_wp_marks Tryz.func37 rfl trivial ?_ rfl
 simp only[Tryz.ntmps37,List.size_toArray,List.length_cons,List.length_nil,Nat.reduceAdd,Nat.reduceSub,Array.replicate_succ,Array.replicate_zero,List.push_toArray,List.append_toArray,List.nil_append,List.cons_append]
 gi_wp2_with fail
 refine⟨trivial,(ba_in Fence.wide 4 trivial rfl _ _ _ _).mono ?_⟩
 rintro e w' ⟨rfl,rfl⟩
 gi_wp2_with fail
 have b0:=Boxed.new w 22 (.slice sa zs.length sc)
 have b1:=Boxed.new (w.alloc (.cells #[.slice sa zs.length sc] 22)) 3 (.int .i64 (p:Int))
 have b2:=Boxed.new ((w.alloc (.cells #[.slice sa zs.length sc] 22)).alloc (.cells #[.int .i64 (p:Int)] 3)) 3 (.int .i64 0)
 have b3:=Boxed.new (((w.alloc (.cells #[.slice sa zs.length sc] 22)).alloc (.cells #[.int .i64 (p:Int)] 3)).alloc (.cells #[.int .i64 0] 3)) 3 (.int .i64 1)
 have b4:=Boxed.new ((((w.alloc (.cells #[.slice sa zs.length sc] 22)).alloc (.cells #[.int .i64 (p:Int)] 3)).alloc (.cells #[.int .i64 0] 3)).alloc (.cells #[.int .i64 1] 3)) 38 (.slice ba bs.length bc)
 simp only[World.size_alloc] at b1 b2 b3 b4
 replace b0:=((((b0.alloc (.cells #[.int .i64 (p:Int)] 3)).alloc (.cells #[.int .i64 0] 3)).alloc (.cells #[.int .i64 1] 3)).alloc (.cells #[.slice ba bs.length bc] 38))
 replace b1:=(((b1.alloc (.cells #[.int .i64 0] 3)).alloc (.cells #[.int .i64 1] 3)).alloc (.cells #[.slice ba bs.length bc] 38))
 replace b2:=((b2.alloc (.cells #[.int .i64 1] 3)).alloc (.cells #[.slice ba bs.length bc] 38))
 replace b3:=(b3.alloc (.cells #[.slice ba bs.length bc] 38))
 have hB0:Below w.heap.size w (((((w.alloc (.cells #[.slice sa zs.length sc] 22)).alloc (.cells #[.int .i64 (p:Int)] 3)).alloc (.cells #[.int .i64 0] 3)).alloc (.cells #[.int .i64 1] 3)).alloc (.cells #[.slice ba bs.length bc] 38)):=((((((Below.refl _ w).alloc (by simp<;>omega) _).alloc (by simp<;>omega) _).alloc (by simp<;>omega) _).alloc (by simp<;>omega) _).alloc (by simp<;>omega) _)
 refine wpIn_rangeFunc_ownH rfl (by omega) (gf:=157) (lb:=#[.pointer (some ⟨w.heap.size+1+1+1+1,0,none⟩)]) rfl trivial (enters_of Tryz.func157 (by kernel_rfl) rfl)
  (ba_stops Fence.wide (5-1) trivial rfl (by omega) (w.heap.size+1+1+1+1) w.heap.size ba bc bs hreach _ (by simp) (by simp;omega) b4.cell (hR.below hB0)) (fun h k=>h.trans k) (kpt_b (by simp;omega) (by simp)) (Below.refl _ _) (fun _=>rfl)
  (fun pre W=>((((Boxed W (w.heap.size+1+1) 3 (.int .i64 (gV (pkR (bya bs)) zs p pre))/\Boxed W (w.heap.size+1+1+1) 3 (.int .i64 (gA (pkR (bya bs)) zs p pre)))/\Boxed W (w.heap.size+1) 3 (.int .i64 (gQ (pkR (bya bs)) zs p pre)))/\Boxed W w.heap.size 22 (.slice sa zs.length sc))/\Boxed W (w.heap.size+1+1+1+1) 38 (.slice ba bs.length bc))/\Below w.heap.size w W)
  (fun _ _ _=>False)
  (OwnFrom.and (OwnFrom.and (OwnFrom.and (OwnFrom.and (OwnFrom.and (Own.from (boxed_own _ _ _) _) (Own.from (boxed_own _ _ _) _)) (Own.from (boxed_own _ _ _) _)) (Own.from (boxed_own _ _ _) _)) (Own.from (boxed_own _ _ _) _)) (ownFrom_below (Nat.le_refl _) (by simp;omega)))
  (fun _ _ _ _ _ hs _ _=>hs)
  ⟨⟨⟨⟨⟨b2,b3⟩,b1⟩,b0⟩,b4⟩,hB0⟩
  (fun x a' W=>∃ X,(a'={ tmps:=#[.slice sa zs.length sc,.slice ba bs.length bc,.int .i64 (p:Int),.pointer (some ⟨w.heap.size,0,none⟩),undef,.pointer (some ⟨w.heap.size+1,0,none⟩),.int .i64 0,.pointer (some ⟨w.heap.size+1+1,0,none⟩),.pointer (some ⟨w.heap.size+1+1+1,0,none⟩),.int .i64 (x.1:Int),.pointer (some ⟨X,0,none⟩),undef,.slice ba bs.length bc,.func (.func 157) #[] #[.pointer (some ⟨w.heap.size+1+1+1+1,0,none⟩)],.int .i64 (x.1:Int),av (arz bs x.1),undef,undef,undef,undef,undef,undef,undef,undef,undef,undef,undef,undef,undef,undef,undef,undef,undef,undef,undef,undef,undef,undef,undef,undef],defers:=[] }/\w.heap.size+1+1+1+1+1<=X)/\Abx W X (.bool (arz bs x.1).1) (.slice (arz bs x.1).2.1.1.1 (arz bs x.1).2.1.2.length (arz bs x.1).2.1.1.2) (.slice (arz bs x.1).2.2.1.1 (arz bs x.1).2.2.2.length (arz bs x.1).2.2.1.2))
  (fun x a' s W W' row hs hg hr=>by obtain⟨X,h1,h2⟩:=hs;exact⟨X,h1,abx_own (β:=Unit) X _ _ _ _ s W W' row h2 hg hr⟩) ?assign ?body ?done ?stop
 case assign=>
  rintro l pre ⟨k,hk⟩ W K ⟨⟨⟨⟨⟨hv,ha⟩,hq⟩,hsb⟩,h4⟩,hB⟩ hK
  have h4l:=h4.lt
  have HK:Hid (∀ a' W',KeepsFrom (((((w.alloc (.cells #[.slice sa zs.length sc] 22)).alloc (.cells #[.int .i64 (p:Int)] 3)).alloc (.cells #[.int .i64 0] 3)).alloc (.cells #[.int .i64 1] 3)).alloc (.cells #[.slice ba bs.length bc] 38)).heap.size W W'->Kpt w.heap.size (w.heap.size+1+1+1+1) W W'->(((((Boxed W' (w.heap.size+1+1) 3 (.int .i64 (gV (pkR (bya bs)) zs p pre))/\Boxed W' (w.heap.size+1+1+1) 3 (.int .i64 (gA (pkR (bya bs)) zs p pre)))/\Boxed W' (w.heap.size+1) 3 (.int .i64 (gQ (pkR (bya bs)) zs p pre)))/\Boxed W' w.heap.size 22 (.slice sa zs.length sc))/\Boxed W' (w.heap.size+1+1+1+1) 38 (.slice ba bs.length bc))/\Below w.heap.size w W')->(∃ X,(a'={ tmps:=#[.slice sa zs.length sc,.slice ba bs.length bc,.int .i64 (p:Int),.pointer (some ⟨w.heap.size,0,none⟩),undef,.pointer (some ⟨w.heap.size+1,0,none⟩),.int .i64 0,.pointer (some ⟨w.heap.size+1+1,0,none⟩),.pointer (some ⟨w.heap.size+1+1+1,0,none⟩),.int .i64 (k:Int),.pointer (some ⟨X,0,none⟩),undef,.slice ba bs.length bc,.func (.func 157) #[] #[.pointer (some ⟨w.heap.size+1+1+1+1,0,none⟩)],.int .i64 (k:Int),av (arz bs k),undef,undef,undef,undef,undef,undef,undef,undef,undef,undef,undef,undef,undef,undef,undef,undef,undef,undef,undef,undef,undef,undef,undef,undef],defers:=[] }/\w.heap.size+1+1+1+1+1<=X)/\Abx W' X (.bool (arz bs k).1) (.slice (arz bs k).2.1.1.1 (arz bs k).2.1.2.length (arz bs k).2.1.1.2) (.slice (arz bs k).2.2.1.1 (arz bs k).2.2.2.length (arz bs k).2.2.1.2))->K a' W'):=hK
  have HQ:Hid (((((Boxed W (w.heap.size+1+1) 3 (.int .i64 (gV (pkR (bya bs)) zs p pre))/\Boxed W (w.heap.size+1+1+1) 3 (.int .i64 (gA (pkR (bya bs)) zs p pre)))/\Boxed W (w.heap.size+1) 3 (.int .i64 (gQ (pkR (bya bs)) zs p pre)))/\Boxed W w.heap.size 22 (.slice sa zs.length sc))/\Boxed W (w.heap.size+1+1+1+1) 38 (.slice ba bs.length bc))/\Below w.heap.size w W):=⟨⟨⟨⟨⟨hv,ha⟩,hq⟩,hsb⟩,h4⟩,hB⟩
  clear hK hv ha hq hsb h4 hB b0 b1 b2 b3 b4 hB0
  unfold av at HK ⊢
  generalize arz bs k=B at *
  obtain⟨cb,⟨⟨sb,scb⟩,szb⟩,⟨⟨db,dcb⟩,dzb⟩⟩:=B
  dsimp only at HK ⊢
  have nb:=Abx.new W (.bool cb) (.slice sb szb.length scb) (.slice db dzb.length dcb)
  gi_wp2
  have hs:=HQ.2.size
  refine HK.out _ _ ((KeepsOthers.alloc W _).from _) (kpt_alloc W _ hs h4l) ⟨⟨⟨⟨⟨HQ.1.1.1.1.1.alloc _,HQ.1.1.1.1.2.alloc _⟩,HQ.1.1.1.2.alloc _⟩,HQ.1.1.2.alloc _⟩,HQ.1.2.alloc _⟩,HQ.2.alloc hs _⟩ ⟨W.heap.size,⟨rfl,by omega⟩,nb⟩
 case body=>
  rintro l pre ⟨k,hk⟩ a' W _ _ ⟨⟨⟨⟨⟨hv,ha⟩,hq⟩,hsb⟩,h4⟩,hB⟩ ⟨X,⟨rfl,hX⟩,hbx⟩ _
  dsimp only at hbx ⊢
  have hkz:k<zs.length:=by rw[<-HL.out];exact hk
  have hqb:=gQ_bd (zs:=zs) HP.out HN.out (p:=(p:Int)) (by omega) pre
  have hrow:=(hR.below hB).2 k hk
  have hgs:nth (gaS (pkR (bya bs))) k=(arz bs k).2.2.2.length:=by rw[gaS_nth (by rw[<-HN.out];exact hk),rl_pkR]
  have hRp:0<(arz bs k).2.2.2.length:=by have:=HP.out _ (nth_mem (gaS (pkR (bya bs))) k (by rw[gaS_length,<-HN.out];exact hk));omega
  have hR4:(arz bs k).2.2.2.length<=4096:=by have:=(HAS.nth k).2;omega
  have HQ:Hid (gQ (pkR (bya bs)) zs p (pre++[⟨k,hk⟩])=(gQ (pkR (bya bs)) zs p pre).tdiv ((arz bs k).2.2.2.length:Int)):=by show _=_;rw[gQ_snoc,hgs]
  obtain⟨m,hm⟩:∃ m:Nat,(gQ (pkR (bya bs)) zs p pre).tmod ((arz bs k).2.2.2.length:Int)=(m:Int):=⟨((gQ (pkR (bya bs)) zs p pre).tmod ((arz bs k).2.2.2.length:Int)).toNat,by have:=Int.tmod_nonneg ((arz bs k).2.2.2.length:Int) hqb.1;omega⟩
  have hml:m<(arz bs k).2.2.2.length:=by have:=Int.tmod_lt_of_pos (gQ (pkR (bya bs)) zs p pre) (show (0:Int)<((arz bs k).2.2.2.length:Int) by omega);omega
  have HG:Hid (gI (pkR (bya bs)) (gQ (pkR (bya bs)) zs p pre) k=nth (arz bs k).2.2.2 m):=by show _=_;unfold gI;rw[hgs,hm,Int.toNat_natCast,rl_pkR]
  have HVV:Hid (gV (pkR (bya bs)) zs p (pre++[⟨k,hk⟩])=wrap64 (gV (pkR (bya bs)) zs p pre+wrap64 (nth (arz bs k).2.2.2 m*gA (pkR (bya bs)) zs p pre))):=by show _=_;rw[gV_snoc,HG.out]
  have HAA:Hid (gA (pkR (bya bs)) zs p (pre++[⟨k,hk⟩])=wrap64 (gA (pkR (bya bs)) zs p pre*nth zs k)):=gA_snoc _ _ _ _ _ _
  obtain⟨bi,oi,hri,hbi,hci⟩:=hrow.2.2.2.1.1.at hml
  have cm:=hci m hml
  obtain⟨b,off,rfl,hbb,hcell⟩:=(hI.below hB).at hkz
  have hck:=hcell k hkz
  rw[hri] at hbx
  clear hcell hci
  have em:gQ (pkR (bya bs)) zs p pre%((arz bs k).2.2.2.length:Int)=(m:Int):=by rw[<-hm,Int.tmod_eq_emod_of_nonneg hqb.1]
  have ed:gQ (pkR (bya bs)) zs p pre/((arz bs k).2.2.2.length:Int)=(gQ (pkR (bya bs)) zs p pre).tdiv ((arz bs k).2.2.2.length:Int):=(Int.tdiv_eq_ediv_of_nonneg hqb.1).symm
  have HED:Hid (gQ (pkR (bya bs)) zs p (pre++[⟨k,hk⟩])=gQ (pkR (bya bs)) zs p pre/((arz bs k).2.2.2.length:Int)):=by show _=_;rw[HQ.out,ed]
  clear ed hm hgs hrow HG HQ
  have c0:=hsb.cell
  have c1:=hq.cell
  have f1:=hq.frozen
  have c2:=hv.cell
  have f2:=hv.frozen
  have c3:=ha.cell
  have f3:=ha.frozen
  have cx:=hbx.c2
  generalize gV (pkR (bya bs)) zs p pre=V0 at *
  generalize gA (pkR (bya bs)) zs p pre=A0 at *
  generalize gQ (pkR (bya bs)) zs p pre=Q0 at *
  generalize nth (arz bs k).2.2.2 m=I0 at *
  generalize nth zs k=Z0 at *
  generalize (arz bs k).2.2.2.length=L0 at *
  generalize (arz bs k).2.2.1.2=C0 at *
  generalize av (arz bs k)=AV0 at *
  obtain⟨hq1,hq2⟩:=hqb
  refine wpIn_mono (Q:=fun e _ W'=>e=.normal/\W'=(((W.setCell ⟨w.heap.size+1+1,0,none⟩ (.int .i64 (wrap64 (V0+wrap64 (I0*A0))))).drew.setCell ⟨w.heap.size+1+1+1,0,none⟩ (.int .i64 (wrap64 (A0*Z0)))).drew).setCell ⟨w.heap.size+1,0,none⟩ (.int .i64 (Q0/(L0:Int)))) ?_ ?_
  ·clear b0 b1 b2 b3 b4 hB0 hI hR hv ha hq hsb hbx hB HAS HP HL HN HV HVV HAA HED h4 hri
   have hL0:¬ (L0:Int)=0:=by omega
   have hL1:¬ L0=0:=by omega
   have em2:Q0.tmod (L0:Int)=(m:Int):=by rw[Int.tmod_eq_emod_of_nonneg hq1];exact em
   gi_wp2
   refine anyT_beginIn 11 (fun w'=>w'.cell? ⟨w.heap.size+1+1,0,none⟩=some (.int .i64 V0)/\w'.cell? ⟨X,2,none⟩=some (.slice (some ⟨bi,oi,none⟩) L0 C0)/\w'.cell? ⟨w.heap.size+1,0,none⟩=some (.int .i64 Q0)/\w'.cell? ⟨bi,oi+m,none⟩=some (.int .i64 I0)/\w'.cell? ⟨w.heap.size+1+1+1,0,none⟩=some (.int .i64 A0)) 12 #[false,false,false,false,false,false,false,false,false,false,false,false] (by kernel_rfl) rfl rfl (by kernel_rfl) ?_
   refine anyT_take 0 19 ?rv0 #[true,false,false,false,false,false,false,false,false,false,false,false] rfl rfl rfl (by kernel_rfl) (by kernel_rfl) (by kernel_rfl) (fun _ _ _ h=>h) (by kernel_rfl) (by decide) (by kernel_rfl) ?ry0 (⟨c2,cx,c1,cm,c3⟩) ?rm0
   case ry0=>first | exact Or.inl ⟨by rfl,by intro w' hw';(try dsimp only at hw');go_simp;first | done | rfl⟩
   case rm0=>
   simp only[Act.put,List.setIfInBounds_toArray,List.set_cons_zero,List.set_cons_succ]
   refine anyT_put 1 20 ?rv1 #[true,true,false,false,false,false,false,false,false,false,false,false] rfl rfl rfl (by kernel_rfl) (by kernel_rfl) (by kernel_rfl) (fun _ _ _ h=>h) (by decide) ?ry1 (fun _=>⟨c2,cx,c1,cm,c3⟩) ?rm1
   case ry1=>first | exact Or.inl ⟨by rfl,by intro w';go_simp;first | done | rfl⟩
   case rm1=>
   simp only[Act.put,List.setIfInBounds_toArray,List.set_cons_zero,List.set_cons_succ]
   refine anyT_take 2 21 ?rv2 #[true,true,true,false,false,false,false,false,false,false,false,false] rfl rfl rfl (by kernel_rfl) (by kernel_rfl) (by kernel_rfl) (fun _ _ _ h=>h) (by kernel_rfl) (by decide) (by kernel_rfl) ?ry2 (⟨c2,cx,c1,cm,c3⟩) ?rm2
   case ry2=>first | exact Or.inl ⟨by rfl,by intro w' hw';(try dsimp only at hw');go_simp;first | done | rfl⟩
   case rm2=>
   simp only[Act.put,List.setIfInBounds_toArray,List.set_cons_zero,List.set_cons_succ]
   refine anyT_take 3 22 ?rv3 #[true,true,true,true,false,false,false,false,false,false,false,false] rfl rfl rfl (by kernel_rfl) (by kernel_rfl) (by kernel_rfl) (fun _ _ _ h=>h) (by kernel_rfl) (by decide) (by kernel_rfl) ?ry3 (⟨c2,cx,c1,cm,c3⟩) ?rm3
   case ry3=>first | exact Or.inl ⟨by rfl,by intro w' hw';(try dsimp only at hw');go_simp;first | done | rfl⟩
   case rm3=>
   simp only[Act.put,List.setIfInBounds_toArray,List.set_cons_zero,List.set_cons_succ]
   refine anyT_put 4 23 ?rv4 #[true,true,true,true,true,false,false,false,false,false,false,false] rfl rfl rfl (by kernel_rfl) (by kernel_rfl) (by kernel_rfl) (fun _ _ _ h=>h) (by decide) ?ry4 (fun _=>⟨c2,cx,c1,cm,c3⟩) ?rm4
   case ry4=>first | exact Or.inl ⟨by rfl,by intro w';go_simp;first | done | rfl⟩
   case rm4=>
   simp only[Act.put,List.setIfInBounds_toArray,List.set_cons_zero,List.set_cons_succ]
   refine anyT_put 5 24 ?rv5 #[true,true,true,true,true,true,false,false,false,false,false,false] rfl rfl rfl (by kernel_rfl) (by kernel_rfl) (by kernel_rfl) (fun _ _ _ h=>h) (by decide) ?ry5 (fun _=>⟨c2,cx,c1,cm,c3⟩) ?rm5
   case ry5=>first | exact Or.inl ⟨by rfl,by intro w';go_simp;first | done | rfl⟩
   case rm5=>
   simp only[Act.put,List.setIfInBounds_toArray,List.set_cons_zero,List.set_cons_succ]
   refine anyT_put 6 25 ?rv6 #[true,true,true,true,true,true,true,false,false,false,false,false] rfl rfl rfl (by kernel_rfl) (by kernel_rfl) (by kernel_rfl) (fun _ _ _ h=>h) (by decide) ?ry6 (fun _=>⟨c2,cx,c1,cm,c3⟩) ?rm6
   case ry6=>first | exact Or.inl ⟨by rfl,by intro w';go_simp;first | done | rfl⟩
   case rm6=>
   simp only[Act.put,List.setIfInBounds_toArray,List.set_cons_zero,List.set_cons_succ]
   refine anyT_take 7 26 ?rv7 #[true,true,true,true,true,true,true,true,false,false,false,false] rfl rfl rfl (by kernel_rfl) (by kernel_rfl) (by kernel_rfl) (fun _ _ _ h=>h) (by kernel_rfl) (by decide) (by kernel_rfl) ?ry7 (⟨c2,cx,c1,cm,c3⟩) ?rm7
   case ry7=>first | exact Or.inl ⟨by rfl,by intro w' hw';(try dsimp only at hw');go_simp;first | done | rfl⟩
   case rm7=>
   simp only[Act.put,List.setIfInBounds_toArray,List.set_cons_zero,List.set_cons_succ]
   refine anyT_take 8 27 ?rv8 #[true,true,true,true,true,true,true,true,true,false,false,false] rfl rfl rfl (by kernel_rfl) (by kernel_rfl) (by kernel_rfl) (fun _ _ _ h=>h) (by kernel_rfl) (by decide) (by kernel_rfl) ?ry8 (⟨c2,cx,c1,cm,c3⟩) ?rm8
   case ry8=>first | exact Or.inl ⟨by rfl,by intro w' hw';(try dsimp only at hw');go_simp;first | done | rfl⟩
   case rm8=>
   simp only[Act.put,List.setIfInBounds_toArray,List.set_cons_zero,List.set_cons_succ]
   refine anyT_put 9 28 ?rv9 #[true,true,true,true,true,true,true,true,true,true,false,false] rfl rfl rfl (by kernel_rfl) (by kernel_rfl) (by kernel_rfl) (fun _ _ _ h=>h) (by decide) ?ry9 (fun _=>⟨c2,cx,c1,cm,c3⟩) ?rm9
   case ry9=>first | exact Or.inl ⟨by rfl,by intro w';go_simp;first | done | rfl⟩
   case rm9=>
   simp only[Act.put,List.setIfInBounds_toArray,List.set_cons_zero,List.set_cons_succ]
   refine anyT_put 10 29 ?rv10 #[true,true,true,true,true,true,true,true,true,true,true,false] rfl rfl rfl (by kernel_rfl) (by kernel_rfl) (by kernel_rfl) (fun _ _ _ h=>h) (by decide) ?ry10 (fun _=>⟨c2,cx,c1,cm,c3⟩) ?rm10
   case ry10=>first | exact Or.inl ⟨by rfl,by intro w';go_simp;first | done | rfl⟩
   case rm10=>
   simp only[Act.put,List.setIfInBounds_toArray,List.set_cons_zero,List.set_cons_succ]
   refine anyT_one 11 #[true,true,true,true,true,true,true,true,true,true,true,true] (by kernel_rfl) rfl rfl (fun K hK=>?_)
   go_simp
   refine hK.out _ _ (fun h=>absurd h (by decide)) ?_
   clear hK K
   refine anyT_done (by kernel_rfl) ?_
   simp only[onN]
   gi_wp2
   obtain⟨W2,hW2⟩:∃ W2,W2=(W.setCell ⟨w.heap.size+1+1,0,none⟩ (.int .i64 (IntKind.i64.wrap (V0+IntKind.i64.wrap (I0*A0))))).drew:=⟨_,rfl⟩
   rw[<-hW2]
   have k3:W2.cell? ⟨w.heap.size+1+1+1,0,none⟩=some (.int .i64 A0):=by rw[hW2];exact (World.cell?_setCell_other W _ _ _ (by intro e;simp only[Addr.mk.injEq] at e;omega)).trans c3
   have k1:W2.cell? ⟨w.heap.size+1,0,none⟩=some (.int .i64 Q0):=by rw[hW2];exact (World.cell?_setCell_other W _ _ _ (by intro e;simp only[Addr.mk.injEq] at e;omega)).trans c1
   have k0:W2.cell? ⟨w.heap.size,0,none⟩=some (.slice (some ⟨b,off,none⟩) zs.length sc):=by rw[hW2];exact (World.cell?_setCell_other W _ _ _ (by intro e;simp only[Addr.mk.injEq] at e;omega)).trans c0
   have kc:W2.cell? ⟨b,off+k,none⟩=some (.int .i64 Z0):=by rw[hW2];exact (World.cell?_setCell_other W _ _ _ (by intro e;simp only[Addr.mk.injEq] at e;omega)).trans hck
   have g3:W2.frozen? ⟨w.heap.size+1+1+1,0,none⟩=false:=by rw[hW2];show World.frozen? (W.setCell _ _) _=_;rw[World.frozen?_setCell];exact f3
   have g1:W2.frozen? ⟨w.heap.size+1,0,none⟩=false:=by rw[hW2];show World.frozen? (W.setCell _ _) _=_;rw[World.frozen?_setCell];exact f1
   have HW2:Hid (W2=(W.setCell ⟨w.heap.size+1+1,0,none⟩ (.int .i64 (IntKind.i64.wrap (V0+IntKind.i64.wrap (I0*A0))))).drew):=hW2
   clear hW2 c0 c1 c2 c3 f1 f2 f3 hck cm cx
   refine anyT_beginIn 6 (fun w'=>w'.cell? ⟨w.heap.size+1+1+1,0,none⟩=some (.int .i64 A0)/\w'.cell? ⟨w.heap.size,0,none⟩=some (.slice (some ⟨b,off,none⟩) zs.length sc)/\w'.cell? ⟨b,off+k,none⟩=some (.int .i64 Z0)) 7 #[false,false,false,false,false,false,false] (by kernel_rfl) rfl rfl (by kernel_rfl) ?_
   refine anyT_take 0 30 ?rv12 #[true,false,false,false,false,false,false] rfl rfl rfl (by kernel_rfl) (by kernel_rfl) (by kernel_rfl) (fun _ _ _ h=>h) (by kernel_rfl) (by decide) (by kernel_rfl) ?ry12 (⟨k3,k0,kc⟩) ?rm12
   case ry12=>first | exact Or.inl ⟨by rfl,by intro w' hw';(try dsimp only at hw');go_simp;first | done | rfl⟩
   case rm12=>
   simp only[Act.put,List.setIfInBounds_toArray,List.set_cons_zero,List.set_cons_succ]
   refine anyT_take 1 31 ?rv13 #[true,true,false,false,false,false,false] rfl rfl rfl (by kernel_rfl) (by kernel_rfl) (by kernel_rfl) (fun _ _ _ h=>h) (by kernel_rfl) (by decide) (by kernel_rfl) ?ry13 (⟨k3,k0,kc⟩) ?rm13
   case ry13=>first | exact Or.inl ⟨by rfl,by intro w' hw';(try dsimp only at hw');go_simp;first | done | rfl⟩
   case rm13=>
   simp only[Act.put,List.setIfInBounds_toArray,List.set_cons_zero,List.set_cons_succ]
   refine anyT_put 2 32 ?rv14 #[true,true,true,false,false,false,false] rfl rfl rfl (by kernel_rfl) (by kernel_rfl) (by kernel_rfl) (fun _ _ _ h=>h) (by decide) ?ry14 (fun _=>⟨k3,k0,kc⟩) ?rm14
   case ry14=>first | exact Or.inl ⟨by rfl,by intro w';go_simp;first | done | rfl⟩
   case rm14=>
   simp only[Act.put,List.setIfInBounds_toArray,List.set_cons_zero,List.set_cons_succ]
   refine anyT_put 3 33 ?rv15 #[true,true,true,true,false,false,false] rfl rfl rfl (by kernel_rfl) (by kernel_rfl) (by kernel_rfl) (fun _ _ _ h=>h) (by decide) ?ry15 (fun _=>⟨k3,k0,kc⟩) ?rm15
   case ry15=>first | exact Or.inl ⟨by rfl,by intro w';go_simp;first | done | rfl⟩
   case rm15=>
   simp only[Act.put,List.setIfInBounds_toArray,List.set_cons_zero,List.set_cons_succ]
   refine anyT_take 4 34 ?rv16 #[true,true,true,true,true,false,false] rfl rfl rfl (by kernel_rfl) (by kernel_rfl) (by kernel_rfl) (fun _ _ _ h=>h) (by kernel_rfl) (by decide) (by kernel_rfl) ?ry16 (⟨k3,k0,kc⟩) ?rm16
   case ry16=>first | exact Or.inl ⟨by rfl,by intro w' hw';(try dsimp only at hw');go_simp;first | done | rfl⟩
   case rm16=>
   simp only[Act.put,List.setIfInBounds_toArray,List.set_cons_zero,List.set_cons_succ]
   refine anyT_put 5 35 ?rv17 #[true,true,true,true,true,true,false] rfl rfl rfl (by kernel_rfl) (by kernel_rfl) (by kernel_rfl) (fun _ _ _ h=>h) (by decide) ?ry17 (fun _=>⟨k3,k0,kc⟩) ?rm17
   case ry17=>first | exact Or.inl ⟨by rfl,by intro w';go_simp;first | done | rfl⟩
   case rm17=>
   simp only[Act.put,List.setIfInBounds_toArray,List.set_cons_zero,List.set_cons_succ]
   refine anyT_one 6 #[true,true,true,true,true,true,true] (by kernel_rfl) rfl rfl (fun K hK=>?_)
   go_simp
   refine hK.out _ _ (fun h=>absurd h (by decide)) ?_
   clear hK K
   refine anyT_done (by kernel_rfl) ?_
   simp only[onN]
   gi_wp2
   rw[HW2.out]
   rw[IntWalk.i64_left,IntWalk.i64_left]
   rfl
  ·rintro e a9 W' ⟨rfl,rfl⟩
   refine⟨((((((KeepsOthers.setCell _ _ _).trans (KeepsOthers.drew _)).trans (KeepsOthers.setCell _ _ _)).trans (KeepsOthers.drew _)).trans (KeepsOthers.setCell _ _ _))).from _,((((Kpt.setCell W 0 _ (by omega) (by omega)).drew).set 0 _ (by omega) (by omega)).drew).set 0 _ (by omega) (by omega),⟨⟨⟨⟨?_,?_⟩,?_⟩,?_⟩,?_⟩,((((hB.setCell (p:=⟨w.heap.size+1+1,0,none⟩) (by simp;omega) _).drew).setCell (p:=⟨w.heap.size+1+1+1,0,none⟩) (by simp;omega) _).drew).setCell (p:=⟨w.heap.size+1,0,none⟩) (by simp) _⟩
   ·rw[HVV.out];exact Boxed.other (bxd7 (Boxed.other (bxd7 (Boxed.set _ hv)) (by omega) _)) (by omega) _
   ·rw[HAA.out];exact Boxed.other (bxd7 (Boxed.set _ (bxd7 (Boxed.other ha (by omega) _)))) (by omega) _
   ·rw[HED.out];exact Boxed.set _ (bxd7 (Boxed.other (bxd7 (Boxed.other hq (by omega) _)) (by omega) _))
   ·exact Boxed.other (bxd7 (Boxed.other (bxd7 (Boxed.other hsb (by omega) _)) (by omega) _)) (by omega) _
   ·exact Boxed.other (bxd7 (Boxed.other (bxd7 (Boxed.other h4 (by omega) _)) (by omega) _)) (by omega) _
 case done=>
  rintro D ys W hD rfl ⟨⟨⟨⟨⟨hv,ha⟩,hq⟩,hsb⟩,h4⟩,hB⟩ hK
  rw[(g_all (zs:=zs) HN.out HL.out p).2,HV.out] at hv
  have c2:=hv.cell
  gi_wp2
  refine⟨by simp,.inl ⟨_,_,rfl,run_takeDeferred hK,?_⟩⟩
  exact⟨_,results_tmp rfl _ _ _,rfl,hB.trans (belowK_b (w:=w) (Nat.le_refl _) W D _ _ (by simp at hD;omega) hK rfl rfl)⟩
 case stop=>
  rintro D c pre W _ _ h _
  exact h.elim
end Go.Proofs.YtkmmkcpfhnifhaaGreat
