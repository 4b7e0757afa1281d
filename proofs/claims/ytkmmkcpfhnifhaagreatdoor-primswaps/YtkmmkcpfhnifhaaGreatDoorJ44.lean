/- What the program tells, in part. -/
import Derived.Test.YtkmmkcpfhnifhaaGreatDoorJ31
set_option linter.unusedVariables false
set_option maxHeartbeats 4000000
set_option maxRecDepth 100000
namespace Go.Proofs.YtkmmkcpfhnifhaaGreatDoor
open Go.RowKit
theorem line8_l (c:Bool)(a:Option Addr)(cap:Nat)(zs:List Int)(l:Nat)(hl:zs.length=l)(w:World):
  Calls Tryz.prog 175 #[.bool c,.slice a l cap] w fun e w'=>∃ sa sc,e=.returned (.agg #[.bool c,.slice sa 1 sc,.slice a l cap])/\NewC w.heap.size w' sa [(zs.length:Int)] sc/\Below w.heap.size w w':=by
 subst hl
 exact line8_any c a cap zs w
theorem un_holds:CUn:=by
 intro c sa sc sz da dc dz c' sa' sc' sz' da' dc' dz' w h1 h2 h1' h2' hs hd hs' hd' T T'
 have HI:Hid (IsInts w.heap.size w sa sz/\IsInts w.heap.size w da dz/\IsInts w.heap.size w sa' sz'/\IsInts w.heap.size w da' dz'):=⟨hs,hd,hs',hd'⟩
 have HT:Hid ((∀ j,In64 (nth dz j))/\∀ j,In64 (nth dz' j)):=⟨T,T'⟩
 clear hs hd hs' hd' T T'
 have pa:=((Abx.new w (.bool c) (.slice sa sz.length sc) (.slice da dz.length dc)).al (.cells #[.bool c',.slice sa' sz'.length sc',.slice da' dz'.length dc'] 27)).al (.cells #[.bool false,.slice none 0 0,.slice none 0 0] 27)
 have pb:=(Abx.new1 w (.cells #[.bool c,.slice sa sz.length sc,.slice da dz.length dc] 27) (.bool c') (.slice sa' sz'.length sc') (.slice da' dz'.length dc')).al (.cells #[.bool false,.slice none 0 0,.slice none 0 0] 27)
 have a0:=pa.c0
 have a1:=pa.c1
 have a2:=pa.c2
 have b0:=pb.c0
 have b1:=pb.c1
 have b2:=pb.c2
 clear pa pb
 obtain⟨W1,hW1⟩:∃ W1,W1=(((w.alloc (.cells #[.bool c,.slice sa sz.length sc,.slice da dz.length dc] 27)).alloc (.cells #[.bool c',.slice sa' sz'.length sc',.slice da' dz'.length dc'] 27)).alloc (.cells #[.bool false,.slice none 0 0,.slice none 0 0] 27)).alloc (.cells #[.bool c',.slice sa' sz'.length sc',.slice da' dz'.length dc'] 27):=⟨_,rfl⟩
 have HB0:Hid (Below w.heap.size w W1):=by rw[hW1];exact ((((Below.refl _ w).alloc (Nat.le_refl _) _).alloc (by simp) _).alloc (by simp;omega) _).alloc (by simp;omega) _
 have PA:Hid (Abx W1 w.heap.size (.bool c) (.slice sa sz.length sc) (.slice da dz.length dc)):=by rw[hW1];exact (((Abx.new w _ _ _).al _).al _).al _
 have PB:Hid (Abx W1 (w.heap.size+1) (.bool c') (.slice sa' sz'.length sc') (.slice da' dz'.length dc')):=by rw[hW1];exact ((Abx.new1 w _ _ _ _).al _).al _
 have PR:Hid (Abx W1 (w.heap.size+1+1) (.bool false) (.slice none 0 0) (.slice none 0 0)):=by
  rw[hW1]
  have:=Abx.new1 (w.alloc (.cells #[.bool c,.slice sa sz.length sc,.slice da dz.length dc] 27)) (.cells #[.bool c',.slice sa' sz'.length sc',.slice da' dz'.length dc'] 27) (.bool false) (.slice none 0 0) (.slice none 0 0)
  rw[World.size_alloc] at this
  exact this.al _
 have PS:Hid (Abx W1 (w.heap.size+1+1+1) (.bool c') (.slice sa' sz'.length sc') (.slice da' dz'.length dc')):=by
  rw[hW1]
  have:=Abx.new1 ((w.alloc (.cells #[.bool c,.slice sa sz.length sc,.slice da dz.length dc] 27)).alloc (.cells #[.bool c',.slice sa' sz'.length sc',.slice da' dz'.length dc'] 27)) (.cells #[.bool false,.slice none 0 0,.slice none 0 0] 27) (.bool c') (.slice sa' sz'.length sc') (.slice da' dz'.length dc')
  rw[World.size_alloc,World.size_alloc] at this
  exact this
 have hp:=chklines_any c sa sc sz da dc dz (some ⟨w.heap.size+1+1+1,0,none⟩) 1 [(c',(((sa',sc'),sz'),((da',dc'),dz')))] h1 h2 (by simp) W1 ((HI.1.below HB0.out).mono HB0.size) ((HI.2.1.below HB0.out).mono HB0.size) (isBs_one PS.out h1' h2' ((HI.2.2.1.below HB0.out).mono HB0.size) ((HI.2.2.2.below HB0.out).mono HB0.size))
 rw[List.length_singleton,lnE_one] at hp
 obtain⟨M,hM⟩:∃ M,M=shD c' dz' c dz false:=⟨_,rfl⟩
 obtain⟨D,hD⟩:∃ D,D=unD c dz c' dz':=⟨_,rfl⟩
 have HD:Hid (D=dz++M/\D.length=dz.length+M.length):=by
  have e:D=dz++M:=by rw[hD,hM];rfl
  exact⟨e,by rw[e,List.length_append]⟩
 have HM:Hid (M=shD c' dz' c dz false/\M.length<=dz'.length):=⟨hM,by rw[hM];exact shD_le⟩
 rw[<-hD]
 have HU:Hid (D=unD c dz c' dz'):=hD
 clear hM hD
 by_cases h0:lsE c sz dz c' sz' dz'=0
 ·have HE0:Hid (unE c sz dz c' sz' dz'=if c≠c' then 6 else if 4096<(unD c dz c' dz').length then 7 else 0):=by show _=_;unfold unE;rw[if_neg (not_not_intro h0)]
  have er0:errV 0=.nilIface:=rfl
  rw[h0,er0] at hp
  have hl4:dz.length<=4096:=(flawE_short (lsE_zero.1 h0).1).2
  have hl4':dz'.length<=4096:=(flawE_short (lsE_zero.1 h0).2.1).2
  clear h0 er0
  by_cases hc:c=c'
  ·have HE1:Hid (unE c sz dz c' sz' dz'=if 4096<D.length then 7 else 0):=by show _=_;rw[HE0.out,if_neg (not_not_intro hc),HU.out]
   have hcc:(c == c')=true:=by simpa using hc
   clear hc HE0
   have hm4:M.length<=4096:=Nat.le_trans HM.2 hl4'
   go_enter Tryz.func127,Tryz.ntmps127
   go_wp2_with fail
   rw[<-hW1]
   clear hW1 a0 a1 a2 b0 b1 b2
   refine hp.mono ?_
   clear hp
   rintro e v1 ⟨rfl,hC⟩
   have HB1:Hid (Below w.heap.size w v1):=HB0.trans (hC.mono HB0.size)
   have PA1:Hid (Abx v1 w.heap.size (.bool c) (.slice sa sz.length sc) (.slice da dz.length dc)):=PA.go hC
   have PB1:Hid (Abx v1 (w.heap.size+1) (.bool c') (.slice sa' sz'.length sc') (.slice da' dz'.length dc')):=PB.go hC
   have PR1:Hid (Abx v1 (w.heap.size+1+1) (.bool false) (.slice none 0 0) (.slice none 0 0)):=PR.go hC
   clear hC PA PB PR PS HB0
   have a0:=PA1.c0
   have a1:=PA1.c1
   have a2:=PA1.c2
   have b0:=PB1.c0
   have b1:=PB1.c1
   have b2:=PB1.c2
   go_wp2_with fail
   refine (apart_any c' sa' sc' sz' da' dc' dz' c sa sc sz da dc dz hl4' hl4 v1 ((HI.2.2.2.below HB1.out).mono HB1.size) ((HI.2.1.below HB1.out).mono HB1.size) HT.2 HT.1).mono ?_
   rintro e v2 ⟨gm,gmc,rfl,hN2,hB2⟩
   rw[<-HM.1] at hN2 ⊢
   have HN2:Hid (NewC v1.heap.size v2 gm M gmc):=hN2
   have HB2:Hid (Below w.heap.size w v2):=HB1.trans (hB2.mono HB1.size)
   have PA2:Hid (Abx v2 w.heap.size (.bool c) (.slice sa sz.length sc) (.slice da dz.length dc)):=PA1.go hB2
   have PR2:Hid (Abx v2 (w.heap.size+1+1) (.bool false) (.slice none 0 0) (.slice none 0 0)):=PR1.go hB2
   have z1:w.heap.size+1+1<v1.heap.size:=PR1.lt
   have z2:v1.heap.size<=v2.heap.size:=hB2.size
   clear hN2 hB2 a0 a1 a2 b0 b1 b2 hcc
   have a0:=PA2.c0
   have a1:=PA2.c1
   have a2:=PA2.c2
   by_cases hg:(4096:Int)<(dz.length:Int)+(M.length:Int)
   ·have HN:Hid (unE c sz dz c' sz' dz'=7):=by show _=_;rw[HE1.out,if_pos (by rw[HD.2];omega)]
    clear HE1
    have r0:=PR2.c0
    have r1:=PR2.c1
    have r2:=PR2.c2
    have f0:=PR2.fr 0
    have f1:=PR2.fr 1
    have f2:=PR2.fr 2
    go_wp2_with fail
    have F:=PR2.set3 (.bool false) (.slice none 0 0) (.slice none 0 0)
    have q0:=F.c0
    have q1:=F.c1
    have q2:=F.c2
    exact bodyPost_ret (v:=.tuple #[.agg #[.bool false,.slice none 0 0,.slice none 0 0],.iface 28 (.int .i64 7)]) (by simp[results,Tryz.results127,go_sem,q0,q1,q2]) rfl (ub_no HN.out (by decide) (bel_set3 HB2.out (by omega) _ _ _))
   ·have HN:Hid (unE c sz dz c' sz' dz'=0):=by show _=_;rw[HE1.out,if_neg (by rw[HD.2];omega)]
    clear HE1
    have HSd:Hid (IsInts v2.heap.size v2 da dz):=(HI.2.1.below HB2.out).mono HB2.size
    go_wp2_with (at_builtin;refine app_all rfl _ _ rfl _ v2.heap.size (.slice none 0 0) [] 0 rfl da dz dz.length dc rfl rfl rfl (World.ownsRow_nil _ _ _ _) HSd.out (by omega) (Nat.le_refl _) ?_;intro g gc v3 hown3 hN3 hB3;rw[Nat.zero_add,List.nil_append] at hown3;have HO3:Hid (v3.ownsRow v2.heap.size 3 1 (.slice g dz.length gc) dz.length (dz.map (Value.int .i64))):=hown3;have HB3:Hid (Below w.heap.size w v3):=HB2.trans (hB3.mono HB2.size);have z3:v2.heap.size<=v3.heap.size:=hB3.size;have PA3:Hid (Abx v3 w.heap.size (.bool c) (.slice sa sz.length sc) (.slice da dz.length dc)):=PA2.go hB3;have PR3:Hid (Abx v3 (w.heap.size+1+1) (.bool false) (.slice none 0 0) (.slice none 0 0)):=PR2.go hB3;have HM3:Hid (IsInts v3.heap.size v3 gm M):=((HN2.go hB3).ints).1;clear hown3 hN3 hB3 a0 a1 a2;have a0:=PA3.c0)
    have HBd:Hid (Below w.heap.size w v3.drew):=HB3.drew
    refine bT 6 (fun w'=>w'.cell? ⟨w.heap.size,0,none⟩=some (.bool c)) 8 (a0) fun hq0=>?_
    refine pT 0 hq0 ?_;refine lT 1 hq0 ?_;refine pT 2 hq0 ?_;refine pT 3 hq0 ?_
    clear hq0
    refine oT 4 fun K hK=>?_
    refine app_all_step 43 rfl rfl _ _ rfl _ v2.heap.size (.slice g dz.length gc) dz dz.length rfl gm M M.length gmc rfl rfl rfl HO3.out HM3.out (by omega) z3 ?_
    intro g4 gc4 w4 hown4 hN4 hB4
    have P4:=(PA3.dr).bel hB4 (by omega)
    have R4:=(PR3.dr).bel hB4 (by omega)
    refine hK.out _ _ (fun _=>P4.c0) ?_
    clear hK K
    simp only[Act.put,List.setIfInBounds_toArray,List.set_cons_zero,List.set_cons_succ]
    refine oT 5 fun K hK=>?_
    go_simp
    go_wp2_with (go_at_call 175;refine (line8_l c g4 gc4 (dz++M) (dz.length+M.length) (by rw[List.length_append]) w4).mono ?_;rintro e w5 ⟨xa,xc,rfl,hX,hB5⟩)
    have P5:=P4.go hB5
    have R5:=R4.go hB5
    have r0:=R5.c0
    have r1:=R5.c1
    have r2:=R5.c2
    have f0:=R5.fr 0
    have f1:=R5.fr 1
    have f2:=R5.fr 2
    refine hK.out _ _ (fun _=>P5.c0) ?_
    clear hK K
    refine oT 6 fun K hK=>?_
    go_simp
    refine hK.out _ _ (fun h=>absurd h (by decide)) ?_
    clear hK K
    refine oT 7 fun K hK=>?_
    go_simp
    refine hK.out _ _ (fun h=>absurd h (by decide)) ?_
    clear hK K
    refine dT ?_
    go_wp2_with fail
    have F:=R5.set3 (.bool c) (.slice xa 1 xc) (.slice g4 (dz.length+M.length) gc4)
    have q0:=F.c0
    have q1:=F.c1
    have q2:=F.c2
    have z4:v2.heap.size<=w4.heap.size:=Nat.le_trans z3 hB4.size
    have z5:=HB2.size
    refine bodyPost_ret (v:=.tuple #[.agg #[.bool c,.slice xa 1 xc,.slice g4 (dz.length+M.length) gc4],.nilIface]) (by simp[results,Tryz.results127,go_sem,q0,q1,q2]) rfl ?_
    rw[<-HD.1] at hX hN4
    rw[show dz.length+M.length=D.length from HD.2.symm]
    exact ub_ok (S:=[(D.length:Int)]) (D:=D) HN.out ((hX.set3 (by omega) _ _ _).low (by omega)) (((hN4.go hB5).set3 (by omega) _ _ _).low (by omega)) (bel_set3 ((HBd.trans (hB4.mono z5)).trans (hB5.mono (by omega))) (by omega) _ _ _)
  ·have HN:Hid (unE c sz dz c' sz' dz'=6):=by show _=_;rw[HE0.out,if_pos hc]
   have hcc:(c == c')=false:=by simpa using hc
   clear hc HE0
   go_enter Tryz.func127,Tryz.ntmps127
   go_wp2_with fail
   rw[<-hW1]
   clear hW1 a0 a1 a2 b0 b1 b2
   refine hp.mono ?_
   clear hp
   rintro e v1 ⟨rfl,hC⟩
   have HB1:Hid (Below w.heap.size w v1):=HB0.trans (hC.mono HB0.size)
   have PA1:Hid (Abx v1 w.heap.size (.bool c) (.slice sa sz.length sc) (.slice da dz.length dc)):=PA.go hC
   have PB1:Hid (Abx v1 (w.heap.size+1) (.bool c') (.slice sa' sz'.length sc') (.slice da' dz'.length dc')):=PB.go hC
   have PR1:Hid (Abx v1 (w.heap.size+1+1) (.bool false) (.slice none 0 0) (.slice none 0 0)):=PR.go hC
   clear hC PA PB PR PS HB0
   have a0:=PA1.c0
   have b0:=PB1.c0
   have r0:=PR1.c0
   have r1:=PR1.c1
   have r2:=PR1.c2
   have f0:=PR1.fr 0
   have f1:=PR1.fr 1
   have f2:=PR1.fr 2
   go_wp2_with fail
   have F:=PR1.set3 (.bool false) (.slice none 0 0) (.slice none 0 0)
   have q0:=F.c0
   have q1:=F.c1
   have q2:=F.c2
   exact bodyPost_ret (v:=.tuple #[.agg #[.bool false,.slice none 0 0,.slice none 0 0],.iface 28 (.int .i64 6)]) (by simp[results,Tryz.results127,go_sem,q0,q1,q2]) rfl (ub_no HN.out (by decide) (bel_set3 HB1.out (by omega) _ _ _))
 ·have HE:Hid (unE c sz dz c' sz' dz'=lsE c sz dz c' sz' dz'/\lsE c sz dz c' sz' dz'≠0):=⟨by unfold unE;rw[if_pos h0],h0⟩
  rw[errV_pos h0] at hp
  clear h0
  go_enter Tryz.func127,Tryz.ntmps127
  go_wp2_with fail
  rw[<-hW1]
  clear hW1 a0 a1 a2 b0 b1 b2
  refine hp.mono ?_
  clear hp
  rintro e v1 ⟨rfl,hC⟩
  have HB1:Hid (Below w.heap.size w v1):=HB0.trans (hC.mono HB0.size)
  have PA1:Hid (Abx v1 w.heap.size (.bool c) (.slice sa sz.length sc) (.slice da dz.length dc)):=PA.go hC
  have PB1:Hid (Abx v1 (w.heap.size+1) (.bool c') (.slice sa' sz'.length sc') (.slice da' dz'.length dc')):=PB.go hC
  have PR1:Hid (Abx v1 (w.heap.size+1+1) (.bool false) (.slice none 0 0) (.slice none 0 0)):=PR.go hC
  clear hC PA PB PR PS HB0
  have r0:=PR1.c0
  have r1:=PR1.c1
  have r2:=PR1.c2
  have f0:=PR1.fr 0
  have f1:=PR1.fr 1
  have f2:=PR1.fr 2
  go_wp2_with fail
  have F:=PR1.set3 (.bool false) (.slice none 0 0) (.slice none 0 0)
  have q0:=F.c0
  have q1:=F.c1
  have q2:=F.c2
  exact bodyPost_ret (v:=.tuple #[.agg #[.bool false,.slice none 0 0,.slice none 0 0],.iface 28 (.int .i64 (lsE c sz dz c' sz' dz'))]) (by simp[results,Tryz.results127,go_sem,q0,q1,q2]) rfl (ub_no HE.1 HE.2 (bel_set3 HB1.out (by omega) _ _ _))
theorem ret3_11 {a b c d:Int}{u v:Value}(h:a=b)(h2:c=d)(h3:u=v):Ending.returned (.tuple #[.int .i64 a,.int .i64 c,u])=.returned (.tuple #[.int .i64 b,.int .i64 d,v]):=by rw[h,h2,h3]
theorem two_res (b n:Int)(hb:In64 b)(hn:In64 n)(w:World):Calls Tryz.prog 178 #[.int .i64 5,.int .i64 b,.int .i64 n] w fun e w'=>e=.returned (.tuple #[.int .i64 (n.fmod b),.nilIface])/\Below w.heap.size w w':=
 (two_5 b n hb hn w).mono fun e w' ⟨h1,h2⟩=>⟨by rw[h1,tv5,te0 (by decide) (by decide) (fun h=>absurd h (by decide)) (fun h=>absurd h (by decide))];rfl,h2⟩
theorem two_div (n b:Int)(h0:b≠0)(w:World):Calls Tryz.prog 178 #[.int .i64 4,.int .i64 n,.int .i64 b] w fun e w'=>e=.returned (.tuple #[.int .i64 (divV n b),.nilIface])/\Below w.heap.size w w':=
 (two_4 n b w).mono fun e w' ⟨h1,h2⟩=>⟨by rw[h1,tv4 _ _ h0,te0 (by decide) (by decide) (fun _=>h0) (fun h=>absurd h (by decide))];rfl,h2⟩
theorem split_any (b n:Int)(hb:In64 b)(hn:In64 n)(w:World):Calls Tryz.prog 248 #[.int .i64 b,.int .i64 n] w fun e w'=>e=.returned (.tuple #[.int .i64 (dd b n),.int .i64 (qt b n),.nilIface])/\Below w.heap.size w w':=by
 by_cases h0:b=0
 ·subst h0
  have HD:Hid (n=dd 0 n/\0=qt 0 n):=⟨(dd_zero n).symm,(qt_zero n).symm⟩
  generalize dd 0 n=D at *
  generalize qt 0 n=Q at *
  go_enter Tryz.func248,Tryz.ntmps248
  go_wp2_with fail
  go_ret3
  exact⟨ret3_11 HD.1 HD.2 rfl,Below.refl _ _⟩
 ·have hC:=two_res b n hb hn w
  have HC2:Hid (∀ w1,Calls Tryz.prog 178 #[.int .i64 4,.int .i64 n,.int .i64 b] w1 fun e w'=>e=.returned (.tuple #[.int .i64 (divV n b),.nilIface])/\Below w1.heap.size w1 w'):=fun w1=>two_div n b h0 w1
  have hz:(b == 0)=false:=by simp[h0]
  rw[dd_else h0,qt_else h0]
  clear h0
  generalize n.fmod b=D at *
  generalize divV n b=Q at *
  go_enter Tryz.func248,Tryz.ntmps248
  go_wp2_with fail
  refine hC.mono ?_
  rintro e w1 ⟨rfl,hB⟩
  clear hC
  go_wp2_with fail
  refine (HC2.out w1).mono ?_
  rintro e w2 ⟨rfl,hB2⟩
  go_wp2_with fail
  go_ret3
  exact⟨rfl,hB.trans (hB2.mono hB.size)⟩
theorem va_holds:CVa:=by
 intro a cap b a' cap' d w h1 h2 hI hI'
 by_cases hl:4096<b.length
 ·have HE:Hid (vaE b d=7):=by show _=_;unfold vaE;rw[if_pos hl]
  go_enter Tryz.func203,Tryz.ntmps203
  go_wp2_with fail
  go_ret2
  exact UZ.mkno HE.out (by decide) (Below.refl _ _)
 ·by_cases hd:d.length=b.length
  ·have HE:Hid (vaE b d=0):=vaE_zero.2 ⟨by omega,hd⟩
   have hne:((d.length:Int) != (b.length:Int))=false:=by rw[hd];simp
   have HI:Hid (IsInts w.heap.size w a b/\IsInts w.heap.size w a' d):=⟨hI,hI'⟩
   have HD:Hid (d.length=b.length):=hd
   clear hI hI' hd
   go_enter Tryz.func203,Tryz.ntmps203
   go_wp2_with fail
   go_loopw [6,21] (fun v i wr=>∃ k:Nat,k<=d.length/\i=.int .i64 k/\v=.int .i64 (wrap64 (hv b d k))/\wr=w) (fun _ i _=>d.length-(intOf i).toNat)
   case atStart=>exact⟨0,Nat.zero_le _,rfl,by simp[hv,wrap64],rfl⟩
   case round=>
    obtain⟨k,hk,rfl,rfl,hw⟩:=hrel
    obtain rfl:=hw.symm
    clear hw
    by_cases hlt:k<d.length
    ·have hlt':k<b.length:=by rw[<-HD.out];exact hlt
     obtain⟨bb,off,rfl,hb,hcell⟩:=HI.1.at hlt'
     obtain⟨b',off',rfl,hb',hcell'⟩:=HI.2.at hlt
     have hc:=hcell k hlt'
     have hc':=hcell' k hlt
     have HN:Hid (wrap64 (wrap64 (wrap64 (hv b d k)*nth b k)+nth d k)=wrap64 (hv b d (k+1))):=hv_step b d k
     clear hcell hcell'
     go_wp2_with fail
     exact⟨⟨k+1,by omega,by go_num,by rw[HN.out],by first | rfl | trivial⟩,by simp[intOf];omega⟩
    ·obtain rfl:k=d.length:=by omega
     have HV:Hid (wrap64 (hv b d d.length)=vaV b d):=by show _=_;rw[HD.out];rfl
     rw[HV.out]
     go_wp2_with fail
     go_ret2
     exact UZ.mkok HE.out (Below.refl _ _)
  ·have HE:Hid (vaE b d=4):=by show _=_;unfold vaE;rw[if_neg hl,if_pos hd]
   have hne:((d.length:Int) != (b.length:Int))=true:=by rw[bne_iff_ne];omega
   clear hI hI' hd
   go_enter Tryz.func203,Tryz.ntmps203
   go_wp2_with fail
   go_ret2
   exact UZ.mkno HE.out (by decide) (Below.refl _ _)
def dnl (D:List Int)(k:Nat):List Int:=List.replicate k 0++D.drop k
theorem dnl_length (D:List Int){k:Nat}(h:k<=D.length):(dnl D k).length=D.length:=by simp[dnl];omega
theorem dnl_zero (D:List Int):dnl D 0=D:=by simp[dnl]
theorem dnl_all (D:List Int):dnl D D.length=List.replicate D.length 0:=by simp[dnl]
theorem dnl_nth (D:List Int)(k j:Nat):nth (dnl D k) j=if j<k then 0 else nth D j:=by
 unfold dnl nth
 simp only[List.getD_eq_getElem?_getD]
 by_cases h1:j<k
 ·rw[if_pos h1,List.getElem?_append_left (by simp;omega),List.getElem?_replicate,if_pos h1];rfl
 ·rw[if_neg h1,List.getElem?_append_right (by simp;omega),List.length_replicate,List.getElem?_drop]
  congr 2
  omega
theorem dnl_next (D:List Int){k:Nat}(h:k<D.length):(dnl D (k+1)).set k (nth D k)=dnl D k:=by
 refine nth_ext (by rw[List.length_set,dnl_length D (by omega),dnl_length D (by omega)]) fun j hj=>?_
 rw[nth_set _ _ _ _ (by rw[dnl_length D (by omega)];exact h),dnl_nth,dnl_nth]
 by_cases e:j=k
 ·rw[if_pos e,if_neg (by omega),e]
 ·rw[if_neg e]
  by_cases h1:j<k
  ·rw[if_pos h1,if_pos (by omega)]
  ·rw[if_neg h1,if_neg (by omega)]
theorem row_list11 {wr:World}{B:Nat}{t:TypeId}{n:Nat}{xs:List Int}(h:wr.rowIs B t n (fun j=>.int .i64 (nth xs j)))(hx:xs.length=n){lo:Nat}(hlo:lo<=B):NewC lo wr (some ⟨B,0,none⟩) xs n:=
 ⟨.inr ⟨B,0,rfl,hlo,h.lt,fun j hj=>by rw[Nat.zero_add];exact h.cell (by omega),fun j=>h.frozen _⟩,by omega⟩
theorem row_put11 {wr:World}{B:Nat}{t:TypeId}{n:Nat}{xs:List Int}(h:wr.rowIs B t n (fun j=>.int .i64 (nth xs j)))(hx:xs.length=n){i:Nat}(hi:i<n)(v:Int):(wr.setCell ⟨B,i,none⟩ (.int .i64 v)).rowIs B t n (fun j=>.int .i64 (nth (xs.set i v) j)):=by
 refine (h.set i _).congr fun j hj=>?_
 rw[nth_set _ _ _ _ (by omega)]
 by_cases e:j=i
 ·rw[if_pos e,if_pos e]
 ·rw[if_neg e,if_neg e]
theorem dg_holds:CDg:=by
 intro a cap b n w h1 hI h64 hn
 by_cases hl:4096<b.length
 ·have HE:Hid (dgE b=7):=by show _=_;unfold dgE;rw[if_pos hl]
  go_enter Tryz.func205,Tryz.ntmps205
  go_wp2_with fail
  go_ret2
  exact UL.mkno HE.out (by decide) (Below.refl _ _)
 ·have HE:Hid (dgE b=0):=dgE_zero.2 (by omega)
  have HI:Hid (IsInts w.heap.size w a b):=hI
  have H64:Hid ((∀ j,In64 (nth b j))/\In64 n):=⟨h64,hn⟩
  have hl4:b.length<=4096:=by omega
  obtain⟨D,hD⟩:∃ D,D=dgV b n:=⟨_,rfl⟩
  rw[<-hD]
  have HD:Hid (D.length=b.length/\∀ m,m<b.length->nth D m=dd (nth b m) (rs b b.length n (b.length-1-m))):=⟨by rw[hD];exact dgV_length b n,fun m hm=>by rw[hD];exact dgL_nth b b.length n m hm⟩
  clear hI h64 hn hl hD
  have hmk:=run_make_row' (P:=Tryz.prog) 25 3 (.int .i64 0) 8 Tryz.underlying25 Tryz.infoInt rfl .i64 .i64 b.length (by omega) (by omega)
  have HB1:Hid (Below w.heap.size w (w.alloc (.cells (madeCells #[.int .i64 0] b.length) 3))):=(Below.refl _ w).alloc (Nat.le_refl _) _
  have HR0:Hid ((w.alloc (.cells (madeCells #[.int .i64 0] b.length) 3)).rowIs w.heap.size 3 b.length (fun _=>.int .i64 0)):=World.rowIs_made w (.int .i64 0) b.length 3
  go_enter Tryz.func205,Tryz.ntmps205
  go_wp2_with fail
  clear hmk
  go_loopw [1,7] (fun x i wr=>∃ k:Nat,k<=b.length/\i=.int .i64 ((k:Int)-1)/\x=.int .i64 (rs b b.length n (b.length-k))/\wr.rowIs w.heap.size 3 b.length (fun j=>.int .i64 (nth (dnl D k) j))/\Below w.heap.size w wr) (fun _ i _=>(intOf i+1).toNat)
  case atStart=>exact⟨b.length,Nat.le_refl _,by go_num,by rw[Nat.sub_self];rfl,HR0.congr (fun j _=>by rw[<-HD.1,dnl_all,nth_replicate]),HB1.out⟩
  case round=>
   obtain⟨k,hk,rfl,rfl,hrow,hB⟩:=hrel
   by_cases hlt:0<k
   ·obtain⟨m,rfl⟩:∃ m,k=m+1:=⟨k-1,by omega⟩
    have em:(((m+1:Nat):Int)-1)=(m:Int):=by omega
    rw[em]
    have hm:m<b.length:=by omega
    obtain⟨bb,off,rfl,hb,hcell⟩:=(HI.below hB).at hm
    have hc:=hcell m hm
    have hct:=hrow.cell hm
    have hft:=hrow.frozen m
    obtain⟨X,hX⟩:∃ X,X=rs b b.length n (b.length-(m+1)):=⟨_,rfl⟩
    have HX:Hid (In64 X/\dd (nth b m) X=nth D m/\qt (nth b m) X=rs b b.length n (b.length-m)):=by
     refine⟨by rw[hX];exact rs_in H64.2 _,?_,?_⟩
     ·rw[hX,HD.2 m hm];congr 2;omega
     ·rw[hX,show b.length-m=(b.length-(m+1))+1 by omega,rs];congr 2;omega
    have hC:=split_any (nth b m) X (H64.1 m) HX.1 wr
    rw[HX.2.1,HX.2.2] at hC
    rw[<-hX]
    clear hX
    have HN:Hid ((dnl D (m+1)).set m (nth D m)=dnl D m/\(dnl D (m+1)).length=b.length):=⟨dnl_next D (by rw[HD.1];exact hm),by rw[dnl_length D (by rw[HD.1];exact hk),HD.1]⟩
    have HRow:Hid (wr.rowIs w.heap.size 3 b.length (fun j=>.int .i64 (nth (dnl D (m+1)) j))):=hrow
    clear hcell hrow hct hft
    go_wp2_with fail
    refine hC.mono ?_
    rintro e w1 ⟨rfl,hB1⟩
    clear hC
    have hrow:=HRow.of_block (hB1.block w.heap.size HRow.lt)
    have hct:=hrow.cell hm
    have hft:=hrow.frozen m
    have hBB:Below w.heap.size w w1:=hB.trans (hB1.mono hB.size)
    clear hB hB1 hc
    go_wp2_with fail
    refine⟨⟨m,by omega,by go_num,rfl,?_,hBB.setCell (p:=⟨w.heap.size,m,none⟩) (Nat.le_refl _) _⟩,by simp[intOf]⟩
    rw[<-HN.1]
    exact row_put11 hrow HN.2 hm _
   ·obtain rfl:k=0:=by omega
    rw[dnl_zero] at hrow
    have HN:Hid (NewC w.heap.size wr (some ⟨w.heap.size,0,none⟩) D b.length):=row_list11 hrow HD.1 (Nat.le_refl _)
    clear hrow
    go_wp2_with fail
    go_ret2
    have:=UL.mkok (L:=D) HE.out HN.out hB
    rw[HD.1] at this
    exact this
end Go.Proofs.YtkmmkcpfhnifhaaGreatDoor
