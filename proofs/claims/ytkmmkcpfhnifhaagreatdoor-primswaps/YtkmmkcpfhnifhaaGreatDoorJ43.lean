/- What the program tells, in part. -/
import Derived.Test.YtkmmkcpfhnifhaaGreatDoorJ42
set_option linter.unusedVariables false
set_option maxHeartbeats 4000000
set_option maxRecDepth 100000
namespace Go.Proofs.YtkmmkcpfhnifhaaGreatDoor
open Go.RowKit
theorem ix_holds:CIx:=by
 intro c sa sc sz da dc dz c' sa' sc' sz' da' dc' dz' w h1 h2 h1' h2' hs hd hs' hd' T T'
 have HI:Hid (IsInts w.heap.size w sa sz/\IsInts w.heap.size w da dz/\IsInts w.heap.size w sa' sz'/\IsInts w.heap.size w da' dz'):=⟨hs,hd,hs',hd'⟩
 have HT:Hid ((∀ j,In64 (nth dz j))/\∀ j,In64 (nth dz' j)):=⟨T,T'⟩
 clear hs hd hs' hd' T T'
 have pa:=((Abx.new w (.bool c) (.slice sa sz.length sc) (.slice da dz.length dc)).al (.cells #[.bool c',.slice sa' sz'.length sc',.slice da' dz'.length dc'] 27)).al (.cells #[.bool false,.slice none 0 0,.slice none 0 0] 27)
 have pb:=(Abx.new1 w (.cells #[.bool c,.slice sa sz.length sc,.slice da dz.length dc] 27) (.bool c') (.slice sa' sz'.length sc') (.slice da' dz'.length dc')).al (.cells #[.bool false,.slice none 0 0,.slice none 0 0] 27)
 have a0:=pa.c0
 have a1:=pa.c1
 have a2:=pa.c2
 have b0:=pb.c0
 have b1:=pb.c1
 have b2:=pb.c2
 clear pa pb
 obtain⟨W1,hW1⟩:∃ W1,W1=(((w.alloc (.cells #[.bool c,.slice sa sz.length sc,.slice da dz.length dc] 27)).alloc (.cells #[.bool c',.slice sa' sz'.length sc',.slice da' dz'.length dc'] 27)).alloc (.cells #[.bool false,.slice none 0 0,.slice none 0 0] 27)).alloc (.cells #[.bool c',.slice sa' sz'.length sc',.slice da' dz'.length dc'] 27):=⟨_,rfl⟩
 have HB0:Hid (Below w.heap.size w W1):=by rw[hW1];exact ((((Below.refl _ w).alloc (Nat.le_refl _) _).alloc (by simp) _).alloc (by simp;omega) _).alloc (by simp;omega) _
 have PA:Hid (Abx W1 w.heap.size (.bool c) (.slice sa sz.length sc) (.slice da dz.length dc)):=by rw[hW1];exact (((Abx.new w _ _ _).al _).al _).al _
 have PB:Hid (Abx W1 (w.heap.size+1) (.bool c') (.slice sa' sz'.length sc') (.slice da' dz'.length dc')):=by rw[hW1];exact ((Abx.new1 w _ _ _ _).al _).al _
 have PR:Hid (Abx W1 (w.heap.size+1+1) (.bool false) (.slice none 0 0) (.slice none 0 0)):=by
  rw[hW1]
  have:=Abx.new1 (w.alloc (.cells #[.bool c,.slice sa sz.length sc,.slice da dz.length dc] 27)) (.cells #[.bool c',.slice sa' sz'.length sc',.slice da' dz'.length dc'] 27) (.bool false) (.slice none 0 0) (.slice none 0 0)
  rw[World.size_alloc] at this
  exact this.al _
 have PS:Hid (Abx W1 (w.heap.size+1+1+1) (.bool c') (.slice sa' sz'.length sc') (.slice da' dz'.length dc')):=by
  rw[hW1]
  have:=Abx.new1 ((w.alloc (.cells #[.bool c,.slice sa sz.length sc,.slice da dz.length dc] 27)).alloc (.cells #[.bool c',.slice sa' sz'.length sc',.slice da' dz'.length dc'] 27)) (.cells #[.bool false,.slice none 0 0,.slice none 0 0] 27) (.bool c') (.slice sa' sz'.length sc') (.slice da' dz'.length dc')
  rw[World.size_alloc,World.size_alloc] at this
  exact this
 have hp:=chkall8 c sa sc sz da dc dz (some ⟨w.heap.size+1+1+1,0,none⟩) 1 [(c',(((sa',sc'),sz'),((da',dc'),dz')))] h1 h2 (by simp) W1 ((HI.1.below HB0.out).mono HB0.size) ((HI.2.1.below HB0.out).mono HB0.size) (isBs_one PS.out h1' h2' ((HI.2.2.1.below HB0.out).mono HB0.size) ((HI.2.2.2.below HB0.out).mono HB0.size))
 rw[List.length_singleton,bsE_one] at hp
 by_cases h0:flawsE c sz dz c' sz' dz'=0
 ·have HF0:Hid (flawE c sz dz=0/\flawE c' sz' dz'=0):=flawsE_zero.1 h0
  have er0:errV 0=.nilIface:=rfl
  have HE:Hid (ixE c sz dz c' sz' dz'=if sz.length≠1 then 3 else 0):=by show _=_;unfold ixE;rw[if_neg (not_not_intro h0)]
  rw[h0,er0] at hp
  clear h0 er0
  have hl4:dz.length<=4096:=(flawE_short HF0.1).2
  have hl4':dz'.length<=4096:=(flawE_short HF0.2).2
  have hs6:sz.length<=6:=(flawE_short HF0.1).1
  have hs6':sz'.length<=6:=(flawE_short HF0.2).1
  go_enter Tryz.func124,Tryz.ntmps124
  go_wp2_with fail
  rw[<-hW1]
  clear hW1 a0 a1 a2 b0 b1 b2
  refine hp.mono ?_
  clear hp
  rintro e v1 ⟨rfl,hC⟩
  have HB1:Hid (Below w.heap.size w v1):=HB0.trans (hC.mono HB0.size)
  have PA1:Hid (Abx v1 w.heap.size (.bool c) (.slice sa sz.length sc) (.slice da dz.length dc)):=PA.go hC
  have PB1:Hid (Abx v1 (w.heap.size+1) (.bool c') (.slice sa' sz'.length sc') (.slice da' dz'.length dc')):=PB.go hC
  have PR1:Hid (Abx v1 (w.heap.size+1+1) (.bool false) (.slice none 0 0) (.slice none 0 0)):=PR.go hC
  clear hC PA PB PR PS HB0
  have a0:=PA1.c0
  have a1:=PA1.c1
  have a2:=PA1.c2
  go_wp2_with fail
  refine (isline_any c sa sc sz (.slice da dz.length dc) v1).mono ?_
  rintro e v2 ⟨rfl,hC⟩
  have HB2:Hid (Below w.heap.size w v2):=HB1.trans (hC.mono HB1.size)
  have PA2:Hid (Abx v2 w.heap.size (.bool c) (.slice sa sz.length sc) (.slice da dz.length dc)):=PA1.go hC
  have PB2:Hid (Abx v2 (w.heap.size+1) (.bool c') (.slice sa' sz'.length sc') (.slice da' dz'.length dc')):=PB1.go hC
  have PR2:Hid (Abx v2 (w.heap.size+1+1) (.bool false) (.slice none 0 0) (.slice none 0 0)):=PR1.go hC
  clear hC PA1 PB1 PR1 a0 a1 a2
  by_cases hl:sz.length=1
  ·rw[decide_eq_true hl]
   have HN:Hid (ixE c sz dz c' sz' dz'=0):=by show _=_;rw[HE.out,if_neg (not_not_intro hl)]
   clear hl
   have a0:=PA2.c0
   have a1:=PA2.c1
   have a2:=PA2.c2
   have b0:=PB2.c0
   have b1:=PB2.c1
   have b2:=PB2.c2
   go_wp2_with fail
   refine (finder_any c (.slice sa sz.length sc) da dc dz c' hl4 v2 ((HI.2.1.below HB2.out).mono HB2.size) HT.1).mono ?_
   rintro e v3 ⟨p,rfl,hF,hC⟩
   have HBv3:Hid (Below w.heap.size w v3):=HB2.trans (hC.mono HB2.size)
   have HF:Hid (Finds v2.heap.size v3 p c c' dz):=hF
   have PAv3:Hid (Abx v3 w.heap.size (.bool c) (.slice sa sz.length sc) (.slice da dz.length dc)):=PA2.go hC
   have PBv3:Hid (Abx v3 (w.heap.size+1) (.bool c') (.slice sa' sz'.length sc') (.slice da' dz'.length dc')):=PB2.go hC
   have PRv3:Hid (Abx v3 (w.heap.size+1+1) (.bool false) (.slice none 0 0) (.slice none 0 0)):=PR2.go hC
   clear hF hC a0 a1 a2 b0 b1 b2
   obtain⟨u,hu⟩:∃ u,u=v3.alloc (.cells #[FindV p] 163):=⟨_,rfl⟩
   have HBu:Hid (Below w.heap.size w u):=by rw[hu];exact HBv3.alloc HBv3.size _
   have HFu:Hid (Finds v2.heap.size u p c c' dz):=by rw[hu];exact HF.go ((Below.refl _ v3).alloc (Nat.le_refl _) _)
   have HQ:Hid (u.heap[v3.heap.size]?=some (.cells #[FindV p] 163 (0,0))):=by rw[hu];exact heap_alloc_new v3 _
   have PAu:Hid (Abx u w.heap.size (.bool c) (.slice sa sz.length sc) (.slice da dz.length dc)):=by rw[hu];exact PAv3.al _
   have PBu:Hid (Abx u (w.heap.size+1) (.bool c') (.slice sa' sz'.length sc') (.slice da' dz'.length dc')):=by rw[hu];exact PBv3.al _
   have PRu:Hid (Abx u (w.heap.size+1+1) (.bool false) (.slice none 0 0) (.slice none 0 0)):=by rw[hu];exact PRv3.al _
   unfold FindV at hu
   have pb:=PBv3.al (.cells #[.func (.func 237) #[] #[.pointer (some ⟨p,0,none⟩)]] 163)
   have b0:=pb.c0
   have b1:=pb.c1
   have b2:=pb.c2
   clear pb
   go_wp2_with fail
   rw[<-hu]
   clear hu b0 b1 b2
   refine (tell8_any c' sa' sc' sz' da' dc' dz' 198 [.pointer (some ⟨v3.heap.size,0,none⟩),.pointer (some ⟨w.heap.size,0,none⟩)] (enters_of Tryz.func198 (by kernel_rfl) rfl) (ixD c dz c' dz') ixD_length (by omega) hl4' u ((HI.2.2.1.below HBu.out).mono HBu.size) ((HI.2.2.2.below HBu.out).mono HBu.size) (fun i hi w' hB=>by rw[ixD_nth hi];exact index1_any _ p v3.heap.size w.heap.size c c' da dc dz _ (HT.2 i) w' (HFu.go hB) (cell_of_one (blk_go8 HQ.out hB)) (PAu.go hB).c2)).mono ?_
   rintro e v5 ⟨xa,xc,ya,yc,rfl,hX,hY,hC⟩
   have HX:Hid (NewC u.heap.size v5 xa sz' xc/\NewC u.heap.size v5 ya (ixD c dz c' dz') yc):=⟨hX,hY⟩
   have HB5:Hid (Below w.heap.size w v5):=HBu.trans (hC.mono HBu.size)
   have PR5:Hid (Abx v5 (w.heap.size+1+1) (.bool false) (.slice none 0 0) (.slice none 0 0)):=PRu.go hC
   have z1:w.heap.size+1+1<u.heap.size:=PRu.lt
   clear hX hY hC
   generalize hD:ixD c dz c' dz'=D at *
   have HDD:Hid (ixD c dz c' dz'=D):=hD
   clear hD
   have r0:=PR5.c0
   have r1:=PR5.c1
   have r2:=PR5.c2
   have f0:=PR5.fr 0
   have f1:=PR5.fr 1
   have f2:=PR5.fr 2
   go_wp2_with fail
   have F:=PR5.set3 (.bool false) (.slice xa sz'.length xc) (.slice ya D.length yc)
   have q0:=F.c0
   have q1:=F.c1
   have q2:=F.c2
   refine bodyPost_ret (v:=.tuple #[.agg #[.bool false,.slice xa sz'.length xc,.slice ya D.length yc],.nilIface]) (by simp[results,Tryz.results124,go_sem,q0,q1,q2]) rfl ?_
   exact ub_ok HN.out ((HX.1.set3 z1 _ _ _).low HBu.size) ((HX.2.set3 z1 _ _ _).low HBu.size) (bel_set3 HB5.out (by omega) _ _ _)
  ·rw[decide_eq_false hl]
   have HN:Hid (ixE c sz dz c' sz' dz'=3):=by show _=_;rw[HE.out,if_pos hl]
   clear hl
   have r0:=PR2.c0
   have r1:=PR2.c1
   have r2:=PR2.c2
   have f0:=PR2.fr 0
   have f1:=PR2.fr 1
   have f2:=PR2.fr 2
   go_wp2_with fail
   have F:=PR2.set3 (.bool false) (.slice none 0 0) (.slice none 0 0)
   have q0:=F.c0
   have q1:=F.c1
   have q2:=F.c2
   exact bodyPost_ret (v:=.tuple #[.agg #[.bool false,.slice none 0 0,.slice none 0 0],.iface 28 (.int .i64 3)]) (by simp[results,Tryz.results124,go_sem,q0,q1,q2]) rfl (ub_no HN.out (by decide) (bel_set3 HB2.out (by omega) _ _ _))
 ·have HE:Hid (ixE c sz dz c' sz' dz'=flawsE c sz dz c' sz' dz'/\flawsE c sz dz c' sz' dz'≠0):=⟨by unfold ixE;rw[if_pos h0],h0⟩
  rw[errV_pos h0] at hp
  clear h0
  go_enter Tryz.func124,Tryz.ntmps124
  go_wp2_with fail
  rw[<-hW1]
  clear hW1 a0 a1 a2 b0 b1 b2
  refine hp.mono ?_
  clear hp
  rintro e v1 ⟨rfl,hC⟩
  have HB1:Hid (Below w.heap.size w v1):=HB0.trans (hC.mono HB0.size)
  have PA1:Hid (Abx v1 w.heap.size (.bool c) (.slice sa sz.length sc) (.slice da dz.length dc)):=PA.go hC
  have PB1:Hid (Abx v1 (w.heap.size+1) (.bool c') (.slice sa' sz'.length sc') (.slice da' dz'.length dc')):=PB.go hC
  have PR1:Hid (Abx v1 (w.heap.size+1+1) (.bool false) (.slice none 0 0) (.slice none 0 0)):=PR.go hC
  clear hC PA PB PR PS HB0
  have r0:=PR1.c0
  have r1:=PR1.c1
  have r2:=PR1.c2
  have f0:=PR1.fr 0
  have f1:=PR1.fr 1
  have f2:=PR1.fr 2
  go_wp2_with fail
  have F:=PR1.set3 (.bool false) (.slice none 0 0) (.slice none 0 0)
  have q0:=F.c0
  have q1:=F.c1
  have q2:=F.c2
  exact bodyPost_ret (v:=.tuple #[.agg #[.bool false,.slice none 0 0,.slice none 0 0],.iface 28 (.int .i64 (flawsE c sz dz c' sz' dz'))]) (by simp[results,Tryz.results124,go_sem,q0,q1,q2]) rfl (ub_no HE.1 HE.2 (bel_set3 HB1.out (by omega) _ _ _))
theorem in_holds:CIn:=by
 intro c sa sc sz da dc dz c' sa' sc' sz' da' dc' dz' w h1 h2 h1' h2' hs hd hs' hd' T T'
 have HI:Hid (IsInts w.heap.size w sa sz/\IsInts w.heap.size w da dz/\IsInts w.heap.size w sa' sz'/\IsInts w.heap.size w da' dz'):=⟨hs,hd,hs',hd'⟩
 have HT:Hid ((∀ j,In64 (nth dz j))/\∀ j,In64 (nth dz' j)):=⟨T,T'⟩
 clear hs hd hs' hd' T T'
 have pa:=((Abx.new w (.bool c) (.slice sa sz.length sc) (.slice da dz.length dc)).al (.cells #[.bool c',.slice sa' sz'.length sc',.slice da' dz'.length dc'] 27)).al (.cells #[.bool false,.slice none 0 0,.slice none 0 0] 27)
 have pb:=(Abx.new1 w (.cells #[.bool c,.slice sa sz.length sc,.slice da dz.length dc] 27) (.bool c') (.slice sa' sz'.length sc') (.slice da' dz'.length dc')).al (.cells #[.bool false,.slice none 0 0,.slice none 0 0] 27)
 have a0:=pa.c0
 have a1:=pa.c1
 have a2:=pa.c2
 have b0:=pb.c0
 have b1:=pb.c1
 have b2:=pb.c2
 clear pa pb
 obtain⟨W1,hW1⟩:∃ W1,W1=(((w.alloc (.cells #[.bool c,.slice sa sz.length sc,.slice da dz.length dc] 27)).alloc (.cells #[.bool c',.slice sa' sz'.length sc',.slice da' dz'.length dc'] 27)).alloc (.cells #[.bool false,.slice none 0 0,.slice none 0 0] 27)).alloc (.cells #[.bool c',.slice sa' sz'.length sc',.slice da' dz'.length dc'] 27):=⟨_,rfl⟩
 have HB0:Hid (Below w.heap.size w W1):=by rw[hW1];exact ((((Below.refl _ w).alloc (Nat.le_refl _) _).alloc (by simp) _).alloc (by simp;omega) _).alloc (by simp;omega) _
 have PA:Hid (Abx W1 w.heap.size (.bool c) (.slice sa sz.length sc) (.slice da dz.length dc)):=by rw[hW1];exact (((Abx.new w _ _ _).al _).al _).al _
 have PB:Hid (Abx W1 (w.heap.size+1) (.bool c') (.slice sa' sz'.length sc') (.slice da' dz'.length dc')):=by rw[hW1];exact ((Abx.new1 w _ _ _ _).al _).al _
 have PR:Hid (Abx W1 (w.heap.size+1+1) (.bool false) (.slice none 0 0) (.slice none 0 0)):=by
  rw[hW1]
  have:=Abx.new1 (w.alloc (.cells #[.bool c,.slice sa sz.length sc,.slice da dz.length dc] 27)) (.cells #[.bool c',.slice sa' sz'.length sc',.slice da' dz'.length dc'] 27) (.bool false) (.slice none 0 0) (.slice none 0 0)
  rw[World.size_alloc] at this
  exact this.al _
 have PS:Hid (Abx W1 (w.heap.size+1+1+1) (.bool c') (.slice sa' sz'.length sc') (.slice da' dz'.length dc')):=by
  rw[hW1]
  have:=Abx.new1 ((w.alloc (.cells #[.bool c,.slice sa sz.length sc,.slice da dz.length dc] 27)).alloc (.cells #[.bool c',.slice sa' sz'.length sc',.slice da' dz'.length dc'] 27)) (.cells #[.bool false,.slice none 0 0,.slice none 0 0] 27) (.bool c') (.slice sa' sz'.length sc') (.slice da' dz'.length dc')
  rw[World.size_alloc,World.size_alloc] at this
  exact this
 have hp:=chkall8 c sa sc sz da dc dz (some ⟨w.heap.size+1+1+1,0,none⟩) 1 [(c',(((sa',sc'),sz'),((da',dc'),dz')))] h1 h2 (by simp) W1 ((HI.1.below HB0.out).mono HB0.size) ((HI.2.1.below HB0.out).mono HB0.size) (isBs_one PS.out h1' h2' ((HI.2.2.1.below HB0.out).mono HB0.size) ((HI.2.2.2.below HB0.out).mono HB0.size))
 rw[List.length_singleton,bsE_one] at hp
 by_cases h0:flawsE c sz dz c' sz' dz'=0
 ·have HF0:Hid (flawE c sz dz=0/\flawE c' sz' dz'=0):=flawsE_zero.1 h0
  have er0:errV 0=.nilIface:=rfl
  have HE:Hid (flawsE c sz dz c' sz' dz'=0):=h0
  rw[h0,er0] at hp
  clear h0 er0
  have hl4:dz.length<=4096:=(flawE_short HF0.1).2
  have hl4':dz'.length<=4096:=(flawE_short HF0.2).2
  have hs6:sz.length<=6:=(flawE_short HF0.1).1
  have hs6':sz'.length<=6:=(flawE_short HF0.2).1
  go_enter Tryz.func125,Tryz.ntmps125
  go_wp2_with fail
  rw[<-hW1]
  clear hW1 a0 a1 a2 b0 b1 b2
  refine hp.mono ?_
  clear hp
  rintro e v1 ⟨rfl,hC⟩
  have HB1:Hid (Below w.heap.size w v1):=HB0.trans (hC.mono HB0.size)
  have PA1:Hid (Abx v1 w.heap.size (.bool c) (.slice sa sz.length sc) (.slice da dz.length dc)):=PA.go hC
  have PB1:Hid (Abx v1 (w.heap.size+1) (.bool c') (.slice sa' sz'.length sc') (.slice da' dz'.length dc')):=PB.go hC
  have PR1:Hid (Abx v1 (w.heap.size+1+1) (.bool false) (.slice none 0 0) (.slice none 0 0)):=PR.go hC
  clear hC PA PB PR PS HB0
  have HN:=HE
  have a0:=PA1.c0
  have a1:=PA1.c1
  have a2:=PA1.c2
  have b0:=PB1.c0
  have b1:=PB1.c1
  have b2:=PB1.c2
  go_wp2_with fail
  refine (finder_any c' (.slice sa' sz'.length sc') da' dc' dz' c hl4' v1 ((HI.2.2.2.below HB1.out).mono HB1.size) HT.2).mono ?_
  rintro e v3 ⟨p,rfl,hF,hC⟩
  have HBv3:Hid (Below w.heap.size w v3):=HB1.trans (hC.mono HB1.size)
  have HF:Hid (Finds v1.heap.size v3 p c' c dz'):=hF
  have PAv3:Hid (Abx v3 w.heap.size (.bool c) (.slice sa sz.length sc) (.slice da dz.length dc)):=PA1.go hC
  have PBv3:Hid (Abx v3 (w.heap.size+1) (.bool c') (.slice sa' sz'.length sc') (.slice da' dz'.length dc')):=PB1.go hC
  have PRv3:Hid (Abx v3 (w.heap.size+1+1) (.bool false) (.slice none 0 0) (.slice none 0 0)):=PR1.go hC
  clear hF hC a0 a1 a2 b0 b1 b2
  obtain⟨u,hu⟩:∃ u,u=v3.alloc (.cells #[FindV p] 163):=⟨_,rfl⟩
  have HBu:Hid (Below w.heap.size w u):=by rw[hu];exact HBv3.alloc HBv3.size _
  have HFu:Hid (Finds v1.heap.size u p c' c dz'):=by rw[hu];exact HF.go ((Below.refl _ v3).alloc (Nat.le_refl _) _)
  have HQ:Hid (u.heap[v3.heap.size]?=some (.cells #[FindV p] 163 (0,0))):=by rw[hu];exact heap_alloc_new v3 _
  have PAu:Hid (Abx u w.heap.size (.bool c) (.slice sa sz.length sc) (.slice da dz.length dc)):=by rw[hu];exact PAv3.al _
  have PBu:Hid (Abx u (w.heap.size+1) (.bool c') (.slice sa' sz'.length sc') (.slice da' dz'.length dc')):=by rw[hu];exact PBv3.al _
  have PRu:Hid (Abx u (w.heap.size+1+1) (.bool false) (.slice none 0 0) (.slice none 0 0)):=by rw[hu];exact PRv3.al _
  unfold FindV at hu
  have pb:=PAv3.al (.cells #[.func (.func 237) #[] #[.pointer (some ⟨p,0,none⟩)]] 163)
  have b0:=pb.c0
  have b1:=pb.c1
  have b2:=pb.c2
  clear pb
  go_wp2_with fail
  rw[<-hu]
  clear hu b0 b1 b2
  refine (tell8_any c sa sc sz da dc dz 199 [.pointer (some ⟨v3.heap.size,0,none⟩)] (enters_of Tryz.func199 (by kernel_rfl) rfl) (inD c dz c' dz') inD_length (by omega) hl4 u ((HI.1.below HBu.out).mono HBu.size) ((HI.2.1.below HBu.out).mono HBu.size) (fun i hi w' hB=>by rw[inD_nth hi];exact in1_any _ p v3.heap.size c' c dz' _ (HT.1 i) w' (HFu.go hB) (cell_of_one (blk_go8 HQ.out hB)))).mono ?_
  rintro e v5 ⟨xa,xc,ya,yc,rfl,hX,hY,hC⟩
  have HX:Hid (NewC u.heap.size v5 xa sz xc/\NewC u.heap.size v5 ya (inD c dz c' dz') yc):=⟨hX,hY⟩
  have HB5:Hid (Below w.heap.size w v5):=HBu.trans (hC.mono HBu.size)
  have PR5:Hid (Abx v5 (w.heap.size+1+1) (.bool false) (.slice none 0 0) (.slice none 0 0)):=PRu.go hC
  have z1:w.heap.size+1+1<u.heap.size:=PRu.lt
  clear hX hY hC
  generalize hD:inD c dz c' dz'=D at *
  have HDD:Hid (inD c dz c' dz'=D):=hD
  clear hD
  have r0:=PR5.c0
  have r1:=PR5.c1
  have r2:=PR5.c2
  have f0:=PR5.fr 0
  have f1:=PR5.fr 1
  have f2:=PR5.fr 2
  go_wp2_with fail
  have F:=PR5.set3 (.bool false) (.slice xa sz.length xc) (.slice ya D.length yc)
  have q0:=F.c0
  have q1:=F.c1
  have q2:=F.c2
  refine bodyPost_ret (v:=.tuple #[.agg #[.bool false,.slice xa sz.length xc,.slice ya D.length yc],.nilIface]) (by simp[results,Tryz.results125,go_sem,q0,q1,q2]) rfl ?_
  exact ub_ok HN.out ((HX.1.set3 z1 _ _ _).low HBu.size) ((HX.2.set3 z1 _ _ _).low HBu.size) (bel_set3 HB5.out (by omega) _ _ _)
 ·have HE:Hid (flawsE c sz dz c' sz' dz'=flawsE c sz dz c' sz' dz'/\flawsE c sz dz c' sz' dz'≠0):=⟨rfl,h0⟩
  rw[errV_pos h0] at hp
  clear h0
  go_enter Tryz.func125,Tryz.ntmps125
  go_wp2_with fail
  rw[<-hW1]
  clear hW1 a0 a1 a2 b0 b1 b2
  refine hp.mono ?_
  clear hp
  rintro e v1 ⟨rfl,hC⟩
  have HB1:Hid (Below w.heap.size w v1):=HB0.trans (hC.mono HB0.size)
  have PA1:Hid (Abx v1 w.heap.size (.bool c) (.slice sa sz.length sc) (.slice da dz.length dc)):=PA.go hC
  have PB1:Hid (Abx v1 (w.heap.size+1) (.bool c') (.slice sa' sz'.length sc') (.slice da' dz'.length dc')):=PB.go hC
  have PR1:Hid (Abx v1 (w.heap.size+1+1) (.bool false) (.slice none 0 0) (.slice none 0 0)):=PR.go hC
  clear hC PA PB PR PS HB0
  have r0:=PR1.c0
  have r1:=PR1.c1
  have r2:=PR1.c2
  have f0:=PR1.fr 0
  have f1:=PR1.fr 1
  have f2:=PR1.fr 2
  go_wp2_with fail
  have F:=PR1.set3 (.bool false) (.slice none 0 0) (.slice none 0 0)
  have q0:=F.c0
  have q1:=F.c1
  have q2:=F.c2
  exact bodyPost_ret (v:=.tuple #[.agg #[.bool false,.slice none 0 0,.slice none 0 0],.iface 28 (.int .i64 (flawsE c sz dz c' sz' dz'))]) (by simp[results,Tryz.results125,go_sem,q0,q1,q2]) rfl (ub_no rfl HE.2 (bel_set3 HB1.out (by omega) _ _ _))
theorem wo_holds:CWo:=by
 intro c sa sc sz da dc dz c' sa' sc' sz' da' dc' dz' w h1 h2 h1' h2' hs hd hs' hd' T T'
 have HI:Hid (IsInts w.heap.size w sa sz/\IsInts w.heap.size w da dz/\IsInts w.heap.size w sa' sz'/\IsInts w.heap.size w da' dz'):=⟨hs,hd,hs',hd'⟩
 have HT:Hid ((∀ j,In64 (nth dz j))/\∀ j,In64 (nth dz' j)):=⟨T,T'⟩
 clear hs hd hs' hd' T T'
 have pa:=((Abx.new w (.bool c) (.slice sa sz.length sc) (.slice da dz.length dc)).al (.cells #[.bool c',.slice sa' sz'.length sc',.slice da' dz'.length dc'] 27)).al (.cells #[.bool false,.slice none 0 0,.slice none 0 0] 27)
 have pb:=(Abx.new1 w (.cells #[.bool c,.slice sa sz.length sc,.slice da dz.length dc] 27) (.bool c') (.slice sa' sz'.length sc') (.slice da' dz'.length dc')).al (.cells #[.bool false,.slice none 0 0,.slice none 0 0] 27)
 have a0:=pa.c0
 have a1:=pa.c1
 have a2:=pa.c2
 have b0:=pb.c0
 have b1:=pb.c1
 have b2:=pb.c2
 clear pa pb
 obtain⟨W1,hW1⟩:∃ W1,W1=(((w.alloc (.cells #[.bool c,.slice sa sz.length sc,.slice da dz.length dc] 27)).alloc (.cells #[.bool c',.slice sa' sz'.length sc',.slice da' dz'.length dc'] 27)).alloc (.cells #[.bool false,.slice none 0 0,.slice none 0 0] 27)).alloc (.cells #[.bool c',.slice sa' sz'.length sc',.slice da' dz'.length dc'] 27):=⟨_,rfl⟩
 have HB0:Hid (Below w.heap.size w W1):=by rw[hW1];exact ((((Below.refl _ w).alloc (Nat.le_refl _) _).alloc (by simp) _).alloc (by simp;omega) _).alloc (by simp;omega) _
 have PA:Hid (Abx W1 w.heap.size (.bool c) (.slice sa sz.length sc) (.slice da dz.length dc)):=by rw[hW1];exact (((Abx.new w _ _ _).al _).al _).al _
 have PB:Hid (Abx W1 (w.heap.size+1) (.bool c') (.slice sa' sz'.length sc') (.slice da' dz'.length dc')):=by rw[hW1];exact ((Abx.new1 w _ _ _ _).al _).al _
 have PR:Hid (Abx W1 (w.heap.size+1+1) (.bool false) (.slice none 0 0) (.slice none 0 0)):=by
  rw[hW1]
  have:=Abx.new1 (w.alloc (.cells #[.bool c,.slice sa sz.length sc,.slice da dz.length dc] 27)) (.cells #[.bool c',.slice sa' sz'.length sc',.slice da' dz'.length dc'] 27) (.bool false) (.slice none 0 0) (.slice none 0 0)
  rw[World.size_alloc] at this
  exact this.al _
 have PS:Hid (Abx W1 (w.heap.size+1+1+1) (.bool c') (.slice sa' sz'.length sc') (.slice da' dz'.length dc')):=by
  rw[hW1]
  have:=Abx.new1 ((w.alloc (.cells #[.bool c,.slice sa sz.length sc,.slice da dz.length dc] 27)).alloc (.cells #[.bool c',.slice sa' sz'.length sc',.slice da' dz'.length dc'] 27)) (.cells #[.bool false,.slice none 0 0,.slice none 0 0] 27) (.bool c') (.slice sa' sz'.length sc') (.slice da' dz'.length dc')
  rw[World.size_alloc,World.size_alloc] at this
  exact this
 have hp:=chklines_any c sa sc sz da dc dz (some ⟨w.heap.size+1+1+1,0,none⟩) 1 [(c',(((sa',sc'),sz'),((da',dc'),dz')))] h1 h2 (by simp) W1 ((HI.1.below HB0.out).mono HB0.size) ((HI.2.1.below HB0.out).mono HB0.size) (isBs_one PS.out h1' h2' ((HI.2.2.1.below HB0.out).mono HB0.size) ((HI.2.2.2.below HB0.out).mono HB0.size))
 rw[List.length_singleton,lnE_one] at hp
 by_cases h0:lsE c sz dz c' sz' dz'=0
 ·have HN:Hid (lsE c sz dz c' sz' dz'=0):=h0
  have er0:errV 0=.nilIface:=rfl
  rw[h0,er0] at hp
  have hl4:dz.length<=4096:=(flawE_short (lsE_zero.1 h0).1).2
  have hl4':dz'.length<=4096:=(flawE_short (lsE_zero.1 h0).2.1).2
  clear h0 er0
  go_enter Tryz.func126,Tryz.ntmps126
  go_wp2_with fail
  rw[<-hW1]
  clear hW1 a0 a1 a2 b0 b1 b2
  refine hp.mono ?_
  clear hp
  rintro e v1 ⟨rfl,hC⟩
  have HB1:Hid (Below w.heap.size w v1):=HB0.trans (hC.mono HB0.size)
  have PA1:Hid (Abx v1 w.heap.size (.bool c) (.slice sa sz.length sc) (.slice da dz.length dc)):=PA.go hC
  have PB1:Hid (Abx v1 (w.heap.size+1) (.bool c') (.slice sa' sz'.length sc') (.slice da' dz'.length dc')):=PB.go hC
  have PR1:Hid (Abx v1 (w.heap.size+1+1) (.bool false) (.slice none 0 0) (.slice none 0 0)):=PR.go hC
  clear hC PA PB PR PS HB0
  have a0:=PA1.c0
  have a1:=PA1.c1
  have a2:=PA1.c2
  have b0:=PB1.c0
  have b1:=PB1.c1
  have b2:=PB1.c2
  go_wp2_with fail
  have HBd:Hid (Below w.heap.size w v1.drew):=HB1.drew
  have PRv1:=PR1
  refine bT 6 (fun w'=>w'.cell? ⟨w.heap.size,0,none⟩=some (.bool c)/\w'.cell? ⟨w.heap.size,1,none⟩=some (.slice sa sz.length sc)/\w'.cell? ⟨w.heap.size,2,none⟩=some (.slice da dz.length dc)/\w'.cell? ⟨w.heap.size+1,0,none⟩=some (.bool c')/\w'.cell? ⟨w.heap.size+1,1,none⟩=some (.slice sa' sz'.length sc')/\w'.cell? ⟨w.heap.size+1,2,none⟩=some (.slice da' dz'.length dc')) 8 (⟨a0,a1,a2,b0,b1,b2⟩) fun hq0=>?_
  refine pT 0 hq0 ?_;refine lT 1 hq0 ?_;refine lT 2 hq0 ?_;refine lT 3 hq0 ?_
  clear hq0
  refine oT 4 fun K hK=>?_
  go_simp
  go_wp2_with (go_at_call 200;refine (apart_any c sa sc sz da dc dz c' sa' sc' sz' da' dc' dz' hl4 hl4' v1.drew ((HI.2.1.below HBd.out).mono HBd.size) ((HI.2.2.2.below HBd.out).mono HBd.size) HT.1 HT.2).mono ?_;rintro e w2 ⟨g,gc,rfl,hN2,hB2⟩)
  have P2:=PA1.dr.go hB2
  have Q2:=PB1.dr.go hB2
  refine hK.out _ _ (fun _=>⟨P2.c0,P2.c1,P2.c2,Q2.c0,Q2.c1,Q2.c2⟩) ?_
  clear hK K
  refine oT 5 fun K hK=>?_
  go_simp
  go_wp2_with (go_at_call 175;refine (line8_any c g gc (shD c dz c' dz' false) w2).mono ?_;rintro e w3 ⟨xa,xc,rfl,hX,hB3⟩)
  have P3:=P2.go hB3
  have Q3:=Q2.go hB3
  have R3:=(PR1.dr.go hB2).go hB3
  have r0:=R3.c0
  have r1:=R3.c1
  have r2:=R3.c2
  have f0:=R3.fr 0
  have f1:=R3.fr 1
  have f2:=R3.fr 2
  refine hK.out _ _ (fun _=>⟨P3.c0,P3.c1,P3.c2,Q3.c0,Q3.c1,Q3.c2⟩) ?_
  clear hK K
  refine oT 6 fun K hK=>?_
  go_simp
  refine hK.out _ _ (fun h=>absurd h (by decide)) ?_
  clear hK K
  refine oT 7 fun K hK=>?_
  go_simp
  refine hK.out _ _ (fun h=>absurd h (by decide)) ?_
  clear hK K
  refine dT ?_
  go_wp2_with fail
  have F:=R3.set3 (.bool c) (.slice xa 1 xc) (.slice g (shD c dz c' dz' false).length gc)
  have q0:=F.c0
  have q1:=F.c1
  have q2:=F.c2
  have z1:w.heap.size+1+1<v1.drew.heap.size:=PRv1.lt
  have z2:=hB2.size
  have z3:=HBd.size
  refine bodyPost_ret (v:=.tuple #[.agg #[.bool c,.slice xa 1 xc,.slice g (shD c dz c' dz' false).length gc],.nilIface]) (by simp[results,Tryz.results126,go_sem,q0,q1,q2]) rfl ?_
  exact ub_ok (S:=[((shD c dz c' dz' false).length:Int)]) (D:=(shD c dz c' dz' false)) HN.out ((hX.set3 (Nat.lt_of_lt_of_le z1 z2) _ _ _).low (Nat.le_trans z3 z2)) (((hN2.go hB3).set3 z1 _ _ _).low z3) (bel_set3 (HBd.trans ((hB2.mono z3).trans (hB3.mono (Nat.le_trans z3 z2)))) (by omega) _ _ _)
 ·have H0:Hid (lsE c sz dz c' sz' dz'≠0):=h0
  rw[errV_pos h0] at hp
  clear h0
  go_enter Tryz.func126,Tryz.ntmps126
  go_wp2_with fail
  rw[<-hW1]
  clear hW1 a0 a1 a2 b0 b1 b2
  refine hp.mono ?_
  clear hp
  rintro e v1 ⟨rfl,hC⟩
  have HB1:Hid (Below w.heap.size w v1):=HB0.trans (hC.mono HB0.size)
  have PA1:Hid (Abx v1 w.heap.size (.bool c) (.slice sa sz.length sc) (.slice da dz.length dc)):=PA.go hC
  have PB1:Hid (Abx v1 (w.heap.size+1) (.bool c') (.slice sa' sz'.length sc') (.slice da' dz'.length dc')):=PB.go hC
  have PR1:Hid (Abx v1 (w.heap.size+1+1) (.bool false) (.slice none 0 0) (.slice none 0 0)):=PR.go hC
  clear hC PA PB PR PS HB0
  have r0:=PR1.c0
  have r1:=PR1.c1
  have r2:=PR1.c2
  have f0:=PR1.fr 0
  have f1:=PR1.fr 1
  have f2:=PR1.fr 2
  go_wp2_with fail
  have F:=PR1.set3 (.bool false) (.slice none 0 0) (.slice none 0 0)
  have q0:=F.c0
  have q1:=F.c1
  have q2:=F.c2
  exact bodyPost_ret (v:=.tuple #[.agg #[.bool false,.slice none 0 0,.slice none 0 0],.iface 28 (.int .i64 (lsE c sz dz c' sz' dz'))]) (by simp[results,Tryz.results126,go_sem,q0,q1,q2]) rfl (ub_no rfl H0.out (bel_set3 HB1.out (by omega) _ _ _))
theorem mt_holds:CMt:=by
 intro c sa sc sz da dc dz c' sa' sc' sz' da' dc' dz' w h1 h2 h1' h2' hs hd hs' hd' T T'
 have HI:Hid (IsInts w.heap.size w sa sz/\IsInts w.heap.size w da dz/\IsInts w.heap.size w sa' sz'/\IsInts w.heap.size w da' dz'):=⟨hs,hd,hs',hd'⟩
 have HT:Hid ((∀ j,In64 (nth dz j))/\∀ j,In64 (nth dz' j)):=⟨T,T'⟩
 clear hs hd hs' hd' T T'
 have pa:=((Abx.new w (.bool c) (.slice sa sz.length sc) (.slice da dz.length dc)).al (.cells #[.bool c',.slice sa' sz'.length sc',.slice da' dz'.length dc'] 27)).al (.cells #[.bool false,.slice none 0 0,.slice none 0 0] 27)
 have pb:=(Abx.new1 w (.cells #[.bool c,.slice sa sz.length sc,.slice da dz.length dc] 27) (.bool c') (.slice sa' sz'.length sc') (.slice da' dz'.length dc')).al (.cells #[.bool false,.slice none 0 0,.slice none 0 0] 27)
 have a0:=pa.c0
 have a1:=pa.c1
 have a2:=pa.c2
 have b0:=pb.c0
 have b1:=pb.c1
 have b2:=pb.c2
 clear pa pb
 obtain⟨W1,hW1⟩:∃ W1,W1=(((w.alloc (.cells #[.bool c,.slice sa sz.length sc,.slice da dz.length dc] 27)).alloc (.cells #[.bool c',.slice sa' sz'.length sc',.slice da' dz'.length dc'] 27)).alloc (.cells #[.bool false,.slice none 0 0,.slice none 0 0] 27)).alloc (.cells #[.bool c',.slice sa' sz'.length sc',.slice da' dz'.length dc'] 27):=⟨_,rfl⟩
 have HB0:Hid (Below w.heap.size w W1):=by rw[hW1];exact ((((Below.refl _ w).alloc (Nat.le_refl _) _).alloc (by simp) _).alloc (by simp;omega) _).alloc (by simp;omega) _
 have PA:Hid (Abx W1 w.heap.size (.bool c) (.slice sa sz.length sc) (.slice da dz.length dc)):=by rw[hW1];exact (((Abx.new w _ _ _).al _).al _).al _
 have PB:Hid (Abx W1 (w.heap.size+1) (.bool c') (.slice sa' sz'.length sc') (.slice da' dz'.length dc')):=by rw[hW1];exact ((Abx.new1 w _ _ _ _).al _).al _
 have PR:Hid (Abx W1 (w.heap.size+1+1) (.bool false) (.slice none 0 0) (.slice none 0 0)):=by
  rw[hW1]
  have:=Abx.new1 (w.alloc (.cells #[.bool c,.slice sa sz.length sc,.slice da dz.length dc] 27)) (.cells #[.bool c',.slice sa' sz'.length sc',.slice da' dz'.length dc'] 27) (.bool false) (.slice none 0 0) (.slice none 0 0)
  rw[World.size_alloc] at this
  exact this.al _
 have PS:Hid (Abx W1 (w.heap.size+1+1+1) (.bool c') (.slice sa' sz'.length sc') (.slice da' dz'.length dc')):=by
  rw[hW1]
  have:=Abx.new1 ((w.alloc (.cells #[.bool c,.slice sa sz.length sc,.slice da dz.length dc] 27)).alloc (.cells #[.bool c',.slice sa' sz'.length sc',.slice da' dz'.length dc'] 27)) (.cells #[.bool false,.slice none 0 0,.slice none 0 0] 27) (.bool c') (.slice sa' sz'.length sc') (.slice da' dz'.length dc')
  rw[World.size_alloc,World.size_alloc] at this
  exact this
 have hp:=chklines_any c sa sc sz da dc dz (some ⟨w.heap.size+1+1+1,0,none⟩) 1 [(c',(((sa',sc'),sz'),((da',dc'),dz')))] h1 h2 (by simp) W1 ((HI.1.below HB0.out).mono HB0.size) ((HI.2.1.below HB0.out).mono HB0.size) (isBs_one PS.out h1' h2' ((HI.2.2.1.below HB0.out).mono HB0.size) ((HI.2.2.2.below HB0.out).mono HB0.size))
 rw[List.length_singleton,lnE_one] at hp
 by_cases h0:lsE c sz dz c' sz' dz'=0
 ·have HN:Hid (lsE c sz dz c' sz' dz'=0):=h0
  have er0:errV 0=.nilIface:=rfl
  rw[h0,er0] at hp
  have hl4:dz.length<=4096:=(flawE_short (lsE_zero.1 h0).1).2
  have hl4':dz'.length<=4096:=(flawE_short (lsE_zero.1 h0).2.1).2
  clear h0 er0
  go_enter Tryz.func128,Tryz.ntmps128
  go_wp2_with fail
  rw[<-hW1]
  clear hW1 a0 a1 a2 b0 b1 b2
  refine hp.mono ?_
  clear hp
  rintro e v1 ⟨rfl,hC⟩
  have HB1:Hid (Below w.heap.size w v1):=HB0.trans (hC.mono HB0.size)
  have PA1:Hid (Abx v1 w.heap.size (.bool c) (.slice sa sz.length sc) (.slice da dz.length dc)):=PA.go hC
  have PB1:Hid (Abx v1 (w.heap.size+1) (.bool c') (.slice sa' sz'.length sc') (.slice da' dz'.length dc')):=PB.go hC
  have PR1:Hid (Abx v1 (w.heap.size+1+1) (.bool false) (.slice none 0 0) (.slice none 0 0)):=PR.go hC
  clear hC PA PB PR PS HB0
  have a0:=PA1.c0
  have a1:=PA1.c1
  have a2:=PA1.c2
  have b0:=PB1.c0
  have b1:=PB1.c1
  have b2:=PB1.c2
  go_wp2_with fail
  refine (finder_any c' (.slice sa' sz'.length sc') da' dc' dz' c hl4' v1 ((HI.2.2.2.below HB1.out).mono HB1.size) HT.2).mono ?_
  rintro e v3 ⟨p,rfl,hF,hC⟩
  have HBv3:Hid (Below w.heap.size w v3):=HB1.trans (hC.mono HB1.size)
  have HF:Hid (Finds v1.heap.size v3 p c' c dz'):=hF
  have PAv3:Hid (Abx v3 w.heap.size (.bool c) (.slice sa sz.length sc) (.slice da dz.length dc)):=PA1.go hC
  have PRv3:Hid (Abx v3 (w.heap.size+1+1) (.bool false) (.slice none 0 0) (.slice none 0 0)):=PR1.go hC
  clear hF hC a0 a1 a2 b0 b1 b2
  obtain⟨u,hu⟩:∃ u,u=v3.alloc (.cells #[FindV p] 163):=⟨_,rfl⟩
  have HBu:Hid (Below w.heap.size w u):=by rw[hu];exact HBv3.alloc HBv3.size _
  have HFu:Hid (Finds v1.heap.size u p c' c dz'):=by rw[hu];exact HF.go ((Below.refl _ v3).alloc (Nat.le_refl _) _)
  have HQ:Hid (u.heap[v3.heap.size]?=some (.cells #[FindV p] 163 (0,0))):=by rw[hu];exact heap_alloc_new v3 _
  have PAu:Hid (Abx u w.heap.size (.bool c) (.slice sa sz.length sc) (.slice da dz.length dc)):=by rw[hu];exact PAv3.al _
  have PRu:Hid (Abx u (w.heap.size+1+1) (.bool false) (.slice none 0 0) (.slice none 0 0)):=by rw[hu];exact PRv3.al _
  unfold FindV at hu
  go_wp2_with fail
  rw[<-hu]
  clear hu
  have a0:=PAu.c0
  have a1:=PAu.c1
  have a2:=PAu.c2
  have HBd:Hid (Below w.heap.size w u.drew):=HBu.drew
  refine bT 6 (fun w'=>w'.cell? ⟨w.heap.size,0,none⟩=some (.bool c)/\w'.cell? ⟨w.heap.size,1,none⟩=some (.slice sa sz.length sc)/\w'.cell? ⟨w.heap.size,2,none⟩=some (.slice da dz.length dc)) 8 (⟨a0,a1,a2⟩) fun hq9=>?_
  refine pT 0 hq9 ?_;refine lT 1 hq9 ?_;refine lT 2 hq9 ?_;refine pT 3 hq9 ?_
  clear hq9
  refine oT 4 fun K hK=>?_
  go_simp
  go_wp2_with (go_at_call 176;refine (keptf8_any c (.slice sa sz.length sc) da dc dz 201 [.pointer (some ⟨v3.heap.size,0,none⟩)] (enters_of Tryz.func201 (by kernel_rfl) rfl) (fun i=>hsB c' dz' c (nth dz i)) hl4 u.drew ((HI.2.1.below HBd.out).mono HBd.size) (fun i hi w' hB=>meet1_any v1.heap.size p v3.heap.size c' c dz' _ _ (HT.1 i) w' (Finds.go (W:=u.drew) HFu.out hB) (cell_of_one (blk_go8 (w:=u.drew) HQ.out hB)))).mono ?_;rintro e w2 ⟨g,gc,rfl,hN2,hB2⟩;rw[kpQ_all (has:=true) (c:=c) (c':=c') (dz':=dz') (fun i=>by cases hsB c' dz' c (nth dz i)<;>rfl)] at hN2 ⊢)
  have P2:=PAu.dr.go hB2
  refine hK.out _ _ (fun _=>⟨P2.c0,P2.c1,P2.c2⟩) ?_
  clear hK K
  refine oT 5 fun K hK=>?_
  go_simp
  go_wp2_with (go_at_call 175;refine (line8_any c g gc (shD c dz c' dz' true) w2).mono ?_;rintro e w3 ⟨xa,xc,rfl,hX,hB3⟩)
  have P3:=P2.go hB3
  have R3:=(PRu.dr.go hB2).go hB3
  have r0:=R3.c0
  have r1:=R3.c1
  have r2:=R3.c2
  have f0:=R3.fr 0
  have f1:=R3.fr 1
  have f2:=R3.fr 2
  refine hK.out _ _ (fun _=>⟨P3.c0,P3.c1,P3.c2⟩) ?_
  clear hK K
  refine oT 6 fun K hK=>?_
  go_simp
  refine hK.out _ _ (fun h=>absurd h (by decide)) ?_
  clear hK K
  refine oT 7 fun K hK=>?_
  go_simp
  refine hK.out _ _ (fun h=>absurd h (by decide)) ?_
  clear hK K
  refine dT ?_
  go_wp2_with fail
  have F:=R3.set3 (.bool c) (.slice xa 1 xc) (.slice g (shD c dz c' dz' true).length gc)
  have q0:=F.c0
  have q1:=F.c1
  have q2:=F.c2
  have z1:w.heap.size+1+1<u.drew.heap.size:=PRu.lt
  have z2:=hB2.size
  have z3:=HBd.size
  refine bodyPost_ret (v:=.tuple #[.agg #[.bool c,.slice xa 1 xc,.slice g (shD c dz c' dz' true).length gc],.nilIface]) (by simp[results,Tryz.results128,go_sem,q0,q1,q2]) rfl ?_
  exact ub_ok (S:=[((shD c dz c' dz' true).length:Int)]) (D:=(shD c dz c' dz' true)) HN.out ((hX.set3 (Nat.lt_of_lt_of_le z1 z2) _ _ _).low (Nat.le_trans z3 z2)) (((hN2.go hB3).set3 z1 _ _ _).low z3) (bel_set3 (HBd.trans ((hB2.mono z3).trans (hB3.mono (Nat.le_trans z3 z2)))) (by omega) _ _ _)
 ·have H0:Hid (lsE c sz dz c' sz' dz'≠0):=h0
  rw[errV_pos h0] at hp
  clear h0
  go_enter Tryz.func128,Tryz.ntmps128
  go_wp2_with fail
  rw[<-hW1]
  clear hW1 a0 a1 a2 b0 b1 b2
  refine hp.mono ?_
  clear hp
  rintro e v1 ⟨rfl,hC⟩
  have HB1:Hid (Below w.heap.size w v1):=HB0.trans (hC.mono HB0.size)
  have PA1:Hid (Abx v1 w.heap.size (.bool c) (.slice sa sz.length sc) (.slice da dz.length dc)):=PA.go hC
  have PB1:Hid (Abx v1 (w.heap.size+1) (.bool c') (.slice sa' sz'.length sc') (.slice da' dz'.length dc')):=PB.go hC
  have PR1:Hid (Abx v1 (w.heap.size+1+1) (.bool false) (.slice none 0 0) (.slice none 0 0)):=PR.go hC
  clear hC PA PB PR PS HB0
  have r0:=PR1.c0
  have r1:=PR1.c1
  have r2:=PR1.c2
  have f0:=PR1.fr 0
  have f1:=PR1.fr 1
  have f2:=PR1.fr 2
  go_wp2_with fail
  have F:=PR1.set3 (.bool false) (.slice none 0 0) (.slice none 0 0)
  have q0:=F.c0
  have q1:=F.c1
  have q2:=F.c2
  exact bodyPost_ret (v:=.tuple #[.agg #[.bool false,.slice none 0 0,.slice none 0 0],.iface 28 (.int .i64 (lsE c sz dz c' sz' dz'))]) (by simp[results,Tryz.results128,go_sem,q0,q1,q2]) rfl (ub_no rfl H0.out (bel_set3 HB1.out (by omega) _ _ _))
end Go.Proofs.YtkmmkcpfhnifhaaGreatDoor
