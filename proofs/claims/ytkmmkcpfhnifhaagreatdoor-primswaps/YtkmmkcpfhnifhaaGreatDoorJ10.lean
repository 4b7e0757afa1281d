/- What the program tells, in part. -/
import Derived.Test.YtkmmkcpfhnifhaaGreatDoorJ09
set_option linter.unusedVariables false
set_option maxHeartbeats 2000000
set_option maxRecDepth 100000
namespace Go.Proofs.YtkmmkcpfhnifhaaGreatDoor
open Go.RowKit
theorem pmatch_t  (c:Bool)(sa:Option Addr)(sc:Nat)(sz:List Int)(da:Option Addr)(dc:Nat)(dz:List Int)(c':Bool)(sa':Option Addr)(sc':Nat)(sz':List Int)(da':Option Addr)(dc':Nat)(dz':List Int)(w:World)(hA:ArF w c sa sc sz da dc dz)(hA':ArF w c' sa' sc' sz' da' dc' dz')(h:mtB c sz dz c' sz' dz'=true):
  Calls Tryz.prog 131 #[.agg #[.bool c,.slice sa sz.length sc,.slice da dz.length dc],.agg #[.bool c',.slice sa' sz'.length sc',.slice da' dz'.length dc']] w (AnP (anA false [] [1]) w):=by
 have HA:Hid (ArF w c sa sc sz da dc dz/\ArF w c' sa' sc' sz' da' dc' dz'):=⟨hA,hA'⟩
 have h6:=hA.s6.1
 have h6':=hA'.s6.1
 clear hA hA'
 have h':Hid (mtB c sz dz c' sz' dz'=true):=h
 clear h
 obtain⟨hb,pa,pb,pr⟩:=ent2 w (.bool c) (.slice sa sz.length sc) (.slice da dz.length dc) (.bool c') (.slice sa' sz'.length sc') (.slice da' dz'.length dc')
 have a0:=pa.c0
 have a1:=pa.c1
 have a2:=pa.c2
 have b0:=pb.c0
 have b1:=pb.c1
 have b2:=pb.c2
 have hz0:=hb.size
 have hlt0:=pr.lt
 go_enter Tryz.func131,Tryz.ntmps131
 go_wp2_with fail
 have HM:Hid (Calls Tryz.prog 206 #[.agg #[.bool c,.slice sa sz.length sc,.slice da dz.length dc],.agg #[.bool c',.slice sa' sz'.length sc',.slice da' dz'.length dc']] (((w.alloc (.cells #[.bool c,.slice sa sz.length sc,.slice da dz.length dc] 27)).alloc (.cells #[.bool c',.slice sa' sz'.length sc',.slice da' dz'.length dc'] 27)).alloc (.cells #[.bool false,.slice none 0 0,.slice none 0 0] 27)) (fun e w''=>e=.returned (.tuple #[.bool true,.nilIface])/\Below ((((w.alloc (.cells #[.bool c,.slice sa sz.length sc,.slice da dz.length dc] 27)).alloc (.cells #[.bool c',.slice sa' sz'.length sc',.slice da' dz'.length dc'] 27)).alloc (.cells #[.bool false,.slice none 0 0,.slice none 0 0] 27))).heap.size (((w.alloc (.cells #[.bool c,.slice sa sz.length sc,.slice da dz.length dc] 27)).alloc (.cells #[.bool c',.slice sa' sz'.length sc',.slice da' dz'.length dc'] 27)).alloc (.cells #[.bool false,.slice none 0 0,.slice none 0 0] 27)) w'')):=by show Calls _ _ _ _ _;refine (match_any c c' sa sc sz da dc dz sa' sc' sz' da' dc' dz' HA.1.h1 HA.1.h2 HA.2.h1 HA.2.h2 _ (HA.1.go hb.out).1.1 (HA.1.go hb.out).2.1.1 (HA.2.go hb.out).1.1 (HA.2.go hb.out).2.1.1).mono ?_;intro e w'' k;rw[h'.out,show flawsE c sz dz c' sz' dz'=0 by unfold flawsE;rw[if_pos HA.1.2.2.2];exact HA.2.2.2.2] at k;exact k
 refine (HM.out).mono ?_
 rintro e v1 ⟨rfl,hB⟩
 have hz1:=hB.size
 replace pr:=goA16 pr hB
 replace hb:=goB16 hb hB
 clear hB
 clear HM pa pb
 clear a0 a1 a2
 clear b0 b1 b2
 go_wp2_with fail
 refine (psingle_any (1) _).mono ?_
 rintro e' v9 ⟨ga',rfl,hY,hB⟩
 have HY:Hid (NewC _ v9 ga' [1] 1):=hY
 have hlt9:=pr.lt
 have hz9:=hB.size
 replace pr:=goA16 pr hB
 replace hb:=goB16 hb hB
 clear hY hB
 have r0:=pr.c0
 have r1:=pr.c1
 have r2:=pr.c2
 have f0:=pr.fr 0
 have f1:=pr.fr 1
 have f2:=pr.fr 2
 go_wp2_with fail
 have FF:=pr.set3 (.bool false) (.slice none 0 0) (.slice ga' 1 1)
 have q0:=FF.c0
 have q1:=FF.c1
 have q2:=FF.c2
 exact bodyPost_ret (v:=.tuple #[.agg #[.bool false,.slice none 0 0,.slice ga' 1 1],.nilIface]) (by simp[results,Tryz.results131,go_sem,q0,q1,q2]) rfl (ok16 (S:=[]) (D:=[1]) rfl rfl rfl (by omega) hlt9 (by omega) ⟨.inl rfl,Nat.le_refl _⟩ HY.out hb.out _ _ _)
theorem pmatch_f  (c:Bool)(sa:Option Addr)(sc:Nat)(sz:List Int)(da:Option Addr)(dc:Nat)(dz:List Int)(c':Bool)(sa':Option Addr)(sc':Nat)(sz':List Int)(da':Option Addr)(dc':Nat)(dz':List Int)(w:World)(hA:ArF w c sa sc sz da dc dz)(hA':ArF w c' sa' sc' sz' da' dc' dz')(h:mtB c sz dz c' sz' dz'=false):
  Calls Tryz.prog 131 #[.agg #[.bool c,.slice sa sz.length sc,.slice da dz.length dc],.agg #[.bool c',.slice sa' sz'.length sc',.slice da' dz'.length dc']] w (AnP (anA false [] [0]) w):=by
 have HA:Hid (ArF w c sa sc sz da dc dz/\ArF w c' sa' sc' sz' da' dc' dz'):=⟨hA,hA'⟩
 have h6:=hA.s6.1
 have h6':=hA'.s6.1
 clear hA hA'
 have h':Hid (mtB c sz dz c' sz' dz'=false):=h
 clear h
 obtain⟨hb,pa,pb,pr⟩:=ent2 w (.bool c) (.slice sa sz.length sc) (.slice da dz.length dc) (.bool c') (.slice sa' sz'.length sc') (.slice da' dz'.length dc')
 have a0:=pa.c0
 have a1:=pa.c1
 have a2:=pa.c2
 have b0:=pb.c0
 have b1:=pb.c1
 have b2:=pb.c2
 have hz0:=hb.size
 have hlt0:=pr.lt
 go_enter Tryz.func131,Tryz.ntmps131
 go_wp2_with fail
 have HM:Hid (Calls Tryz.prog 206 #[.agg #[.bool c,.slice sa sz.length sc,.slice da dz.length dc],.agg #[.bool c',.slice sa' sz'.length sc',.slice da' dz'.length dc']] (((w.alloc (.cells #[.bool c,.slice sa sz.length sc,.slice da dz.length dc] 27)).alloc (.cells #[.bool c',.slice sa' sz'.length sc',.slice da' dz'.length dc'] 27)).alloc (.cells #[.bool false,.slice none 0 0,.slice none 0 0] 27)) (fun e w''=>e=.returned (.tuple #[.bool false,.nilIface])/\Below ((((w.alloc (.cells #[.bool c,.slice sa sz.length sc,.slice da dz.length dc] 27)).alloc (.cells #[.bool c',.slice sa' sz'.length sc',.slice da' dz'.length dc'] 27)).alloc (.cells #[.bool false,.slice none 0 0,.slice none 0 0] 27))).heap.size (((w.alloc (.cells #[.bool c,.slice sa sz.length sc,.slice da dz.length dc] 27)).alloc (.cells #[.bool c',.slice sa' sz'.length sc',.slice da' dz'.length dc'] 27)).alloc (.cells #[.bool false,.slice none 0 0,.slice none 0 0] 27)) w'')):=by show Calls _ _ _ _ _;refine (match_any c c' sa sc sz da dc dz sa' sc' sz' da' dc' dz' HA.1.h1 HA.1.h2 HA.2.h1 HA.2.h2 _ (HA.1.go hb.out).1.1 (HA.1.go hb.out).2.1.1 (HA.2.go hb.out).1.1 (HA.2.go hb.out).2.1.1).mono ?_;intro e w'' k;rw[h'.out,show flawsE c sz dz c' sz' dz'=0 by unfold flawsE;rw[if_pos HA.1.2.2.2];exact HA.2.2.2.2] at k;exact k
 refine (HM.out).mono ?_
 rintro e v1 ⟨rfl,hB⟩
 have hz1:=hB.size
 replace pr:=goA16 pr hB
 replace hb:=goB16 hb hB
 clear hB
 clear HM pa pb
 clear a0 a1 a2
 clear b0 b1 b2
 go_wp2_with fail
 refine (psingle_any (0) _).mono ?_
 rintro e' v9 ⟨ga',rfl,hY,hB⟩
 have HY:Hid (NewC _ v9 ga' [0] 1):=hY
 have hlt9:=pr.lt
 have hz9:=hB.size
 replace pr:=goA16 pr hB
 replace hb:=goB16 hb hB
 clear hY hB
 have r0:=pr.c0
 have r1:=pr.c1
 have r2:=pr.c2
 have f0:=pr.fr 0
 have f1:=pr.fr 1
 have f2:=pr.fr 2
 go_wp2_with fail
 have FF:=pr.set3 (.bool false) (.slice none 0 0) (.slice ga' 1 1)
 have q0:=FF.c0
 have q1:=FF.c1
 have q2:=FF.c2
 exact bodyPost_ret (v:=.tuple #[.agg #[.bool false,.slice none 0 0,.slice ga' 1 1],.nilIface]) (by simp[results,Tryz.results131,go_sem,q0,q1,q2]) rfl (ok16 (S:=[]) (D:=[0]) rfl rfl rfl (by omega) hlt9 (by omega) ⟨.inl rfl,Nat.le_refl _⟩ HY.out hb.out _ _ _)
theorem pmatch_any (c:Bool)(sa:Option Addr)(sc:Nat)(sz:List Int)(da:Option Addr)(dc:Nat)(dz:List Int)(c':Bool)(sa':Option Addr)(sc':Nat)(sz':List Int)(da':Option Addr)(dc':Nat)(dz':List Int)(w:World)(hA:ArF w c sa sc sz da dc dz)(hA':ArF w c' sa' sc' sz' da' dc' dz'):Calls Tryz.prog 131 #[.agg #[.bool c,.slice sa sz.length sc,.slice da dz.length dc],.agg #[.bool c',.slice sa' sz'.length sc',.slice da' dz'.length dc']] w (AnP (anA false [] [if mtB c sz dz c' sz' dz'=true then 1 else 0]) w):=by
 cases h:mtB c sz dz c' sz' dz'
 ·rw[if_neg (by decide)];exact pmatch_f c sa sc sz da dc dz c' sa' sc' sz' da' dc' dz' w hA hA' h
 ·rw[if_pos rfl];exact pmatch_t c sa sc sz da dc dz c' sa' sc' sz' da' dc' dz' w hA hA' h
theorem val_n1  (c:Bool)(sa:Option Addr)(sc:Nat)(sz:List Int)(da:Option Addr)(dc:Nat)(dz:List Int)(c':Bool)(sa':Option Addr)(sc':Nat)(sz':List Int)(da':Option Addr)(dc':Nat)(dz':List Int)(w:World)(h:lstE c sz≠0)(h6:sz.length<=6):
  Calls Tryz.prog 129 #[.agg #[.bool c,.slice sa sz.length sc,.slice da dz.length dc],.agg #[.bool c',.slice sa' sz'.length sc',.slice da' dz'.length dc']] w (AnP (anN (lstE c sz)) w):=by
 have h':Hid (lstE c sz≠0):=h
 clear h
 obtain⟨hb,pa,pb,pr⟩:=ent2 w (.bool c) (.slice sa sz.length sc) (.slice da dz.length dc) (.bool c') (.slice sa' sz'.length sc') (.slice da' dz'.length dc')
 have a0:=pa.c0
 have a1:=pa.c1
 have a2:=pa.c2
 have hz0:=hb.size
 have hlt0:=pr.lt
 go_enter Tryz.func129,Tryz.ntmps129
 go_wp2_with fail
 refine (lst_no c sa sc sz da dc dz h'.out h6 _).mono ?_
 rintro e v1 ⟨rfl,hB⟩
 have hz1:=hB.size
 replace pa:=goA16 pa hB
 replace pb:=goA16 pb hB
 replace pr:=goA16 pr hB
 replace hb:=goB16 hb hB
 clear hB
 clear a0 a1 a2
 have r0:=pr.c0
 have r1:=pr.c1
 have r2:=pr.c2
 have f0:=pr.fr 0
 have f1:=pr.fr 1
 have f2:=pr.fr 2
 go_wp2_with fail
 have FF:=pr.set3 (.bool false) (.slice none 0 0) (.slice none 0 0)
 have q0:=FF.c0
 have q1:=FF.c1
 have q2:=FF.c2
 exact bodyPost_ret (v:=.tuple #[.agg #[.bool false,.slice none 0 0,.slice none 0 0],.iface 28 (.int .i64 (lstE c sz))]) (by simp[results,Tryz.results129,go_sem,q0,q1,q2]) rfl (err16 rfl h'.out (by omega) hb.out _ _ _)
theorem val_n2  (c:Bool)(sa:Option Addr)(sc:Nat)(sz:List Int)(da:Option Addr)(dc:Nat)(dz:List Int)(c':Bool)(sa':Option Addr)(sc':Nat)(sz':List Int)(da':Option Addr)(dc':Nat)(dz':List Int)(w:World)(g:lstE c sz=0)(h:lstE c' sz'≠0)(h6:sz'.length<=6):
  Calls Tryz.prog 129 #[.agg #[.bool c,.slice sa sz.length sc,.slice da dz.length dc],.agg #[.bool c',.slice sa' sz'.length sc',.slice da' dz'.length dc']] w (AnP (anN (lstE c' sz')) w):=by
 have h':Hid (lstE c' sz'≠0):=h
 have g':Hid (lstE c sz=0):=g
 clear h g
 obtain⟨hb,pa,pb,pr⟩:=ent2 w (.bool c) (.slice sa sz.length sc) (.slice da dz.length dc) (.bool c') (.slice sa' sz'.length sc') (.slice da' dz'.length dc')
 have a0:=pa.c0
 have a1:=pa.c1
 have a2:=pa.c2
 have hz0:=hb.size
 have hlt0:=pr.lt
 go_enter Tryz.func129,Tryz.ntmps129
 go_wp2_with fail
 refine (lst_ok c sa sc sz da dc dz g'.out _).mono ?_
 rintro e v1 ⟨rfl,hB⟩
 have hz1:=hB.size
 replace pa:=goA16 pa hB
 replace pb:=goA16 pb hB
 replace pr:=goA16 pr hB
 replace hb:=goB16 hb hB
 clear hB
 have b0:=pb.c0
 have b1:=pb.c1
 have b2:=pb.c2
 clear a0 a1 a2
 go_wp2_with fail
 refine (lst_no c' sa' sc' sz' da' dc' dz' h'.out h6 _).mono ?_
 rintro e v2 ⟨rfl,hB⟩
 have hz2:=hB.size
 replace pa:=goA16 pa hB
 replace pb:=goA16 pb hB
 replace pr:=goA16 pr hB
 replace hb:=goB16 hb hB
 clear hB
 clear b0 b1 b2
 have r0:=pr.c0
 have r1:=pr.c1
 have r2:=pr.c2
 have f0:=pr.fr 0
 have f1:=pr.fr 1
 have f2:=pr.fr 2
 go_wp2_with fail
 have FF:=pr.set3 (.bool false) (.slice none 0 0) (.slice none 0 0)
 have q0:=FF.c0
 have q1:=FF.c1
 have q2:=FF.c2
 exact bodyPost_ret (v:=.tuple #[.agg #[.bool false,.slice none 0 0,.slice none 0 0],.iface 28 (.int .i64 (lstE c' sz'))]) (by simp[results,Tryz.results129,go_sem,q0,q1,q2]) rfl (err16 rfl h'.out (by omega) hb.out _ _ _)
theorem val_ne (X:Int)(c:Bool)(sa:Option Addr)(sc:Nat)(sz:List Int)(da:Option Addr)(dc:Nat)(dz:List Int)(c':Bool)(sa':Option Addr)(sc':Nat)(sz':List Int)(da':Option Addr)(dc':Nat)(dz':List Int)(w:World)(g:lstE c sz=0)(h:lstE c' sz'=0)(h6:sz.length<=6)(h0:sz.length≠0)(HC:Hid (∀ v,Below w.heap.size w v->Calls Tryz.prog 203 #[.slice da dz.length dc,.slice da' dz'.length dc'] v fun e w'=>e=.returned (.tuple #[.int .i64 X,.nilIface])/\Below v.heap.size v w')):
  Calls Tryz.prog 129 #[.agg #[.bool c,.slice sa sz.length sc,.slice da dz.length dc],.agg #[.bool c',.slice sa' sz'.length sc',.slice da' dz'.length dc']] w (AnP (anA false [] [X]) w):=by
 have t0:((sz.length:Int) == 0)=false:=beq_eq_false_iff_ne.2 (by omega)
 have g':Hid (lstE c sz=0):=g
 have h':Hid (lstE c' sz'=0):=h
 clear h g
 obtain⟨hb,pa,pb,pr⟩:=ent2 w (.bool c) (.slice sa sz.length sc) (.slice da dz.length dc) (.bool c') (.slice sa' sz'.length sc') (.slice da' dz'.length dc')
 have a0:=pa.c0
 have a1:=pa.c1
 have a2:=pa.c2
 have hz0:=hb.size
 have hlt0:=pr.lt
 go_enter Tryz.func129,Tryz.ntmps129
 go_wp2_with fail
 refine (lst_ok c sa sc sz da dc dz g'.out _).mono ?_
 rintro e v1 ⟨rfl,hB⟩
 have hz1:=hB.size
 replace pa:=goA16 pa hB
 replace pb:=goA16 pb hB
 replace pr:=goA16 pr hB
 replace hb:=goB16 hb hB
 clear hB
 have b0:=pb.c0
 have b1:=pb.c1
 have b2:=pb.c2
 clear a0 a1 a2
 go_wp2_with fail
 refine (lst_ok c' sa' sc' sz' da' dc' dz' h'.out _).mono ?_
 rintro e v2 ⟨rfl,hB⟩
 have hz2:=hB.size
 replace pa:=goA16 pa hB
 replace pb:=goA16 pb hB
 replace pr:=goA16 pr hB
 replace hb:=goB16 hb hB
 clear hB
 have a0:=pa.c0
 have a1:=pa.c1
 have a2:=pa.c2
 clear pb
 clear b0 b1 b2
 go_wp2_with fail
 clear pa
 clear a0 a1 a2
 refine (HC.out _ hb.out).mono ?_
 rintro e v3 ⟨rfl,hB⟩
 have hz3:=hB.size
 replace pr:=goA16 pr hB
 replace hb:=goB16 hb hB
 clear hB
 clear HC
 go_wp2_with fail
 refine (psingle_any (X) _).mono ?_
 rintro e' v9 ⟨ga',rfl,hY,hB⟩
 have HY:Hid (NewC _ v9 ga' [X] 1):=hY
 have hlt9:=pr.lt
 have hz9:=hB.size
 replace pr:=goA16 pr hB
 replace hb:=goB16 hb hB
 clear hY hB
 have r0:=pr.c0
 have r1:=pr.c1
 have r2:=pr.c2
 have f0:=pr.fr 0
 have f1:=pr.fr 1
 have f2:=pr.fr 2
 go_wp2_with fail
 have FF:=pr.set3 (.bool false) (.slice none 0 0) (.slice ga' 1 1)
 have q0:=FF.c0
 have q1:=FF.c1
 have q2:=FF.c2
 exact bodyPost_ret (v:=.tuple #[.agg #[.bool false,.slice none 0 0,.slice ga' 1 1],.nilIface]) (by simp[results,Tryz.results129,go_sem,q0,q1,q2]) rfl (ok16 (S:=[]) (D:=[X]) rfl rfl rfl (by omega) hlt9 (by omega) ⟨.inl rfl,Nat.le_refl _⟩ HY.out hb.out _ _ _)
theorem val_nen (E:Int)(c:Bool)(sa:Option Addr)(sc:Nat)(sz:List Int)(da:Option Addr)(dc:Nat)(dz:List Int)(c':Bool)(sa':Option Addr)(sc':Nat)(sz':List Int)(da':Option Addr)(dc':Nat)(dz':List Int)(w:World)(g:lstE c sz=0)(h:lstE c' sz'=0)(h6:sz.length<=6)(h0:sz.length≠0)(HC:Hid (∀ v,Below w.heap.size w v->Calls Tryz.prog 203 #[.slice da dz.length dc,.slice da' dz'.length dc'] v fun e w'=>e=.returned (.tuple #[.int .i64 0,.iface 28 (.int .i64 E)])/\Below v.heap.size v w'))(hE:E≠0):
  Calls Tryz.prog 129 #[.agg #[.bool c,.slice sa sz.length sc,.slice da dz.length dc],.agg #[.bool c',.slice sa' sz'.length sc',.slice da' dz'.length dc']] w (AnP (anN E) w):=by
 have t0:((sz.length:Int) == 0)=false:=beq_eq_false_iff_ne.2 (by omega)
 have hE':Hid (E≠0):=hE
 clear hE
 have g':Hid (lstE c sz=0):=g
 have h':Hid (lstE c' sz'=0):=h
 clear h g
 obtain⟨hb,pa,pb,pr⟩:=ent2 w (.bool c) (.slice sa sz.length sc) (.slice da dz.length dc) (.bool c') (.slice sa' sz'.length sc') (.slice da' dz'.length dc')
 have a0:=pa.c0
 have a1:=pa.c1
 have a2:=pa.c2
 have hz0:=hb.size
 have hlt0:=pr.lt
 go_enter Tryz.func129,Tryz.ntmps129
 go_wp2_with fail
 refine (lst_ok c sa sc sz da dc dz g'.out _).mono ?_
 rintro e v1 ⟨rfl,hB⟩
 have hz1:=hB.size
 replace pa:=goA16 pa hB
 replace pb:=goA16 pb hB
 replace pr:=goA16 pr hB
 replace hb:=goB16 hb hB
 clear hB
 have b0:=pb.c0
 have b1:=pb.c1
 have b2:=pb.c2
 clear a0 a1 a2
 go_wp2_with fail
 refine (lst_ok c' sa' sc' sz' da' dc' dz' h'.out _).mono ?_
 rintro e v2 ⟨rfl,hB⟩
 have hz2:=hB.size
 replace pa:=goA16 pa hB
 replace pb:=goA16 pb hB
 replace pr:=goA16 pr hB
 replace hb:=goB16 hb hB
 clear hB
 have a0:=pa.c0
 have a1:=pa.c1
 have a2:=pa.c2
 clear pb
 clear b0 b1 b2
 go_wp2_with fail
 clear pa
 clear a0 a1 a2
 refine (HC.out _ hb.out).mono ?_
 rintro e v3 ⟨rfl,hB⟩
 have hz3:=hB.size
 replace pr:=goA16 pr hB
 replace hb:=goB16 hb hB
 clear hB
 clear HC
 have r0:=pr.c0
 have r1:=pr.c1
 have r2:=pr.c2
 have f0:=pr.fr 0
 have f1:=pr.fr 1
 have f2:=pr.fr 2
 go_wp2_with fail
 have FF:=pr.set3 (.bool false) (.slice none 0 0) (.slice none 0 0)
 have q0:=FF.c0
 have q1:=FF.c1
 have q2:=FF.c2
 exact bodyPost_ret (v:=.tuple #[.agg #[.bool false,.slice none 0 0,.slice none 0 0],.iface 28 (.int .i64 E)]) (by simp[results,Tryz.results129,go_sem,q0,q1,q2]) rfl (err16 rfl hE'.out (by omega) hb.out _ _ _)
theorem val_eq (X x:Int)(c:Bool)(sa:Option Addr)(sc:Nat)(sz:List Int)(da:Option Addr)(dc:Nat)(dz:List Int)(c':Bool)(sa':Option Addr)(sc':Nat)(sz':List Int)(da':Option Addr)(dc':Nat)(dz':List Int)(w:World)(g:lstE c sz=0)(h:lstE c' sz'=0)(h0:sz=[])(h1:dz=[x])(hn:dz'.length<=4096)(hI:IsInts w.heap.size w da [x])(HC:Hid (∀ v g gc,Below w.heap.size w v->NewC w.heap.size v g (List.replicate dz'.length x) gc->Calls Tryz.prog 203 #[.slice g dz'.length gc,.slice da' dz'.length dc'] v fun e w'=>e=.returned (.tuple #[.int .i64 X,.nilIface])/\Below v.heap.size v w')):
  Calls Tryz.prog 129 #[.agg #[.bool c,.slice sa sz.length sc,.slice da dz.length dc],.agg #[.bool c',.slice sa' sz'.length sc',.slice da' dz'.length dc']] w (AnP (anA false [] [X]) w):=by
 subst h0 h1
 have HI:Hid (IsInts w.heap.size w da [x]):=hI
 clear hI
 show Calls Tryz.prog _ #[.agg #[.bool c,.slice sa 0 sc,.slice da 1 dc],.agg #[.bool c',.slice sa' sz'.length sc',.slice da' dz'.length dc']] w _
 have g':Hid (lstE c []=0):=g
 have h':Hid (lstE c' sz'=0):=h
 clear h g
 obtain⟨hb,pa,pb,pr⟩:=ent2 w (.bool c) (.slice sa 0 sc) (.slice da 1 dc) (.bool c') (.slice sa' sz'.length sc') (.slice da' dz'.length dc')
 have a0:=pa.c0
 have a1:=pa.c1
 have a2:=pa.c2
 have hz0:=hb.size
 have hlt0:=pr.lt
 go_enter Tryz.func129,Tryz.ntmps129
 go_wp2_with fail
 refine (lst_ok c sa sc [] da dc [x] g'.out _).mono ?_
 rintro e v1 ⟨rfl,hB⟩
 have hz1:=hB.size
 replace pa:=goA16 pa hB
 replace pb:=goA16 pb hB
 replace pr:=goA16 pr hB
 replace hb:=goB16 hb hB
 clear hB
 have b0:=pb.c0
 have b1:=pb.c1
 have b2:=pb.c2
 clear a0 a1 a2
 go_wp2_with fail
 refine (lst_ok c' sa' sc' sz' da' dc' dz' h'.out _).mono ?_
 rintro e v2 ⟨rfl,hB⟩
 have hz2:=hB.size
 replace pa:=goA16 pa hB
 replace pb:=goA16 pb hB
 replace pr:=goA16 pr hB
 replace hb:=goB16 hb hB
 clear hB
 have a0:=pa.c0
 have a1:=pa.c1
 have a2:=pa.c2
 clear pb
 clear b0 b1 b2
 go_wp2_with fail
 clear pa
 clear a0 a1 a2
 refine (repeat_any da dc x dz'.length hn _ (goI16 HI.out hb.out)).mono ?_
 rintro e v3 ⟨g,gc,rfl,hN,hB⟩
 have HN:Hid (NewC w.heap.size v3 g (List.replicate dz'.length x) gc):=hN.low hb.size
 replace pr:=goA16 pr hB
 replace hb:=goB16 hb hB
 clear hN hB
 go_wp2_with fail
 refine (HC.out _ g gc hb.out HN.out).mono ?_
 rintro e v4 ⟨rfl,hB⟩
 have hz4:=hB.size
 replace pr:=goA16 pr hB
 replace hb:=goB16 hb hB
 clear hB
 clear HC
 go_wp2_with fail
 refine (psingle_any (X) _).mono ?_
 rintro e' v9 ⟨ga',rfl,hY,hB⟩
 have HY:Hid (NewC _ v9 ga' [X] 1):=hY
 have hlt9:=pr.lt
 have hz9:=hB.size
 replace pr:=goA16 pr hB
 replace hb:=goB16 hb hB
 clear hY hB
 have r0:=pr.c0
 have r1:=pr.c1
 have r2:=pr.c2
 have f0:=pr.fr 0
 have f1:=pr.fr 1
 have f2:=pr.fr 2
 go_wp2_with fail
 have FF:=pr.set3 (.bool false) (.slice none 0 0) (.slice ga' 1 1)
 have q0:=FF.c0
 have q1:=FF.c1
 have q2:=FF.c2
 exact bodyPost_ret (v:=.tuple #[.agg #[.bool false,.slice none 0 0,.slice ga' 1 1],.nilIface]) (by simp[results,Tryz.results129,go_sem,q0,q1,q2]) rfl (ok16 (S:=[]) (D:=[X]) rfl rfl rfl (by omega) hlt9 (by omega) ⟨.inl rfl,Nat.le_refl _⟩ HY.out hb.out _ _ _)
theorem one_if (t:Bool)(w:World):Calls Tryz.prog 229 #[.bool t] w fun e w'=>e=.returned (.int .i64 (ifV t))/\w'=w:=by
 cases t
 ·go_enter Tryz.func229,Tryz.ntmps229
  go_wp2_with fail
  go_ret
  exact⟨rfl,rfl⟩
 ·go_enter Tryz.func229,Tryz.ntmps229
  go_wp2_with fail
  go_ret
  exact⟨rfl,rfl⟩
theorem floor_any (a b:Int)(h0:b≠0)(w:World):Calls Tryz.prog 262 #[.int .i64 a,.int .i64 b] w fun e w'=>e=.returned (.int .i64 (divV a b))/\Below w.heap.size w w':=by
 have HF:Hid (divV a b=_):=congrArg wrap64 (floor_q a b h0)
 by_cases hm:a.tmod b=0
 ·have HM:Hid (hiB a b=false):=by show _=_;simp[hiB,hm]
  have hm1:(a.tmod b != 0)=false:=by simp[hm]
  clear hm
  go_enter Tryz.func262,Tryz.ntmps262
  go_wp2_with fail
  go_quiet (fail)
  go_wp2_with fail
  go_ret
  exact⟨ret1 (by rw[HF.out,HM.out];rfl),bel_drewN (Below.refl _ _) _⟩
 ·have hm1:(a.tmod b != 0)=true:=by simp[hm]
  by_cases h1:a.tmod b<0
  ·have h2:decide (a.tmod b<0)=true:=by simp[h1]
   by_cases h3:b<0
   ·have h4:decide (b<0)=true:=by simp[h3]
    have HM:Hid (hiB a b=false):=by show _=_;simp[hiB,h1,h3]
    clear hm h1 h3
    go_enter Tryz.func262,Tryz.ntmps262
    go_wp2_with fail
    go_quiet (fail)
    go_wp2_with fail
    go_ret
    exact⟨ret1 (by rw[HF.out,HM.out];rfl),bel_drewN (Below.refl _ _) _⟩
   ·have h4:decide (b<0)=false:=by simp[h3]
    have HM:Hid (hiB a b=true):=by show _=_;simp[hiB,h1,h3,hm]
    clear hm h1 h3
    go_enter Tryz.func262,Tryz.ntmps262
    go_wp2_with fail
    go_quiet (fail)
    go_wp2_with fail
    go_ret
    exact⟨ret1 (by rw[HF.out,HM.out,w_subl];rfl),bel_drewN (Below.refl _ _) _⟩
  ·have h2:decide (a.tmod b<0)=false:=by simp[h1]
   by_cases h3:b<0
   ·have h4:decide (b<0)=true:=by simp[h3]
    have HM:Hid (hiB a b=true):=by show _=_;simp[hiB,h1,h3,hm]
    clear hm h1 h3
    go_enter Tryz.func262,Tryz.ntmps262
    go_wp2_with fail
    go_quiet (fail)
    go_wp2_with fail
    go_ret
    exact⟨ret1 (by rw[HF.out,HM.out,w_subl];rfl),bel_drewN (Below.refl _ _) _⟩
   ·have h4:decide (b<0)=false:=by simp[h3]
    have HM:Hid (hiB a b=false):=by show _=_;simp[hiB,h1,h3]
    clear hm h1 h3
    go_enter Tryz.func262,Tryz.ntmps262
    go_wp2_with fail
    go_quiet (fail)
    go_wp2_with fail
    go_ret
    exact⟨ret1 (by rw[HF.out,HM.out];rfl),bel_drewN (Below.refl _ _) _⟩
theorem quotient_any (a b:Int)(w:World):Calls Tryz.prog 238 #[.int .i64 a,.int .i64 b] w fun e w'=>e=.returned (.tuple #[.int .i64 (twoV 4 a b),errV (twoE 4 a b)])/\Below w.heap.size w w':=by
 by_cases h0:b=0
 ·subst h0
  go_enter Tryz.func238,Tryz.ntmps238
  go_wp2_with fail
  go_ret2
  exact⟨ret2 (by simp[twoV]) (by simp[twoE,errV]),Below.refl _ _⟩
 ·have H0:Hid (b≠0):=h0
  have hz:(b == 0)=false:=by simp[h0]
  clear h0
  go_enter Tryz.func238,Tryz.ntmps238
  go_wp2_with fail
  refine (floor_any a b H0.out w).mono ?_
  rintro e w1 ⟨rfl,hB⟩
  go_wp2_with fail
  go_ret2
  exact⟨ret2 (tv4 a b H0.out).symm (by rw[te0 (by decide) (by decide) (fun _=>H0.out) (fun h=>absurd h (by decide))];rfl),hB⟩
theorem residue_any (a b:Int)(ha:In64 a)(hb:In64 b)(w:World):Calls Tryz.prog 239 #[.int .i64 a,.int .i64 b] w fun e w'=>e=.returned (.int .i64 (b.fmod a))/\Below w.heap.size w w':=by
 by_cases h0:a=0
 ·subst h0
  go_enter Tryz.func239,Tryz.ntmps239
  go_wp2_with fail
  go_ret
  exact⟨ret1 (by simp),Below.refl _ _⟩
 ·have H0:Hid (a≠0):=h0
  have hz:(a == 0)=false:=by simp[h0]
  have HE:Hid (wrap64 (b-wrap64 (a*divV b a))=b.fmod a):=by
   show _=_
   unfold divV
   rw[w_mulr,w_subr,fmod_is]
   exact (ha.fmod hb).same
  clear h0
  go_enter Tryz.func239,Tryz.ntmps239
  go_wp2_with fail
  refine (floor_any b a H0.out w).mono ?_
  rintro e w1 ⟨rfl,hB⟩
  go_wp2_with fail
  go_ret
  exact⟨ret1 HE.out,hB⟩
theorem band_one (n:Int)(h:0<=n)(h2:n<=9223372036854775807):Go.bits .and .i64 n 1=n%2:=by
 obtain⟨m,rfl⟩:=Int.eq_ofNat_of_zero_le h
 unfold Go.bits
 simp only[IntWalk.i64_left]
 have e:(BitVec.ofInt (IntKind.i64.bits) (m:Int) &&& BitVec.ofInt (IntKind.i64.bits) 1).toNat=m%2:=by
  show (BitVec.ofInt 64 (m:Int) &&& BitVec.ofInt 64 1).toNat=m%2
  rw[BitVec.toNat_and,BitVec.ofInt_natCast,BitVec.toNat_ofNat,Nat.mod_eq_of_lt (by omega)]
  show m &&& 1=m%2
  exact Nat.and_one_is_mod m
 rw[e,w_small (by omega) (by omega)]
 rfl
theorem pow_odd (T A B r:Int)(h:0<=B)(ho:B%2=1)(hr:wrap64 (T*A ^ B.toNat)=r):wrap64 (wrap64 (T*A)*wrap64 (A*A) ^ (B/2).toNat)=r:=by
 rw[w_mull,<-w_mulr,w_pow,w_mulr,<-hr]
 have e:B.toNat=2*(B/2).toNat+1:=by omega
 rw[e,Int.pow_succ,Int.pow_mul,show A ^ 2=A*A from by rw[Int.pow_succ,Int.pow_succ,Int.pow_zero,Int.one_mul]]
 congr 1
 grind
theorem pow_even (T A B r:Int)(h:0<=B)(ho:B%2≠1)(hr:wrap64 (T*A ^ B.toNat)=r):wrap64 (T*wrap64 (A*A) ^ (B/2).toNat)=r:=by
 rw[<-w_mulr,w_pow,w_mulr,<-hr]
 have e:B.toNat=2*(B/2).toNat:=by omega
 rw[e,Int.pow_mul,show A ^ 2=A*A from by rw[Int.pow_succ,Int.pow_succ,Int.pow_zero,Int.one_mul]]
def Sq (r A B T:Int):Prop:=0<=B/\B<=9223372036854775807/\In64 T/\wrap64 (T*A ^ B.toNat)=r
theorem power_any (a b:Int)(hb:In64 b)(w:World):Calls Tryz.prog 240 #[.int .i64 a,.int .i64 b] w fun e w'=>e=.returned (.tuple #[.int .i64 (twoV 16 a b),errV (twoE 16 a b)])/\w'=w:=by
 by_cases h0:b<0
 ·have h1:decide (b<0)=true:=by simp[h0]
  have H0:Hid (b<0):=h0
  clear h0
  go_enter Tryz.func240,Tryz.ntmps240
  go_wp2_with fail
  go_ret2
  have h0:=H0.out
  exact⟨ret2 (by simp[twoV,h0]) (by simp[twoE,errV,h0]),rfl⟩
 ·have h1:decide (b<0)=false:=by simp[h0]
  have HE:Hid (powV a b=twoV 16 a b/\twoE 16 a b=0):=⟨(tv16 a b h0).symm,te0 (by decide) (by decide) (fun h=>absurd h (by decide)) (fun _=>h0)⟩
  have HS:Hid (Sq (powV a b) a b 1):=⟨by omega,hb.2,by unfold In64;decide,by rw[Int.one_mul];rfl⟩
  clear h0 hb
  go_enter Tryz.func240,Tryz.ntmps240
  go_wp2_with fail
  go_loop [0,1,6] (fun x y z=>∃ A B T:Int,x=.int .i64 A/\y=.int .i64 B/\z=.int .i64 T/\Hid (Sq (powV a b) A B T)) (fun x y z=>(intOf y).toNat)
  case atStart=>exact⟨a,b,1,rfl,rfl,rfl,HS⟩
  case round=>
   obtain⟨A,B,T,rfl,rfl,rfl,HR⟩:=hrel
   by_cases hB:0<B
   ·have t1:decide (0<B)=true:=by simp[hB]
    have hB2:=HR.2.1
    by_cases ho:B%2=1
    ·have t2:(Go.bits .and .i64 B 1 == 1)=true:=by rw[band_one B (by omega) hB2];simp[ho]
     have HN:Hid (Sq (powV a b) (wrap64 (A*A)) (B/2) (wrap64 (T*A))):=⟨by omega,by omega,In64.w _,pow_odd T A B _ (by omega) ho HR.2.2.2⟩
     clear ho
     go_wp2_with fail
     go_round
     case rel=>exact⟨_,_,_,rfl,rfl,rfl,HN⟩
     case measure=>simp[intOf];omega
    ·have t2:(Go.bits .and .i64 B 1 == 1)=false:=by rw[band_one B (by omega) hB2];simp[ho]
     have HN:Hid (Sq (powV a b) (wrap64 (A*A)) (B/2) T):=⟨by omega,by omega,HR.2.2.1,pow_even T A B _ (by omega) ho HR.2.2.2⟩
     clear ho
     go_wp2_with fail
     go_round
     case rel=>exact⟨_,_,_,rfl,rfl,rfl,HN⟩
     case measure=>simp[intOf];omega
   ·have t1:decide (0<B)=false:=by simp[hB]
    have HZ:Hid (T=powV a b):=by
     show _=_
     obtain⟨q1,q2,q3,q4⟩:=HR.out
     obtain rfl:B=0:=by omega
     rw[<-q4]
     simp[q3.same]
    clear hB
    go_wp2_with fail
    go_ret2
    exact⟨ret2 (by rw[HZ.out,HE.1]) (by rw[HE.2];rfl),rfl⟩
theorem two_1 (a b:Int)(w:World):Calls Tryz.prog 178 #[.int .i64 1,.int .i64 a,.int .i64 b] w fun e w'=>e=.returned (.tuple #[.int .i64 (twoV 1 a b),errV (twoE 1 a b)])/\Below w.heap.size w w':=by
 go_enter Tryz.func178,Tryz.ntmps178
 go_wp2_with fail
 go_ret2
 exact⟨ret2 (tv1 a b).symm (by rw[te0 (by decide) (by decide) (fun h=>absurd h (by decide)) (fun h=>absurd h (by decide))];rfl),Below.refl _ _⟩
theorem two_2 (a b:Int)(w:World):Calls Tryz.prog 178 #[.int .i64 2,.int .i64 a,.int .i64 b] w fun e w'=>e=.returned (.tuple #[.int .i64 (twoV 2 a b),errV (twoE 2 a b)])/\Below w.heap.size w w':=by
 go_enter Tryz.func178,Tryz.ntmps178
 go_wp2_with fail
 go_ret2
 exact⟨ret2 (tv2 a b).symm (by rw[te0 (by decide) (by decide) (fun h=>absurd h (by decide)) (fun h=>absurd h (by decide))];rfl),Below.refl _ _⟩
theorem two_3 (a b:Int)(w:World):Calls Tryz.prog 178 #[.int .i64 3,.int .i64 a,.int .i64 b] w fun e w'=>e=.returned (.tuple #[.int .i64 (twoV 3 a b),errV (twoE 3 a b)])/\Below w.heap.size w w':=by
 go_enter Tryz.func178,Tryz.ntmps178
 go_wp2_with fail
 go_ret2
 exact⟨ret2 (tv3 a b).symm (by rw[te0 (by decide) (by decide) (fun h=>absurd h (by decide)) (fun h=>absurd h (by decide))];rfl),Below.refl _ _⟩
theorem two_4 (a b:Int)(w:World):Calls Tryz.prog 178 #[.int .i64 4,.int .i64 a,.int .i64 b] w fun e w'=>e=.returned (.tuple #[.int .i64 (twoV 4 a b),errV (twoE 4 a b)])/\Below w.heap.size w w':=by
 go_enter Tryz.func178,Tryz.ntmps178
 go_wp2_with fail
 refine (quotient_any a b w).mono ?_
 rintro e w1 ⟨rfl,hB⟩
 go_wp2_with fail
 go_ret2
 exact⟨rfl,hB⟩
theorem two_5 (a b:Int)(ha:In64 a)(hb:In64 b)(w:World):Calls Tryz.prog 178 #[.int .i64 5,.int .i64 a,.int .i64 b] w fun e w'=>e=.returned (.tuple #[.int .i64 (twoV 5 a b),errV (twoE 5 a b)])/\Below w.heap.size w w':=by
 go_enter Tryz.func178,Tryz.ntmps178
 go_wp2_with fail
 refine (residue_any a b ha hb w).mono ?_
 rintro e w1 ⟨rfl,hB⟩
 go_wp2_with fail
 go_ret2
 exact⟨ret2 (tv5 a b).symm (by rw[te0 (by decide) (by decide) (fun h=>absurd h (by decide)) (fun h=>absurd h (by decide))];rfl),hB⟩
theorem two_6 (a b:Int)(w:World):Calls Tryz.prog 178 #[.int .i64 6,.int .i64 a,.int .i64 b] w fun e w'=>e=.returned (.tuple #[.int .i64 (twoV 6 a b),errV (twoE 6 a b)])/\Below w.heap.size w w':=by
 go_enter Tryz.func178,Tryz.ntmps178
 go_wp2_with fail
 all_goals (go_ret2;exact⟨ret2 (by rw[tv6];omega) (by rw[te0 (by decide) (by decide) (fun h=>absurd h (by decide)) (fun h=>absurd h (by decide))];rfl),Below.refl _ _⟩)
theorem two_7 (a b:Int)(w:World):Calls Tryz.prog 178 #[.int .i64 7,.int .i64 a,.int .i64 b] w fun e w'=>e=.returned (.tuple #[.int .i64 (twoV 7 a b),errV (twoE 7 a b)])/\Below w.heap.size w w':=by
 go_enter Tryz.func178,Tryz.ntmps178
 go_wp2_with fail
 all_goals (go_ret2;exact⟨ret2 (by rw[tv7];omega) (by rw[te0 (by decide) (by decide) (fun h=>absurd h (by decide)) (fun h=>absurd h (by decide))];rfl),Below.refl _ _⟩)
theorem two_8 (a b:Int)(w:World):Calls Tryz.prog 178 #[.int .i64 8,.int .i64 a,.int .i64 b] w fun e w'=>e=.returned (.tuple #[.int .i64 (twoV 8 a b),errV (twoE 8 a b)])/\Below w.heap.size w w':=by
 go_enter Tryz.func178,Tryz.ntmps178
 go_wp2_with fail
 refine (one_if (a == b) w).mono ?_
 rintro e w1 ⟨rfl,rfl⟩
 go_wp2_with fail
 go_ret2
 exact⟨ret2 (tv8 a b).symm (by rw[te0 (by decide) (by decide) (fun h=>absurd h (by decide)) (fun h=>absurd h (by decide))];rfl),Below.refl _ _⟩
theorem two_9 (a b:Int)(w:World):Calls Tryz.prog 178 #[.int .i64 9,.int .i64 a,.int .i64 b] w fun e w'=>e=.returned (.tuple #[.int .i64 (twoV 9 a b),errV (twoE 9 a b)])/\Below w.heap.size w w':=by
 go_enter Tryz.func178,Tryz.ntmps178
 go_wp2_with fail
 refine (one_if (a != b) w).mono ?_
 rintro e w1 ⟨rfl,rfl⟩
 go_wp2_with fail
 go_ret2
 exact⟨ret2 (tv9 a b).symm (by rw[te0 (by decide) (by decide) (fun h=>absurd h (by decide)) (fun h=>absurd h (by decide))];rfl),Below.refl _ _⟩
theorem two_10 (a b:Int)(w:World):Calls Tryz.prog 178 #[.int .i64 10,.int .i64 a,.int .i64 b] w fun e w'=>e=.returned (.tuple #[.int .i64 (twoV 10 a b),errV (twoE 10 a b)])/\Below w.heap.size w w':=by
 go_enter Tryz.func178,Tryz.ntmps178
 go_wp2_with fail
 refine (one_if (decide (a<b)) w).mono ?_
 rintro e w1 ⟨rfl,rfl⟩
 go_wp2_with fail
 go_ret2
 exact⟨ret2 (tv10 a b).symm (by rw[te0 (by decide) (by decide) (fun h=>absurd h (by decide)) (fun h=>absurd h (by decide))];rfl),Below.refl _ _⟩
theorem two_11 (a b:Int)(w:World):Calls Tryz.prog 178 #[.int .i64 11,.int .i64 a,.int .i64 b] w fun e w'=>e=.returned (.tuple #[.int .i64 (twoV 11 a b),errV (twoE 11 a b)])/\Below w.heap.size w w':=by
 go_enter Tryz.func178,Tryz.ntmps178
 go_wp2_with fail
 refine (one_if (decide (a<=b)) w).mono ?_
 rintro e w1 ⟨rfl,rfl⟩
 go_wp2_with fail
 go_ret2
 exact⟨ret2 (tv11 a b).symm (by rw[te0 (by decide) (by decide) (fun h=>absurd h (by decide)) (fun h=>absurd h (by decide))];rfl),Below.refl _ _⟩
theorem two_12 (a b:Int)(w:World):Calls Tryz.prog 178 #[.int .i64 12,.int .i64 a,.int .i64 b] w fun e w'=>e=.returned (.tuple #[.int .i64 (twoV 12 a b),errV (twoE 12 a b)])/\Below w.heap.size w w':=by
 go_enter Tryz.func178,Tryz.ntmps178
 go_wp2_with fail
 refine (one_if (decide (b<=a)) w).mono ?_
 rintro e w1 ⟨rfl,rfl⟩
 go_wp2_with fail
 go_ret2
 exact⟨ret2 (tv12 a b).symm (by rw[te0 (by decide) (by decide) (fun h=>absurd h (by decide)) (fun h=>absurd h (by decide))];rfl),Below.refl _ _⟩
theorem two_13 (a b:Int)(w:World):Calls Tryz.prog 178 #[.int .i64 13,.int .i64 a,.int .i64 b] w fun e w'=>e=.returned (.tuple #[.int .i64 (twoV 13 a b),errV (twoE 13 a b)])/\Below w.heap.size w w':=by
 go_enter Tryz.func178,Tryz.ntmps178
 go_wp2_with fail
 refine (one_if (decide (b<a)) w).mono ?_
 rintro e w1 ⟨rfl,rfl⟩
 go_wp2_with fail
 go_ret2
 exact⟨ret2 (tv13 a b).symm (by rw[te0 (by decide) (by decide) (fun h=>absurd h (by decide)) (fun h=>absurd h (by decide))];rfl),Below.refl _ _⟩
theorem two_14 (a b:Int)(w:World):Calls Tryz.prog 178 #[.int .i64 14,.int .i64 a,.int .i64 b] w fun e w'=>e=.returned (.tuple #[.int .i64 (twoV 14 a b),errV (twoE 14 a b)])/\Below w.heap.size w w':=by
 go_enter Tryz.func178,Tryz.ntmps178
 go_wp2_with fail
 go_ret2
 exact⟨ret2 (tv14 a b).symm (by rw[te0 (by decide) (by decide) (fun h=>absurd h (by decide)) (fun h=>absurd h (by decide))];rfl),Below.refl _ _⟩
theorem two_15 (a b:Int)(w:World):Calls Tryz.prog 178 #[.int .i64 15,.int .i64 a,.int .i64 b] w fun e w'=>e=.returned (.tuple #[.int .i64 (twoV 15 a b),errV (twoE 15 a b)])/\Below w.heap.size w w':=by
 go_enter Tryz.func178,Tryz.ntmps178
 go_wp2_with fail
 go_ret2
 exact⟨ret2 (tv15 a b).symm (by rw[te0 (by decide) (by decide) (fun h=>absurd h (by decide)) (fun h=>absurd h (by decide))];rfl),Below.refl _ _⟩
theorem two_16 (a b:Int)(hb:In64 b)(w:World):Calls Tryz.prog 178 #[.int .i64 16,.int .i64 a,.int .i64 b] w fun e w'=>e=.returned (.tuple #[.int .i64 (twoV 16 a b),errV (twoE 16 a b)])/\Below w.heap.size w w':=by
 go_enter Tryz.func178,Tryz.ntmps178
 go_wp2_with fail
 refine (power_any a b hb w).mono ?_
 rintro e w1 ⟨rfl,hw⟩
 subst hw
 go_wp2_with fail
 go_ret2
 exact⟨rfl,Below.refl _ _⟩
theorem two_other (f a b:Int)(hf:f<1\/16<f)(w:World):Calls Tryz.prog 178 #[.int .i64 f,.int .i64 a,.int .i64 b] w fun e w'=>e=.returned (.tuple #[.int .i64 (twoV f a b),errV (twoE f a b)])/\Below w.heap.size w w':=by
 have HF:Hid (f<1\/16<f):=hf
 have n1:(f == 1)=false:=by simp;omega
 have n2:(f == 2)=false:=by simp;omega
 have n3:(f == 3)=false:=by simp;omega
 have n4:(f == 4)=false:=by simp;omega
 have n5:(f == 5)=false:=by simp;omega
 have n6:(f == 6)=false:=by simp;omega
 have n7:(f == 7)=false:=by simp;omega
 have n8:(f == 8)=false:=by simp;omega
 have n9:(f == 9)=false:=by simp;omega
 have n10:(f == 10)=false:=by simp;omega
 have n11:(f == 11)=false:=by simp;omega
 have n12:(f == 12)=false:=by simp;omega
 have n13:(f == 13)=false:=by simp;omega
 have n14:(f == 14)=false:=by simp;omega
 have n15:(f == 15)=false:=by simp;omega
 have n16:(f == 16)=false:=by simp;omega
 clear hf
 go_enter Tryz.func178,Tryz.ntmps178
 go_wp2_with fail
 go_ret2
 have hf:=HF.out
 refine⟨ret2 ?_ (by simp[twoE,errV,hf]),Below.refl _ _⟩
 unfold twoV
 repeat rw[if_neg (by omega)]
theorem two_any (f a b:Int)(ha:In64 a)(hb:In64 b)(w:World):Calls Tryz.prog 178 #[.int .i64 f,.int .i64 a,.int .i64 b] w fun e w'=>e=.returned (.tuple #[.int .i64 (twoV f a b),errV (twoE f a b)])/\Below w.heap.size w w':=by
 by_cases hf:f<1\/16<f
 ·exact two_other f a b hf w
 ·rcases (by omega:f=1\/f=2\/f=3\/f=4\/f=5\/f=6\/f=7\/f=8\/f=9\/f=10\/f=11\/f=12\/f=13\/f=14\/f=15\/f=16) with rfl | rfl | rfl | rfl | rfl | rfl | rfl | rfl | rfl | rfl | rfl | rfl | rfl | rfl | rfl | rfl
  ·exact two_1 a b w
  ·exact two_2 a b w
  ·exact two_3 a b w
  ·exact two_4 a b w
  ·exact two_5 a b ha hb w
  ·exact two_6 a b w
  ·exact two_7 a b w
  ·exact two_8 a b w
  ·exact two_9 a b w
  ·exact two_10 a b w
  ·exact two_11 a b w
  ·exact two_12 a b w
  ·exact two_13 a b w
  ·exact two_14 a b w
  ·exact two_15 a b w
  ·exact two_16 a b hb w
end Go.Proofs.YtkmmkcpfhnifhaaGreatDoor
