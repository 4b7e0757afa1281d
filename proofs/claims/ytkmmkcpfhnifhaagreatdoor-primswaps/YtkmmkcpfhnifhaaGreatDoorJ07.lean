/- What the program tells, in part. -/
import Derived.Test.YtkmmkcpfhnifhaaGreatDoorJ06
import Derived.Laws.EntriesVeiled
set_option linter.unusedVariables false
set_option maxHeartbeats 2000000
set_option maxRecDepth 100000
namespace Go.Proofs.YtkmmkcpfhnifhaaGreatDoor
open Go.RowKit
theorem AnP.out16 {A:An}{w w':World}{r:Ending}(h:AnP A w r w'):∃ xa xc ya yc E,r=.returned (.tuple #[.agg #[.bool A.c,.slice xa A.s.length xc,.slice ya A.d.length yc],E])/\Hid (errV A.e=E/\NewC w.heap.size w' xa A.s xc/\NewC w.heap.size w' ya A.d yc/\Below w.heap.size w w'):=by
 obtain⟨xa,xc,ya,yc,rfl,hX,hY,hB⟩:=h
 exact⟨xa,xc,ya,yc,_,rfl,rfl,hX,hY,hB⟩
theorem b_cells1 (A:An)(f:Int)(p:Nat)(c:Bool)(sa:Option Addr)(sc:Nat)(sz:List Int)(da:Option Addr)(dc:Nat)(dz:List Int)(w:World)(hp:w.cell? ⟨p,0,none⟩=some (.int .i64 f))(H:∀ w',Below w.heap.size w w'->Calls Tryz.prog 97 #[.int .i64 f,.agg #[.bool c,.slice sa sz.length sc,.slice da dz.length dc]] w' (AnP A w')):
  Calls Tryz.prog 96 #[.agg #[.bool c,.slice sa sz.length sc,.slice da dz.length dc],.pointer (some ⟨p,0,none⟩)] w (AnP A w):=by
 obtain⟨hb,pa,pr⟩:=ent1 w (.bool c) (.slice sa sz.length sc) (.slice da dz.length dc)
 have p0:=pa.c0
 have p1:=pa.c1
 have p2:=pa.c2
 replace hp:=cell_to16 hb.out hp
 have HC:Hid (Calls Tryz.prog 97 #[.int .i64 f,.agg #[.bool c,.slice sa sz.length sc,.slice da dz.length dc]] ((w.alloc (.cells #[.bool c,.slice sa sz.length sc,.slice da dz.length dc] 27)).alloc (.cells #[.bool false,.slice none 0 0,.slice none 0 0] 27)) (AnP A ((w.alloc (.cells #[.bool c,.slice sa sz.length sc,.slice da dz.length dc] 27)).alloc (.cells #[.bool false,.slice none 0 0,.slice none 0 0] 27)))):=H _ hb.out
 clear H
 go_enter Tryz.func96,Tryz.ntmps96
 go_wp2_with fail
 refine HC.mono ?_
 clear HC
 intro e v1 hU
 obtain⟨xa,xc,ya,yc,E,rfl,HU⟩:=hU.out16
 clear hU
 have HR:Hid (Abx v1 _ (.bool false) (.slice none 0 0) (.slice none 0 0)):=pr.go HU.2.2.2
 have r0:=HR.c0
 have r1:=HR.c1
 have r2:=HR.c2
 have f0:=HR.fr 0
 have f1:=HR.fr 1
 have f2:=HR.fr 2
 go_wp2_with fail
 have FF:=HR.set3 (.bool A.c) (.slice xa A.s.length xc) (.slice ya A.d.length yc)
 have q0:=FF.c0
 have q1:=FF.c1
 have q2:=FF.c2
 exact bodyPost_ret (v:=.tuple #[.agg #[.bool A.c,.slice xa A.s.length xc,.slice ya A.d.length yc],E]) (by simp[results,Tryz.results96,go_sem,q0,q1,q2]) rfl (ret16 (A:=A) (by omega) pr.lt hb.out HU.2.1 HU.2.2.1 HU.2.2.2 HU.1 _ _ _)
theorem b_fold (A:An)(f x:Int)(p q:Nat)(F:Nat)(cs:List Value)(hE:∀ args w,(callFunc F args).run Tryz.prog w=.ok (.enter F args) w)(c:Bool)(sa:Option Addr)(sc:Nat)(sz:List Int)(da:Option Addr)(dc:Nat)(dz:List Int)(w:World)(hp:w.cell? ⟨p,0,none⟩=some (.func (.func F) #[] cs.toArray))(hq:w.cell? ⟨q,0,none⟩=some (.int .i64 f))(H:∀ w',Below w.heap.size w w'->Calls Tryz.prog F (.int .i64 f::.int .i64 x::.agg #[.bool c,.slice sa sz.length sc,.slice da dz.length dc]::cs).toArray w' (AnP A w')):
  Calls Tryz.prog 109 #[.int .i64 x,.agg #[.bool c,.slice sa sz.length sc,.slice da dz.length dc],.pointer (some ⟨p,0,none⟩),.pointer (some ⟨q,0,none⟩)] w (AnP A w):=by
 obtain⟨hb,pa,pr⟩:=ent1 w (.bool c) (.slice sa sz.length sc) (.slice da dz.length dc)
 have p0:=pa.c0
 have p1:=pa.c1
 have p2:=pa.c2
 replace hp:=cell_to16 hb.out hp
 replace hq:=cell_to16 hb.out hq
 have HC:Hid (Calls Tryz.prog F (.int .i64 f::.int .i64 x::.agg #[.bool c,.slice sa sz.length sc,.slice da dz.length dc]::cs).toArray ((w.alloc (.cells #[.bool c,.slice sa sz.length sc,.slice da dz.length dc] 27)).alloc (.cells #[.bool false,.slice none 0 0,.slice none 0 0] 27)) (AnP A ((w.alloc (.cells #[.bool c,.slice sa sz.length sc,.slice da dz.length dc] 27)).alloc (.cells #[.bool false,.slice none 0 0,.slice none 0 0] 27)))):=H _ hb.out
 clear H
 go_enter Tryz.func109,Tryz.ntmps109
 go_wp2_with fail
 refine HC.mono ?_
 clear HC
 intro e v1 hU
 obtain⟨xa,xc,ya,yc,E,rfl,HU⟩:=hU.out16
 clear hU
 have HR:Hid (Abx v1 _ (.bool false) (.slice none 0 0) (.slice none 0 0)):=pr.go HU.2.2.2
 have r0:=HR.c0
 have r1:=HR.c1
 have r2:=HR.c2
 have f0:=HR.fr 0
 have f1:=HR.fr 1
 have f2:=HR.fr 2
 go_wp2_with fail
 have FF:=HR.set3 (.bool A.c) (.slice xa A.s.length xc) (.slice ya A.d.length yc)
 have q0:=FF.c0
 have q1:=FF.c1
 have q2:=FF.c2
 exact bodyPost_ret (v:=.tuple #[.agg #[.bool A.c,.slice xa A.s.length xc,.slice ya A.d.length yc],E]) (by simp[results,Tryz.results109,go_sem,q0,q1,q2]) rfl (ret16 (A:=A) (by omega) pr.lt hb.out HU.2.1 HU.2.2.1 HU.2.2.2 HU.1 _ _ _)
theorem b_self (A:An)(p:Nat)(F:Nat)(cs:List Value)(hE:∀ args w,(callFunc F args).run Tryz.prog w=.ok (.enter F args) w)(c:Bool)(sa:Option Addr)(sc:Nat)(sz:List Int)(da:Option Addr)(dc:Nat)(dz:List Int)(w:World)(hp:w.cell? ⟨p,0,none⟩=some (.func (.func F) #[] cs.toArray))(H:∀ w',Below w.heap.size w w'->Calls Tryz.prog F (.agg #[.bool c,.slice sa sz.length sc,.slice da dz.length dc]::.agg #[.bool c,.slice sa sz.length sc,.slice da dz.length dc]::cs).toArray w' (AnP A w')):
  Calls Tryz.prog 116 #[.agg #[.bool c,.slice sa sz.length sc,.slice da dz.length dc],.pointer (some ⟨p,0,none⟩)] w (AnP A w):=by
 obtain⟨hb,pa,pr⟩:=ent1 w (.bool c) (.slice sa sz.length sc) (.slice da dz.length dc)
 have p0:=pa.c0
 have p1:=pa.c1
 have p2:=pa.c2
 replace hp:=cell_to16 hb.out hp
 have HC:Hid (Calls Tryz.prog F (.agg #[.bool c,.slice sa sz.length sc,.slice da dz.length dc]::.agg #[.bool c,.slice sa sz.length sc,.slice da dz.length dc]::cs).toArray ((w.alloc (.cells #[.bool c,.slice sa sz.length sc,.slice da dz.length dc] 27)).alloc (.cells #[.bool false,.slice none 0 0,.slice none 0 0] 27)) (AnP A ((w.alloc (.cells #[.bool c,.slice sa sz.length sc,.slice da dz.length dc] 27)).alloc (.cells #[.bool false,.slice none 0 0,.slice none 0 0] 27)))):=H _ hb.out
 clear H
 go_enter Tryz.func116,Tryz.ntmps116
 go_wp2_with fail
 refine HC.mono ?_
 clear HC
 intro e v1 hU
 obtain⟨xa,xc,ya,yc,E,rfl,HU⟩:=hU.out16
 clear hU
 have HR:Hid (Abx v1 _ (.bool false) (.slice none 0 0) (.slice none 0 0)):=pr.go HU.2.2.2
 have r0:=HR.c0
 have r1:=HR.c1
 have r2:=HR.c2
 have f0:=HR.fr 0
 have f1:=HR.fr 1
 have f2:=HR.fr 2
 go_wp2_with fail
 have FF:=HR.set3 (.bool A.c) (.slice xa A.s.length xc) (.slice ya A.d.length yc)
 have q0:=FF.c0
 have q1:=FF.c1
 have q2:=FF.c2
 exact bodyPost_ret (v:=.tuple #[.agg #[.bool A.c,.slice xa A.s.length xc,.slice ya A.d.length yc],E]) (by simp[results,Tryz.results116,go_sem,q0,q1,q2]) rfl (ret16 (A:=A) (by omega) pr.lt hb.out HU.2.1 HU.2.2.1 HU.2.2.2 HU.1 _ _ _)
theorem b_swap (A:An)(p:Nat)(F:Nat)(cs:List Value)(hE:∀ args w,(callFunc F args).run Tryz.prog w=.ok (.enter F args) w)(c:Bool)(sa:Option Addr)(sc:Nat)(sz:List Int)(da:Option Addr)(dc:Nat)(dz:List Int)(c':Bool)(sa':Option Addr)(sc':Nat)(sz':List Int)(da':Option Addr)(dc':Nat)(dz':List Int)(w:World)(hp:w.cell? ⟨p,0,none⟩=some (.func (.func F) #[] cs.toArray))(H:∀ w',Below w.heap.size w w'->Calls Tryz.prog F (.agg #[.bool c',.slice sa' sz'.length sc',.slice da' dz'.length dc']::.agg #[.bool c,.slice sa sz.length sc,.slice da dz.length dc]::cs).toArray w' (AnP A w')):
  Calls Tryz.prog 146 #[.agg #[.bool c,.slice sa sz.length sc,.slice da dz.length dc],.agg #[.bool c',.slice sa' sz'.length sc',.slice da' dz'.length dc'],.pointer (some ⟨p,0,none⟩)] w (AnP A w):=by
 obtain⟨hb,pa,pb,pr⟩:=ent2 w (.bool c) (.slice sa sz.length sc) (.slice da dz.length dc) (.bool c') (.slice sa' sz'.length sc') (.slice da' dz'.length dc')
 have p0:=pa.c0
 have p1:=pa.c1
 have p2:=pa.c2
 have p3:=pb.c0
 have p4:=pb.c1
 have p5:=pb.c2
 replace hp:=cell_to16 hb.out hp
 have HC:Hid (Calls Tryz.prog F (.agg #[.bool c',.slice sa' sz'.length sc',.slice da' dz'.length dc']::.agg #[.bool c,.slice sa sz.length sc,.slice da dz.length dc]::cs).toArray (((w.alloc (.cells #[.bool c,.slice sa sz.length sc,.slice da dz.length dc] 27)).alloc (.cells #[.bool c',.slice sa' sz'.length sc',.slice da' dz'.length dc'] 27)).alloc (.cells #[.bool false,.slice none 0 0,.slice none 0 0] 27)) (AnP A (((w.alloc (.cells #[.bool c,.slice sa sz.length sc,.slice da dz.length dc] 27)).alloc (.cells #[.bool c',.slice sa' sz'.length sc',.slice da' dz'.length dc'] 27)).alloc (.cells #[.bool false,.slice none 0 0,.slice none 0 0] 27)))):=H _ hb.out
 clear H
 go_enter Tryz.func146,Tryz.ntmps146
 go_wp2_with fail
 refine HC.mono ?_
 clear HC
 intro e v1 hU
 obtain⟨xa,xc,ya,yc,E,rfl,HU⟩:=hU.out16
 clear hU
 have HR:Hid (Abx v1 _ (.bool false) (.slice none 0 0) (.slice none 0 0)):=pr.go HU.2.2.2
 have r0:=HR.c0
 have r1:=HR.c1
 have r2:=HR.c2
 have f0:=HR.fr 0
 have f1:=HR.fr 1
 have f2:=HR.fr 2
 go_wp2_with fail
 have FF:=HR.set3 (.bool A.c) (.slice xa A.s.length xc) (.slice ya A.d.length yc)
 have q0:=FF.c0
 have q1:=FF.c1
 have q2:=FF.c2
 exact bodyPost_ret (v:=.tuple #[.agg #[.bool A.c,.slice xa A.s.length xc,.slice ya A.d.length yc],E]) (by simp[results,Tryz.results146,go_sem,q0,q1,q2]) rfl (ret16 (A:=A) (by omega) pr.lt hb.out HU.2.1 HU.2.2.1 HU.2.2.2 HU.1 _ _ _)
theorem b_cells2 (A:An)(f:Int)(p:Nat)(c:Bool)(sa:Option Addr)(sc:Nat)(sz:List Int)(da:Option Addr)(dc:Nat)(dz:List Int)(c':Bool)(sa':Option Addr)(sc':Nat)(sz':List Int)(da':Option Addr)(dc':Nat)(dz':List Int)(w:World)(hp:w.cell? ⟨p,0,none⟩=some (.int .i64 f))(H:∀ w',Below w.heap.size w w'->Calls Tryz.prog 213 #[.int .i64 f,.agg #[.bool c,.slice sa sz.length sc,.slice da dz.length dc],.agg #[.bool c',.slice sa' sz'.length sc',.slice da' dz'.length dc']] w' (AnP A w')):
  Calls Tryz.prog 212 #[.agg #[.bool c,.slice sa sz.length sc,.slice da dz.length dc],.agg #[.bool c',.slice sa' sz'.length sc',.slice da' dz'.length dc'],.pointer (some ⟨p,0,none⟩)] w (AnP A w):=by
 obtain⟨hb,pa,pb,pr⟩:=ent2 w (.bool c) (.slice sa sz.length sc) (.slice da dz.length dc) (.bool c') (.slice sa' sz'.length sc') (.slice da' dz'.length dc')
 have p0:=pa.c0
 have p1:=pa.c1
 have p2:=pa.c2
 have p3:=pb.c0
 have p4:=pb.c1
 have p5:=pb.c2
 replace hp:=cell_to16 hb.out hp
 have HC:Hid (Calls Tryz.prog 213 #[.int .i64 f,.agg #[.bool c,.slice sa sz.length sc,.slice da dz.length dc],.agg #[.bool c',.slice sa' sz'.length sc',.slice da' dz'.length dc']] (((w.alloc (.cells #[.bool c,.slice sa sz.length sc,.slice da dz.length dc] 27)).alloc (.cells #[.bool c',.slice sa' sz'.length sc',.slice da' dz'.length dc'] 27)).alloc (.cells #[.bool false,.slice none 0 0,.slice none 0 0] 27)) (AnP A (((w.alloc (.cells #[.bool c,.slice sa sz.length sc,.slice da dz.length dc] 27)).alloc (.cells #[.bool c',.slice sa' sz'.length sc',.slice da' dz'.length dc'] 27)).alloc (.cells #[.bool false,.slice none 0 0,.slice none 0 0] 27)))):=H _ hb.out
 clear H
 go_enter Tryz.func212,Tryz.ntmps212
 go_wp2_with fail
 refine HC.mono ?_
 clear HC
 intro e v1 hU
 obtain⟨xa,xc,ya,yc,E,rfl,HU⟩:=hU.out16
 clear hU
 have HR:Hid (Abx v1 _ (.bool false) (.slice none 0 0) (.slice none 0 0)):=pr.go HU.2.2.2
 have r0:=HR.c0
 have r1:=HR.c1
 have r2:=HR.c2
 have f0:=HR.fr 0
 have f1:=HR.fr 1
 have f2:=HR.fr 2
 go_wp2_with fail
 have FF:=HR.set3 (.bool A.c) (.slice xa A.s.length xc) (.slice ya A.d.length yc)
 have q0:=FF.c0
 have q1:=FF.c1
 have q2:=FF.c2
 exact bodyPost_ret (v:=.tuple #[.agg #[.bool A.c,.slice xa A.s.length xc,.slice ya A.d.length yc],E]) (by simp[results,Tryz.results212,go_sem,q0,q1,q2]) rfl (ret16 (A:=A) (by omega) pr.lt hb.out HU.2.1 HU.2.2.1 HU.2.2.2 HU.1 _ _ _)
theorem b_outer (A:An)(f:Int)(p:Nat)(c:Bool)(sa:Option Addr)(sc:Nat)(sz:List Int)(da:Option Addr)(dc:Nat)(dz:List Int)(c':Bool)(sa':Option Addr)(sc':Nat)(sz':List Int)(da':Option Addr)(dc':Nat)(dz':List Int)(w:World)(hp:w.cell? ⟨p,0,none⟩=some (.int .i64 f))(H:∀ w',Below w.heap.size w w'->Calls Tryz.prog 143 #[.int .i64 f,.agg #[.bool c,.slice sa sz.length sc,.slice da dz.length dc],.agg #[.bool c',.slice sa' sz'.length sc',.slice da' dz'.length dc']] w' (AnP A w')):
  Calls Tryz.prog 142 #[.agg #[.bool c,.slice sa sz.length sc,.slice da dz.length dc],.agg #[.bool c',.slice sa' sz'.length sc',.slice da' dz'.length dc'],.pointer (some ⟨p,0,none⟩)] w (AnP A w):=by
 obtain⟨hb,pa,pb,pr⟩:=ent2 w (.bool c) (.slice sa sz.length sc) (.slice da dz.length dc) (.bool c') (.slice sa' sz'.length sc') (.slice da' dz'.length dc')
 have p0:=pa.c0
 have p1:=pa.c1
 have p2:=pa.c2
 have p3:=pb.c0
 have p4:=pb.c1
 have p5:=pb.c2
 replace hp:=cell_to16 hb.out hp
 have HC:Hid (Calls Tryz.prog 143 #[.int .i64 f,.agg #[.bool c,.slice sa sz.length sc,.slice da dz.length dc],.agg #[.bool c',.slice sa' sz'.length sc',.slice da' dz'.length dc']] (((w.alloc (.cells #[.bool c,.slice sa sz.length sc,.slice da dz.length dc] 27)).alloc (.cells #[.bool c',.slice sa' sz'.length sc',.slice da' dz'.length dc'] 27)).alloc (.cells #[.bool false,.slice none 0 0,.slice none 0 0] 27)) (AnP A (((w.alloc (.cells #[.bool c,.slice sa sz.length sc,.slice da dz.length dc] 27)).alloc (.cells #[.bool c',.slice sa' sz'.length sc',.slice da' dz'.length dc'] 27)).alloc (.cells #[.bool false,.slice none 0 0,.slice none 0 0] 27)))):=H _ hb.out
 clear H
 go_enter Tryz.func142,Tryz.ntmps142
 go_wp2_with fail
 refine HC.mono ?_
 clear HC
 intro e v1 hU
 obtain⟨xa,xc,ya,yc,E,rfl,HU⟩:=hU.out16
 clear hU
 have HR:Hid (Abx v1 _ (.bool false) (.slice none 0 0) (.slice none 0 0)):=pr.go HU.2.2.2
 have r0:=HR.c0
 have r1:=HR.c1
 have r2:=HR.c2
 have f0:=HR.fr 0
 have f1:=HR.fr 1
 have f2:=HR.fr 2
 go_wp2_with fail
 have FF:=HR.set3 (.bool A.c) (.slice xa A.s.length xc) (.slice ya A.d.length yc)
 have q0:=FF.c0
 have q1:=FF.c1
 have q2:=FF.c2
 exact bodyPost_ret (v:=.tuple #[.agg #[.bool A.c,.slice xa A.s.length xc,.slice ya A.d.length yc],E]) (by simp[results,Tryz.results142,go_sem,q0,q1,q2]) rfl (ret16 (A:=A) (by omega) pr.lt hb.out HU.2.1 HU.2.2.1 HU.2.2.2 HU.1 _ _ _)
theorem b_inner (A:An)(f g:Int)(p q:Nat)(c:Bool)(sa:Option Addr)(sc:Nat)(sz:List Int)(da:Option Addr)(dc:Nat)(dz:List Int)(c':Bool)(sa':Option Addr)(sc':Nat)(sz':List Int)(da':Option Addr)(dc':Nat)(dz':List Int)(w:World)(hp:w.cell? ⟨p,0,none⟩=some (.int .i64 f))(hq:w.cell? ⟨q,0,none⟩=some (.int .i64 g))(H:∀ w',Below w.heap.size w w'->Calls Tryz.prog 145 #[.int .i64 f,.int .i64 g,.agg #[.bool c,.slice sa sz.length sc,.slice da dz.length dc],.agg #[.bool c',.slice sa' sz'.length sc',.slice da' dz'.length dc']] w' (AnP A w')):
  Calls Tryz.prog 144 #[.agg #[.bool c,.slice sa sz.length sc,.slice da dz.length dc],.agg #[.bool c',.slice sa' sz'.length sc',.slice da' dz'.length dc'],.pointer (some ⟨p,0,none⟩),.pointer (some ⟨q,0,none⟩)] w (AnP A w):=by
 obtain⟨hb,pa,pb,pr⟩:=ent2 w (.bool c) (.slice sa sz.length sc) (.slice da dz.length dc) (.bool c') (.slice sa' sz'.length sc') (.slice da' dz'.length dc')
 have p0:=pa.c0
 have p1:=pa.c1
 have p2:=pa.c2
 have p3:=pb.c0
 have p4:=pb.c1
 have p5:=pb.c2
 replace hp:=cell_to16 hb.out hp
 replace hq:=cell_to16 hb.out hq
 have HC:Hid (Calls Tryz.prog 145 #[.int .i64 f,.int .i64 g,.agg #[.bool c,.slice sa sz.length sc,.slice da dz.length dc],.agg #[.bool c',.slice sa' sz'.length sc',.slice da' dz'.length dc']] (((w.alloc (.cells #[.bool c,.slice sa sz.length sc,.slice da dz.length dc] 27)).alloc (.cells #[.bool c',.slice sa' sz'.length sc',.slice da' dz'.length dc'] 27)).alloc (.cells #[.bool false,.slice none 0 0,.slice none 0 0] 27)) (AnP A (((w.alloc (.cells #[.bool c,.slice sa sz.length sc,.slice da dz.length dc] 27)).alloc (.cells #[.bool c',.slice sa' sz'.length sc',.slice da' dz'.length dc'] 27)).alloc (.cells #[.bool false,.slice none 0 0,.slice none 0 0] 27)))):=H _ hb.out
 clear H
 go_enter Tryz.func144,Tryz.ntmps144
 go_wp2_with fail
 refine HC.mono ?_
 clear HC
 intro e v1 hU
 obtain⟨xa,xc,ya,yc,E,rfl,HU⟩:=hU.out16
 clear hU
 have HR:Hid (Abx v1 _ (.bool false) (.slice none 0 0) (.slice none 0 0)):=pr.go HU.2.2.2
 have r0:=HR.c0
 have r1:=HR.c1
 have r2:=HR.c2
 have f0:=HR.fr 0
 have f1:=HR.fr 1
 have f2:=HR.fr 2
 go_wp2_with fail
 have FF:=HR.set3 (.bool A.c) (.slice xa A.s.length xc) (.slice ya A.d.length yc)
 have q0:=FF.c0
 have q1:=FF.c1
 have q2:=FF.c2
 exact bodyPost_ret (v:=.tuple #[.agg #[.bool A.c,.slice xa A.s.length xc,.slice ya A.d.length yc],E]) (by simp[results,Tryz.results144,go_sem,q0,q1,q2]) rfl (ret16 (A:=A) (by omega) pr.lt hb.out HU.2.1 HU.2.2.1 HU.2.2.2 HU.1 _ _ _)
theorem b_wind (A:An)(f n x:Int)(p:Nat)(c:Bool)(sa:Option Addr)(sc:Nat)(sz:List Int)(da:Option Addr)(dc:Nat)(dz:List Int)(w:World)(hp:w.cell? ⟨p,0,none⟩=some (.int .i64 f))(H:∀ w',Below w.heap.size w w'->Calls Tryz.prog 141 #[.int .i64 f,.int .i64 n,.int .i64 x,.agg #[.bool c,.slice sa sz.length sc,.slice da dz.length dc]] w' (AnP A w')):
  Calls Tryz.prog 140 #[.int .i64 n,.int .i64 x,.agg #[.bool c,.slice sa sz.length sc,.slice da dz.length dc],.pointer (some ⟨p,0,none⟩)] w (AnP A w):=by
 obtain⟨hb,pa,pr⟩:=ent1 w (.bool c) (.slice sa sz.length sc) (.slice da dz.length dc)
 have p0:=pa.c0
 have p1:=pa.c1
 have p2:=pa.c2
 replace hp:=cell_to16 hb.out hp
 have HC:Hid (Calls Tryz.prog 141 #[.int .i64 f,.int .i64 n,.int .i64 x,.agg #[.bool c,.slice sa sz.length sc,.slice da dz.length dc]] ((w.alloc (.cells #[.bool c,.slice sa sz.length sc,.slice da dz.length dc] 27)).alloc (.cells #[.bool false,.slice none 0 0,.slice none 0 0] 27)) (AnP A ((w.alloc (.cells #[.bool c,.slice sa sz.length sc,.slice da dz.length dc] 27)).alloc (.cells #[.bool false,.slice none 0 0,.slice none 0 0] 27)))):=H _ hb.out
 clear H
 go_enter Tryz.func140,Tryz.ntmps140
 go_wp2_with fail
 refine HC.mono ?_
 clear HC
 intro e v1 hU
 obtain⟨xa,xc,ya,yc,E,rfl,HU⟩:=hU.out16
 clear hU
 have HR:Hid (Abx v1 _ (.bool false) (.slice none 0 0) (.slice none 0 0)):=pr.go HU.2.2.2
 have r0:=HR.c0
 have r1:=HR.c1
 have r2:=HR.c2
 have f0:=HR.fr 0
 have f1:=HR.fr 1
 have f2:=HR.fr 2
 go_wp2_with fail
 have FF:=HR.set3 (.bool A.c) (.slice xa A.s.length xc) (.slice ya A.d.length yc)
 have q0:=FF.c0
 have q1:=FF.c1
 have q2:=FF.c2
 exact bodyPost_ret (v:=.tuple #[.agg #[.bool A.c,.slice xa A.s.length xc,.slice ya A.d.length yc],E]) (by simp[results,Tryz.results140,go_sem,q0,q1,q2]) rfl (ret16 (A:=A) (by omega) pr.lt hb.out HU.2.1 HU.2.2.1 HU.2.2.2 HU.1 _ _ _)
theorem b_num2 (A:An)(n x:Int)(p q:Nat)(F:Nat)(cs:List Value)(hE:∀ args w,(callFunc F args).run Tryz.prog w=.ok (.enter F args) w)(c:Bool)(sa:Option Addr)(sc:Nat)(sz:List Int)(da:Option Addr)(dc:Nat)(dz:List Int)(w:World)(hp:w.cell? ⟨p,0,none⟩=some (.func (.func F) #[] cs.toArray))(hq:w.cell? ⟨q,0,none⟩=some (.int .i64 n))(H:∀ w',Below w.heap.size w w'->Calls Tryz.prog F (.int .i64 n::.int .i64 x::.agg #[.bool c,.slice sa sz.length sc,.slice da dz.length dc]::cs).toArray w' (AnP A w')):
  Calls Tryz.prog 191 #[.int .i64 x,.agg #[.bool c,.slice sa sz.length sc,.slice da dz.length dc],.pointer (some ⟨p,0,none⟩),.pointer (some ⟨q,0,none⟩)] w (AnP A w):=by
 obtain⟨hb,pa,pr⟩:=ent1 w (.bool c) (.slice sa sz.length sc) (.slice da dz.length dc)
 have p0:=pa.c0
 have p1:=pa.c1
 have p2:=pa.c2
 replace hp:=cell_to16 hb.out hp
 replace hq:=cell_to16 hb.out hq
 have HC:Hid (Calls Tryz.prog F (.int .i64 n::.int .i64 x::.agg #[.bool c,.slice sa sz.length sc,.slice da dz.length dc]::cs).toArray ((w.alloc (.cells #[.bool c,.slice sa sz.length sc,.slice da dz.length dc] 27)).alloc (.cells #[.bool false,.slice none 0 0,.slice none 0 0] 27)) (AnP A ((w.alloc (.cells #[.bool c,.slice sa sz.length sc,.slice da dz.length dc] 27)).alloc (.cells #[.bool false,.slice none 0 0,.slice none 0 0] 27)))):=H _ hb.out
 clear H
 go_enter Tryz.func191,Tryz.ntmps191
 go_wp2_with fail
 refine HC.mono ?_
 clear HC
 intro e v1 hU
 obtain⟨xa,xc,ya,yc,E,rfl,HU⟩:=hU.out16
 clear hU
 have HR:Hid (Abx v1 _ (.bool false) (.slice none 0 0) (.slice none 0 0)):=pr.go HU.2.2.2
 have r0:=HR.c0
 have r1:=HR.c1
 have r2:=HR.c2
 have f0:=HR.fr 0
 have f1:=HR.fr 1
 have f2:=HR.fr 2
 go_wp2_with fail
 have FF:=HR.set3 (.bool A.c) (.slice xa A.s.length xc) (.slice ya A.d.length yc)
 have q0:=FF.c0
 have q1:=FF.c1
 have q2:=FF.c2
 exact bodyPost_ret (v:=.tuple #[.agg #[.bool A.c,.slice xa A.s.length xc,.slice ya A.d.length yc],E]) (by simp[results,Tryz.results191,go_sem,q0,q1,q2]) rfl (ret16 (A:=A) (by omega) pr.lt hb.out HU.2.1 HU.2.2.1 HU.2.2.2 HU.1 _ _ _)
theorem b_last (A:An)(p:Nat)(F:Nat)(cs:List Value)(hE:∀ args w,(callFunc F args).run Tryz.prog w=.ok (.enter F args) w)(c:Bool)(sa:Option Addr)(sc:Nat)(sz:List Int)(da:Option Addr)(dc:Nat)(dz:List Int)(w:World)(hp:w.cell? ⟨p,0,none⟩=some (.func (.func F) #[] cs.toArray))(h6:sz.length<=6)(h0:sz.length≠0)(H:∀ w',Below w.heap.size w w'->Calls Tryz.prog F (.int .i64 ((sz.length:Int)-1)::.agg #[.bool c,.slice sa sz.length sc,.slice da dz.length dc]::cs).toArray w' (AnP A w')):
  Calls Tryz.prog 160 #[.agg #[.bool c,.slice sa sz.length sc,.slice da dz.length dc],.pointer (some ⟨p,0,none⟩)] w (AnP A w):=by
 obtain⟨hb,pa,pr⟩:=ent1 w (.bool c) (.slice sa sz.length sc) (.slice da dz.length dc)
 have p0:=pa.c0
 have p1:=pa.c1
 have p2:=pa.c2
 replace hp:=cell_to16 hb.out hp
 have HC:Hid (Calls Tryz.prog F (.int .i64 ((sz.length:Int)-1)::.agg #[.bool c,.slice sa sz.length sc,.slice da dz.length dc]::cs).toArray ((w.alloc (.cells #[.bool c,.slice sa sz.length sc,.slice da dz.length dc] 27)).alloc (.cells #[.bool false,.slice none 0 0,.slice none 0 0] 27)) (AnP A ((w.alloc (.cells #[.bool c,.slice sa sz.length sc,.slice da dz.length dc] 27)).alloc (.cells #[.bool false,.slice none 0 0,.slice none 0 0] 27)))):=H _ hb.out
 clear H
 have t0:((sz.length:Int) == 0)=false:=beq_eq_false_iff_ne.2 (by omega)
 go_enter Tryz.func160,Tryz.ntmps160
 go_wp2_with fail
 refine HC.mono ?_
 clear HC
 intro e v1 hU
 obtain⟨xa,xc,ya,yc,E,rfl,HU⟩:=hU.out16
 clear hU
 have HR:Hid (Abx v1 _ (.bool false) (.slice none 0 0) (.slice none 0 0)):=pr.go HU.2.2.2
 have r0:=HR.c0
 have r1:=HR.c1
 have r2:=HR.c2
 have f0:=HR.fr 0
 have f1:=HR.fr 1
 have f2:=HR.fr 2
 go_wp2_with fail
 have FF:=HR.set3 (.bool A.c) (.slice xa A.s.length xc) (.slice ya A.d.length yc)
 have q0:=FF.c0
 have q1:=FF.c1
 have q2:=FF.c2
 exact bodyPost_ret (v:=.tuple #[.agg #[.bool A.c,.slice xa A.s.length xc,.slice ya A.d.length yc],E]) (by simp[results,Tryz.results160,go_sem,q0,q1,q2]) rfl (ret16 (A:=A) (by omega) pr.lt hb.out HU.2.1 HU.2.2.1 HU.2.2.2 HU.1 _ _ _)
theorem b_none (A:An)(p:Nat)(v:Value)(c:Bool)(sa:Option Addr)(sc:Nat)(da:Option Addr)(dc:Nat)(dz:List Int)(w:World)(hp:w.cell? ⟨p,0,none⟩=some (v))(H:∀ w',Below w.heap.size w w'->Calls Tryz.prog 118 #[.slice none 0 0,.agg #[.bool c,.slice sa 0 sc,.slice da dz.length dc]] w' (AnP A w')):
  Calls Tryz.prog 160 #[.agg #[.bool c,.slice sa 0 sc,.slice da dz.length dc],.pointer (some ⟨p,0,none⟩)] w (AnP A w):=by
 obtain⟨hb,pa,pr⟩:=ent1 w (.bool c) (.slice sa 0 sc) (.slice da dz.length dc)
 have p0:=pa.c0
 have p1:=pa.c1
 have p2:=pa.c2
 replace hp:=cell_to16 hb.out hp
 have HC:Hid (Calls Tryz.prog 118 #[.slice none 0 0,.agg #[.bool c,.slice sa 0 sc,.slice da dz.length dc]] ((w.alloc (.cells #[.bool c,.slice sa 0 sc,.slice da dz.length dc] 27)).alloc (.cells #[.bool false,.slice none 0 0,.slice none 0 0] 27)) (AnP A ((w.alloc (.cells #[.bool c,.slice sa 0 sc,.slice da dz.length dc] 27)).alloc (.cells #[.bool false,.slice none 0 0,.slice none 0 0] 27)))):=H _ hb.out
 clear H
 go_enter Tryz.func160,Tryz.ntmps160
 go_wp2_with fail
 refine HC.mono ?_
 clear HC
 intro e v1 hU
 obtain⟨xa,xc,ya,yc,E,rfl,HU⟩:=hU.out16
 clear hU
 have HR:Hid (Abx v1 _ (.bool false) (.slice none 0 0) (.slice none 0 0)):=pr.go HU.2.2.2
 have r0:=HR.c0
 have r1:=HR.c1
 have r2:=HR.c2
 have f0:=HR.fr 0
 have f1:=HR.fr 1
 have f2:=HR.fr 2
 go_wp2_with fail
 have FF:=HR.set3 (.bool A.c) (.slice xa A.s.length xc) (.slice ya A.d.length yc)
 have q0:=FF.c0
 have q1:=FF.c1
 have q2:=FF.c2
 exact bodyPost_ret (v:=.tuple #[.agg #[.bool A.c,.slice xa A.s.length xc,.slice ya A.d.length yc],E]) (by simp[results,Tryz.results160,go_sem,q0,q1,q2]) rfl (ret16 (A:=A) (by omega) pr.lt hb.out HU.2.1 HU.2.2.1 HU.2.2.2 HU.1 _ _ _)
theorem nmb_zero {c:Bool}{sz:List Int}(h:numE c sz=0):sz.length=0/\c=false:=by
 unfold numE at h
 split at h
 ·rename_i h0
  refine⟨h0,?_⟩
  split at h
  ·cases h
  ·rename_i hc;exact Bool.eq_false_iff.2 hc
 ·cases h
theorem lst_zero {c:Bool}{sz:List Int}(h:lstE c sz=0):sz.length<=1/\c=false:=by
 unfold lstE at h
 split at h
 ·rename_i h0
  refine⟨h0,?_⟩
  split at h
  ·cases h
  ·rename_i hc;exact Bool.eq_false_iff.2 hc
 ·cases h
theorem one_cell {c:Bool}{sz dz:List Int}(h:flawE c sz dz=0)(h0:sz.length=0):dz.length=1:=by
 have:=(flawE_zero h).2.1
 rw[List.length_eq_zero_iff.1 h0] at this
 have h2:(dz.length:Int)=1:=by simpa[prod] using this
 omega
theorem nmb_ok (c:Bool)(sa:Option Addr)(sc:Nat)(sz:List Int)(da:Option Addr)(dc:Nat)(dz:List Int)(h:numE c sz=0)(hf:flawE c sz dz=0)(w:World)(hd:IsInts w.heap.size w da dz):
  Calls Tryz.prog 164 #[.agg #[.bool c,.slice sa sz.length sc,.slice da dz.length dc]] w fun r w'=>r=.returned (.tuple #[.int .i64 (nth dz 0),.nilIface])/\Below w.heap.size w w':=by
 obtain⟨h0,rfl⟩:=nmb_zero h
 have h1:=one_cell hf h0
 obtain⟨b,off,rfl,hbl,hcell⟩:=hd.at (show 0<dz.length by omega)
 have hc:=hcell 0 (by omega)
 rw[Nat.add_zero] at hc
 rw[h0,h1]
 obtain⟨x,hx⟩:∃ x,x=nth dz 0:=⟨_,rfl⟩
 rw[<-hx] at hc ⊢
 have HB0:Hid (Below w.heap.size w (w.alloc (.cells #[.bool false,.slice sa 0 sc,.slice (some ⟨b,off,none⟩) 1 dc] 27))):=(Below.refl _ w).alloc (Nat.le_refl _) _
 have pa:=Abx.new w (.bool false) (.slice sa 0 sc) (.slice (some ⟨b,off,none⟩) 1 dc)
 have p0:=pa.c0
 have p1:=pa.c1
 have p2:=pa.c2
 replace hc:=cell_to16 HB0.out hc
 clear h h0 h1 hf hd hcell hx hbl pa
 go_enter Tryz.func164,Tryz.ntmps164
 go_wp2_with fail
 go_ret2
 exact⟨rfl,HB0.out⟩
theorem nmb_no (c:Bool)(sa:Option Addr)(sc:Nat)(sz:List Int)(da:Option Addr)(dc:Nat)(dz:List Int)(h:numE c sz≠0)(h6:sz.length<=6)(w:World):
  Calls Tryz.prog 164 #[.agg #[.bool c,.slice sa sz.length sc,.slice da dz.length dc]] w fun r w'=>r=.returned (.tuple #[.int .i64 0,.iface 28 (.int .i64 (numE c sz))])/\Below w.heap.size w w':=by
 unfold numE at h ⊢
 have HB0:Hid (Below w.heap.size w (w.alloc (.cells #[.bool c,.slice sa sz.length sc,.slice da dz.length dc] 27))):=(Below.refl _ w).alloc (Nat.le_refl _) _
 have pa:=Abx.new w (.bool c) (.slice sa sz.length sc) (.slice da dz.length dc)
 have p0:=pa.c0
 have p1:=pa.c1
 have p2:=pa.c2
 clear pa
 by_cases h0:sz.length=0
 ·rw[if_pos h0] at h ⊢
  cases c
  ·exact absurd rfl h
  ·rw[if_pos rfl]
   rw[h0] at HB0 p1 ⊢
   clear h h0 h6
   go_enter Tryz.func164,Tryz.ntmps164
   go_wp2_with fail
   go_ret2
   exact⟨rfl,HB0.out⟩
 ·rw[if_neg h0]
  have t0:(0:Int)<(sz.length:Int):=by omega
  clear h h0
  go_enter Tryz.func164,Tryz.ntmps164
  go_wp2_with fail
  go_ret2
  exact⟨rfl,HB0.out⟩
theorem lst_ok (c:Bool)(sa:Option Addr)(sc:Nat)(sz:List Int)(da:Option Addr)(dc:Nat)(dz:List Int)(h:lstE c sz=0)(w:World):
  Calls Tryz.prog 185 #[.agg #[.bool c,.slice sa sz.length sc,.slice da dz.length dc]] w fun r w'=>r=.returned (.tuple #[.slice da dz.length dc,.nilIface])/\Below w.heap.size w w':=by
 obtain⟨h0,rfl⟩:=lst_zero h
 have HB0:Hid (Below w.heap.size w (w.alloc (.cells #[.bool false,.slice sa sz.length sc,.slice da dz.length dc] 27))):=(Below.refl _ w).alloc (Nat.le_refl _) _
 have pa:=Abx.new w (.bool false) (.slice sa sz.length sc) (.slice da dz.length dc)
 have p0:=pa.c0
 have p1:=pa.c1
 have p2:=pa.c2
 have t0:¬ (1:Int)<(sz.length:Int):=by omega
 clear h h0 pa
 go_enter Tryz.func185,Tryz.ntmps185
 go_wp2_with fail
 go_ret2
 exact⟨rfl,HB0.out⟩
theorem lst_no (c:Bool)(sa:Option Addr)(sc:Nat)(sz:List Int)(da:Option Addr)(dc:Nat)(dz:List Int)(h:lstE c sz≠0)(h6:sz.length<=6)(w:World):
  Calls Tryz.prog 185 #[.agg #[.bool c,.slice sa sz.length sc,.slice da dz.length dc]] w fun r w'=>r=.returned (.tuple #[.slice none 0 0,.iface 28 (.int .i64 (lstE c sz))])/\Below w.heap.size w w':=by
 unfold lstE at h ⊢
 have HB0:Hid (Below w.heap.size w (w.alloc (.cells #[.bool c,.slice sa sz.length sc,.slice da dz.length dc] 27))):=(Below.refl _ w).alloc (Nat.le_refl _) _
 have pa:=Abx.new w (.bool c) (.slice sa sz.length sc) (.slice da dz.length dc)
 have p0:=pa.c0
 have p1:=pa.c1
 have p2:=pa.c2
 clear pa
 by_cases h0:sz.length<=1
 ·rw[if_pos h0] at h ⊢
  cases c
  ·exact absurd rfl h
  ·rw[if_pos rfl]
   have t0:¬ (1:Int)<(sz.length:Int):=by omega
   clear h h0 h6
   go_enter Tryz.func185,Tryz.ntmps185
   go_wp2_with fail
   go_ret2
   exact⟨rfl,HB0.out⟩
 ·rw[if_neg h0]
  have t0:(1:Int)<(sz.length:Int):=by omega
  clear h h0
  go_enter Tryz.func185,Tryz.ntmps185
  go_wp2_with fail
  go_ret2
  exact⟨rfl,HB0.out⟩
theorem pline_any (a:Option Addr)(cap:Nat)(zs:List Int)(w:World):
  Calls Tryz.prog 157 #[.slice a zs.length cap] w fun e w'=>∃ sa,e=.returned (.agg #[.bool false,.slice sa 1 1,.slice a zs.length cap])/\NewC w.heap.size w' sa [(zs.length:Int)] 1/\Below w.heap.size w w':=by
 go_enter Tryz.func157,Tryz.ntmps157
 go_wp2_with fail
 refine bodyPost_ret (v:=.agg #[.bool false,.slice (some ⟨w.heap.size+1,0,none⟩) 1 1,.slice a zs.length cap]) (by simp[results,Tryz.results157,go_sem]) rfl ⟨some ⟨w.heap.size+1,0,none⟩,rfl,?_,((Below.refl _ w).alloc (Nat.le_refl _) _).alloc (by simp) _⟩
 have:=new_ints1 (w.alloc (.cells #[.bool false,.slice (some ⟨w.heap.size+1,0,none⟩) 1 1,.slice a zs.length cap] 27)) 3 zs.length
 rw[World.size_alloc w] at this
 exact⟨this.low (by omega),Nat.le_refl _⟩
theorem psingle_any (n:Int)(w:World):
  Calls Tryz.prog 204 #[.int .i64 n] w fun e w'=>∃ ga,e=.returned (.agg #[.bool false,.slice none 0 0,.slice ga 1 1])/\NewC w.heap.size w' ga [n] 1/\Below w.heap.size w w':=by
 go_enter Tryz.func204,Tryz.ntmps204
 go_wp2_with fail
 refine bodyPost_ret (v:=.agg #[.bool false,.slice none 0 0,.slice (some ⟨w.heap.size+1,0,none⟩) 1 1]) (by simp[results,Tryz.results204,go_sem]) rfl ⟨some ⟨w.heap.size+1,0,none⟩,rfl,?_,((Below.refl _ w).alloc (Nat.le_refl _) _).alloc (by simp) _⟩
 have:=new_ints1 (w.alloc (.cells #[.bool false,.slice none 0 0,.slice (some ⟨w.heap.size+1,0,none⟩) 1 1] 27)) 3 n
 rw[World.size_alloc w] at this
 exact⟨this.low (by omega),Nat.le_refl _⟩
end Go.Proofs.YtkmmkcpfhnifhaaGreatDoor
