/- What the program tells, in part. -/
import Derived.Test.YtkmmkcpfhnifhaaGreatDoorJ18
set_option linter.unusedVariables false
set_option maxHeartbeats 2000000
set_option maxRecDepth 100000
namespace Go.Proofs.YtkmmkcpfhnifhaaGreatDoor
open Go.RowKit
theorem act_h (w:World)(x y z:Value):(w.alloc (.cells #[x,y,z] 24)).heap[w.heap.size]?=some (.cells #[x,y,z] 24 (0,0)):=(MapKept.heap_alloc w _).1
theorem act_c0 (w:World)(x y z:Value):(w.alloc (.cells #[x,y,z] 24)).cell? ⟨w.heap.size,0,none⟩=some x:=by simp only[World.cell?];rw[act_h];rfl
theorem act_c1 (w:World)(x y z:Value):(w.alloc (.cells #[x,y,z] 24)).cell? ⟨w.heap.size,1,none⟩=some y:=by simp only[World.cell?];rw[act_h];rfl
theorem act_c2 (w:World)(x y z:Value):(w.alloc (.cells #[x,y,z] 24)).cell? ⟨w.heap.size,2,none⟩=some z:=by simp only[World.cell?];rw[act_h];rfl
theorem f2_0 (A:A2)(f g:Int)(H:∀ w',Calls Tryz.prog 74 #[.int .i64 f] w' (Mk2 A w'))(w:World):Calls Tryz.prog 46 #[.agg #[.int .i64 0,.int .i64 f,.int .i64 g]] w (Mk2 A w):=by
 have hb:Hid (Below w.heap.size w (w.alloc (.cells #[.int .i64 0,.int .i64 f,.int .i64 g] 24))):=(Below.refl _ w).alloc (Nat.le_refl _) _
 have p0:=act_c0 w (.int .i64 0) (.int .i64 f) (.int .i64 g)
 have p1:=act_c1 w (.int .i64 0) (.int .i64 f) (.int .i64 g)
 have p2:=act_c2 w (.int .i64 0) (.int .i64 f) (.int .i64 g)
 have HH:Hid (∀ w',Calls Tryz.prog 74 #[.int .i64 f] w' (Mk2 A w')):=H
 clear H
 go_enter Tryz.func46,Tryz.ntmps46
 go_wp2_with fail
 refine (HH.out _).mono ?_
 clear p0 p1 p2 HH
 rintro e v ⟨u,rfl,hU,hB⟩
 have HU:Hid (Fu2 u v A/\Below w.heap.size w v):=⟨hU,(goB16 hb hB).out⟩
 obtain⟨F,cs,rfl,_,_⟩:=hU
 clear hB
 go_wp2_with fail
 go_ret
 exact⟨_,rfl,HU.out⟩
theorem f2_0n (f g:Int)(H:∀ w',Calls Tryz.prog 74 #[.int .i64 f] w' (No2 w'))(w:World):Calls Tryz.prog 46 #[.agg #[.int .i64 0,.int .i64 f,.int .i64 g]] w (No2 w):=by
 have hb:Hid (Below w.heap.size w (w.alloc (.cells #[.int .i64 0,.int .i64 f,.int .i64 g] 24))):=(Below.refl _ w).alloc (Nat.le_refl _) _
 have p0:=act_c0 w (.int .i64 0) (.int .i64 f) (.int .i64 g)
 have p1:=act_c1 w (.int .i64 0) (.int .i64 f) (.int .i64 g)
 have p2:=act_c2 w (.int .i64 0) (.int .i64 f) (.int .i64 g)
 have HH:Hid (∀ w',Calls Tryz.prog 74 #[.int .i64 f] w' (No2 w')):=H
 clear H
 go_enter Tryz.func46,Tryz.ntmps46
 go_wp2_with fail
 refine (HH.out _).mono ?_
 clear p0 p1 p2 HH
 rintro e v ⟨rfl,hB⟩
 replace hb:=goB16 hb hB
 clear hB
 go_wp2_with fail
 go_ret
 exact⟨rfl,hb.out⟩
theorem f2_1 (A:A2)(f g:Int)(H:∀ w',Calls Tryz.prog 87 #[.int .i64 f] w' (Mk2 A w'))(w:World):Calls Tryz.prog 46 #[.agg #[.int .i64 1,.int .i64 f,.int .i64 g]] w (Mk2 A w):=by
 have hb:Hid (Below w.heap.size w (w.alloc (.cells #[.int .i64 1,.int .i64 f,.int .i64 g] 24))):=(Below.refl _ w).alloc (Nat.le_refl _) _
 have p0:=act_c0 w (.int .i64 1) (.int .i64 f) (.int .i64 g)
 have p1:=act_c1 w (.int .i64 1) (.int .i64 f) (.int .i64 g)
 have p2:=act_c2 w (.int .i64 1) (.int .i64 f) (.int .i64 g)
 have HH:Hid (∀ w',Calls Tryz.prog 87 #[.int .i64 f] w' (Mk2 A w')):=H
 clear H
 go_enter Tryz.func46,Tryz.ntmps46
 go_wp2_with fail
 refine (HH.out _).mono ?_
 clear p0 p1 p2 HH
 rintro e v ⟨u,rfl,hU,hB⟩
 have HU:Hid (Fu2 u v A/\Below w.heap.size w v):=⟨hU,(goB16 hb hB).out⟩
 obtain⟨F,cs,rfl,_,_⟩:=hU
 clear hB
 go_wp2_with fail
 go_ret
 exact⟨_,rfl,HU.out⟩
theorem f2_1n (f g:Int)(H:∀ w',Calls Tryz.prog 87 #[.int .i64 f] w' (No2 w'))(w:World):Calls Tryz.prog 46 #[.agg #[.int .i64 1,.int .i64 f,.int .i64 g]] w (No2 w):=by
 have hb:Hid (Below w.heap.size w (w.alloc (.cells #[.int .i64 1,.int .i64 f,.int .i64 g] 24))):=(Below.refl _ w).alloc (Nat.le_refl _) _
 have p0:=act_c0 w (.int .i64 1) (.int .i64 f) (.int .i64 g)
 have p1:=act_c1 w (.int .i64 1) (.int .i64 f) (.int .i64 g)
 have p2:=act_c2 w (.int .i64 1) (.int .i64 f) (.int .i64 g)
 have HH:Hid (∀ w',Calls Tryz.prog 87 #[.int .i64 f] w' (No2 w')):=H
 clear H
 go_enter Tryz.func46,Tryz.ntmps46
 go_wp2_with fail
 refine (HH.out _).mono ?_
 clear p0 p1 p2 HH
 rintro e v ⟨rfl,hB⟩
 replace hb:=goB16 hb hB
 clear hB
 go_wp2_with fail
 go_ret
 exact⟨rfl,hb.out⟩
theorem f2_3 (A:A2)(f g:Int)(H:∀ w',Calls Tryz.prog 88 #[.int .i64 f] w' (Mk2 A w'))(w:World):Calls Tryz.prog 46 #[.agg #[.int .i64 3,.int .i64 f,.int .i64 g]] w (Mk2 A w):=by
 have hb:Hid (Below w.heap.size w (w.alloc (.cells #[.int .i64 3,.int .i64 f,.int .i64 g] 24))):=(Below.refl _ w).alloc (Nat.le_refl _) _
 have p0:=act_c0 w (.int .i64 3) (.int .i64 f) (.int .i64 g)
 have p1:=act_c1 w (.int .i64 3) (.int .i64 f) (.int .i64 g)
 have p2:=act_c2 w (.int .i64 3) (.int .i64 f) (.int .i64 g)
 have HH:Hid (∀ w',Calls Tryz.prog 88 #[.int .i64 f] w' (Mk2 A w')):=H
 clear H
 go_enter Tryz.func46,Tryz.ntmps46
 go_wp2_with fail
 refine (HH.out _).mono ?_
 clear p0 p1 p2 HH
 rintro e v ⟨u,rfl,hU,hB⟩
 have HU:Hid (Fu2 u v A/\Below w.heap.size w v):=⟨hU,(goB16 hb hB).out⟩
 obtain⟨F,cs,rfl,_,_⟩:=hU
 clear hB
 go_wp2_with fail
 go_ret
 exact⟨_,rfl,HU.out⟩
theorem f2_3n (f g:Int)(H:∀ w',Calls Tryz.prog 88 #[.int .i64 f] w' (No2 w'))(w:World):Calls Tryz.prog 46 #[.agg #[.int .i64 3,.int .i64 f,.int .i64 g]] w (No2 w):=by
 have hb:Hid (Below w.heap.size w (w.alloc (.cells #[.int .i64 3,.int .i64 f,.int .i64 g] 24))):=(Below.refl _ w).alloc (Nat.le_refl _) _
 have p0:=act_c0 w (.int .i64 3) (.int .i64 f) (.int .i64 g)
 have p1:=act_c1 w (.int .i64 3) (.int .i64 f) (.int .i64 g)
 have p2:=act_c2 w (.int .i64 3) (.int .i64 f) (.int .i64 g)
 have HH:Hid (∀ w',Calls Tryz.prog 88 #[.int .i64 f] w' (No2 w')):=H
 clear H
 go_enter Tryz.func46,Tryz.ntmps46
 go_wp2_with fail
 refine (HH.out _).mono ?_
 clear p0 p1 p2 HH
 rintro e v ⟨rfl,hB⟩
 replace hb:=goB16 hb hB
 clear hB
 go_wp2_with fail
 go_ret
 exact⟨rfl,hb.out⟩
theorem f2_4 (A:A2)(f g:Int)(H:∀ w',Calls Tryz.prog 89 #[.int .i64 f,.int .i64 g] w' (Mk2 A w'))(w:World):Calls Tryz.prog 46 #[.agg #[.int .i64 4,.int .i64 f,.int .i64 g]] w (Mk2 A w):=by
 have hb:Hid (Below w.heap.size w (w.alloc (.cells #[.int .i64 4,.int .i64 f,.int .i64 g] 24))):=(Below.refl _ w).alloc (Nat.le_refl _) _
 have p0:=act_c0 w (.int .i64 4) (.int .i64 f) (.int .i64 g)
 have p1:=act_c1 w (.int .i64 4) (.int .i64 f) (.int .i64 g)
 have p2:=act_c2 w (.int .i64 4) (.int .i64 f) (.int .i64 g)
 have HH:Hid (∀ w',Calls Tryz.prog 89 #[.int .i64 f,.int .i64 g] w' (Mk2 A w')):=H
 clear H
 go_enter Tryz.func46,Tryz.ntmps46
 go_wp2_with fail
 refine (HH.out _).mono ?_
 clear p0 p1 p2 HH
 rintro e v ⟨u,rfl,hU,hB⟩
 have HU:Hid (Fu2 u v A/\Below w.heap.size w v):=⟨hU,(goB16 hb hB).out⟩
 obtain⟨F,cs,rfl,_,_⟩:=hU
 clear hB
 go_wp2_with fail
 go_ret
 exact⟨_,rfl,HU.out⟩
theorem f2_4n (f g:Int)(H:∀ w',Calls Tryz.prog 89 #[.int .i64 f,.int .i64 g] w' (No2 w'))(w:World):Calls Tryz.prog 46 #[.agg #[.int .i64 4,.int .i64 f,.int .i64 g]] w (No2 w):=by
 have hb:Hid (Below w.heap.size w (w.alloc (.cells #[.int .i64 4,.int .i64 f,.int .i64 g] 24))):=(Below.refl _ w).alloc (Nat.le_refl _) _
 have p0:=act_c0 w (.int .i64 4) (.int .i64 f) (.int .i64 g)
 have p1:=act_c1 w (.int .i64 4) (.int .i64 f) (.int .i64 g)
 have p2:=act_c2 w (.int .i64 4) (.int .i64 f) (.int .i64 g)
 have HH:Hid (∀ w',Calls Tryz.prog 89 #[.int .i64 f,.int .i64 g] w' (No2 w')):=H
 clear H
 go_enter Tryz.func46,Tryz.ntmps46
 go_wp2_with fail
 refine (HH.out _).mono ?_
 clear p0 p1 p2 HH
 rintro e v ⟨rfl,hB⟩
 replace hb:=goB16 hb hB
 clear hB
 go_wp2_with fail
 go_ret
 exact⟨rfl,hb.out⟩
theorem f2_5 (B:A2)(f g:Int)(H:∀ w',Calls Tryz.prog 74 #[.int .i64 f] w' (Mk2 B w'))(w:World):Calls Tryz.prog 46 #[.agg #[.int .i64 5,.int .i64 f,.int .i64 g]] w (Mk2 (fun c sz dz c' sz' dz'=>B c' sz' dz' c sz dz) w):=by
 have hb:Hid (Below w.heap.size w (w.alloc (.cells #[.int .i64 5,.int .i64 f,.int .i64 g] 24))):=(Below.refl _ w).alloc (Nat.le_refl _) _
 have p0:=act_c0 w (.int .i64 5) (.int .i64 f) (.int .i64 g)
 have p1:=act_c1 w (.int .i64 5) (.int .i64 f) (.int .i64 g)
 have p2:=act_c2 w (.int .i64 5) (.int .i64 f) (.int .i64 g)
 have HH:Hid (∀ w',Calls Tryz.prog 74 #[.int .i64 f] w' (Mk2 B w')):=H
 clear H
 go_enter Tryz.func46,Tryz.ntmps46
 go_wp2_with fail
 refine (HH.out _).mono ?_
 clear p0 p1 p2 HH
 rintro e v ⟨u,rfl,hU,hB⟩
 replace hb:=goB16 hb hB
 have HC:Hid (Calls Tryz.prog 90 #[u] v (Mk2 (fun c sz dz c' sz' dz'=>B c' sz' dz' c sz dz) v)):=mk_swap B u v hU
 obtain⟨F,cs,rfl,_,_⟩:=hU
 clear hB
 go_wp2_with fail
 refine HC.mono ?_
 rintro e v2 ⟨u2,rfl,hU,hB⟩
 have HU:Hid (Fu2 u2 v2 (fun c sz dz c' sz' dz'=>B c' sz' dz' c sz dz)/\Below w.heap.size w v2):=⟨hU,(goB16 hb hB).out⟩
 obtain⟨F2,cs2,rfl,_,_⟩:=hU
 clear hB HC
 go_wp2_with fail
 go_ret
 exact⟨_,rfl,HU.out⟩
theorem f2_5n (f g:Int)(H:∀ w',Calls Tryz.prog 74 #[.int .i64 f] w' (No2 w'))(w:World):Calls Tryz.prog 46 #[.agg #[.int .i64 5,.int .i64 f,.int .i64 g]] w (No2 w):=by
 have hb:Hid (Below w.heap.size w (w.alloc (.cells #[.int .i64 5,.int .i64 f,.int .i64 g] 24))):=(Below.refl _ w).alloc (Nat.le_refl _) _
 have p0:=act_c0 w (.int .i64 5) (.int .i64 f) (.int .i64 g)
 have p1:=act_c1 w (.int .i64 5) (.int .i64 f) (.int .i64 g)
 have p2:=act_c2 w (.int .i64 5) (.int .i64 f) (.int .i64 g)
 have HH:Hid (∀ w',Calls Tryz.prog 74 #[.int .i64 f] w' (No2 w')):=H
 clear H
 go_enter Tryz.func46,Tryz.ntmps46
 go_wp2_with fail
 refine (HH.out _).mono ?_
 clear p0 p1 p2 HH
 rintro e v ⟨rfl,hB⟩
 replace hb:=goB16 hb hB
 clear hB
 go_wp2_with fail
 refine (mk_swap_no v).mono ?_
 rintro e v2 ⟨rfl,hB⟩
 replace hb:=goB16 hb hB
 clear hB
 go_wp2_with fail
 go_ret
 exact⟨rfl,hb.out⟩
theorem f2_non (op:Int)(h:op≠0/\op≠1/\op≠3/\op≠4/\op≠5)(f g:Int)(w:World):Calls Tryz.prog 46 #[.agg #[.int .i64 op,.int .i64 f,.int .i64 g]] w (No2 w):=by
 have hb:Hid (Below w.heap.size w (w.alloc (.cells #[.int .i64 op,.int .i64 f,.int .i64 g] 24))):=(Below.refl _ w).alloc (Nat.le_refl _) _
 have p0:=act_c0 w (.int .i64 op) (.int .i64 f) (.int .i64 g)
 have p1:=act_c1 w (.int .i64 op) (.int .i64 f) (.int .i64 g)
 have p2:=act_c2 w (.int .i64 op) (.int .i64 f) (.int .i64 g)
 have t0:(op == 0)=false:=beq_eq_false_iff_ne.2 (by omega)
 have t1:(op == 1)=false:=beq_eq_false_iff_ne.2 (by omega)
 have t3:(op == 3)=false:=beq_eq_false_iff_ne.2 (by omega)
 have t4:(op == 4)=false:=beq_eq_false_iff_ne.2 (by omega)
 have t5:(op == 5)=false:=beq_eq_false_iff_ne.2 (by omega)
 clear h
 go_enter Tryz.func46,Tryz.ntmps46
 go_wp2_with fail
 go_ret
 exact⟨rfl,hb.out⟩
theorem findTwo_no (op f g:Int)(c:Bool)(sa:Option Addr)(sc:Nat)(sz:List Int)(da:Option Addr)(dc:Nat)(dz:List Int)(c':Bool)(sa':Option Addr)(sc':Nat)(sz':List Int)(da':Option Addr)(dc':Nat)(dz':List Int)(HF:∀ w',Calls Tryz.prog 46 #[.agg #[.int .i64 op,.int .i64 f,.int .i64 g]] w' (No2 w'))(w:World):Calls Tryz.prog 10 #[.agg #[.int .i64 op,.int .i64 f,.int .i64 g],.agg #[.bool c,.slice sa sz.length sc,.slice da dz.length dc],.agg #[.bool c',.slice sa' sz'.length sc',.slice da' dz'.length dc']] w (AnP (anN 1) w):=by
 have HH:Hid (∀ w',Calls Tryz.prog 46 #[.agg #[.int .i64 op,.int .i64 f,.int .i64 g]] w' (No2 w')):=HF
 clear HF
 have hq:=eqn_nil Tryz.underlying70
 obtain⟨W0,hW⟩:∃ W0,W0=((((w.alloc (.cells #[.int .i64 op,.int .i64 f,.int .i64 g] 24)).alloc (.cells #[.bool c,.slice sa sz.length sc,.slice da dz.length dc] 27)).alloc (.cells #[.bool c',.slice sa' sz'.length sc',.slice da' dz'.length dc'] 27)).alloc (.cells #[.bool false,.slice none 0 0,.slice none 0 0] 27)):=⟨_,rfl⟩
 have he:=ent2 (w.alloc (.cells #[.int .i64 op,.int .i64 f,.int .i64 g] 24)) (.bool c) (.slice sa sz.length sc) (.slice da dz.length dc) (.bool c') (.slice sa' sz'.length sc') (.slice da' dz'.length dc')
 simp only[World.size_alloc] at he
 rw[<-hW] at he
 obtain⟨hb',pa,pb,pr⟩:=he
 have hb:Hid (Below w.heap.size w W0):=((Below.refl _ w).alloc (Nat.le_refl _) _).trans (hb'.mono (by omega))
 have q0:W0.cell? ⟨w.heap.size,0,none⟩=some (.int .i64 op):=(hb'.cell (p:=⟨w.heap.size,0,none⟩) (by show w.heap.size<w.heap.size+1;omega)).trans (act_c0 w _ _ _)
 have q1:W0.cell? ⟨w.heap.size,1,none⟩=some (.int .i64 f):=(hb'.cell (p:=⟨w.heap.size,1,none⟩) (by show w.heap.size<w.heap.size+1;omega)).trans (act_c1 w _ _ _)
 have q2:W0.cell? ⟨w.heap.size,2,none⟩=some (.int .i64 g):=(hb'.cell (p:=⟨w.heap.size,2,none⟩) (by show w.heap.size<w.heap.size+1;omega)).trans (act_c2 w _ _ _)
 clear hb'
 have hz0:=hb.size
 rw[hW] at q0 q1 q2
 go_enter Tryz.func10,Tryz.ntmps10
 go_wp2_with fail
 rw[<-hW]
 clear q0 q1 q2 hW
 refine (HH.out W0).mono ?_
 rintro e v1 ⟨rfl,hB⟩
 replace pr:=goA16 pr hB
 replace hb:=goB16 hb hB
 clear hB HH
 have r0:=pr.c0
 have r1:=pr.c1
 have r2:=pr.c2
 have f0:=pr.fr 0
 have f1:=pr.fr 1
 have f2:=pr.fr 2
 go_wp2_with fail
 have FF:=pr.set3 (.bool false) (.slice none 0 0) (.slice none 0 0)
 have q0:=FF.c0
 have q1:=FF.c1
 have q2:=FF.c2
 exact bodyPost_ret (v:=.tuple #[.agg #[.bool false,.slice none 0 0,.slice none 0 0],.iface 28 (.int .i64 1)]) (by simp[results,Tryz.results10,go_sem,q0,q1,q2]) rfl (err16 rfl (by decide) (by omega) hb.out _ _ _)
theorem findTwo_flaw (B:A2)(op f g:Int)(c:Bool)(sa:Option Addr)(sc:Nat)(sz:List Int)(da:Option Addr)(dc:Nat)(dz:List Int)(c':Bool)(sa':Option Addr)(sc':Nat)(sz':List Int)(da':Option Addr)(dc':Nat)(dz':List Int)(HF:∀ w',Calls Tryz.prog 46 #[.agg #[.int .i64 op,.int .i64 f,.int .i64 g]] w' (Mk2 B w'))(w:World)(l1:sz.length<=9223372036854775807)(l2:dz.length<=9223372036854775807)(hs:IsC w.heap.size w sa sz sc)(hd:IsC w.heap.size w da dz dc)(l1':sz'.length<=9223372036854775807)(l2':dz'.length<=9223372036854775807)(hs':IsC w.heap.size w sa' sz' sc')(hd':IsC w.heap.size w da' dz' dc')(h:flawsE c sz dz c' sz' dz'≠0):Calls Tryz.prog 10 #[.agg #[.int .i64 op,.int .i64 f,.int .i64 g],.agg #[.bool c,.slice sa sz.length sc,.slice da dz.length dc],.agg #[.bool c',.slice sa' sz'.length sc',.slice da' dz'.length dc']] w (AnP (anN (flawsE c sz dz c' sz' dz')) w):=by
 have h':Hid (flawsE c sz dz c' sz' dz'≠0):=h
 clear h
 have HH:Hid (∀ w',Calls Tryz.prog 46 #[.agg #[.int .i64 op,.int .i64 f,.int .i64 g]] w' (Mk2 B w')):=HF
 clear HF
 have hq:=eqn_fun Tryz.underlying70
 have HI:Hid (IsC w.heap.size w sa sz sc/\IsC w.heap.size w da dz dc/\IsC w.heap.size w sa' sz' sc'/\IsC w.heap.size w da' dz' dc'):=⟨hs,hd,hs',hd'⟩
 clear hs hd hs' hd'
 obtain⟨W0,hW⟩:∃ W0,W0=((((w.alloc (.cells #[.int .i64 op,.int .i64 f,.int .i64 g] 24)).alloc (.cells #[.bool c,.slice sa sz.length sc,.slice da dz.length dc] 27)).alloc (.cells #[.bool c',.slice sa' sz'.length sc',.slice da' dz'.length dc'] 27)).alloc (.cells #[.bool false,.slice none 0 0,.slice none 0 0] 27)):=⟨_,rfl⟩
 have he:=ent2 (w.alloc (.cells #[.int .i64 op,.int .i64 f,.int .i64 g] 24)) (.bool c) (.slice sa sz.length sc) (.slice da dz.length dc) (.bool c') (.slice sa' sz'.length sc') (.slice da' dz'.length dc')
 simp only[World.size_alloc] at he
 rw[<-hW] at he
 obtain⟨hb',pa,pb,pr⟩:=he
 have hb:Hid (Below w.heap.size w W0):=((Below.refl _ w).alloc (Nat.le_refl _) _).trans (hb'.mono (by omega))
 have q0:W0.cell? ⟨w.heap.size,0,none⟩=some (.int .i64 op):=(hb'.cell (p:=⟨w.heap.size,0,none⟩) (by show w.heap.size<w.heap.size+1;omega)).trans (act_c0 w _ _ _)
 have q1:W0.cell? ⟨w.heap.size,1,none⟩=some (.int .i64 f):=(hb'.cell (p:=⟨w.heap.size,1,none⟩) (by show w.heap.size<w.heap.size+1;omega)).trans (act_c1 w _ _ _)
 have q2:W0.cell? ⟨w.heap.size,2,none⟩=some (.int .i64 g):=(hb'.cell (p:=⟨w.heap.size,2,none⟩) (by show w.heap.size<w.heap.size+1;omega)).trans (act_c2 w _ _ _)
 clear hb'
 have hz0:=hb.size
 rw[hW] at q0 q1 q2
 go_enter Tryz.func10,Tryz.ntmps10
 go_wp2_with fail
 rw[<-hW]
 clear q0 q1 q2 hW
 refine (HH.out W0).mono ?_
 rintro e v1 ⟨u,rfl,hU,hB⟩
 have HU:Hid (Fu2 u v1 B):=hU
 replace pa:=goA16 pa hB
 replace pb:=goA16 pb hB
 replace pr:=goA16 pr hB
 replace hb:=goB16 hb hB
 obtain⟨F,cs,rfl,hE,_⟩:=hU
 clear hB HH
 have a0:=pa.c0
 have a1:=pa.c1
 have a2:=pa.c2
 have b0:=pb.c0
 have b1:=pb.c1
 have b2:=pb.c2
 have hM:Hid (Below v1.heap.size v1 (v1.alloc (.cells #[.bool c',.slice sa' sz'.length sc',.slice da' dz'.length dc'] 27))):=(Below.refl _ v1).alloc (Nat.le_refl _) _
 have pm:=Abx.new v1 (.bool c') (.slice sa' sz'.length sc') (.slice da' dz'.length dc')
 have HC:Hid (Calls Tryz.prog 47 #[.agg #[.bool c,.slice sa sz.length sc,.slice da dz.length dc],.slice (some ⟨v1.heap.size,0,none⟩) 1 1] (v1.alloc (.cells #[.bool c',.slice sa' sz'.length sc',.slice da' dz'.length dc'] 27)) fun e w'=>e=.returned (errV (flawsE c sz dz c' sz' dz'))/\Below ((v1.alloc (.cells #[.bool c',.slice sa' sz'.length sc',.slice da' dz'.length dc'] 27))).heap.size (v1.alloc (.cells #[.bool c',.slice sa' sz'.length sc',.slice da' dz'.length dc'] 27)) w'):=by
  have k:=chkall8 c sa sc sz da dc dz (some ⟨v1.heap.size,0,none⟩) 1 [(c',(((sa',sc'),sz'),((da',dc'),dz')))] l1 l2 (by simp) (v1.alloc (.cells #[.bool c',.slice sa' sz'.length sc',.slice da' dz'.length dc'] 27)) (goI16 HI.1.1 (hb.trans (hM.mono hb.size))) (goI16 HI.2.1.1 (hb.trans (hM.mono hb.size))) (isBs_one pm l1' l2' (goI16 HI.2.2.1.1 (hb.trans (hM.mono hb.size))) (goI16 HI.2.2.2.1 (hb.trans (hM.mono hb.size))))
  rw[bsE_one] at k
  exact k
 clear pm
 go_wp2_with fail
 refine HC.mono ?_
 rintro e v2 ⟨rfl,hB⟩
 replace hB:=hM.trans (hB.mono hM.size)
 rw[errV_pos h'.out]
 replace pr:=goA16 pr hB
 have hB2:Hid (Below v1.heap.size v1 v2):=hB
 replace hb:=goB16 hb hB
 clear hB HC hM
 clear a0 a1 a2
 clear b0 b1 b2
 have r0:=pr.c0
 have r1:=pr.c1
 have r2:=pr.c2
 have f0:=pr.fr 0
 have f1:=pr.fr 1
 have f2:=pr.fr 2
 go_wp2_with fail
 have FF:=pr.set3 (.bool false) (.slice none 0 0) (.slice none 0 0)
 have q0:=FF.c0
 have q1:=FF.c1
 have q2:=FF.c2
 exact bodyPost_ret (v:=.tuple #[.agg #[.bool false,.slice none 0 0,.slice none 0 0],.iface 28 (.int .i64 (flawsE c sz dz c' sz' dz'))]) (by simp[results,Tryz.results10,go_sem,q0,q1,q2]) rfl (err16 rfl h'.out (by omega) hb.out _ _ _)
theorem findTwo_ok (B:A2)(op f g:Int)(c:Bool)(sa:Option Addr)(sc:Nat)(sz:List Int)(da:Option Addr)(dc:Nat)(dz:List Int)(c':Bool)(sa':Option Addr)(sc':Nat)(sz':List Int)(da':Option Addr)(dc':Nat)(dz':List Int)(HF:∀ w',Calls Tryz.prog 46 #[.agg #[.int .i64 op,.int .i64 f,.int .i64 g]] w' (Mk2 B w'))(w:World)(l1:sz.length<=9223372036854775807)(l2:dz.length<=9223372036854775807)(hs:IsC w.heap.size w sa sz sc)(hd:IsC w.heap.size w da dz dc)(l1':sz'.length<=9223372036854775807)(l2':dz'.length<=9223372036854775807)(hs':IsC w.heap.size w sa' sz' sc')(hd':IsC w.heap.size w da' dz' dc')(hf:flawE c sz dz=0)(T:∀ j,In64 (nth dz j))(hf':flawE c' sz' dz'=0)(T':∀ j,In64 (nth dz' j)):Calls Tryz.prog 10 #[.agg #[.int .i64 op,.int .i64 f,.int .i64 g],.agg #[.bool c,.slice sa sz.length sc,.slice da dz.length dc],.agg #[.bool c',.slice sa' sz'.length sc',.slice da' dz'.length dc']] w (AnP (B c sz dz c' sz' dz') w):=by
 have h':Hid (flawsE c sz dz c' sz' dz'=0):=by show _=_;unfold flawsE;rw[if_pos hf];exact hf'
 have HA:Hid (ArF w c sa sc sz da dc dz/\ArF w c' sa' sc' sz' da' dc' dz'):=⟨⟨hs,hd,T,hf⟩,⟨hs',hd',T',hf'⟩⟩
 clear hf T hf' T'
 obtain⟨A,hAe⟩:∃ A,B c sz dz c' sz' dz'=A:=⟨_,rfl⟩
 have HAE:Hid (B c sz dz c' sz' dz'=A):=hAe
 rw[hAe]
 clear hAe
 have HH:Hid (∀ w',Calls Tryz.prog 46 #[.agg #[.int .i64 op,.int .i64 f,.int .i64 g]] w' (Mk2 B w')):=HF
 clear HF
 have hq:=eqn_fun Tryz.underlying70
 have HI:Hid (IsC w.heap.size w sa sz sc/\IsC w.heap.size w da dz dc/\IsC w.heap.size w sa' sz' sc'/\IsC w.heap.size w da' dz' dc'):=⟨hs,hd,hs',hd'⟩
 clear hs hd hs' hd'
 obtain⟨W0,hW⟩:∃ W0,W0=((((w.alloc (.cells #[.int .i64 op,.int .i64 f,.int .i64 g] 24)).alloc (.cells #[.bool c,.slice sa sz.length sc,.slice da dz.length dc] 27)).alloc (.cells #[.bool c',.slice sa' sz'.length sc',.slice da' dz'.length dc'] 27)).alloc (.cells #[.bool false,.slice none 0 0,.slice none 0 0] 27)):=⟨_,rfl⟩
 have he:=ent2 (w.alloc (.cells #[.int .i64 op,.int .i64 f,.int .i64 g] 24)) (.bool c) (.slice sa sz.length sc) (.slice da dz.length dc) (.bool c') (.slice sa' sz'.length sc') (.slice da' dz'.length dc')
 simp only[World.size_alloc] at he
 rw[<-hW] at he
 obtain⟨hb',pa,pb,pr⟩:=he
 have hb:Hid (Below w.heap.size w W0):=((Below.refl _ w).alloc (Nat.le_refl _) _).trans (hb'.mono (by omega))
 have q0:W0.cell? ⟨w.heap.size,0,none⟩=some (.int .i64 op):=(hb'.cell (p:=⟨w.heap.size,0,none⟩) (by show w.heap.size<w.heap.size+1;omega)).trans (act_c0 w _ _ _)
 have q1:W0.cell? ⟨w.heap.size,1,none⟩=some (.int .i64 f):=(hb'.cell (p:=⟨w.heap.size,1,none⟩) (by show w.heap.size<w.heap.size+1;omega)).trans (act_c1 w _ _ _)
 have q2:W0.cell? ⟨w.heap.size,2,none⟩=some (.int .i64 g):=(hb'.cell (p:=⟨w.heap.size,2,none⟩) (by show w.heap.size<w.heap.size+1;omega)).trans (act_c2 w _ _ _)
 clear hb'
 have hz0:=hb.size
 rw[hW] at q0 q1 q2
 go_enter Tryz.func10,Tryz.ntmps10
 go_wp2_with fail
 rw[<-hW]
 clear q0 q1 q2 hW
 refine (HH.out W0).mono ?_
 rintro e v1 ⟨u,rfl,hU,hB⟩
 have HU:Hid (Fu2 u v1 B):=hU
 replace pa:=goA16 pa hB
 replace pb:=goA16 pb hB
 replace pr:=goA16 pr hB
 replace hb:=goB16 hb hB
 obtain⟨F,cs,rfl,hE,_⟩:=hU
 clear hB HH
 have a0:=pa.c0
 have a1:=pa.c1
 have a2:=pa.c2
 have b0:=pb.c0
 have b1:=pb.c1
 have b2:=pb.c2
 have hM:Hid (Below v1.heap.size v1 (v1.alloc (.cells #[.bool c',.slice sa' sz'.length sc',.slice da' dz'.length dc'] 27))):=(Below.refl _ v1).alloc (Nat.le_refl _) _
 have pm:=Abx.new v1 (.bool c') (.slice sa' sz'.length sc') (.slice da' dz'.length dc')
 have HC:Hid (Calls Tryz.prog 47 #[.agg #[.bool c,.slice sa sz.length sc,.slice da dz.length dc],.slice (some ⟨v1.heap.size,0,none⟩) 1 1] (v1.alloc (.cells #[.bool c',.slice sa' sz'.length sc',.slice da' dz'.length dc'] 27)) fun e w'=>e=.returned (errV (flawsE c sz dz c' sz' dz'))/\Below ((v1.alloc (.cells #[.bool c',.slice sa' sz'.length sc',.slice da' dz'.length dc'] 27))).heap.size (v1.alloc (.cells #[.bool c',.slice sa' sz'.length sc',.slice da' dz'.length dc'] 27)) w'):=by
  have k:=chkall8 c sa sc sz da dc dz (some ⟨v1.heap.size,0,none⟩) 1 [(c',(((sa',sc'),sz'),((da',dc'),dz')))] l1 l2 (by simp) (v1.alloc (.cells #[.bool c',.slice sa' sz'.length sc',.slice da' dz'.length dc'] 27)) (goI16 HI.1.1 (hb.trans (hM.mono hb.size))) (goI16 HI.2.1.1 (hb.trans (hM.mono hb.size))) (isBs_one pm l1' l2' (goI16 HI.2.2.1.1 (hb.trans (hM.mono hb.size))) (goI16 HI.2.2.2.1 (hb.trans (hM.mono hb.size))))
  rw[bsE_one] at k
  exact k
 clear pm
 go_wp2_with fail
 refine HC.mono ?_
 rintro e v2 ⟨rfl,hB⟩
 replace hB:=hM.trans (hB.mono hM.size)
 rw[h'.out,show errV 0=.nilIface from rfl]
 replace pa:=goA16 pa hB
 replace pb:=goA16 pb hB
 replace pr:=goA16 pr hB
 have hB2:Hid (Below v1.heap.size v1 v2):=hB
 replace hb:=goB16 hb hB
 clear hB HC hM
 clear a0 a1 a2
 clear b0 b1 b2
 have a0:=pa.c0
 have a1:=pa.c1
 have a2:=pa.c2
 have b0:=pb.c0
 have b1:=pb.c1
 have b2:=pb.c2
 obtain⟨F',cs',he',hE',H'⟩:=HU.out
 have HD:Hid (Calls Tryz.prog F (.agg #[.bool c,.slice sa sz.length sc,.slice da dz.length dc]::.agg #[.bool c',.slice sa' sz'.length sc',.slice da' dz'.length dc']::cs).toArray v2 (AnP A v2)):=by
  have k:=H' c sa sc sz da dc dz c' sa' sc' sz' da' dc' dz' v2 hB2.out (HA.1.go hb.out) (HA.2.go hb.out)
  rw[HAE.out] at k
  obtain⟨rfl,rfl⟩:F=F'/\cs=cs':=by simpa using he'
  exact k
 clear he' hE' H'
 replace hE:∀ args w,(callFunc F args).run Tryz.prog w=.ok (.enter F args) w:=hE
 go_wp2_with fail
 refine HD.mono ?_
 clear HD
 clear a0 a1 a2
 clear b0 b1 b2
 intro e v9 hU
 obtain⟨xa,xc,ya,yc,E,rfl,HU⟩:=hU.out16
 clear hU
 have hz9:=HU.2.2.2.size
 have hlt:=pr.lt
 have HW:=HU.2
 replace pr:=goA16 pr HU.2.2.2
 have r0:=pr.c0
 have r1:=pr.c1
 have r2:=pr.c2
 have f0:=pr.fr 0
 have f1:=pr.fr 1
 have f2:=pr.fr 2
 go_wp2_with fail
 have FF:=pr.set3 (.bool A.c) (.slice xa A.s.length xc) (.slice ya A.d.length yc)
 have q0:=FF.c0
 have q1:=FF.c1
 have q2:=FF.c2
 exact bodyPost_ret (v:=.tuple #[.agg #[.bool A.c,.slice xa A.s.length xc,.slice ya A.d.length yc],E]) (by simp[results,Tryz.results10,go_sem,q0,q1,q2]) rfl (ret16 (A:=A) (by omega) hlt hb.out HU.2.1 HU.2.2.1 HU.2.2.2 HU.1 _ _ _)
def twA (op f g:Int):A2:=fun c sz dz c' sz' dz'=>if a2K op f g=true then (if flawsE c sz dz c' sz' dz'=0 then a2A op f g c sz dz c' sz' dz' else anN (flawsE c sz dz c' sz' dz')) else anN 1
def CT2:Prop:=∀ (op f g:Int) (c:Bool) (sa:Option Addr) (sc:Nat) (sz:List Int) (da:Option Addr) (dc:Nat) (dz:List Int) (c':Bool) (sa':Option Addr) (sc':Nat) (sz':List Int) (da':Option Addr) (dc':Nat) (dz':List Int) (w:World),In64 op->In64 f->In64 g->sz.length<=9223372036854775807->dz.length<=9223372036854775807->IsC w.heap.size w sa sz sc->IsC w.heap.size w da dz dc->sz'.length<=9223372036854775807->dz'.length<=9223372036854775807->IsC w.heap.size w sa' sz' sc'->IsC w.heap.size w da' dz' dc'->(∀ j,In64 (nth dz j))->(∀ j,In64 (nth dz' j)) →
 Calls Tryz.prog 10 #[.agg #[.int .i64 op,.int .i64 f,.int .i64 g],.agg #[.bool c,.slice sa sz.length sc,.slice da dz.length dc],.agg #[.bool c',.slice sa' sz'.length sc',.slice da' dz'.length dc']] w (AnP (twA op f g c sz dz c' sz' dz') w)
theorem f2_any (K:K2)(Kw:CWd)(Ko:COt)(Ki:CNi)(op f g:Int)(hf:In64 f)(hg:In64 g)(h:a2K op f g=true)(w:World):Calls Tryz.prog 46 #[.agg #[.int .i64 op,.int .i64 f,.int .i64 g]] w (Mk2 (a2A op f g) w):=by
 unfold a2K at h
 by_cases h0:op=0
 ·subst h0
  exact f2_0 _ f g (fun w'=>t2_any K f hf h w') w
 ·by_cases h5:op=5
  ·subst h5
   exact f2_5 (p2A f) f g (fun w'=>t2_any K f hf h w') w
  ·rw[if_neg (by omega)] at h
   by_cases h1:op=1
   ·subst h1
    exact f2_1 _ f g (fun w'=>mk_wind_t f hf h w' Kw) w
   ·by_cases h3:op=3
    ·subst h3
     exact f2_3 _ f g (fun w'=>mk_outer_t f hf h w' Ko) w
    ·rw[if_neg (by omega)] at h
     by_cases h4:op=4
     ·subst h4
      exact f2_4 _ f g (fun w'=>mk_inner_t f g hf hg h w' Ki) w
     ·rw[if_neg h4] at h;cases h
theorem f2_none (op f g:Int)(hf:In64 f)(hg:In64 g)(h:a2K op f g=false)(w:World):Calls Tryz.prog 46 #[.agg #[.int .i64 op,.int .i64 f,.int .i64 g]] w (No2 w):=by
 unfold a2K at h
 by_cases h0:op=0
 ·subst h0
  exact f2_0n f g (fun w'=>t2_none f hf h w') w
 ·by_cases h5:op=5
  ·subst h5
   exact f2_5n f g (fun w'=>t2_none f hf h w') w
  ·rw[if_neg (by omega)] at h
   by_cases h1:op=1
   ·subst h1
    exact f2_1n f g (fun w'=>mk_wind_f f hf h w') w
   ·by_cases h3:op=3
    ·subst h3
     exact f2_3n f g (fun w'=>mk_outer_f f hf h w') w
    ·rw[if_neg (by omega)] at h
     by_cases h4:op=4
     ·subst h4
      exact f2_4n f g (fun w'=>mk_inner_f f g hf hg h w') w
     ·exact f2_non op ⟨h0,h1,h3,h4,h5⟩ f g w
theorem two_prim (K:K2)(Kw:CWd)(Ko:COt)(Ki:CNi):CT2:=by
 intro op f g c sa sc sz da dc dz c' sa' sc' sz' da' dc' dz' w ho hf hg l1 l2 hs hd l1' l2' hs' hd' T T'
 unfold twA
 by_cases hk:a2K op f g=true
 ·rw[if_pos hk]
  by_cases he:flawsE c sz dz c' sz' dz'=0
  ·rw[if_pos he]
   have h1:flawE c sz dz=0:=by unfold flawsE at he;split at he;assumption;exact he
   have h2:flawE c' sz' dz'=0:=by unfold flawsE at he;rw[if_pos h1] at he;exact he
   exact findTwo_ok _ op f g c sa sc sz da dc dz c' sa' sc' sz' da' dc' dz' (fun w'=>f2_any K Kw Ko Ki op f g hf hg hk w') w l1 l2 hs hd l1' l2' hs' hd' h1 T h2 T'
  ·rw[if_neg he]
   exact findTwo_flaw _ op f g c sa sc sz da dc dz c' sa' sc' sz' da' dc' dz' (fun w'=>f2_any K Kw Ko Ki op f g hf hg hk w') w l1 l2 hs hd l1' l2' hs' hd' he
 ·rw[if_neg hk]
  exact findTwo_no op f g c sa sc sz da dc dz c' sa' sc' sz' da' dc' dz' (fun w'=>f2_none op f g hf hg (by simpa using hk) w') w
def Ls (A:An):Prop:=A.s.length<=4096/\A.d.length<=4096
theorem ls_N (e:Int):Ls (anN e):=⟨by simp[anN],by simp[anN]⟩
theorem ls_E {e:Int}{c:Bool}{S D:List Int}(h:e=0->S.length<=4096/\D.length<=4096):Ls (anE e c S D):=⟨onl_le6 fun q=>(h q).1,onl_le6 fun q=>(h q).2⟩
theorem ls_A {c:Bool}{S D:List Int}(h:S.length<=4096)(h':D.length<=4096):Ls (anA c S D):=⟨h,h'⟩
theorem ls_L {B:List Int->A1}{c:Bool}{sz dz:List Int}{c':Bool}{sz' dz':List Int}(h:Ls (B dz c' sz' dz')):Ls (byL B c sz dz c' sz' dz'):=by unfold byL;split;exact h;exact ls_N _
theorem ls_last {B:Int->A1}{c:Bool}{sz dz:List Int}(h:Ls (B ((sz.length:Int)-1) c sz dz))(hd:dz.length<=4096):Ls (lastA B c sz dz):=by unfold lastA;split;exact ls_A (by simp) hd;exact h
theorem ls_by {B:Int->A1}{c:Bool}{sz dz:List Int}{c':Bool}{sz' dz':List Int}(h:Ls (B (nth dz 0) c' sz' dz')):Ls (byN B c sz dz c' sz' dz'):=by unfold byN;split;exact h;exact ls_N _
theorem ls_M {B:List Int->Int->A1}{c:Bool}{sz dz:List Int}{c':Bool}{sz' dz':List Int}(h:Ls (B dz ((sz'.length:Int)-1) c' sz' dz')):Ls (byM B c sz dz c' sz' dz'):=by
 unfold byM
 refine ls_L ?_
 show Ls (if sz'.length=0 then anN 3 else B dz ((sz'.length:Int)-1) c' sz' dz')
 split
 ·exact ls_N _
 ·exact h
theorem ls_ax {x:Int}{c:Bool}{sz dz:List Int}(g:List Int->List Int):axE x c sz dz=0->sz.length<=4096/\(GA sz dz sz g).length<=4096:=fun h=>by
 have hf:=(axE_zero.1 h).1
 have h6:=flawE_short hf
 have:=(flawE_zero hf).2.1
 rw[GA_length]
 omega
theorem ls_e2 {f:Int}{c:Bool}{sz dz:List Int}{c':Bool}{sz' dz':List Int}(h1:flawE c sz dz=0)(h2:flawE c' sz' dz'=0):(shp sz sz').length<=4096/\(e2V f c sz dz c' sz' dz').length<=4096:=by
 have a:=flawE_short h1
 have b:=flawE_short h2
 have p:=(flawE_zero h1).2.1
 have q:=(flawE_zero h2).2.1
 rw[e2V_length]
 unfold e2N shp
 split<;>omega
theorem p2A_else {f:Int}(h:¬ (f=17\/f=18\/f=19\/f=20\/f=22\/f=23\/f=24\/f=25\/f=28\/f=29\/f=30\/f=31\/f=32\/f=33\/f=34)):p2A f=fun c sz dz c' sz' dz'=>anE (e2E f c sz dz c' sz' dz') false (shp sz sz') (e2V f c sz dz c' sz' dz'):=by
 unfold p2A
 split<;>first | (exfalso;omega) | rfl
theorem p2_len (f:Int){c:Bool}{sz dz:List Int}{c':Bool}{sz' dz':List Int}(h1:flawE c sz dz=0)(h2:flawE c' sz' dz'=0):Ls (p2A f c sz dz c' sz' dz'):=by
 have a:=flawE_short h1
 have b:=flawE_short h2
 by_cases hf:f=17\/f=18\/f=19\/f=20\/f=22\/f=23\/f=24\/f=25\/f=28\/f=29\/f=30\/f=31\/f=32\/f=33\/f=34
 ·rcases hf with rfl | rfl | rfl | rfl | rfl | rfl | rfl | rfl | rfl | rfl | rfl | rfl | rfl | rfl | rfl
  ·exact sh8_len c sz dz c' sz' dz' false
  ·exact ls_L (B:=fun l c sz dz=>anE (errOf l) c l (cyc dz (prod l).toNat (fillE c))) (sz':=sz') (ls_E fun h=>by have:=errS h;rw[cyc_length];exact this)
  ·exact jn6_len _ _ _ _ _ _ _
  ·exact ls_by (B:=fun n=>lastA fun x c sz dz=>anE (axE x c sz dz) c sz (GA sz dz sz (rotT sz n x.toNat))) (ls_last (ls_E (ls_ax _)) b.2)
  ·exact ls_L (B:=fun l c sz dz=>anE (tkE l c sz dz) c (tkS l) (tkD l c sz dz)) (tk6_len _ _ _ _)
  ·exact ls_L (B:=fun l c sz dz=>anE (drE l c sz dz) c (drS sz l) (drD l c sz dz)) (dr6_len _ _ _ _)
  ·exact ix8_len c sz dz c' sz' dz'
  ·exact in8_len c sz dz c' sz' dz'
  ·exact un8_len c sz dz c' sz' dz'
  ·exact sh8_len c sz dz c' sz' dz' true
  ·show Ls (baA c sz dz c' sz' dz')
   unfold baA
   split
   ·split
    ·exact ls_E fun _=>⟨by simp,by simp⟩
    ·exact ls_N _
   ·exact ls_N _
  ·show Ls (diA c sz dz c' sz' dz')
   unfold diA
   split
   ·split
    ·exact ls_E fun _=>⟨by simp,by rw[dgV_length];exact a.2⟩
    ·exact ls_N _
   ·exact ls_N _
  ·exact ls_A (c:=false) (by simp) (by simp)
  ·exact ls_M (B:=fun m x c sz dz=>anE (kpE m x c sz dz) c (kpS m x.toNat sz) (kpD m x.toNat sz dz)) (kp6_len _ _ _ _ _)
  ·exact ls_M (B:=fun m x c sz dz=>anE (spE m x c sz dz) c (spS m x.toNat sz) (spD m x.toNat c sz dz)) (sp6_len _ _ _ _ _)
 ·rw[p2A_else hf]
  exact ls_E fun _=>ls_e2 h1 h2
theorem tw_len (op f g:Int)(c:Bool)(sz dz:List Int)(c':Bool)(sz' dz':List Int):Ls (twA op f g c sz dz c' sz' dz'):=by
 unfold twA
 split
 ·split
  ·rename_i he
   have h1:flawE c sz dz=0:=by unfold flawsE at he;split at he;assumption;exact he
   have h2:flawE c' sz' dz'=0:=by unfold flawsE at he;rw[if_pos h1] at he;exact he
   unfold a2A
   split
   ·exact p2_len f h1 h2
   ·split
    ·exact ls_by (ls_last (wd12_len _ _ _ _ _ _) (flawE_short h2).2)
    ·split
     ·exact ot13_len f c sz dz c' sz' dz'
     ·split
      ·exact ni13_len f g c sz dz c' sz' dz'
      ·exact p2_len f h2 h1
  ·exact ls_N _
 ·exact ls_N _
end Go.Proofs.YtkmmkcpfhnifhaaGreatDoor
