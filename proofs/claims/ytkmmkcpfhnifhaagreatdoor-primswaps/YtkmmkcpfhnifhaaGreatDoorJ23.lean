/- What the program tells, in part. -/
import Derived.Test.YtkmmkcpfhnifhaaGreatDoorJ22
import Derived.Test.YtkmmkcpfhnifhaaGreatDoorJ19
import Derived.Stop.Asserts
set_option linter.unusedVariables false
set_option maxHeartbeats 4000000
set_option maxRecDepth 100000
namespace Go.Proofs.YtkmmkcpfhnifhaaGreatDoor
open Go.RowKit
theorem f1_0 (A:A1)(f g:Int)(H:∀ w',Calls Tryz.prog 69 #[.int .i64 f] w' (Mk1 A w'))(w:World):Calls Tryz.prog 28 #[.agg #[.int .i64 0,.int .i64 f,.int .i64 g]] w (Mk1 A w):=by
 have hb:Hid (Below w.heap.size w (w.alloc (.cells #[.int .i64 0,.int .i64 f,.int .i64 g] 24))):=(Below.refl _ w).alloc (Nat.le_refl _) _
 have p0:=act_c0 w (.int .i64 0) (.int .i64 f) (.int .i64 g)
 have p1:=act_c1 w (.int .i64 0) (.int .i64 f) (.int .i64 g)
 have p2:=act_c2 w (.int .i64 0) (.int .i64 f) (.int .i64 g)
 have HH:Hid (∀ w',Calls Tryz.prog 69 #[.int .i64 f] w' (Mk1 A w')):=H
 clear H
 go_enter Tryz.func28,Tryz.ntmps28
 go_wp2_with fail
 refine (HH.out _).mono ?_
 clear p0 p1 p2 HH
 rintro e v ⟨u,rfl,hU,hB⟩
 have HU:Hid (Fu1 u v A/\Below w.heap.size w v):=⟨hU,(goB16 hb hB).out⟩
 obtain⟨F,cs,rfl,_,_⟩:=hU
 clear hB
 go_wp2_with fail
 go_ret
 exact⟨_,rfl,HU.out⟩
theorem f1_0n (f g:Int)(H:∀ w',Calls Tryz.prog 69 #[.int .i64 f] w' (No1 w'))(w:World):Calls Tryz.prog 28 #[.agg #[.int .i64 0,.int .i64 f,.int .i64 g]] w (No1 w):=by
 have hb:Hid (Below w.heap.size w (w.alloc (.cells #[.int .i64 0,.int .i64 f,.int .i64 g] 24))):=(Below.refl _ w).alloc (Nat.le_refl _) _
 have p0:=act_c0 w (.int .i64 0) (.int .i64 f) (.int .i64 g)
 have p1:=act_c1 w (.int .i64 0) (.int .i64 f) (.int .i64 g)
 have p2:=act_c2 w (.int .i64 0) (.int .i64 f) (.int .i64 g)
 have HH:Hid (∀ w',Calls Tryz.prog 69 #[.int .i64 f] w' (No1 w')):=H
 clear H
 go_enter Tryz.func28,Tryz.ntmps28
 go_wp2_with fail
 refine (HH.out _).mono ?_
 clear p0 p1 p2 HH
 rintro e v ⟨rfl,hB⟩
 replace hb:=goB16 hb hB
 clear hB
 go_wp2_with fail
 go_ret
 exact⟨rfl,hb.out⟩
theorem f1_1 (A:A1)(f g:Int)(H:∀ w',Calls Tryz.prog 70 #[.int .i64 f,.func (.func 71) #[] #[]] w' (Mk1 A w'))(w:World):Calls Tryz.prog 28 #[.agg #[.int .i64 1,.int .i64 f,.int .i64 g]] w (Mk1 A w):=by
 have hb:Hid (Below w.heap.size w (w.alloc (.cells #[.int .i64 1,.int .i64 f,.int .i64 g] 24))):=(Below.refl _ w).alloc (Nat.le_refl _) _
 have p0:=act_c0 w (.int .i64 1) (.int .i64 f) (.int .i64 g)
 have p1:=act_c1 w (.int .i64 1) (.int .i64 f) (.int .i64 g)
 have p2:=act_c2 w (.int .i64 1) (.int .i64 f) (.int .i64 g)
 have HH:Hid (∀ w',Calls Tryz.prog 70 #[.int .i64 f,.func (.func 71) #[] #[]] w' (Mk1 A w')):=H
 clear H
 go_enter Tryz.func28,Tryz.ntmps28
 go_wp2_with fail
 refine (HH.out _).mono ?_
 clear p0 p1 p2 HH
 rintro e v ⟨u,rfl,hU,hB⟩
 have HU:Hid (Fu1 u v A/\Below w.heap.size w v):=⟨hU,(goB16 hb hB).out⟩
 obtain⟨F,cs,rfl,_,_⟩:=hU
 clear hB
 go_wp2_with fail
 go_ret
 exact⟨_,rfl,HU.out⟩
theorem f1_1n (f g:Int)(H:∀ w',Calls Tryz.prog 70 #[.int .i64 f,.func (.func 71) #[] #[]] w' (No1 w'))(w:World):Calls Tryz.prog 28 #[.agg #[.int .i64 1,.int .i64 f,.int .i64 g]] w (No1 w):=by
 have hb:Hid (Below w.heap.size w (w.alloc (.cells #[.int .i64 1,.int .i64 f,.int .i64 g] 24))):=(Below.refl _ w).alloc (Nat.le_refl _) _
 have p0:=act_c0 w (.int .i64 1) (.int .i64 f) (.int .i64 g)
 have p1:=act_c1 w (.int .i64 1) (.int .i64 f) (.int .i64 g)
 have p2:=act_c2 w (.int .i64 1) (.int .i64 f) (.int .i64 g)
 have HH:Hid (∀ w',Calls Tryz.prog 70 #[.int .i64 f,.func (.func 71) #[] #[]] w' (No1 w')):=H
 clear H
 go_enter Tryz.func28,Tryz.ntmps28
 go_wp2_with fail
 refine (HH.out _).mono ?_
 clear p0 p1 p2 HH
 rintro e v ⟨rfl,hB⟩
 replace hb:=goB16 hb hB
 clear hB
 go_wp2_with fail
 go_ret
 exact⟨rfl,hb.out⟩
theorem f1_2 (A:A1)(f g:Int)(H:∀ w',Calls Tryz.prog 70 #[.int .i64 f,.func (.func 72) #[] #[]] w' (Mk1 A w'))(w:World):Calls Tryz.prog 28 #[.agg #[.int .i64 2,.int .i64 f,.int .i64 g]] w (Mk1 A w):=by
 have hb:Hid (Below w.heap.size w (w.alloc (.cells #[.int .i64 2,.int .i64 f,.int .i64 g] 24))):=(Below.refl _ w).alloc (Nat.le_refl _) _
 have p0:=act_c0 w (.int .i64 2) (.int .i64 f) (.int .i64 g)
 have p1:=act_c1 w (.int .i64 2) (.int .i64 f) (.int .i64 g)
 have p2:=act_c2 w (.int .i64 2) (.int .i64 f) (.int .i64 g)
 have HH:Hid (∀ w',Calls Tryz.prog 70 #[.int .i64 f,.func (.func 72) #[] #[]] w' (Mk1 A w')):=H
 clear H
 go_enter Tryz.func28,Tryz.ntmps28
 go_wp2_with fail
 refine (HH.out _).mono ?_
 clear p0 p1 p2 HH
 rintro e v ⟨u,rfl,hU,hB⟩
 have HU:Hid (Fu1 u v A/\Below w.heap.size w v):=⟨hU,(goB16 hb hB).out⟩
 obtain⟨F,cs,rfl,_,_⟩:=hU
 clear hB
 go_wp2_with fail
 go_ret
 exact⟨_,rfl,HU.out⟩
theorem f1_2n (f g:Int)(H:∀ w',Calls Tryz.prog 70 #[.int .i64 f,.func (.func 72) #[] #[]] w' (No1 w'))(w:World):Calls Tryz.prog 28 #[.agg #[.int .i64 2,.int .i64 f,.int .i64 g]] w (No1 w):=by
 have hb:Hid (Below w.heap.size w (w.alloc (.cells #[.int .i64 2,.int .i64 f,.int .i64 g] 24))):=(Below.refl _ w).alloc (Nat.le_refl _) _
 have p0:=act_c0 w (.int .i64 2) (.int .i64 f) (.int .i64 g)
 have p1:=act_c1 w (.int .i64 2) (.int .i64 f) (.int .i64 g)
 have p2:=act_c2 w (.int .i64 2) (.int .i64 f) (.int .i64 g)
 have HH:Hid (∀ w',Calls Tryz.prog 70 #[.int .i64 f,.func (.func 72) #[] #[]] w' (No1 w')):=H
 clear H
 go_enter Tryz.func28,Tryz.ntmps28
 go_wp2_with fail
 refine (HH.out _).mono ?_
 clear p0 p1 p2 HH
 rintro e v ⟨rfl,hB⟩
 replace hb:=goB16 hb hB
 clear hB
 go_wp2_with fail
 go_ret
 exact⟨rfl,hb.out⟩
theorem f1_5 (B:A2)(f g:Int)(H:∀ w',Calls Tryz.prog 74 #[.int .i64 f] w' (Mk2 B w'))(w:World):Calls Tryz.prog 28 #[.agg #[.int .i64 5,.int .i64 f,.int .i64 g]] w (Mk1 (fun c sz dz=>B c sz dz c sz dz) w):=by
 have hb:Hid (Below w.heap.size w (w.alloc (.cells #[.int .i64 5,.int .i64 f,.int .i64 g] 24))):=(Below.refl _ w).alloc (Nat.le_refl _) _
 have p0:=act_c0 w (.int .i64 5) (.int .i64 f) (.int .i64 g)
 have p1:=act_c1 w (.int .i64 5) (.int .i64 f) (.int .i64 g)
 have p2:=act_c2 w (.int .i64 5) (.int .i64 f) (.int .i64 g)
 have HH:Hid (∀ w',Calls Tryz.prog 74 #[.int .i64 f] w' (Mk2 B w')):=H
 clear H
 go_enter Tryz.func28,Tryz.ntmps28
 go_wp2_with fail
 refine (HH.out _).mono ?_
 clear p0 p1 p2 HH
 rintro e v ⟨u,rfl,hU,hB⟩
 replace hb:=goB16 hb hB
 have HC:Hid (Calls Tryz.prog 73 #[u] v (Mk1 (fun c sz dz=>B c sz dz c sz dz) v)):=mk_self B u v hU
 obtain⟨F,cs,rfl,_,_⟩:=hU
 clear hB
 go_wp2_with fail
 refine HC.mono ?_
 rintro e v2 ⟨u2,rfl,hU,hB⟩
 have HU:Hid (Fu1 u2 v2 (fun c sz dz=>B c sz dz c sz dz)/\Below w.heap.size w v2):=⟨hU,(goB16 hb hB).out⟩
 obtain⟨F2,cs2,rfl,_,_⟩:=hU
 clear hB HC
 go_wp2_with fail
 go_ret
 exact⟨_,rfl,HU.out⟩
theorem f1_5n (f g:Int)(H:∀ w',Calls Tryz.prog 74 #[.int .i64 f] w' (No2 w'))(w:World):Calls Tryz.prog 28 #[.agg #[.int .i64 5,.int .i64 f,.int .i64 g]] w (No1 w):=by
 have hb:Hid (Below w.heap.size w (w.alloc (.cells #[.int .i64 5,.int .i64 f,.int .i64 g] 24))):=(Below.refl _ w).alloc (Nat.le_refl _) _
 have p0:=act_c0 w (.int .i64 5) (.int .i64 f) (.int .i64 g)
 have p1:=act_c1 w (.int .i64 5) (.int .i64 f) (.int .i64 g)
 have p2:=act_c2 w (.int .i64 5) (.int .i64 f) (.int .i64 g)
 have HH:Hid (∀ w',Calls Tryz.prog 74 #[.int .i64 f] w' (No2 w')):=H
 clear H
 go_enter Tryz.func28,Tryz.ntmps28
 go_wp2_with fail
 refine (HH.out _).mono ?_
 clear p0 p1 p2 HH
 rintro e v ⟨rfl,hB⟩
 replace hb:=goB16 hb hB
 clear hB
 go_wp2_with fail
 refine (mk_self_no v).mono ?_
 rintro e v2 ⟨rfl,hB⟩
 replace hb:=goB16 hb hB
 clear hB
 go_wp2_with fail
 go_ret
 exact⟨rfl,hb.out⟩
theorem f1_non (op:Int)(h:op≠0/\op≠1/\op≠2/\op≠5)(f g:Int)(w:World):Calls Tryz.prog 28 #[.agg #[.int .i64 op,.int .i64 f,.int .i64 g]] w (No1 w):=by
 have hb:Hid (Below w.heap.size w (w.alloc (.cells #[.int .i64 op,.int .i64 f,.int .i64 g] 24))):=(Below.refl _ w).alloc (Nat.le_refl _) _
 have p0:=act_c0 w (.int .i64 op) (.int .i64 f) (.int .i64 g)
 have p1:=act_c1 w (.int .i64 op) (.int .i64 f) (.int .i64 g)
 have p2:=act_c2 w (.int .i64 op) (.int .i64 f) (.int .i64 g)
 have t0:(op == 0)=false:=beq_eq_false_iff_ne.2 (by omega)
 have t1:(op == 1)=false:=beq_eq_false_iff_ne.2 (by omega)
 have t2:(op == 2)=false:=beq_eq_false_iff_ne.2 (by omega)
 have t5:(op == 5)=false:=beq_eq_false_iff_ne.2 (by omega)
 clear h
 go_enter Tryz.func28,Tryz.ntmps28
 go_wp2_with fail
 go_ret
 exact⟨rfl,hb.out⟩
theorem findOne_no (op f g:Int)(c:Bool)(sa:Option Addr)(sc:Nat)(sz:List Int)(da:Option Addr)(dc:Nat)(dz:List Int)(HF:∀ w',Calls Tryz.prog 28 #[.agg #[.int .i64 op,.int .i64 f,.int .i64 g]] w' (No1 w'))(w:World):Calls Tryz.prog 7 #[.agg #[.int .i64 op,.int .i64 f,.int .i64 g],.agg #[.bool c,.slice sa sz.length sc,.slice da dz.length dc]] w (AnP (anN 1) w):=by
 have HH:Hid (∀ w',Calls Tryz.prog 28 #[.agg #[.int .i64 op,.int .i64 f,.int .i64 g]] w' (No1 w')):=HF
 clear HF
 have hq:=eqn_nil Tryz.underlying58
 obtain⟨W0,hW⟩:∃ W0,W0=(((w.alloc (.cells #[.int .i64 op,.int .i64 f,.int .i64 g] 24)).alloc (.cells #[.bool c,.slice sa sz.length sc,.slice da dz.length dc] 27)).alloc (.cells #[.bool false,.slice none 0 0,.slice none 0 0] 27)):=⟨_,rfl⟩
 have he:=ent1 (w.alloc (.cells #[.int .i64 op,.int .i64 f,.int .i64 g] 24)) (.bool c) (.slice sa sz.length sc) (.slice da dz.length dc)
 simp only[World.size_alloc] at he
 rw[<-hW] at he
 obtain⟨hb',pa,pr⟩:=he
 have hb:Hid (Below w.heap.size w W0):=((Below.refl _ w).alloc (Nat.le_refl _) _).trans (hb'.mono (by omega))
 have q0:W0.cell? ⟨w.heap.size,0,none⟩=some (.int .i64 op):=(hb'.cell (p:=⟨w.heap.size,0,none⟩) (by show w.heap.size<w.heap.size+1;omega)).trans (act_c0 w _ _ _)
 have q1:W0.cell? ⟨w.heap.size,1,none⟩=some (.int .i64 f):=(hb'.cell (p:=⟨w.heap.size,1,none⟩) (by show w.heap.size<w.heap.size+1;omega)).trans (act_c1 w _ _ _)
 have q2:W0.cell? ⟨w.heap.size,2,none⟩=some (.int .i64 g):=(hb'.cell (p:=⟨w.heap.size,2,none⟩) (by show w.heap.size<w.heap.size+1;omega)).trans (act_c2 w _ _ _)
 clear hb'
 have hz0:=hb.size
 rw[hW] at q0 q1 q2
 go_enter Tryz.func7,Tryz.ntmps7
 go_wp2_with fail
 rw[<-hW]
 clear q0 q1 q2 hW
 refine (HH.out W0).mono ?_
 rintro e v1 ⟨rfl,hB⟩
 replace pr:=goA16 pr hB
 replace hb:=goB16 hb hB
 clear hB HH
 have r0:=pr.c0
 have r1:=pr.c1
 have r2:=pr.c2
 have f0:=pr.fr 0
 have f1:=pr.fr 1
 have f2:=pr.fr 2
 go_wp2_with fail
 have FF:=pr.set3 (.bool false) (.slice none 0 0) (.slice none 0 0)
 have q0:=FF.c0
 have q1:=FF.c1
 have q2:=FF.c2
 exact bodyPost_ret (v:=.tuple #[.agg #[.bool false,.slice none 0 0,.slice none 0 0],.iface 28 (.int .i64 1)]) (by simp[results,Tryz.results7,go_sem,q0,q1,q2]) rfl (err16 rfl (by decide) (by omega) hb.out _ _ _)
theorem findOne_flaw (B:A1)(op f g:Int)(c:Bool)(sa:Option Addr)(sc:Nat)(sz:List Int)(da:Option Addr)(dc:Nat)(dz:List Int)(HF:∀ w',Calls Tryz.prog 28 #[.agg #[.int .i64 op,.int .i64 f,.int .i64 g]] w' (Mk1 B w'))(w:World)(l1:sz.length<=9223372036854775807)(l2:dz.length<=9223372036854775807)(hs:IsC w.heap.size w sa sz sc)(hd:IsC w.heap.size w da dz dc)(h:flawE c sz dz≠0):Calls Tryz.prog 7 #[.agg #[.int .i64 op,.int .i64 f,.int .i64 g],.agg #[.bool c,.slice sa sz.length sc,.slice da dz.length dc]] w (AnP (anN (flawE c sz dz)) w):=by
 have h':Hid (flawE c sz dz≠0):=h
 clear h
 have HH:Hid (∀ w',Calls Tryz.prog 28 #[.agg #[.int .i64 op,.int .i64 f,.int .i64 g]] w' (Mk1 B w')):=HF
 clear HF
 have hq:=eqn_fun Tryz.underlying58
 have HI:Hid (IsC w.heap.size w sa sz sc/\IsC w.heap.size w da dz dc):=⟨hs,hd⟩
 clear hs hd
 obtain⟨W0,hW⟩:∃ W0,W0=(((w.alloc (.cells #[.int .i64 op,.int .i64 f,.int .i64 g] 24)).alloc (.cells #[.bool c,.slice sa sz.length sc,.slice da dz.length dc] 27)).alloc (.cells #[.bool false,.slice none 0 0,.slice none 0 0] 27)):=⟨_,rfl⟩
 have he:=ent1 (w.alloc (.cells #[.int .i64 op,.int .i64 f,.int .i64 g] 24)) (.bool c) (.slice sa sz.length sc) (.slice da dz.length dc)
 simp only[World.size_alloc] at he
 rw[<-hW] at he
 obtain⟨hb',pa,pr⟩:=he
 have hb:Hid (Below w.heap.size w W0):=((Below.refl _ w).alloc (Nat.le_refl _) _).trans (hb'.mono (by omega))
 have q0:W0.cell? ⟨w.heap.size,0,none⟩=some (.int .i64 op):=(hb'.cell (p:=⟨w.heap.size,0,none⟩) (by show w.heap.size<w.heap.size+1;omega)).trans (act_c0 w _ _ _)
 have q1:W0.cell? ⟨w.heap.size,1,none⟩=some (.int .i64 f):=(hb'.cell (p:=⟨w.heap.size,1,none⟩) (by show w.heap.size<w.heap.size+1;omega)).trans (act_c1 w _ _ _)
 have q2:W0.cell? ⟨w.heap.size,2,none⟩=some (.int .i64 g):=(hb'.cell (p:=⟨w.heap.size,2,none⟩) (by show w.heap.size<w.heap.size+1;omega)).trans (act_c2 w _ _ _)
 clear hb'
 have hz0:=hb.size
 rw[hW] at q0 q1 q2
 go_enter Tryz.func7,Tryz.ntmps7
 go_wp2_with fail
 rw[<-hW]
 clear q0 q1 q2 hW
 refine (HH.out W0).mono ?_
 rintro e v1 ⟨u,rfl,hU,hB⟩
 have HU:Hid (Fu1 u v1 B):=hU
 replace pa:=goA16 pa hB
 replace pr:=goA16 pr hB
 replace hb:=goB16 hb hB
 obtain⟨F,cs,rfl,hE,_⟩:=hU
 clear hB HH
 have a0:=pa.c0
 have a1:=pa.c1
 have a2:=pa.c2
 go_wp2_with fail
 refine (check_no c sa sc sz da dc dz l1 l2 v1 (goI16 HI.1.1 hb.out) (goI16 HI.2.1 hb.out) h'.out).mono ?_
 rintro e v2 ⟨rfl,hB⟩
 replace pr:=goA16 pr hB
 have hB2:Hid (Below v1.heap.size v1 v2):=hB
 replace hb:=goB16 hb hB
 clear hB
 clear a0 a1 a2
 have r0:=pr.c0
 have r1:=pr.c1
 have r2:=pr.c2
 have f0:=pr.fr 0
 have f1:=pr.fr 1
 have f2:=pr.fr 2
 go_wp2_with fail
 have FF:=pr.set3 (.bool false) (.slice none 0 0) (.slice none 0 0)
 have q0:=FF.c0
 have q1:=FF.c1
 have q2:=FF.c2
 exact bodyPost_ret (v:=.tuple #[.agg #[.bool false,.slice none 0 0,.slice none 0 0],.iface 28 (.int .i64 (flawE c sz dz))]) (by simp[results,Tryz.results7,go_sem,q0,q1,q2]) rfl (err16 rfl h'.out (by omega) hb.out _ _ _)
theorem findOne_ok (B:A1)(op f g:Int)(c:Bool)(sa:Option Addr)(sc:Nat)(sz:List Int)(da:Option Addr)(dc:Nat)(dz:List Int)(HF:∀ w',Calls Tryz.prog 28 #[.agg #[.int .i64 op,.int .i64 f,.int .i64 g]] w' (Mk1 B w'))(w:World)(l1:sz.length<=9223372036854775807)(l2:dz.length<=9223372036854775807)(hs:IsC w.heap.size w sa sz sc)(hd:IsC w.heap.size w da dz dc)(hf:flawE c sz dz=0)(T:∀ j,In64 (nth dz j)):Calls Tryz.prog 7 #[.agg #[.int .i64 op,.int .i64 f,.int .i64 g],.agg #[.bool c,.slice sa sz.length sc,.slice da dz.length dc]] w (AnP (B c sz dz) w):=by
 have h':Hid (flawE c sz dz=0):=hf
 have HA:Hid (ArF w c sa sc sz da dc dz/\True):=⟨⟨hs,hd,T,hf⟩,trivial⟩
 clear hf T
 obtain⟨A,hAe⟩:∃ A,B c sz dz=A:=⟨_,rfl⟩
 have HAE:Hid (B c sz dz=A):=hAe
 rw[hAe]
 clear hAe
 have HH:Hid (∀ w',Calls Tryz.prog 28 #[.agg #[.int .i64 op,.int .i64 f,.int .i64 g]] w' (Mk1 B w')):=HF
 clear HF
 have hq:=eqn_fun Tryz.underlying58
 have HI:Hid (IsC w.heap.size w sa sz sc/\IsC w.heap.size w da dz dc):=⟨hs,hd⟩
 clear hs hd
 obtain⟨W0,hW⟩:∃ W0,W0=(((w.alloc (.cells #[.int .i64 op,.int .i64 f,.int .i64 g] 24)).alloc (.cells #[.bool c,.slice sa sz.length sc,.slice da dz.length dc] 27)).alloc (.cells #[.bool false,.slice none 0 0,.slice none 0 0] 27)):=⟨_,rfl⟩
 have he:=ent1 (w.alloc (.cells #[.int .i64 op,.int .i64 f,.int .i64 g] 24)) (.bool c) (.slice sa sz.length sc) (.slice da dz.length dc)
 simp only[World.size_alloc] at he
 rw[<-hW] at he
 obtain⟨hb',pa,pr⟩:=he
 have hb:Hid (Below w.heap.size w W0):=((Below.refl _ w).alloc (Nat.le_refl _) _).trans (hb'.mono (by omega))
 have q0:W0.cell? ⟨w.heap.size,0,none⟩=some (.int .i64 op):=(hb'.cell (p:=⟨w.heap.size,0,none⟩) (by show w.heap.size<w.heap.size+1;omega)).trans (act_c0 w _ _ _)
 have q1:W0.cell? ⟨w.heap.size,1,none⟩=some (.int .i64 f):=(hb'.cell (p:=⟨w.heap.size,1,none⟩) (by show w.heap.size<w.heap.size+1;omega)).trans (act_c1 w _ _ _)
 have q2:W0.cell? ⟨w.heap.size,2,none⟩=some (.int .i64 g):=(hb'.cell (p:=⟨w.heap.size,2,none⟩) (by show w.heap.size<w.heap.size+1;omega)).trans (act_c2 w _ _ _)
 clear hb'
 have hz0:=hb.size
 rw[hW] at q0 q1 q2
 go_enter Tryz.func7,Tryz.ntmps7
 go_wp2_with fail
 rw[<-hW]
 clear q0 q1 q2 hW
 refine (HH.out W0).mono ?_
 rintro e v1 ⟨u,rfl,hU,hB⟩
 have HU:Hid (Fu1 u v1 B):=hU
 replace pa:=goA16 pa hB
 replace pr:=goA16 pr hB
 replace hb:=goB16 hb hB
 obtain⟨F,cs,rfl,hE,_⟩:=hU
 clear hB HH
 have a0:=pa.c0
 have a1:=pa.c1
 have a2:=pa.c2
 go_wp2_with fail
 refine (check_ok c sa sc sz da dc dz l1 l2 v1 (goI16 HI.1.1 hb.out) (goI16 HI.2.1 hb.out) h'.out).mono ?_
 rintro e v2 ⟨rfl,hB⟩
 replace pa:=goA16 pa hB
 replace pr:=goA16 pr hB
 have hB2:Hid (Below v1.heap.size v1 v2):=hB
 replace hb:=goB16 hb hB
 clear hB
 clear a0 a1 a2
 have a0:=pa.c0
 have a1:=pa.c1
 have a2:=pa.c2
 obtain⟨F',cs',he',hE',H'⟩:=HU.out
 have HD:Hid (Calls Tryz.prog F (.agg #[.bool c,.slice sa sz.length sc,.slice da dz.length dc]::cs).toArray v2 (AnP A v2)):=by
  have k:=H' c sa sc sz da dc dz v2 hB2.out (HA.1.go hb.out)
  rw[HAE.out] at k
  obtain⟨rfl,rfl⟩:F=F'/\cs=cs':=by simpa using he'
  exact k
 clear he' hE' H'
 replace hE:∀ args w,(callFunc F args).run Tryz.prog w=.ok (.enter F args) w:=hE
 go_wp2_with fail
 refine HD.mono ?_
 clear HD
 clear a0 a1 a2
 intro e v9 hU
 obtain⟨xa,xc,ya,yc,E,rfl,HU⟩:=hU.out16
 clear hU
 have hz9:=HU.2.2.2.size
 have hlt:=pr.lt
 have HW:=HU.2
 replace pr:=goA16 pr HU.2.2.2
 have r0:=pr.c0
 have r1:=pr.c1
 have r2:=pr.c2
 have f0:=pr.fr 0
 have f1:=pr.fr 1
 have f2:=pr.fr 2
 go_wp2_with fail
 have FF:=pr.set3 (.bool A.c) (.slice xa A.s.length xc) (.slice ya A.d.length yc)
 have q0:=FF.c0
 have q1:=FF.c1
 have q2:=FF.c2
 exact bodyPost_ret (v:=.tuple #[.agg #[.bool A.c,.slice xa A.s.length xc,.slice ya A.d.length yc],E]) (by simp[results,Tryz.results7,go_sem,q0,q1,q2]) rfl (ret16 (A:=A) (by omega) hlt hb.out HU.2.1 HU.2.2.1 HU.2.2.2 HU.1 _ _ _)
def onA (op f g:Int):A1:=fun c sz dz=>if a1K op f=true then (if flawE c sz dz=0 then a1A op f c sz dz else anN (flawE c sz dz)) else anN 1
def CO1:Prop:=∀ (op f g:Int) (c:Bool) (sa:Option Addr) (sc:Nat) (sz:List Int) (da:Option Addr) (dc:Nat) (dz:List Int) (w:World),In64 op->In64 f->In64 g->sz.length<=9223372036854775807->dz.length<=9223372036854775807->IsC w.heap.size w sa sz sc->IsC w.heap.size w da dz dc->(∀ j,In64 (nth dz j)) →
 Calls Tryz.prog 7 #[.agg #[.int .i64 op,.int .i64 f,.int .i64 g],.agg #[.bool c,.slice sa sz.length sc,.slice da dz.length dc]] w (AnP (onA op f g c sz dz) w)
theorem fu_rd (H:CRd)(W:World):FuN (.func (.func 71) #[] #[]) W (fun f x c sz dz=>anE (rdE f x c sz dz) false (xout x.toNat sz) (rdD f sz dz x.toNat)):=by
 refine⟨71,[],rfl,(enters_of Tryz.func71 (by kernel_rfl) rfl),fun f x c sa sc sz da dc dz w hB hf hx h0 hA=>?_⟩
 refine (H f x c sa sc sz da dc dz w hf (by have:=hA.s6.1;unfold In64;omega) hA.h1 hA.h2 hA.1 hA.2.1.1 hA.2.2.1).mono fun _ _ k=>?_
 unfold AnP anE
 show UB (rdE f x c sz dz) (onc (rdE f x c sz dz) false) _ _ _ _ _
 rw[show onc (rdE f x c sz dz) false=false by unfold onc;split<;>rfl]
 exact k
theorem fu_sc (H:CSc)(W:World):FuN (.func (.func 72) #[] #[]) W (fun f x c sz dz=>anE (scE f x c sz dz) false sz (scD f sz dz x.toNat)):=by
 refine⟨72,[],rfl,(enters_of Tryz.func72 (by kernel_rfl) rfl),fun f x c sa sc sz da dc dz w hB hf hx h0 hA=>?_⟩
 refine (H f x c sa sc sz da dc dz w hf (by have:=hA.s6.1;unfold In64;omega) hA.h1 hA.h2 hA.1 hA.2.1.1 hA.2.2.1).mono fun _ _ k=>?_
 unfold AnP anE
 show UB (scE f x c sz dz) (onc (scE f x c sz dz) false) _ _ _ _ _
 rw[show onc (scE f x c sz dz) false=false by unfold onc;split<;>rfl]
 exact k
theorem f1_any (K:K2)(J:K1)(Hr:CRd)(Hs:CSc)(op f g:Int)(hf:In64 f)(h:a1K op f=true)(w:World):Calls Tryz.prog 28 #[.agg #[.int .i64 op,.int .i64 f,.int .i64 g]] w (Mk1 (a1A op f) w):=by
 unfold a1K at h
 by_cases h0:op=0
 ·subst h0
  exact f1_0 _ f g (fun w'=>t1_any J f hf h w') w
 ·rw[if_neg h0] at h
  by_cases h1:op=1
  ·subst h1
   exact f1_1 _ f g (fun w'=>mk_fold_t f _ _ hf h w' _ (fu_rd Hr w')) w
  ·by_cases h2:op=2
   ·subst h2
    exact f1_2 _ f g (fun w'=>mk_fold_t f _ _ hf h w' _ (fu_sc Hs w')) w
   ·rw[if_neg (by omega)] at h
    by_cases h5:op=5
    ·subst h5
     exact f1_5 (p2A f) f g (fun w'=>t2_any K f hf h w') w
    ·rw[if_neg h5] at h;cases h
theorem f1_none (op f g:Int)(hf:In64 f)(h:a1K op f=false)(w:World):Calls Tryz.prog 28 #[.agg #[.int .i64 op,.int .i64 f,.int .i64 g]] w (No1 w):=by
 unfold a1K at h
 by_cases h0:op=0
 ·subst h0
  exact f1_0n f g (fun w'=>t1_no f hf h w') w
 ·rw[if_neg h0] at h
  by_cases h1:op=1
  ·subst h1
   exact f1_1n f g (fun w'=>mk_fold_f f _ _ hf h w') w
  ·by_cases h2:op=2
   ·subst h2
    exact f1_2n f g (fun w'=>mk_fold_f f _ _ hf h w') w
   ·rw[if_neg (by omega)] at h
    by_cases h5:op=5
    ·subst h5
     exact f1_5n f g (fun w'=>t2_none f hf h w') w
    ·exact f1_non op ⟨h0,h1,h2,h5⟩ f g w
theorem one_prim (K:K2)(J:K1)(Hr:CRd)(Hs:CSc):CO1:=by
 intro op f g c sa sc sz da dc dz w ho hf hg l1 l2 hs hd T
 unfold onA
 by_cases hk:a1K op f=true
 ·rw[if_pos hk]
  by_cases he:flawE c sz dz=0
  ·rw[if_pos he]
   exact findOne_ok _ op f g c sa sc sz da dc dz (fun w'=>f1_any K J Hr Hs op f g hf hk w') w l1 l2 hs hd he T
  ·rw[if_neg he]
   exact findOne_flaw _ op f g c sa sc sz da dc dz (fun w'=>f1_any K J Hr Hs op f g hf hk w') w l1 l2 hs hd he
 ·rw[if_neg hk]
  exact findOne_no op f g c sa sc sz da dc dz (fun w'=>f1_none op f g hf (by simpa using hk) w') w
end Go.Proofs.YtkmmkcpfhnifhaaGreatDoor
namespace Go.Proofs.YtkmmkcpfhnifhaaGreatDoor
open Go.RowKit Go.Extern.Stop Go.Stop Go.Extern
theorem Tryz.valueOfT (t:Addr)(w:World):(ReflectliteValue.unpack (.iface 110 (.pointer (some t)))).run Tryz.prog w
=.ok (.agg #[.pointer (some ⟨1,110,none⟩),.pointer (some ⟨w.heap.size,0,none⟩),.int .u64 150]) (w.alloc (.cells #[.pointer (some t)] 110)):=by kernel_rfl
theorem Tryz.typeT (a : Addr)(w : World): (ReflectliteValue.methodAny (ReflectliteValue.valueError "reflectlite.Value.Type" 0) (fun t _ _ _ => ReflectliteType.toType t) #[.agg #[.pointer (some ⟨1, 110, none⟩), .pointer (some a), .int .u64 150]]).run Tryz.prog w
=.ok (.iface 196 (.agg #[.pointer (some ⟨1,110,none⟩)])) w:=by kernel_rfl
theorem Tryz.methodKind (h : Value)(w : World): (Go.method 368 196 (.agg #[h]) "Kind").run Tryz.prog w = .ok (290, h) w := by kernel_rfl
theorem Tryz.kindT (w:World):((ReflectliteType.abiMethod fun t=>Functor.map (fun a:Nat=>Value.int IntKind.u8 (a:Int)) (Rtype.kind t)) #[.pointer (some ⟨1,110,none⟩)]).run Tryz.prog w=.ok (.int .u8 22) w:=by kernel_rfl
theorem Tryz.kindE (w:World):((ReflectliteType.abiMethod fun t=>Functor.map (fun a:Nat=>Value.int IntKind.u8 (a:Int)) (Rtype.kind t)) #[.pointer (some ⟨1,28,none⟩)]).run Tryz.prog w=.ok (.int .u8 2) w:=by kernel_rfl
theorem rlm (z:Sem Value)(f:TypeId->Addr->Nat->Nat->Sem Value)(v:Value):
 ReflectliteValue.method z f #[v]=(do match <-ReflectliteValue.parts v with | none=>z | some (t,a,fl)=>f t a fl (fl%32)):=rfl
theorem Tryz.partsT (a:Addr)(w:World):(ReflectliteValue.parts (.agg #[.pointer (some ⟨1,110,none⟩),.pointer (some a),.int .u64 150])).run Tryz.prog w=.ok (some (110,a,150)) w:=by kernel_rfl
theorem Tryz.isNilT (a p:Addr)(W:World)(ha:W.cell? a=some (.pointer (some p))):
  (ReflectliteValue.method (ReflectliteValue.valueError "reflectlite.Value.IsNil" 0) ReflectliteValue.isNil #[.agg #[.pointer (some ⟨1, 110, none⟩), .pointer (some a), .int .u64 150]]).run Tryz.prog W = .ok (.bool false) W := by
 rw[rlm]
 simp only[Sem.run_bind,Tryz.partsT,Result.andThen]
 simp[ReflectliteValue.isNil,loadVar,isAgg,underlying,Tryz.underlying110,ha,Result.andThen]
theorem Tryz.methodElem (h : Value)(w : World): (Go.method 368 196 (.agg #[h]) "Elem").run Tryz.prog w = .ok (300, .agg #[h]) w := by kernel_rfl
theorem Tryz.methodImplements (h : Value)(w : World): (Go.method 368 196 (.agg #[h]) "Implements").run Tryz.prog w = .ok (301, .agg #[h]) w := by kernel_rfl
theorem Tryz.methodAssignableTo (h : Value)(w : World): (Go.method 368 196 (.agg #[h]) "AssignableTo").run Tryz.prog w = .ok (298, .agg #[h]) w := by kernel_rfl
theorem Tryz.elemT (w:World):(ReflectliteType.method ReflectliteType.elem #[.agg #[.pointer (some ⟨1,110,none⟩)]]).run Tryz.prog w=.ok (.iface 196 (.agg #[.pointer (some ⟨1,28,none⟩)])) w:=by kernel_rfl
theorem Tryz.implementsE (w : World): (ReflectliteType.relation "Implements" ReflectliteType.implements_ #[.agg #[.pointer (some ⟨1, 28, none⟩)], .iface 196 (.agg #[.pointer (some ⟨1, 32, none⟩)])]).run Tryz.prog w = .ok (.bool true) w := by kernel_rfl
theorem Tryz.typeOfE (v:Value)(w:World):(ReflectliteType.typeOf #[.iface 28 v]).run Tryz.prog w=.ok (.iface 196 (.agg #[.pointer (some ⟨1,28,none⟩)])) w:=by kernel_rfl
theorem Tryz.assignableE (w : World): (ReflectliteType.relation "AssignableTo" ReflectliteType.assignableTo #[.agg #[.pointer (some ⟨1, 28, none⟩)], .iface 196 (.agg #[.pointer (some ⟨1, 28, none⟩)])]).run Tryz.prog w = .ok (.bool true) w := by kernel_rfl
theorem Tryz.valueOfE (e:Int)(w:World):(ReflectliteValue.unpack (.iface 28 (.int .i64 e))).run Tryz.prog w
=.ok (.agg #[.pointer (some ⟨1,28,none⟩),.pointer (some ⟨w.heap.size,0,none⟩),.int .u64 130]) (w.alloc (.cells #[.int .i64 e] 28)):=by kernel_rfl
theorem Tryz.elemOfT (w:World):(Rtype.elem? 110).run Tryz.prog w=.ok (some 28) w:=by kernel_rfl
theorem Tryz.mkE (p:Addr)(w:World):(ReflectliteValue.mk 28 p ReflectliteValue.flagAddr).run Tryz.prog w=.ok (.agg #[.pointer (some ⟨1,28,none⟩),.pointer (some p),.int .u64 386]) w:=by kernel_rfl
theorem Tryz.elemVT (a p:Addr)(W:World)(ha:W.cell? a=some (.pointer (some p))):
  (ReflectliteValue.method (ReflectliteValue.valueError "reflectlite.Value.Elem" 0) ReflectliteValue.elem #[.agg #[.pointer (some ⟨1, 110, none⟩), .pointer (some a), .int .u64 150]]).run Tryz.prog W
  =.ok (.agg #[.pointer (some ⟨1,28,none⟩),.pointer (some p),.int .u64 386]) W:=by
 rw[rlm]
 simp only[Sem.run_bind,Tryz.partsT,Result.andThen]
 simp[ReflectliteValue.elem,loadVar,isAgg,underlying,Tryz.underlying110,ha,Result.andThen,Tryz.elemOfT,Tryz.mkE]
theorem Tryz.partsEa (a:Addr)(w:World):(ReflectliteValue.parts (.agg #[.pointer (some ⟨1,28,none⟩),.pointer (some a),.int .u64 386])).run Tryz.prog w=.ok (some (28,a,386)) w:=by kernel_rfl
theorem Tryz.partsE (a:Addr)(w:World):(ReflectliteValue.parts (.agg #[.pointer (some ⟨1,28,none⟩),.pointer (some a),.int .u64 130])).run Tryz.prog w=.ok (some (28,a,130)) w:=by kernel_rfl
theorem Tryz.directE (w:World):(Rtype.directlyAssignable 28 28).run Tryz.prog w=.ok true w:=by kernel_rfl
theorem rls (v x:Value):∃ (A:Sem Value) (B E:TypeId->Addr->Nat->TypeId->Addr->Value->Sem Value),ReflectliteValue.set #[v,x]=(do
 let p <-ReflectliteValue.parts v
 let q <-ReflectliteValue.parts x
 match (p,q) with
 | (some (dst,a,fl),some (src,b,_))=>
  if (fl/ReflectliteValue.flagAddr%2 == 0)=true then B dst a fl src b (.tuple #[])
  else do
   let val <-loadVar src b
   let c <-Rtype.directlyAssignable dst src
   if c=true then do
    storeVar dst a val
    pure (.tuple #[])
   else E dst a fl src b val
 | _=>A):=⟨_,fun dst a fl src b _=>_,fun dst a fl src b val=>_,rfl⟩
theorem Tryz.setE (ta b:Addr)(e:Int)(old:Value)(W:World)(hb:W.cell? b=some (.int .i64 e))(ht:W.cell? ta=some old)(hf:W.frozen? ta=false):
  (ReflectliteValue.set #[.agg #[.pointer (some ⟨1,28,none⟩),.pointer (some ta),.int .u64 386],.agg #[.pointer (some ⟨1,28,none⟩),.pointer (some b),.int .u64 130]]).run Tryz.prog W
  =.ok (.tuple #[]) (W.setCell ta (.int .i64 e)):=by
 obtain⟨A,B,E,h⟩:=rls (.agg #[.pointer (some ⟨1,28,none⟩),.pointer (some ta),.int .u64 386]) (.agg #[.pointer (some ⟨1,28,none⟩),.pointer (some b),.int .u64 130])
 rw[h]
 clear h
 simp only[Sem.run_bind,Tryz.partsEa,Tryz.partsE,Result.andThen]
 simp[ReflectliteValue.flagAddr,loadVar,isAgg,underlying,Tryz.underlying28,hb,Result.andThen,Tryz.directE,storeVar,Value.cells,storeCells,Addr.add]
 rw[run_store Tryz.prog W ta _ _ (by rfl)]
 simp[ht,hf]
theorem as_hit (e:Int)(t:Addr)(old:Value)(w:World)(hg:w.cell? ⟨0,0,none⟩=some (.iface 196 (.agg #[.pointer (some ⟨1,32,none⟩)])))(ht0:w.cell? t=some old)(hf0:w.frozen? t=false):
  Calls Tryz.prog 92 #[.iface 28 (.int .i64 e),.iface 110 (.pointer (some t))] w fun ev w'=>ev=.returned (.bool true)/\w'=((((w.alloc (.cells #[.pointer (some t)] 110)).alloc (.cells #[.pointer (some ⟨1,110,none⟩),.pointer (some ⟨w.heap.size,0,none⟩),.int .u64 150] 141)).alloc (.cells #[.pointer (some ⟨1,110,none⟩),.pointer (some ⟨w.heap.size,0,none⟩),.int .u64 150] 141)).alloc (.cells #[.int .i64 e] 28)).setCell t (.int .i64 e):=by
 have h6:=@run_callFunc_extern Tryz.prog 148 _ (fun args=>ReflectliteValue.unpack (args.getD 0 (.tuple #[]))) Tryz.func148 (by kernel_rfl) (by kernel_rfl) (by kernel_rfl) (by kernel_rfl)
 have h7 := @run_callFunc_extern Tryz.prog 149 _ (ReflectliteValue.methodAny (ReflectliteValue.valueError "reflectlite.Value.Type" 0) (fun t _ _ _ => ReflectliteType.toType t)) Tryz.func149 (by kernel_rfl) (by kernel_rfl) (by kernel_rfl) (by kernel_rfl)
 have h8 := @run_callFunc_extern Tryz.prog 150 _ (ReflectliteValue.method (ReflectliteValue.valueError "reflectlite.Value.IsNil" 0) ReflectliteValue.isNil) Tryz.func150 (by kernel_rfl) (by kernel_rfl) (by kernel_rfl) (by kernel_rfl)
 have h27:=@run_callFunc_extern Tryz.prog 290 _ (ReflectliteType.abiMethod fun t=>do pure (.int .u8 (<-Rtype.kind t))) Tryz.func290 (by kernel_rfl) (by kernel_rfl) (by kernel_rfl) (by kernel_rfl)
 have h37:=@run_callFunc_extern Tryz.prog 300 _ (ReflectliteType.method ReflectliteType.elem) Tryz.func300 (by kernel_rfl) (by kernel_rfl) (by kernel_rfl) (by kernel_rfl)
 have h38 := @run_callFunc_extern Tryz.prog 301 _ (ReflectliteType.relation "Implements" ReflectliteType.implements_) Tryz.func301 (by kernel_rfl) (by kernel_rfl) (by kernel_rfl) (by kernel_rfl)
 have h10:=@run_callFunc_extern Tryz.prog 225 _ ReflectliteType.typeOf Tryz.func225 (by kernel_rfl) (by kernel_rfl) (by kernel_rfl) (by kernel_rfl)
 have h35 := @run_callFunc_extern Tryz.prog 298 _ (ReflectliteType.relation "AssignableTo" ReflectliteType.assignableTo) Tryz.func298 (by kernel_rfl) (by kernel_rfl) (by kernel_rfl) (by kernel_rfl)
 have h11 := @run_callFunc_extern Tryz.prog 226 _ (ReflectliteValue.method (ReflectliteValue.valueError "reflectlite.Value.Elem" 0) ReflectliteValue.elem) Tryz.func226 (by kernel_rfl) (by kernel_rfl) (by kernel_rfl) (by kernel_rfl)
 have h12:=@run_callFunc_extern Tryz.prog 227 _ ReflectliteValue.set Tryz.func227 (by kernel_rfl) (by kernel_rfl) (by kernel_rfl) (by kernel_rfl)
 have tO:=Tryz.typeOfE
 have mA:=Tryz.methodAssignableTo
 have a25:=Tryz.assignableE
 have v25:=Tryz.valueOfE
 have f6:=Tryz.valueOfT
 have f7:=Tryz.typeT
 have mK:=Tryz.methodKind
 have mE:=Tryz.methodElem
 have mI:=Tryz.methodImplements
 have k27:=Tryz.kindT
 have k25:=Tryz.kindE
 have e27:=Tryz.elemT
 have i25:=Tryz.implementsE
 have n8:=Tryz.isNilT ⟨w.heap.size,0,none⟩ t ((w.alloc (.cells #[.pointer (some t)] 110)).alloc (.cells #[.pointer (some ⟨1,110,none⟩),.pointer (some ⟨w.heap.size,0,none⟩),.int .u64 150] 141)) (by simp)
 have hlt:0<w.heap.size:=World.block_lt_of_cell? w _ hg
 have hg2:((w.alloc (.cells #[.pointer (some t)] 110)).alloc (.cells #[.pointer (some ⟨1,110,none⟩),.pointer (some ⟨w.heap.size,0,none⟩),.int .u64 150] 141)).cell? ⟨0,0,none⟩=some (.iface 196 (.agg #[.pointer (some ⟨1,32,none⟩)])):=by
  rw[World.cell?_alloc_lt _ _ ⟨0,0,none⟩ (by simp<;>omega),World.cell?_alloc_lt _ _ ⟨0,0,none⟩ hlt];exact hg
 have htl:t.block<w.heap.size:=by
  rcases Nat.lt_or_ge t.block w.heap.size with h | h
  ·exact h
  ·simp[World.cell?,Array.getElem?_eq_none h] at ht0
 have el:=Tryz.elemVT ⟨w.heap.size,0,none⟩ t (((w.alloc (.cells #[.pointer (some t)] 110)).alloc (.cells #[.pointer (some ⟨1,110,none⟩),.pointer (some ⟨w.heap.size,0,none⟩),.int .u64 150] 141)).alloc (.cells #[.pointer (some ⟨1,110,none⟩),.pointer (some ⟨w.heap.size,0,none⟩),.int .u64 150] 141)) (by rw[World.cell?_alloc_lt _ _ ⟨w.heap.size,0,none⟩ (by simp;omega)];simp)
 have st:=Tryz.setE t ⟨w.heap.size+1+1+1,0,none⟩ e old ((((w.alloc (.cells #[.pointer (some t)] 110)).alloc (.cells #[.pointer (some ⟨1,110,none⟩),.pointer (some ⟨w.heap.size,0,none⟩),.int .u64 150] 141)).alloc (.cells #[.pointer (some ⟨1,110,none⟩),.pointer (some ⟨w.heap.size,0,none⟩),.int .u64 150] 141)).alloc (.cells #[.int .i64 e] 28))
  (by rw[World.cell?_alloc_at _ _ _ _ (by simp)];rfl)
  (by rw[World.cell?_alloc_lt _ _ t (by simp;omega),World.cell?_alloc_lt _ _ t (by simp;omega),World.cell?_alloc_lt _ _ t (by simp;omega),World.cell?_alloc_lt _ _ t htl];exact ht0)
  (by rw[World.frozen?_alloc_old _ _ t (by simp;omega),World.frozen?_alloc_old _ _ t (by simp;omega),World.frozen?_alloc_old _ _ t (by simp;omega),World.frozen?_alloc_old _ _ t (Nat.ne_of_lt htl)];exact hf0)
 go_enter Tryz.func92,Tryz.ntmps92
 go_wp2
 refine wp_loop_rounds 1 ?_
 rw[rounds_succ]
 go_wp2
 go_ret
 exact⟨rfl,rfl⟩
end Go.Proofs.YtkmmkcpfhnifhaaGreatDoor
