/- What the program tells, in part. -/
import Derived.Test.YtkmmkcpfhnifhaaGreatDoorJ11
set_option linter.unusedVariables false
set_option maxHeartbeats 2000000
set_option maxRecDepth 100000
namespace Go.Proofs.YtkmmkcpfhnifhaaGreatDoor
open Go.RowKit
theorem anp_ok {e:Int}{c:Bool}{S D:List Int}{w w':World}{r:Ending}(he:e=0)(h:∃ xa xc ya yc,r=.returned (.tuple #[.agg #[.bool c,.slice xa S.length xc,.slice ya D.length yc],.nilIface])/\NewC w.heap.size w' xa S xc/\NewC w.heap.size w' ya D yc/\Below w.heap.size w w'):AnP (anE e c S D) w r w':=by
 subst he
 exact h
theorem anp_no {e:Int}{c:Bool}{S D:List Int}{w w':World}{r:Ending}(he:e≠0)(h:r=.returned (.tuple #[.agg #[.bool false,.slice none 0 0,.slice none 0 0],.iface 28 (.int .i64 e)])/\Below w.heap.size w w'):AnP (anE e c S D) w r w':=by
 rw[anE_no he,h.1]
 exact err0 he h.2
theorem cyc_one (dz:List Int)(h:dz.length=1)(d:Int):cyc dz 1 d=dz:=by
 match dz,h with
 | [x],_=>rfl
theorem rs16 (la:Option Addr)(lc:Nat)(l:List Int)(c:Bool)(sa:Option Addr)(sc:Nat)(sz:List Int)(da:Option Addr)(dc:Nat)(dz:List Int)(w:World)(hl:l.length<=4096)(hI:IsInts w.heap.size w la l)(hA:ArF w c sa sc sz da dc dz):
  Calls Tryz.prog 118 #[.slice la l.length lc,.agg #[.bool c,.slice sa sz.length sc,.slice da dz.length dc]] w (AnP (anE (errOf l) c l (cyc dz (prod l).toNat (fillE c))) w):=by
 by_cases h:errOf l=0
 ·have hp:=prod_nonneg (errOf_zero.1 h).2.1
  exact (reshape_c la lc l (prod l).toNat c sa sc sz da dc dz (by omega) hA.h1 hA.h2 w hI hA.1.1 hA.2.1.1 h (by omega) hA.2.2.2).mono fun _ _ k=>anp_ok h k
 ·exact (reshape_no1 la lc l c sa sc sz da dc dz (by omega) w hI h).mono fun _ _ k=>anp_no h k
theorem k_last (F:Nat)(cs:Array Value)(w:World):
  Calls Tryz.prog 100 #[.func (.func F) #[] cs] w fun r w'=>r=.returned (.func (.func 160) #[] #[.pointer (some ⟨w.heap.size,0,none⟩)])/\w'.cell? ⟨w.heap.size,0,none⟩=some (.func (.func F) #[] cs)/\Below w.heap.size w w':=by
 have hb:Hid (Below w.heap.size w (w.alloc (.cells #[.func (.func F) #[] cs] 115))):=(Below.refl _ w).alloc (Nat.le_refl _) _
 have hc:=box16 w (.func (.func F) #[] cs) 115
 go_enter Tryz.func100,Tryz.ntmps100
 go_wp2_with fail
 go_ret
 exact⟨rfl,box16 w _ _,hb.out⟩
theorem k_lines (F:Nat)(cs:Array Value)(w:World):
  Calls Tryz.prog 104 #[.func (.func F) #[] cs] w fun r w'=>r=.returned (.func (.func 166) #[] #[.pointer (some ⟨w.heap.size,0,none⟩)])/\w'.cell? ⟨w.heap.size,0,none⟩=some (.func (.func F) #[] cs)/\Below w.heap.size w w':=by
 have hb:Hid (Below w.heap.size w (w.alloc (.cells #[.func (.func F) #[] cs] 117))):=(Below.refl _ w).alloc (Nat.le_refl _) _
 have hc:=box16 w (.func (.func F) #[] cs) 117
 go_enter Tryz.func104,Tryz.ntmps104
 go_wp2_with fail
 go_ret
 exact⟨rfl,box16 w _ _,hb.out⟩
theorem k_num (F:Nat)(cs:Array Value)(w:World):
  Calls Tryz.prog 120 #[.func (.func F) #[] cs] w fun r w'=>r=.returned (.func (.func 190) #[] #[.pointer (some ⟨w.heap.size,0,none⟩)])/\w'.cell? ⟨w.heap.size,0,none⟩=some (.func (.func F) #[] cs)/\Below w.heap.size w w':=by
 have hb:Hid (Below w.heap.size w (w.alloc (.cells #[.func (.func F) #[] cs] 127))):=(Below.refl _ w).alloc (Nat.le_refl _) _
 have hc:=box16 w (.func (.func F) #[] cs) 127
 go_enter Tryz.func120,Tryz.ntmps120
 go_wp2_with fail
 go_ret
 exact⟨rfl,box16 w _ _,hb.out⟩
theorem k_list (F:Nat)(cs:Array Value)(w:World):
  Calls Tryz.prog 117 #[.func (.func F) #[] cs] w fun r w'=>r=.returned (.func (.func 184) #[] #[.pointer (some ⟨w.heap.size,0,none⟩)])/\w'.cell? ⟨w.heap.size,0,none⟩=some (.func (.func F) #[] cs)/\Below w.heap.size w w':=by
 have hb:Hid (Below w.heap.size w (w.alloc (.cells #[.func (.func F) #[] cs] 125))):=(Below.refl _ w).alloc (Nat.le_refl _) _
 have hc:=box16 w (.func (.func F) #[] cs) 125
 go_enter Tryz.func117,Tryz.ntmps117
 go_wp2_with fail
 go_ret
 exact⟨rfl,box16 w _ _,hb.out⟩
theorem fu_last {p:Nat}{v:Value}{W:World}{B:Int->A1}(hc:W.cell? ⟨p,0,none⟩=some v)(h:FuX v W B):Fu1 (.func (.func 160) #[] #[.pointer (some ⟨p,0,none⟩)]) W (lastA B):=by
 obtain⟨F,cs,rfl,hE,H⟩:=h
 refine⟨160,[.pointer (some ⟨p,0,none⟩)],rfl,(enters_of Tryz.func160 (by kernel_rfl) rfl),fun c sa sc sz da dc dz w hB hA=>?_⟩
 have hp:=cell_to16 hB hc
 by_cases h0:sz.length=0
 ·have h1:=one_cell hA.2.2.2 h0
  obtain rfl:=List.length_eq_zero_iff.1 h0
  refine b_none (lastA B c [] dz) p _ c sa sc da dc dz w hp fun w' hB'=>(rs16 none 0 [] c sa sc [] da dc dz w' (by simp) (.inl rfl) (hA.go hB')).mono fun _ _ k=>?_
  have e:anE (errOf []) c [] (cyc dz (prod []).toNat (fillE c))=lastA B c [] dz:=by
   rw[show errOf []=0 by decide,anE_ok rfl,show (prod []).toNat=1 from rfl,cyc_one dz h1];rfl
  rw[e] at k
  exact k
 ·refine b_last (lastA B c sz dz) p F cs hE c sa sc sz da dc dz w hp hA.s6.1 h0 fun w' hB'=>?_
  rw[show lastA B c sz dz=B ((sz.length:Int)-1) c sz dz by unfold lastA;rw[if_neg h0]]
  exact H _ c sa sc sz da dc dz w' (hB.trans (hB'.mono hB.size)) rfl h0 (hA.go hB')
theorem mk_last (B:Int->A1)(v:Value)(w:World)(h:FuX v w B):Calls Tryz.prog 100 #[v] w (Mk1 (lastA B) w):=by
 have h':=h
 obtain⟨F,cs,rfl,_,_⟩:=h'
 exact (k_last F _ w).mono fun _ _ ⟨e,hc,hB⟩=>⟨_,e,fu_last hc (h.go hB),hB⟩
def FuG (v:Value)(W:World)(E:Bool->List Int->List Int->Int)(L:Bool->List Int->List Int->List Int):Prop:=∃ (F:Nat) (cs:List Value),v=.func (.func F) #[] cs.toArray/\En F/\∀ (c:Bool) (sa:Option Addr) (sc:Nat) (sz:List Int) (da:Option Addr) (dc:Nat) (dz:List Int) (w:World),Below W.heap.size W w->ArF w c sa sc sz da dc dz->Calls Tryz.prog F (.agg #[.bool c,.slice sa sz.length sc,.slice da dz.length dc]::cs).toArray w (UL (E c sz dz) (L c sz dz) w)
theorem fu_lines {p:Nat}{v:Value}{W:World}{E:Bool->List Int->List Int->Int}{L:Bool->List Int->List Int->List Int}{A:A1}(hc:W.cell? ⟨p,0,none⟩=some v)(h:FuG v W E L)(hA:∀ c sz dz,A c sz dz=if E c sz dz=0 then anA false [((L c sz dz).length:Int)] (L c sz dz) else anN (E c sz dz)):Fu1 (.func (.func 166) #[] #[.pointer (some ⟨p,0,none⟩)]) W A:=by
 obtain⟨F,cs,rfl,hE,H⟩:=h
 refine⟨166,[.pointer (some ⟨p,0,none⟩)],rfl,(enters_of Tryz.func166 (by kernel_rfl) rfl),fun c sa sc sz da dc dz w hB hA'=>?_⟩
 have hp:=cell_to16 hB hc
 rw[hA]
 have HH:∀ w',Below w.heap.size w w'->Calls Tryz.prog F (.agg #[.bool c,.slice sa sz.length sc,.slice da dz.length dc]::cs).toArray w' (UL (E c sz dz) (L c sz dz) w'):=fun w' hB'=>H c sa sc sz da dc dz w' (hB.trans (hB'.mono hB.size)) (hA'.go hB')
 by_cases h0:E c sz dz=0
 ·rw[if_pos h0]
  exact b_lines p _ _ F cs hE c sa sc sz da dc dz w hp h0 HH
 ·rw[if_neg h0]
  exact b_linesn p _ _ F cs hE c sa sc sz da dc dz w hp h0 HH
theorem fu_list {p:Nat}{v:Value}{W:World}{B:List Int->A1}(hc:W.cell? ⟨p,0,none⟩=some v)(h:FuL v W B):Fu2 (.func (.func 184) #[] #[.pointer (some ⟨p,0,none⟩)]) W (byL B):=by
 obtain⟨F,cs,rfl,hE,H⟩:=h
 refine⟨184,[.pointer (some ⟨p,0,none⟩)],rfl,(enters_of Tryz.func184 (by kernel_rfl) rfl),fun c sa sc sz da dc dz c' sa' sc' sz' da' dc' dz' w hB hA hA'=>?_⟩
 have hp:=cell_to16 hB hc
 unfold byL
 by_cases h0:lstE c sz=0
 ·rw[if_pos h0]
  exact b_list _ p F cs hE c sa sc sz da dc dz c' sa' sc' sz' da' dc' dz' w hp h0 fun w' hB'=>H da dc dz c' sa' sc' sz' da' dc' dz' w' (hB.trans (hB'.mono hB.size)) (hA.go hB').2.1 hA.2.2.1 hA.s6.2 (hA'.go hB')
 ·rw[if_neg h0]
  exact b_listn p _ c sa sc sz da dc dz c' sa' sc' sz' da' dc' dz' w hp h0 hA.s6.1
theorem mk_list (B:List Int->A1)(v:Value)(w:World)(h:FuL v w B):Calls Tryz.prog 117 #[v] w (Mk2 (byL B) w):=by
 have h':=h
 obtain⟨F,cs,rfl,_,_⟩:=h'
 exact (k_list F _ w).mono fun _ _ ⟨e,hc,hB⟩=>⟨_,e,fu_list hc (h.go hB),hB⟩
theorem fu_mask {p:Nat}{v:Value}{W:World}{B:List Int->Int->A1}(hc:W.cell? ⟨p,0,none⟩=some v)(h:FuM v W B):FuL (.func (.func 207) #[] #[.pointer (some ⟨p,0,none⟩)]) W (fun m c sz dz=>if sz.length=0 then anN 3 else B m ((sz.length:Int)-1) c sz dz):=by
 obtain⟨F,cs,rfl,hE,H⟩:=h
 refine⟨207,[.pointer (some ⟨p,0,none⟩)],rfl,(enters_of Tryz.func207 (by kernel_rfl) rfl),fun la lc l c sa sc sz da dc dz w hB hl T hl4 hA=>?_⟩
 have hp:=cell_to16 hB hc
 show Calls Tryz.prog _ _ w (AnP (if sz.length=0 then anN 3 else B l ((sz.length:Int)-1) c sz dz) w)
 by_cases h0:sz.length=0
 ·rw[if_pos h0]
  exact b_maskn p _ la lc l.length c sa sc sz da dc dz w hp h0
 ·rw[if_neg h0]
  exact b_mask _ p la lc l.length F cs hE c sa sc sz da dc dz w hp hA.s6.1 h0 fun w' hB'=>H la lc l _ c sa sc sz da dc dz w' (hB.trans (hB'.mono hB.size)) ((hl.below hB').mono hB'.size) T hl4 rfl h0 (hA.go hB')
theorem mk_mask (B:List Int->Int->A1)(v:Value)(w:World)(h:FuM v w B):Calls Tryz.prog 132 #[v] w (Mk2 (byM B) w):=by
 have h':=h
 obtain⟨F,cs,rfl,_,_⟩:=h'
 have hb:Hid (Below w.heap.size w (w.alloc (.cells #[.func (.func F) #[] cs.toArray] 129))):=(Below.refl _ w).alloc (Nat.le_refl _) _
 have HC:Hid (Calls Tryz.prog 117 #[.func (.func 207) #[] #[.pointer (some ⟨w.heap.size,0,none⟩)]] (w.alloc (.cells #[.func (.func F) #[] cs.toArray] 129)) (Mk2 (byM B) (w.alloc (.cells #[.func (.func F) #[] cs.toArray] 129)))):=mk_list _ _ _ (fu_mask (box16 w _ _) (h.go hb.out))
 clear h
 go_enter Tryz.func132,Tryz.ntmps132
 go_wp2_with fail
 refine HC.mono ?_
 rintro e w1 ⟨u,rfl,hU,hB⟩
 have HU:Hid (Fu2 u w1 (byM B)/\Below w.heap.size w w1):=⟨hU,hb.trans (hB.mono hb.size)⟩
 obtain⟨F2,cs2,rfl,_,_⟩:=hU
 clear hB HC
 go_wp2_with fail
 go_ret
 exact⟨_,rfl,HU.out⟩
theorem fu_num2 {p q:Nat}{v:Value}{n:Int}{W:World}{B:Int->Int->A1}(hc:W.cell? ⟨p,0,none⟩=some v)(hq:W.cell? ⟨q,0,none⟩=some (.int .i64 n))(hn:In64 n)(h:FuN v W B):FuX (.func (.func 191) #[] #[.pointer (some ⟨p,0,none⟩),.pointer (some ⟨q,0,none⟩)]) W (B n):=by
 obtain⟨F,cs,rfl,hE,H⟩:=h
 exact⟨191,[.pointer (some ⟨p,0,none⟩),.pointer (some ⟨q,0,none⟩)],rfl,(enters_of Tryz.func191 (by kernel_rfl) rfl),fun x c sa sc sz da dc dz w hB hx h0 hA=>b_num2 _ n x p q F cs hE c sa sc sz da dc dz w (cell_to16 hB hc) (cell_to16 hB hq) fun w' hB'=>H n x c sa sc sz da dc dz w' (hB.trans (hB'.mono hB.size)) hn hx h0 (hA.go hB')⟩
theorem b_num (B:Int->Int->A1)(p:Nat)(v:Value)(c:Bool)(sa:Option Addr)(sc:Nat)(sz:List Int)(da:Option Addr)(dc:Nat)(dz:List Int)(c':Bool)(sa':Option Addr)(sc':Nat)(sz':List Int)(da':Option Addr)(dc':Nat)(dz':List Int)(w:World)(hp:w.cell? ⟨p,0,none⟩=some (v))(hv:FuN v w B)(h:numE c sz=0)(hA:ArF w c sa sc sz da dc dz)(hA':ArF w c' sa' sc' sz' da' dc' dz'):
  Calls Tryz.prog 190 #[.agg #[.bool c,.slice sa sz.length sc,.slice da dz.length dc],.agg #[.bool c',.slice sa' sz'.length sc',.slice da' dz'.length dc'],.pointer (some ⟨p,0,none⟩)] w (AnP (lastA (B (nth dz 0)) c' sz' dz') w):=by
 have HV:Hid (FuN v w B):=hv
 have HA:Hid (ArF w c sa sc sz da dc dz/\ArF w c' sa' sc' sz' da' dc' dz'):=⟨hA,hA'⟩
 have h':Hid (numE c sz=0):=h
 clear hv h hA hA'
 obtain⟨n,hn⟩:∃ n,n=nth dz 0:=⟨_,rfl⟩
 have HN:Hid (n=nth dz 0):=hn
 rw[<-hn]
 clear hn
 obtain⟨A,hAe⟩:∃ A,lastA (B n) c' sz' dz'=A:=⟨_,rfl⟩
 have HAE:Hid (lastA (B n) c' sz' dz'=A):=hAe
 rw[hAe]
 clear hAe
 obtain⟨hb,pa,pb,pr⟩:=ent2 w (.bool c) (.slice sa sz.length sc) (.slice da dz.length dc) (.bool c') (.slice sa' sz'.length sc') (.slice da' dz'.length dc')
 have a0:=pa.c0
 have a1:=pa.c1
 have a2:=pa.c2
 have hz0:=hb.size
 have hlt0:=pr.lt
 replace hp:=cell_to16 hb.out hp
 go_enter Tryz.func190,Tryz.ntmps190
 go_wp2_with fail
 refine (nmb_ok c sa sc sz da dc dz h'.out HA.1.2.2.2 _ (goI16 HA.1.2.1.1 hb.out)).mono ?_
 rintro e v1 ⟨rfl,hB⟩
 have hz1:=hB.size
 replace pa:=goA16 pa hB
 replace pb:=goA16 pb hB
 replace pr:=goA16 pr hB
 replace hb:=goB16 hb hB
 replace hp:=cell_to16 hB hp
 clear hB
 rw[<-HN.out]
 clear pa
 clear a0 a1 a2
 go_wp2_with fail
 have hB:Hid (Below v1.heap.size v1 (v1.alloc (.cells #[.int .i64 n] 3))):=(Below.refl _ v1).alloc (Nat.le_refl _) _
 have hq:=box16 v1 (.int .i64 n) 3
 obtain⟨v2,h2⟩:∃ v2,v2=v1.alloc (.cells #[.int .i64 n] 3):=⟨_,rfl⟩
 rw[<-h2] at hB hq ⊢
 obtain⟨q,hqe⟩:∃ q,q=v1.heap.size:=⟨_,rfl⟩
 rw[<-hqe] at hq ⊢
 replace pr:=goA16 pr hB.out
 replace pb:=goA16 pb hB.out
 replace hb:=goB16 hb hB.out
 replace hp:=cell_to16 hB.out hp
 clear hB h2 hqe
 refine (mk_last (B n) _ v2 (fu_num2 hp hq (by rw[HN.out];exact HA.1.2.2.1 0) (HV.go hb.out))).mono ?_
 rintro e v3 ⟨u,rfl,hU,hB⟩
 replace pr:=goA16 pr hB
 replace pb:=goA16 pb hB
 replace hb:=goB16 hb hB
 clear hB hp hq
 obtain⟨F2,cs2,rfl,hE2,H2⟩:=hU
 have hE:∀ args w,(callFunc F2 args).run Tryz.prog w=.ok (.enter F2 args) w:=hE2
 clear hE2
 have HC:Hid (Calls Tryz.prog F2 (.agg #[.bool c',.slice sa' sz'.length sc',.slice da' dz'.length dc']::cs2).toArray v3 (AnP A v3)):=by rw[<-HAE.out];exact H2 c' sa' sc' sz' da' dc' dz' v3 (Below.refl _ _) (HA.2.go hb.out)
 clear H2 HN
 have b0:=pb.c0
 have b1:=pb.c1
 have b2:=pb.c2
 go_wp2_with fail
 refine HC.mono ?_
 clear HC
 clear b0 b1 b2
 intro e v9 hU
 obtain⟨xa,xc,ya,yc,E,rfl,HU⟩:=hU.out16
 clear hU
 have hz9:=HU.2.2.2.size
 have hlt:=pr.lt
 have HW:=HU.2
 replace pr:=goA16 pr HU.2.2.2
 have r0:=pr.c0
 have r1:=pr.c1
 have r2:=pr.c2
 have f0:=pr.fr 0
 have f1:=pr.fr 1
 have f2:=pr.fr 2
 go_wp2_with fail
 have FF:=pr.set3 (.bool A.c) (.slice xa A.s.length xc) (.slice ya A.d.length yc)
 have q0:=FF.c0
 have q1:=FF.c1
 have q2:=FF.c2
 exact bodyPost_ret (v:=.tuple #[.agg #[.bool A.c,.slice xa A.s.length xc,.slice ya A.d.length yc],E]) (by simp[results,Tryz.results190,go_sem,q0,q1,q2]) rfl (ret16 (A:=A) (by omega) hlt hb.out HU.2.1 HU.2.2.1 HU.2.2.2 HU.1 _ _ _)
theorem b_numn (p:Nat)(v:Value)(c:Bool)(sa:Option Addr)(sc:Nat)(sz:List Int)(da:Option Addr)(dc:Nat)(dz:List Int)(c':Bool)(sa':Option Addr)(sc':Nat)(sz':List Int)(da':Option Addr)(dc':Nat)(dz':List Int)(w:World)(hp:w.cell? ⟨p,0,none⟩=some (v))(h:numE c sz≠0)(h6:sz.length<=6):
  Calls Tryz.prog 190 #[.agg #[.bool c,.slice sa sz.length sc,.slice da dz.length dc],.agg #[.bool c',.slice sa' sz'.length sc',.slice da' dz'.length dc'],.pointer (some ⟨p,0,none⟩)] w (AnP (anN (numE c sz)) w):=by
 have h':Hid (numE c sz≠0):=h
 clear h
 obtain⟨hb,pa,pb,pr⟩:=ent2 w (.bool c) (.slice sa sz.length sc) (.slice da dz.length dc) (.bool c') (.slice sa' sz'.length sc') (.slice da' dz'.length dc')
 have a0:=pa.c0
 have a1:=pa.c1
 have a2:=pa.c2
 have hz0:=hb.size
 have hlt0:=pr.lt
 go_enter Tryz.func190,Tryz.ntmps190
 go_wp2_with fail
 refine (nmb_no c sa sc sz da dc dz h'.out h6 _).mono ?_
 rintro e v1 ⟨rfl,hB⟩
 have hz1:=hB.size
 replace pa:=goA16 pa hB
 replace pb:=goA16 pb hB
 replace pr:=goA16 pr hB
 replace hb:=goB16 hb hB
 clear hB
 clear a0 a1 a2
 have hB:Hid (Below v1.heap.size v1 (v1.alloc (.cells #[.int .i64 0] 3))):=(Below.refl _ v1).alloc (Nat.le_refl _) _
 replace pr:=goA16 pr hB.out
 replace hb:=goB16 hb hB.out
 have r0:=pr.c0
 have r1:=pr.c1
 have r2:=pr.c2
 have f0:=pr.fr 0
 have f1:=pr.fr 1
 have f2:=pr.fr 2
 go_wp2_with fail
 have FF:=pr.set3 (.bool false) (.slice none 0 0) (.slice none 0 0)
 have q0:=FF.c0
 have q1:=FF.c1
 have q2:=FF.c2
 exact bodyPost_ret (v:=.tuple #[.agg #[.bool false,.slice none 0 0,.slice none 0 0],.iface 28 (.int .i64 (numE c sz))]) (by simp[results,Tryz.results190,go_sem,q0,q1,q2]) rfl (err16 rfl h'.out (by omega) hb.out _ _ _)
theorem fu_num {p:Nat}{v:Value}{W:World}{B:Int->Int->A1}(hc:W.cell? ⟨p,0,none⟩=some v)(h:FuN v W B):Fu2 (.func (.func 190) #[] #[.pointer (some ⟨p,0,none⟩)]) W (byN fun n=>lastA (B n)):=by
 refine⟨190,[.pointer (some ⟨p,0,none⟩)],rfl,(enters_of Tryz.func190 (by kernel_rfl) rfl),fun c sa sc sz da dc dz c' sa' sc' sz' da' dc' dz' w hB hA hA'=>?_⟩
 have hp:=cell_to16 hB hc
 unfold byN
 by_cases h0:numE c sz=0
 ·rw[if_pos h0]
  exact b_num B p v c sa sc sz da dc dz c' sa' sc' sz' da' dc' dz' w hp (h.go hB) h0 hA hA'
 ·rw[if_neg h0]
  exact b_numn p v c sa sc sz da dc dz c' sa' sc' sz' da' dc' dz' w hp h0 hA.s6.1
theorem mk_num (B:Int->Int->A1)(v:Value)(w:World)(h:FuN v w B):Calls Tryz.prog 120 #[v] w (Mk2 (byN fun n=>lastA (B n)) w):=by
 have h':=h
 obtain⟨F,cs,rfl,_,_⟩:=h'
 exact (k_num F _ w).mono fun _ _ ⟨e,hc,hB⟩=>⟨_,e,fu_num hc (h.go hB),hB⟩
def P1 (f:Int)(c:Bool)(sz dz:List Int)(w:World)(e:Ending)(w':World):Prop:=
 (e1E f c sz dz≠0/\e=.returned (.tuple #[.agg #[.bool false,.slice none 0 0,.slice none 0 0],.iface 28 (.int .i64 (e1E f c sz dz))])/\Below w.heap.size w w') ∨
 (e1E f c sz dz=0/\∃ xa xc ya yc,e=.returned (.tuple #[.agg #[.bool false,.slice xa sz.length xc,.slice ya (e1V f dz).length yc],.nilIface])/\NewInts w.heap.size w' xa sz/\NewInts w.heap.size w' ya (e1V f dz)/\Below w.heap.size w w')
theorem P1.no {f:Int}{c:Bool}{sz dz:List Int}{w w':World}{e:Int}(h:e1E f c sz dz=e)(h0:e≠0)(hB:Below w.heap.size w w'):P1 f c sz dz w (.returned (.tuple #[.agg #[.bool false,.slice none 0 0,.slice none 0 0],.iface 28 (.int .i64 e)])) w':=by
 subst h;exact .inl ⟨h0,rfl,hB⟩
def P2 (f:Int)(c:Bool)(sz dz:List Int)(c':Bool)(sz' dz':List Int)(w:World)(e:Ending)(w':World):Prop:=
 (e2E f c sz dz c' sz' dz'≠0/\e=.returned (.tuple #[.agg #[.bool false,.slice none 0 0,.slice none 0 0],.iface 28 (.int .i64 (e2E f c sz dz c' sz' dz'))])/\Below w.heap.size w w') ∨
 (e2E f c sz dz c' sz' dz'=0/\∃ xa xc ya yc,e=.returned (.tuple #[.agg #[.bool false,.slice xa (shp sz sz').length xc,.slice ya (e2V f c sz dz c' sz' dz').length yc],.nilIface])/\NewInts w.heap.size w' xa (shp sz sz')/\NewInts w.heap.size w' ya (e2V f c sz dz c' sz' dz')/\Below w.heap.size w w')
theorem P2.no {f:Int}{c:Bool}{sz dz:List Int}{c':Bool}{sz' dz':List Int}{w w':World}{e:Int}(h:e2E f c sz dz c' sz' dz'=e)(h0:e≠0)(hB:Below w.heap.size w w'):P2 f c sz dz c' sz' dz' w (.returned (.tuple #[.agg #[.bool false,.slice none 0 0,.slice none 0 0],.iface 28 (.int .i64 e)])) w':=by
 subst h;exact .inl ⟨h0,rfl,hB⟩
def C1:Prop:=∀ (f:Int) (c:Bool) (sa:Option Addr) (sc:Nat) (sz:List Int) (da:Option Addr) (dc:Nat) (dz:List Int) (w:World),In64 f->sz.length<=9223372036854775807->dz.length<=9223372036854775807->IsInts w.heap.size w sa sz->IsInts w.heap.size w da dz->(∀ j,In64 (nth dz j)) →
 Calls Tryz.prog 97 #[.int .i64 f,.agg #[.bool c,.slice sa sz.length sc,.slice da dz.length dc]] w fun e w'=>P1 f c sz dz w e w'
def C2:Prop:=∀ (f:Int) (c:Bool) (sa:Option Addr) (sc:Nat) (sz:List Int) (da:Option Addr) (dc:Nat) (dz:List Int) (c':Bool) (sa':Option Addr) (sc':Nat) (sz':List Int) (da':Option Addr) (dc':Nat) (dz':List Int) (w:World),In64 f->sz.length<=9223372036854775807->dz.length<=9223372036854775807->sz'.length<=9223372036854775807->dz'.length<=9223372036854775807 →
 IsInts w.heap.size w sa sz->IsInts w.heap.size w da dz->IsInts w.heap.size w sa' sz'->IsInts w.heap.size w da' dz'->(∀ j,In64 (nth dz j))->(∀ j,In64 (nth dz' j)) →
 Calls Tryz.prog 213 #[.int .i64 f,.agg #[.bool c,.slice sa sz.length sc,.slice da dz.length dc],.agg #[.bool c',.slice sa' sz'.length sc',.slice da' dz'.length dc']] w fun e w'=>P2 f c sz dz c' sz' dz' w e w'
def P2c (f:Int)(c:Bool)(sz dz:List Int)(c':Bool)(sz' dz':List Int)(w:World)(e:Ending)(w':World):Prop:=
 (e2E f c sz dz c' sz' dz'≠0/\e=.returned (.tuple #[.agg #[.bool false,.slice none 0 0,.slice none 0 0],.iface 28 (.int .i64 (e2E f c sz dz c' sz' dz'))])/\Below w.heap.size w w') ∨
 (e2E f c sz dz c' sz' dz'=0/\∃ xa xc ya yc,e=.returned (.tuple #[.agg #[.bool false,.slice xa (shp sz sz').length xc,.slice ya (e2V f c sz dz c' sz' dz').length yc],.nilIface])/\NewC w.heap.size w' xa (shp sz sz') xc/\NewInts w.heap.size w' ya (e2V f c sz dz c' sz' dz')/\Below w.heap.size w w')
theorem P2c.no {f:Int}{c:Bool}{sz dz:List Int}{c':Bool}{sz' dz':List Int}{w w':World}{e:Int}(h:e2E f c sz dz c' sz' dz'=e)(h0:e≠0)(hB:Below w.heap.size w w'):P2c f c sz dz c' sz' dz' w (.returned (.tuple #[.agg #[.bool false,.slice none 0 0,.slice none 0 0],.iface 28 (.int .i64 e)])) w':=by
 subst h;exact .inl ⟨h0,rfl,hB⟩
def P2d (f:Int)(c:Bool)(sz dz:List Int)(c':Bool)(sz' dz':List Int)(w:World)(e:Ending)(w':World):Prop:=
 (e2E f c sz dz c' sz' dz'≠0/\e=.returned (.tuple #[.agg #[.bool false,.slice none 0 0,.slice none 0 0],.iface 28 (.int .i64 (e2E f c sz dz c' sz' dz'))])/\Below w.heap.size w w') ∨
 (e2E f c sz dz c' sz' dz'=0/\∃ xa xc ya yc,e=.returned (.tuple #[.agg #[.bool false,.slice xa (shp sz sz').length xc,.slice ya (e2V f c sz dz c' sz' dz').length yc],.nilIface])/\NewC w.heap.size w' xa (shp sz sz') xc/\NewC w.heap.size w' ya (e2V f c sz dz c' sz' dz') yc/\Below w.heap.size w w')
theorem P2d.no {f:Int}{c:Bool}{sz dz:List Int}{c':Bool}{sz' dz':List Int}{w w':World}{e:Int}(h:e2E f c sz dz c' sz' dz'=e)(h0:e≠0)(hB:Below w.heap.size w w'):P2d f c sz dz c' sz' dz' w (.returned (.tuple #[.agg #[.bool false,.slice none 0 0,.slice none 0 0],.iface 28 (.int .i64 e)])) w':=by
 subst h;exact .inl ⟨h0,rfl,hB⟩
def C2d:Prop:=∀ (f:Int) (c:Bool) (sa:Option Addr) (sc:Nat) (sz:List Int) (da:Option Addr) (dc:Nat) (dz:List Int) (c':Bool) (sa':Option Addr) (sc':Nat) (sz':List Int) (da':Option Addr) (dc':Nat) (dz':List Int) (w:World),In64 f->sz.length<=9223372036854775807->dz.length<=9223372036854775807->sz'.length<=9223372036854775807->dz'.length<=9223372036854775807 →
 IsInts w.heap.size w sa sz->IsInts w.heap.size w da dz->IsInts w.heap.size w sa' sz'->IsInts w.heap.size w da' dz'->(∀ j,In64 (nth dz j))->(∀ j,In64 (nth dz' j)) →
 Calls Tryz.prog 213 #[.int .i64 f,.agg #[.bool c,.slice sa sz.length sc,.slice da dz.length dc],.agg #[.bool c',.slice sa' sz'.length sc',.slice da' dz'.length dc']] w fun e w'=>P2d f c sz dz c' sz' dz' w e w'
def C2c:Prop:=∀ (f:Int) (c:Bool) (sa:Option Addr) (sc:Nat) (sz:List Int) (da:Option Addr) (dc:Nat) (dz:List Int) (c':Bool) (sa':Option Addr) (sc':Nat) (sz':List Int) (da':Option Addr) (dc':Nat) (dz':List Int) (w:World),In64 f->sz.length<=9223372036854775807->dz.length<=9223372036854775807->sz'.length<=9223372036854775807->dz'.length<=9223372036854775807 →
 IsInts w.heap.size w sa sz->IsInts w.heap.size w da dz->IsInts w.heap.size w sa' sz'->IsInts w.heap.size w da' dz'->(∀ j,In64 (nth dz j))->(∀ j,In64 (nth dz' j)) →
 Calls Tryz.prog 213 #[.int .i64 f,.agg #[.bool c,.slice sa sz.length sc,.slice da dz.length dc],.agg #[.bool c',.slice sa' sz'.length sc',.slice da' dz'.length dc']] w fun e w'=>P2c f c sz dz c' sz' dz' w e w'
theorem C2d.c (H:C2d):C2c:=fun f c sa sc sz da dc dz c' sa' sc' sz' da' dc' dz' w hf h1 h2 h3 h4 h5 h6 h7 h8 h9 h10=>
 (H f c sa sc sz da dc dz c' sa' sc' sz' da' dc' dz' w hf h1 h2 h3 h4 h5 h6 h7 h8 h9 h10).mono fun e w' h=>h.elim .inl (fun ⟨h0,xa,xc,ya,yc,he,hX,hY,hB⟩=>.inr ⟨h0,xa,xc,ya,yc,he,hX,hY.1,hB⟩)
theorem C2c.plain (H:C2c):C2:=fun f c sa sc sz da dc dz c' sa' sc' sz' da' dc' dz' w hf h1 h2 h3 h4 h5 h6 h7 h8 h9 h10=>
 (H f c sa sc sz da dc dz c' sa' sc' sz' da' dc' dz' w hf h1 h2 h3 h4 h5 h6 h7 h8 h9 h10).mono fun e w' h=>h.elim .inl (fun ⟨h0,xa,xc,ya,yc,he,hX,hY,hB⟩=>.inr ⟨h0,xa,xc,ya,yc,he,hX.1,hY,hB⟩)
end Go.Proofs.YtkmmkcpfhnifhaaGreatDoor
