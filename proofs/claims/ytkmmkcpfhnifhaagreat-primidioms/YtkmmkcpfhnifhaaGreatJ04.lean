/- What the program tells, in part. -/
import Derived.Test.YtkmmkcpfhnifhaaGreatJ03
import Derived.Laws.EntriesVeiled
import Derived.Laws.CopyOwn
import Derived.Deep.DeepCutAuto
set_option linter.unusedVariables false
set_option maxHeartbeats 2000000
set_option maxRecDepth 100000
namespace Go.Proofs.YtkmmkcpfhnifhaaGreat
open Go.RowKit
theorem AnP.out16 {A:An}{w w':World}{r:Ending}(h:AnP A w r w'):∃ xa xc ya yc E,r=.returned (.tuple #[.agg #[.bool A.c,.slice xa A.s.length xc,.slice ya A.d.length yc],E])/\Hid (errV A.e=E/\NewC w.heap.size w' xa A.s xc/\NewC w.heap.size w' ya A.d yc/\Below w.heap.size w w'):=by
 obtain⟨xa,xc,ya,yc,rfl,hX,hY,hB⟩:=h
 exact⟨xa,xc,ya,yc,_,rfl,rfl,hX,hY,hB⟩
theorem b_last (A:An)(p:Nat)(F:Nat)(cs:List Value)(hE:∀ args w,(callFunc F args).run Tryz.prog w=.ok (.enter F args) w)(c:Bool)(sa:Option Addr)(sc:Nat)(sz:List Int)(da:Option Addr)(dc:Nat)(dz:List Int)(w:World)(hp:w.cell? ⟨p,0,none⟩=some (.func (.func F) #[] cs.toArray))(h6:sz.length<=6)(h0:sz.length≠0)(H:∀ w',Below w.heap.size w w'->Calls Tryz.prog F (.int .i64 ((sz.length:Int)-1)::.agg #[.bool c,.slice sa sz.length sc,.slice da dz.length dc]::cs).toArray w' (AnP A w')):
  Calls Tryz.prog 99 #[.agg #[.bool c,.slice sa sz.length sc,.slice da dz.length dc],.pointer (some ⟨p,0,none⟩)] w (AnP A w):=by
 obtain⟨hb,pa,pr⟩:=ent1 w (.bool c) (.slice sa sz.length sc) (.slice da dz.length dc)
 have p0:=pa.c0
 have p1:=pa.c1
 have p2:=pa.c2
 replace hp:=cell_to16 hb.out hp
 have HC:Hid (Calls Tryz.prog F (.int .i64 ((sz.length:Int)-1)::.agg #[.bool c,.slice sa sz.length sc,.slice da dz.length dc]::cs).toArray ((w.alloc (.cells #[.bool c,.slice sa sz.length sc,.slice da dz.length dc] 24)).alloc (.cells #[.bool false,.slice none 0 0,.slice none 0 0] 24)) (AnP A ((w.alloc (.cells #[.bool c,.slice sa sz.length sc,.slice da dz.length dc] 24)).alloc (.cells #[.bool false,.slice none 0 0,.slice none 0 0] 24)))):=H _ hb.out
 clear H
 have t0:((sz.length:Int) == 0)=false:=beq_eq_false_iff_ne.2 (by omega)
 go_enter Tryz.func99,Tryz.ntmps99
 go_wp2_with fail
 refine HC.mono ?_
 clear HC
 intro e v1 hU
 obtain⟨xa,xc,ya,yc,E,rfl,HU⟩:=hU.out16
 clear hU
 have HR:Hid (Abx v1 _ (.bool false) (.slice none 0 0) (.slice none 0 0)):=pr.go HU.2.2.2
 have r0:=HR.c0
 have r1:=HR.c1
 have r2:=HR.c2
 have f0:=HR.fr 0
 have f1:=HR.fr 1
 have f2:=HR.fr 2
 go_wp2_with fail
 have FF:=HR.set3 (.bool A.c) (.slice xa A.s.length xc) (.slice ya A.d.length yc)
 have q0:=FF.c0
 have q1:=FF.c1
 have q2:=FF.c2
 exact bodyPost_ret (v:=.tuple #[.agg #[.bool A.c,.slice xa A.s.length xc,.slice ya A.d.length yc],E]) (by simp[results,Tryz.results99,go_sem,q0,q1,q2]) rfl (ret16 (A:=A) (by omega) pr.lt hb.out HU.2.1 HU.2.2.1 HU.2.2.2 HU.1 _ _ _)
theorem b_none (A:An)(p:Nat)(v:Value)(c:Bool)(sa:Option Addr)(sc:Nat)(da:Option Addr)(dc:Nat)(dz:List Int)(w:World)(hp:w.cell? ⟨p,0,none⟩=some (v))(H:∀ w',Below w.heap.size w w'->Calls Tryz.prog 63 #[.slice none 0 0,.agg #[.bool c,.slice sa 0 sc,.slice da dz.length dc]] w' (AnP A w')):
  Calls Tryz.prog 99 #[.agg #[.bool c,.slice sa 0 sc,.slice da dz.length dc],.pointer (some ⟨p,0,none⟩)] w (AnP A w):=by
 obtain⟨hb,pa,pr⟩:=ent1 w (.bool c) (.slice sa 0 sc) (.slice da dz.length dc)
 have p0:=pa.c0
 have p1:=pa.c1
 have p2:=pa.c2
 replace hp:=cell_to16 hb.out hp
 have HC:Hid (Calls Tryz.prog 63 #[.slice none 0 0,.agg #[.bool c,.slice sa 0 sc,.slice da dz.length dc]] ((w.alloc (.cells #[.bool c,.slice sa 0 sc,.slice da dz.length dc] 24)).alloc (.cells #[.bool false,.slice none 0 0,.slice none 0 0] 24)) (AnP A ((w.alloc (.cells #[.bool c,.slice sa 0 sc,.slice da dz.length dc] 24)).alloc (.cells #[.bool false,.slice none 0 0,.slice none 0 0] 24)))):=H _ hb.out
 clear H
 go_enter Tryz.func99,Tryz.ntmps99
 go_wp2_with fail
 refine HC.mono ?_
 clear HC
 intro e v1 hU
 obtain⟨xa,xc,ya,yc,E,rfl,HU⟩:=hU.out16
 clear hU
 have HR:Hid (Abx v1 _ (.bool false) (.slice none 0 0) (.slice none 0 0)):=pr.go HU.2.2.2
 have r0:=HR.c0
 have r1:=HR.c1
 have r2:=HR.c2
 have f0:=HR.fr 0
 have f1:=HR.fr 1
 have f2:=HR.fr 2
 go_wp2_with fail
 have FF:=HR.set3 (.bool A.c) (.slice xa A.s.length xc) (.slice ya A.d.length yc)
 have q0:=FF.c0
 have q1:=FF.c1
 have q2:=FF.c2
 exact bodyPost_ret (v:=.tuple #[.agg #[.bool A.c,.slice xa A.s.length xc,.slice ya A.d.length yc],E]) (by simp[results,Tryz.results99,go_sem,q0,q1,q2]) rfl (ret16 (A:=A) (by omega) pr.lt hb.out HU.2.1 HU.2.2.1 HU.2.2.2 HU.1 _ _ _)
theorem lst_zero {c:Bool}{sz:List Int}(h:lstE c sz=0):sz.length<=1/\c=false:=by
 unfold lstE at h
 split at h
 ·rename_i h0
  refine⟨h0,?_⟩
  split at h
  ·cases h
  ·rename_i hc;exact Bool.eq_false_iff.2 hc
 ·cases h
theorem one_cell {c:Bool}{sz dz:List Int}(h:flawE c sz dz=0)(h0:sz.length=0):dz.length=1:=by
 have:=(flawE_zero h).2.1
 rw[List.length_eq_zero_iff.1 h0] at this
 have h2:(dz.length:Int)=1:=by simpa[prod] using this
 omega
theorem lst_ok (c:Bool)(sa:Option Addr)(sc:Nat)(sz:List Int)(da:Option Addr)(dc:Nat)(dz:List Int)(h:lstE c sz=0)(w:World):
  Calls Tryz.prog 118 #[.agg #[.bool c,.slice sa sz.length sc,.slice da dz.length dc]] w fun r w'=>r=.returned (.tuple #[.slice da dz.length dc,.nilIface])/\Below w.heap.size w w':=by
 obtain⟨h0,rfl⟩:=lst_zero h
 have HB0:Hid (Below w.heap.size w (w.alloc (.cells #[.bool false,.slice sa sz.length sc,.slice da dz.length dc] 24))):=(Below.refl _ w).alloc (Nat.le_refl _) _
 have pa:=Abx.new w (.bool false) (.slice sa sz.length sc) (.slice da dz.length dc)
 have p0:=pa.c0
 have p1:=pa.c1
 have p2:=pa.c2
 have t0:¬ (1:Int)<(sz.length:Int):=by omega
 clear h h0 pa
 go_enter Tryz.func118,Tryz.ntmps118
 go_wp2_with fail
 go_ret2
 exact⟨rfl,HB0.out⟩
theorem lst_no (c:Bool)(sa:Option Addr)(sc:Nat)(sz:List Int)(da:Option Addr)(dc:Nat)(dz:List Int)(h:lstE c sz≠0)(h6:sz.length<=6)(w:World):
  Calls Tryz.prog 118 #[.agg #[.bool c,.slice sa sz.length sc,.slice da dz.length dc]] w fun r w'=>r=.returned (.tuple #[.slice none 0 0,.iface 43 (.int .i64 (lstE c sz))])/\Below w.heap.size w w':=by
 unfold lstE at h ⊢
 have HB0:Hid (Below w.heap.size w (w.alloc (.cells #[.bool c,.slice sa sz.length sc,.slice da dz.length dc] 24))):=(Below.refl _ w).alloc (Nat.le_refl _) _
 have pa:=Abx.new w (.bool c) (.slice sa sz.length sc) (.slice da dz.length dc)
 have p0:=pa.c0
 have p1:=pa.c1
 have p2:=pa.c2
 clear pa
 by_cases h0:sz.length<=1
 ·rw[if_pos h0] at h ⊢
  cases c
  ·exact absurd rfl h
  ·rw[if_pos rfl]
   have t0:¬ (1:Int)<(sz.length:Int):=by omega
   clear h h0 h6
   go_enter Tryz.func118,Tryz.ntmps118
   go_wp2_with fail
   go_ret2
   exact⟨rfl,HB0.out⟩
 ·rw[if_neg h0]
  have t0:(1:Int)<(sz.length:Int):=by omega
  clear h h0
  go_enter Tryz.func118,Tryz.ntmps118
  go_wp2_with fail
  go_ret2
  exact⟨rfl,HB0.out⟩
theorem pline_any (a:Option Addr)(cap:Nat)(zs:List Int)(w:World):
  Calls Tryz.prog 96 #[.slice a zs.length cap] w fun e w'=>∃ sa,e=.returned (.agg #[.bool false,.slice sa 1 1,.slice a zs.length cap])/\NewC w.heap.size w' sa [(zs.length:Int)] 1/\Below w.heap.size w w':=by
 go_enter Tryz.func96,Tryz.ntmps96
 go_wp2_with fail
 refine bodyPost_ret (v:=.agg #[.bool false,.slice (some ⟨w.heap.size+1,0,none⟩) 1 1,.slice a zs.length cap]) (by simp[results,Tryz.results96,go_sem]) rfl ⟨some ⟨w.heap.size+1,0,none⟩,rfl,?_,((Below.refl _ w).alloc (Nat.le_refl _) _).alloc (by simp) _⟩
 have:=new_ints1 (w.alloc (.cells #[.bool false,.slice (some ⟨w.heap.size+1,0,none⟩) 1 1,.slice a zs.length cap] 24)) 3 zs.length
 rw[World.size_alloc w] at this
 exact⟨this.low (by omega),Nat.le_refl _⟩
theorem psingle_any (n:Int)(w:World):
  Calls Tryz.prog 137 #[.int .i64 n] w fun e w'=>∃ ga,e=.returned (.agg #[.bool false,.slice none 0 0,.slice ga 1 1])/\NewC w.heap.size w' ga [n] 1/\Below w.heap.size w w':=by
 go_enter Tryz.func137,Tryz.ntmps137
 go_wp2_with fail
 refine bodyPost_ret (v:=.agg #[.bool false,.slice none 0 0,.slice (some ⟨w.heap.size+1,0,none⟩) 1 1]) (by simp[results,Tryz.results137,go_sem]) rfl ⟨some ⟨w.heap.size+1,0,none⟩,rfl,?_,((Below.refl _ w).alloc (Nat.le_refl _) _).alloc (by simp) _⟩
 have:=new_ints1 (w.alloc (.cells #[.bool false,.slice none 0 0,.slice (some ⟨w.heap.size+1,0,none⟩) 1 1] 24)) 3 n
 rw[World.size_alloc w] at this
 exact⟨this.low (by omega),Nat.le_refl _⟩
theorem err0 {w v:World}{e:Int}(he:e≠0)(hb:Below w.heap.size w v):AnP (anN e) w (.returned (.tuple #[.agg #[.bool false,.slice none 0 0,.slice none 0 0],.iface 43 (.int .i64 e)])) v:=
 ⟨none,0,none,0,by show _=Ending.returned (.tuple #[.agg #[.bool false,.slice none 0 0,.slice none 0 0],errV e]);rw[errV_pos he],⟨.inl rfl,Nat.le_refl _⟩,⟨.inl rfl,Nat.le_refl _⟩,hb⟩
theorem goA16 {w w':World}{b:Nat}{x y z:Value}(h:Hid (Abx w b x y z))(hB:Below w.heap.size w w'):Hid (Abx w' b x y z):=h.go hB
theorem goB16 {u w w':World}(h:Hid (Below u.heap.size u w))(hB:Below w.heap.size w w'):Hid (Below u.heap.size u w'):=h.trans (hB.mono h.size)
theorem goI16 {u w:World}{a:Option Addr}{zs:List Int}(h:IsInts u.heap.size u a zs)(hB:Below u.heap.size u w):IsInts w.heap.size w a zs:=(h.below hB).mono hB.size
theorem ok16 {A:An}{c:Bool}{S D:List Int}{n m:Nat}{w w0 v:World}{b:Nat}{xa:Option Addr}{xc:Nat}{ya:Option Addr}{yc:Nat}(hA:A=anA c S D)(hn:S.length=n)(hm:D.length=m)(h1:w.heap.size<=b)(h2:b<w0.heap.size)(hw:w.heap.size<=w0.heap.size)(hX:NewC w0.heap.size v xa S xc)(hY:NewC w0.heap.size v ya D yc)(hB:Below w.heap.size w v)(x y z:Value):
  AnP A w (.returned (.tuple #[.agg #[.bool c,.slice xa n xc,.slice ya m yc],.nilIface])) (((v.setCell ⟨b,0,none⟩ x).setCell ⟨b,1,none⟩ y).setCell ⟨b,2,none⟩ z):=by
 subst hA hn hm
 exact⟨xa,xc,ya,yc,rfl,(hX.set3 h2 x y z).low hw,(hY.set3 h2 x y z).low hw,bel_set3 hB h1 x y z⟩
theorem b_list (A:An)(p:Nat)(F:Nat)(cs:List Value)(hE:∀ args w,(callFunc F args).run Tryz.prog w=.ok (.enter F args) w)(c:Bool)(sa:Option Addr)(sc:Nat)(sz:List Int)(da:Option Addr)(dc:Nat)(dz:List Int)(c':Bool)(sa':Option Addr)(sc':Nat)(sz':List Int)(da':Option Addr)(dc':Nat)(dz':List Int)(w:World)(hp:w.cell? ⟨p,0,none⟩=some (.func (.func F) #[] cs.toArray))(h:lstE c sz=0)(H:∀ w',Below w.heap.size w w'->Calls Tryz.prog F (.slice da dz.length dc::.agg #[.bool c',.slice sa' sz'.length sc',.slice da' dz'.length dc']::cs).toArray w' (AnP A w')):
  Calls Tryz.prog 117 #[.agg #[.bool c,.slice sa sz.length sc,.slice da dz.length dc],.agg #[.bool c',.slice sa' sz'.length sc',.slice da' dz'.length dc'],.pointer (some ⟨p,0,none⟩)] w (AnP A w):=by
 have HH:Hid (∀ w',Below w.heap.size w w'->Calls Tryz.prog F (.slice da dz.length dc::.agg #[.bool c',.slice sa' sz'.length sc',.slice da' dz'.length dc']::cs).toArray w' (AnP A w')):=H
 have h':Hid (lstE c sz=0):=h
 clear H h
 obtain⟨hb,pa,pb,pr⟩:=ent2 w (.bool c) (.slice sa sz.length sc) (.slice da dz.length dc) (.bool c') (.slice sa' sz'.length sc') (.slice da' dz'.length dc')
 have a0:=pa.c0
 have a1:=pa.c1
 have a2:=pa.c2
 have hz0:=hb.size
 have hlt0:=pr.lt
 replace hp:=cell_to16 hb.out hp
 go_enter Tryz.func117,Tryz.ntmps117
 go_wp2_with fail
 refine (lst_ok c sa sc sz da dc dz h'.out _).mono ?_
 rintro e v1 ⟨rfl,hB⟩
 have hz1:=hB.size
 replace pa:=goA16 pa hB
 replace pb:=goA16 pb hB
 replace pr:=goA16 pr hB
 replace hb:=goB16 hb hB
 replace hp:=cell_to16 hB hp
 clear hB
 have b0:=pb.c0
 have b1:=pb.c1
 have b2:=pb.c2
 clear pa
 go_wp2_with fail
 refine (HH.out _ hb.out).mono ?_
 clear b0 b1 b2
 intro e v9 hU
 obtain⟨xa,xc,ya,yc,E,rfl,HU⟩:=hU.out16
 clear hU
 have hz9:=HU.2.2.2.size
 have hlt:=pr.lt
 have HW:=HU.2
 replace pr:=goA16 pr HU.2.2.2
 have r0:=pr.c0
 have r1:=pr.c1
 have r2:=pr.c2
 have f0:=pr.fr 0
 have f1:=pr.fr 1
 have f2:=pr.fr 2
 go_wp2_with fail
 have FF:=pr.set3 (.bool A.c) (.slice xa A.s.length xc) (.slice ya A.d.length yc)
 have q0:=FF.c0
 have q1:=FF.c1
 have q2:=FF.c2
 exact bodyPost_ret (v:=.tuple #[.agg #[.bool A.c,.slice xa A.s.length xc,.slice ya A.d.length yc],E]) (by simp[results,Tryz.results117,go_sem,q0,q1,q2]) rfl (ret16 (A:=A) (by omega) hlt hb.out HU.2.1 HU.2.2.1 HU.2.2.2 HU.1 _ _ _)
theorem b_listn (p:Nat)(v:Value)(c:Bool)(sa:Option Addr)(sc:Nat)(sz:List Int)(da:Option Addr)(dc:Nat)(dz:List Int)(c':Bool)(sa':Option Addr)(sc':Nat)(sz':List Int)(da':Option Addr)(dc':Nat)(dz':List Int)(w:World)(hp:w.cell? ⟨p,0,none⟩=some (v))(h:lstE c sz≠0)(h6:sz.length<=6):
  Calls Tryz.prog 117 #[.agg #[.bool c,.slice sa sz.length sc,.slice da dz.length dc],.agg #[.bool c',.slice sa' sz'.length sc',.slice da' dz'.length dc'],.pointer (some ⟨p,0,none⟩)] w (AnP (anN (lstE c sz)) w):=by
 have h':Hid (lstE c sz≠0):=h
 clear h
 obtain⟨hb,pa,pb,pr⟩:=ent2 w (.bool c) (.slice sa sz.length sc) (.slice da dz.length dc) (.bool c') (.slice sa' sz'.length sc') (.slice da' dz'.length dc')
 have a0:=pa.c0
 have a1:=pa.c1
 have a2:=pa.c2
 have hz0:=hb.size
 have hlt0:=pr.lt
 go_enter Tryz.func117,Tryz.ntmps117
 go_wp2_with fail
 refine (lst_no c sa sc sz da dc dz h'.out h6 _).mono ?_
 rintro e v1 ⟨rfl,hB⟩
 have hz1:=hB.size
 replace pa:=goA16 pa hB
 replace pb:=goA16 pb hB
 replace pr:=goA16 pr hB
 replace hb:=goB16 hb hB
 clear hB
 have r0:=pr.c0
 have r1:=pr.c1
 have r2:=pr.c2
 have f0:=pr.fr 0
 have f1:=pr.fr 1
 have f2:=pr.fr 2
 go_wp2_with fail
 have FF:=pr.set3 (.bool false) (.slice none 0 0) (.slice none 0 0)
 have q0:=FF.c0
 have q1:=FF.c1
 have q2:=FF.c2
 exact bodyPost_ret (v:=.tuple #[.agg #[.bool false,.slice none 0 0,.slice none 0 0],.iface 43 (.int .i64 (lstE c sz))]) (by simp[results,Tryz.results117,go_sem,q0,q1,q2]) rfl (err16 rfl h'.out (by omega) hb.out _ _ _)
theorem b_lines (p:Nat)(e:Int)(L:List Int)(F:Nat)(cs:List Value)(hE:∀ args w,(callFunc F args).run Tryz.prog w=.ok (.enter F args) w)(c:Bool)(sa:Option Addr)(sc:Nat)(sz:List Int)(da:Option Addr)(dc:Nat)(dz:List Int)(w:World)(hp:w.cell? ⟨p,0,none⟩=some (.func (.func F) #[] cs.toArray))(he:e=0)(H:∀ w',Below w.heap.size w w'->Calls Tryz.prog F (.agg #[.bool c,.slice sa sz.length sc,.slice da dz.length dc]::cs).toArray w' (UL e L w')):
  Calls Tryz.prog 105 #[.agg #[.bool c,.slice sa sz.length sc,.slice da dz.length dc],.pointer (some ⟨p,0,none⟩)] w (AnP (anA false [(L.length:Int)] L) w):=by
 subst he
 have HH:Hid (∀ w',Below w.heap.size w w'->Calls Tryz.prog F (.agg #[.bool c,.slice sa sz.length sc,.slice da dz.length dc]::cs).toArray w' (UL 0 L w')):=H
 clear H
 obtain⟨hb,pa,pr⟩:=ent1 w (.bool c) (.slice sa sz.length sc) (.slice da dz.length dc)
 have a0:=pa.c0
 have a1:=pa.c1
 have a2:=pa.c2
 have hz0:=hb.size
 have hlt0:=pr.lt
 replace hp:=cell_to16 hb.out hp
 go_enter Tryz.func105,Tryz.ntmps105
 go_wp2_with fail
 refine (HH.out _ hb.out).mono ?_
 rintro e' v1 ⟨g,gc,rfl,hN,hB⟩
 have HN:Hid (NewC _ v1 g L gc):=hN
 have hz1:=hB.size
 replace pr:=goA16 pr hB
 replace hb:=goB16 hb hB
 clear hB hN
 rw[show errV 0=.nilIface from rfl]
 clear a0 a1 a2 hp pa
 go_wp2_with fail
 refine (pline_any g gc L v1).mono ?_
 rintro e' v2 ⟨sa',rfl,hX,hB⟩
 have HX:Hid (NewC v1.heap.size v2 sa' _ 1):=hX
 have HY:Hid (NewC _ v2 g L gc):=HN.go hB
 have hlt1:=pr.lt
 have hz2:=hB.size
 replace pr:=goA16 pr hB
 replace hb:=goB16 hb hB
 clear hX hB HN
 have r0:=pr.c0
 have r1:=pr.c1
 have r2:=pr.c2
 have f0:=pr.fr 0
 have f1:=pr.fr 1
 have f2:=pr.fr 2
 go_wp2_with fail
 have FF:=pr.set3 (.bool false) (.slice sa' 1 1) (.slice g L.length gc)
 have q0:=FF.c0
 have q1:=FF.c1
 have q2:=FF.c2
 exact bodyPost_ret (v:=.tuple #[.agg #[.bool false,.slice sa' 1 1,.slice g L.length gc],.nilIface]) (by simp[results,Tryz.results105,go_sem,q0,q1,q2]) rfl (ok16 (S:=[(L.length:Int)]) (D:=L) rfl rfl rfl (by omega) hlt0 (by omega) (HX.low hz1) HY.out hb.out _ _ _)
theorem b_linesn (p:Nat)(e:Int)(L:List Int)(F:Nat)(cs:List Value)(hE:∀ args w,(callFunc F args).run Tryz.prog w=.ok (.enter F args) w)(c:Bool)(sa:Option Addr)(sc:Nat)(sz:List Int)(da:Option Addr)(dc:Nat)(dz:List Int)(w:World)(hp:w.cell? ⟨p,0,none⟩=some (.func (.func F) #[] cs.toArray))(he:e≠0)(H:∀ w',Below w.heap.size w w'->Calls Tryz.prog F (.agg #[.bool c,.slice sa sz.length sc,.slice da dz.length dc]::cs).toArray w' (UL e L w')):
  Calls Tryz.prog 105 #[.agg #[.bool c,.slice sa sz.length sc,.slice da dz.length dc],.pointer (some ⟨p,0,none⟩)] w (AnP (anN e) w):=by
 have h':Hid (e≠0):=he
 clear he
 have HH:Hid (∀ w',Below w.heap.size w w'->Calls Tryz.prog F (.agg #[.bool c,.slice sa sz.length sc,.slice da dz.length dc]::cs).toArray w' (UL e L w')):=H
 clear H
 obtain⟨hb,pa,pr⟩:=ent1 w (.bool c) (.slice sa sz.length sc) (.slice da dz.length dc)
 have a0:=pa.c0
 have a1:=pa.c1
 have a2:=pa.c2
 have hz0:=hb.size
 have hlt0:=pr.lt
 replace hp:=cell_to16 hb.out hp
 go_enter Tryz.func105,Tryz.ntmps105
 go_wp2_with fail
 refine (HH.out _ hb.out).mono ?_
 rintro e' v1 ⟨g,gc,rfl,hN,hB⟩
 have HN:Hid (NewC _ v1 g L gc):=hN
 have hz1:=hB.size
 replace pr:=goA16 pr hB
 replace hb:=goB16 hb hB
 clear hB hN
 rw[errV_pos h'.out]
 clear a0 a1 a2 hp pa HN
 have r0:=pr.c0
 have r1:=pr.c1
 have r2:=pr.c2
 have f0:=pr.fr 0
 have f1:=pr.fr 1
 have f2:=pr.fr 2
 go_wp2_with fail
 have FF:=pr.set3 (.bool false) (.slice none 0 0) (.slice none 0 0)
 have q0:=FF.c0
 have q1:=FF.c1
 have q2:=FF.c2
 exact bodyPost_ret (v:=.tuple #[.agg #[.bool false,.slice none 0 0,.slice none 0 0],.iface 43 (.int .i64 e)]) (by simp[results,Tryz.results105,go_sem,q0,q1,q2]) rfl (err16 rfl h'.out (by omega) hb.out _ _ _)
end Go.Proofs.YtkmmkcpfhnifhaaGreat
namespace Go.Proofs.YtkmmkcpfhnifhaaGreat
section
variable {P : Program} {ops : Array Oper} {Q : Exit → Act → World → Prop} {md : Region.Mode} {C : World → Prop}
def anyC (P:Program)(md:Region.Mode)(ops:Array Oper)(Q:Exit->Act->World->Prop)(C:World->Prop):Nat->Array Bool->Act->World->Prop
 | 0,l,a,w=>Region.ready md ops l=[]/\Q .normal a w
 | n+1,l,a,w=>(Region.ready md ops l=[]->Q .normal a w)/\∀ i,i∈Region.ready md ops l →
  wpOp P ops Q i (fun a' w'=>C w'/\anyC P md ops Q C n (l.setIfInBounds i true) a' w') a w
theorem anyC.plain {n:Nat}:∀ {l:Array Bool} {a:Act} {w:World},anyC P md ops Q C n l a w->wpAny P md ops Q n l a w:=by
 induction n with
 | zero=>exact fun h=>h
 | succ n ih=>exact fun h=>⟨h.1,fun i hi=>wpOp_mono (fun _ _ k=>ih k.2) (h.2 i hi)⟩
end
end Go.Proofs.YtkmmkcpfhnifhaaGreat
namespace Go.Proofs.YtkmmkcpfhnifhaaGreat
def fl (k:Nat):List Nat->Array Bool
 | []=>Array.replicate k false
 | i::L=>(fl k L).setIfInBounds i true
section
variable {P : Program} {ops : Array Oper} {Q : Exit → Act → World → Prop} {md : Region.Mode} {s : Nat} {C : World → Prop} {n k : Nat} {L : List Nat} {a a' : Act} {w : World} {d : Nat} {v : Value} {oi : Oper}
theorem bT (s:Nat)(C:World->Prop)(k:Nat){id:Nat}(hC:C w.drew)(h:C w.drew->anyT P .any ops Q s C k (fl k []) a w.drew)(hm:P.follows .mixedOrders=true:=by kernel_rfl)(hn:ops.size=k:=by rfl):(Code.region id ops true).wp P Q a w:=
 anyT_begin s C k (fl k []) hm hn (by rw[hn];rfl) (h hC)
theorem pT (i:Nat)(hC:C w)(h:anyT P md ops Q s C n (fl k (i::L)) a' w)(hi:ops[i]?=some oi:=by rfl)(hd:oi.dst=some d:=by rfl)
  (hy:Yields P ops oi v a:=by first | exact Or.inl ⟨by rfl,by intro w';go_simp;first | done | rfl⟩ | exact Or.inr ⟨by rfl,rfl⟩ | exact Or.inr ⟨by rfl,by rfl⟩)
  (ha:a.put (some d) v=a':=by simp only[Act.put,List.setIfInBounds_toArray,List.set_cons_zero,List.set_cons_succ];rfl)
  (hs:Region.noSelect ops=true:=by kernel_rfl)(hf:Region.free md ops (fl k L) i=true:=by kernel_rfl)(hr:(Region.ready md ops (fl k L)).contains i=true:=by kernel_rfl)
  (hQ:∀ c a w,Q (.panic c) (a.put oi.dst v) w->Q (.panic c) a w:=by exact fun _ _ _ h=>h)(his:i≠s:=by decide):anyT P md ops Q s C (n+1) (fl k L) a w:=
 anyT_put i d v (fl k (i::L)) hi hd rfl hs hf hr hQ his hy (fun _=>hC) (by rw[ha];exact h)
theorem lT (i:Nat)(hC:C w)(h:anyT P md ops Q s C n (fl k (i::L)) a' w)(hi:ops[i]?=some oi:=by rfl)(hd:oi.dst=some d:=by rfl)
  (hy:YieldsIf P ops C oi v a:=by first | exact Or.inl ⟨by rfl,by intro w' hw';(try dsimp only at hw');go_simp;first | done | rfl⟩ | exact Or.inr ⟨by rfl,rfl⟩ | exact Or.inr ⟨by rfl,by rfl⟩)
  (ha:a.put (some d) v=a':=by simp only[Act.put,List.setIfInBounds_toArray,List.set_cons_zero,List.set_cons_succ];rfl)
  (hs:Region.noSelect ops=true:=by kernel_rfl)(hf:Region.free md ops (fl k L) i=true:=by kernel_rfl)(hr:(Region.ready md ops (fl k L)).contains i=true:=by kernel_rfl)
  (hQ:∀ c a w,Q (.panic c) (a.put oi.dst v) w->Q (.panic c) a w:=by exact fun _ _ _ h=>h)(hw:waitsB md ops s i=true:=by kernel_rfl)(his:i≠s:=by decide)(hl:(fl k L).getD s true=false:=by kernel_rfl):anyT P md ops Q s C (n+1) (fl k L) a w:=
 anyT_take i d v (fl k (i::L)) hi hd rfl hs hf hr hQ hw his hl hy hC (by rw[ha];exact h)
theorem oT (i:Nat)(h:∀ K:Act->World->Prop,RowKit.Hid (∀ a w,Till s C (fl k (i::L)) w->anyT P md ops Q s C n (fl k (i::L)) a w->K a w)->if Region.wanted oi (yielded ops a.tmps)=true then Oper.wp P oi a w K Q else K (a.put oi.dst undef) w)
 (hr:Region.ready md ops (fl k L)=[i]:=by kernel_rfl)(ho:ops[i]?=some oi:=by rfl):anyT P md ops Q s C (n+1) (fl k L) a w:=anyT_one i (fl k (i::L)) hr ho rfl h
theorem dT (h:Q .normal a w)(hr:Region.ready md ops (fl k L)=[]:=by kernel_rfl):anyT P md ops Q s C 0 (fl k L) a w:=anyT_done hr h
end
end Go.Proofs.YtkmmkcpfhnifhaaGreat
namespace Go.Proofs.YtkmmkcpfhnifhaaGreat
open Go.RowKit
theorem equal_any (a:Option Addr) (cap:Nat) (zs:List Int) (a':Option Addr) (cap':Nat) (us:List Int) (hreach:zs.length<=9223372036854775807) (n₀:Nat) (w:World) (hI:IsInts n₀ w a zs) (hI':IsInts n₀ w a' us) :
    Calls Tryz.prog 177 #[.slice a zs.length cap,.slice a' us.length cap'] w fun e w'=>e=.returned (.bool (eqB zs us))/\∃ m,w'=w.drewN m:=by
  by_cases hlen:zs.length=us.length
  · have hl:((zs.length:Int) != (us.length:Int))=false:=by simp[hlen]
    have H:Hid (zs.length=us.length):=hlen
    clear hlen
    go_enter Tryz.func177,Tryz.ntmps177
    go_wp2_with fail
    go_loopw [13] (fun i wr=>∃ k:Nat,k<=zs.length/\i=.int .i64 k/\(∀ j,j<k->nth zs j=nth us j)/\∃ m,wr=w.drewN m) (fun i _=>zs.length-(intOf i).toNat)
    case atStart=>exact⟨0,Nat.zero_le _,rfl,fun j hj=>by omega,0,rfl⟩
    case round=>
      obtain⟨k,hk,rfl,hsame,m,rfl⟩:=hrel
      have HS:Hid (∀ j,j<k->nth zs j=nth us j):=hsame
      clear hsame
      by_cases hlt:k<zs.length
      · obtain⟨b,off,rfl,hb,hcell⟩:=hI.at hlt
        obtain⟨b',off',rfl,hb',hcell'⟩:=hI'.at (q:=k) (by rw[<-H.out];exact hlt)
        have hlt':k<us.length:=by rw[<-H.out];exact hlt
        have hc:=hcell k hlt
        have hc':=hcell' k hlt'
        clear hcell hcell'
        by_cases he:nth zs k=nth us k
        · have hne:(nth zs k != nth us k)=false:=by simp[he]
          have HE:Hid (nth zs k=nth us k):=he
          clear he
          go_wp2_with fail
          go_quiet (fail)
          go_wp2
          go_roundw
          case rel => exact ⟨k + 1, by omega, by go_num, fun j hj => by by_cases e : j = k; · rw [e]; exact HE.out
                                                                        · exact HS.out j (by omega),_,rfl⟩
          case measure=>simp[intOf];omega
        · have hne:(nth zs k != nth us k)=true:=by simp[he]
          have hfin:Hid (eqB zs us=false):=eqB_false (fun e=>he (by rw[e]))
          go_wp2_with fail
          go_quiet (fail)
          go_wp2
          go_ret
          exact⟨ret_bool hfin.symm,_,World.drewN_drewN ..⟩
      · obtain rfl:k=zs.length:=by omega
        have hfin:Hid (eqB zs us=true):=eqB_true (nth_ext H.out HS.out)
        go_wp2_with fail
        go_ret
        exact⟨ret_bool hfin.symm,m,rfl⟩
  · have hl:((zs.length:Int) != (us.length:Int))=true:=by simp;omega
    have hfin:Hid (eqB zs us=false):=eqB_false (fun e=>hlen (by rw[e]))
    go_enter Tryz.func177,Tryz.ntmps177
    go_wp2_with fail
    go_ret
    exact⟨ret_bool hfin.symm,0,rfl⟩
end Go.Proofs.YtkmmkcpfhnifhaaGreat
