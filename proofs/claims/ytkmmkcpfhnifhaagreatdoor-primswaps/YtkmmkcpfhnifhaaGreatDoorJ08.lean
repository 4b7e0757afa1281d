/- What the program tells, in part. -/
import Derived.Test.YtkmmkcpfhnifhaaGreatDoorJ07
import Derived.Laws.CopyOwn
import Derived.Deep.DeepCutAuto
set_option linter.unusedVariables false
set_option maxHeartbeats 4000000
set_option maxRecDepth 100000
namespace Go.Proofs.YtkmmkcpfhnifhaaGreatDoor
open Go.RowKit
theorem err0 {w v:World}{e:Int}(he:e≠0)(hb:Below w.heap.size w v):AnP (anN e) w (.returned (.tuple #[.agg #[.bool false,.slice none 0 0,.slice none 0 0],.iface 28 (.int .i64 e)])) v:=
 ⟨none,0,none,0,by show _=Ending.returned (.tuple #[.agg #[.bool false,.slice none 0 0,.slice none 0 0],errV e]);rw[errV_pos he],⟨.inl rfl,Nat.le_refl _⟩,⟨.inl rfl,Nat.le_refl _⟩,hb⟩
theorem goA16 {w w':World}{b:Nat}{x y z:Value}(h:Hid (Abx w b x y z))(hB:Below w.heap.size w w'):Hid (Abx w' b x y z):=h.go hB
theorem goB16 {u w w':World}(h:Hid (Below u.heap.size u w))(hB:Below w.heap.size w w'):Hid (Below u.heap.size u w'):=h.trans (hB.mono h.size)
theorem goI16 {u w:World}{a:Option Addr}{zs:List Int}(h:IsInts u.heap.size u a zs)(hB:Below u.heap.size u w):IsInts w.heap.size w a zs:=(h.below hB).mono hB.size
theorem ok16 {A:An}{c:Bool}{S D:List Int}{n m:Nat}{w w0 v:World}{b:Nat}{xa:Option Addr}{xc:Nat}{ya:Option Addr}{yc:Nat}(hA:A=anA c S D)(hn:S.length=n)(hm:D.length=m)(h1:w.heap.size<=b)(h2:b<w0.heap.size)(hw:w.heap.size<=w0.heap.size)(hX:NewC w0.heap.size v xa S xc)(hY:NewC w0.heap.size v ya D yc)(hB:Below w.heap.size w v)(x y z:Value):
  AnP A w (.returned (.tuple #[.agg #[.bool c,.slice xa n xc,.slice ya m yc],.nilIface])) (((v.setCell ⟨b,0,none⟩ x).setCell ⟨b,1,none⟩ y).setCell ⟨b,2,none⟩ z):=by
 subst hA hn hm
 exact⟨xa,xc,ya,yc,rfl,(hX.set3 h2 x y z).low hw,(hY.set3 h2 x y z).low hw,bel_set3 hB h1 x y z⟩
theorem b_list (A:An)(p:Nat)(F:Nat)(cs:List Value)(hE:∀ args w,(callFunc F args).run Tryz.prog w=.ok (.enter F args) w)(c:Bool)(sa:Option Addr)(sc:Nat)(sz:List Int)(da:Option Addr)(dc:Nat)(dz:List Int)(c':Bool)(sa':Option Addr)(sc':Nat)(sz':List Int)(da':Option Addr)(dc':Nat)(dz':List Int)(w:World)(hp:w.cell? ⟨p,0,none⟩=some (.func (.func F) #[] cs.toArray))(h:lstE c sz=0)(H:∀ w',Below w.heap.size w w'->Calls Tryz.prog F (.slice da dz.length dc::.agg #[.bool c',.slice sa' sz'.length sc',.slice da' dz'.length dc']::cs).toArray w' (AnP A w')):
  Calls Tryz.prog 184 #[.agg #[.bool c,.slice sa sz.length sc,.slice da dz.length dc],.agg #[.bool c',.slice sa' sz'.length sc',.slice da' dz'.length dc'],.pointer (some ⟨p,0,none⟩)] w (AnP A w):=by
 have HH:Hid (∀ w',Below w.heap.size w w'->Calls Tryz.prog F (.slice da dz.length dc::.agg #[.bool c',.slice sa' sz'.length sc',.slice da' dz'.length dc']::cs).toArray w' (AnP A w')):=H
 have h':Hid (lstE c sz=0):=h
 clear H h
 obtain⟨hb,pa,pb,pr⟩:=ent2 w (.bool c) (.slice sa sz.length sc) (.slice da dz.length dc) (.bool c') (.slice sa' sz'.length sc') (.slice da' dz'.length dc')
 have a0:=pa.c0
 have a1:=pa.c1
 have a2:=pa.c2
 have hz0:=hb.size
 have hlt0:=pr.lt
 replace hp:=cell_to16 hb.out hp
 go_enter Tryz.func184,Tryz.ntmps184
 go_wp2_with fail
 refine (lst_ok c sa sc sz da dc dz h'.out _).mono ?_
 rintro e v1 ⟨rfl,hB⟩
 have hz1:=hB.size
 replace pa:=goA16 pa hB
 replace pb:=goA16 pb hB
 replace pr:=goA16 pr hB
 replace hb:=goB16 hb hB
 replace hp:=cell_to16 hB hp
 clear hB
 have b0:=pb.c0
 have b1:=pb.c1
 have b2:=pb.c2
 clear pa
 go_wp2_with fail
 refine (HH.out _ hb.out).mono ?_
 clear b0 b1 b2
 intro e v9 hU
 obtain⟨xa,xc,ya,yc,E,rfl,HU⟩:=hU.out16
 clear hU
 have hz9:=HU.2.2.2.size
 have hlt:=pr.lt
 have HW:=HU.2
 replace pr:=goA16 pr HU.2.2.2
 have r0:=pr.c0
 have r1:=pr.c1
 have r2:=pr.c2
 have f0:=pr.fr 0
 have f1:=pr.fr 1
 have f2:=pr.fr 2
 go_wp2_with fail
 have FF:=pr.set3 (.bool A.c) (.slice xa A.s.length xc) (.slice ya A.d.length yc)
 have q0:=FF.c0
 have q1:=FF.c1
 have q2:=FF.c2
 exact bodyPost_ret (v:=.tuple #[.agg #[.bool A.c,.slice xa A.s.length xc,.slice ya A.d.length yc],E]) (by simp[results,Tryz.results184,go_sem,q0,q1,q2]) rfl (ret16 (A:=A) (by omega) hlt hb.out HU.2.1 HU.2.2.1 HU.2.2.2 HU.1 _ _ _)
theorem b_listn (p:Nat)(v:Value)(c:Bool)(sa:Option Addr)(sc:Nat)(sz:List Int)(da:Option Addr)(dc:Nat)(dz:List Int)(c':Bool)(sa':Option Addr)(sc':Nat)(sz':List Int)(da':Option Addr)(dc':Nat)(dz':List Int)(w:World)(hp:w.cell? ⟨p,0,none⟩=some (v))(h:lstE c sz≠0)(h6:sz.length<=6):
  Calls Tryz.prog 184 #[.agg #[.bool c,.slice sa sz.length sc,.slice da dz.length dc],.agg #[.bool c',.slice sa' sz'.length sc',.slice da' dz'.length dc'],.pointer (some ⟨p,0,none⟩)] w (AnP (anN (lstE c sz)) w):=by
 have h':Hid (lstE c sz≠0):=h
 clear h
 obtain⟨hb,pa,pb,pr⟩:=ent2 w (.bool c) (.slice sa sz.length sc) (.slice da dz.length dc) (.bool c') (.slice sa' sz'.length sc') (.slice da' dz'.length dc')
 have a0:=pa.c0
 have a1:=pa.c1
 have a2:=pa.c2
 have hz0:=hb.size
 have hlt0:=pr.lt
 go_enter Tryz.func184,Tryz.ntmps184
 go_wp2_with fail
 refine (lst_no c sa sc sz da dc dz h'.out h6 _).mono ?_
 rintro e v1 ⟨rfl,hB⟩
 have hz1:=hB.size
 replace pa:=goA16 pa hB
 replace pb:=goA16 pb hB
 replace pr:=goA16 pr hB
 replace hb:=goB16 hb hB
 clear hB
 have r0:=pr.c0
 have r1:=pr.c1
 have r2:=pr.c2
 have f0:=pr.fr 0
 have f1:=pr.fr 1
 have f2:=pr.fr 2
 go_wp2_with fail
 have FF:=pr.set3 (.bool false) (.slice none 0 0) (.slice none 0 0)
 have q0:=FF.c0
 have q1:=FF.c1
 have q2:=FF.c2
 exact bodyPost_ret (v:=.tuple #[.agg #[.bool false,.slice none 0 0,.slice none 0 0],.iface 28 (.int .i64 (lstE c sz))]) (by simp[results,Tryz.results184,go_sem,q0,q1,q2]) rfl (err16 rfl h'.out (by omega) hb.out _ _ _)
theorem b_mask (A:An)(p:Nat)(la:Option Addr)(lc ln:Nat)(F:Nat)(cs:List Value)(hE:∀ args w,(callFunc F args).run Tryz.prog w=.ok (.enter F args) w)(c:Bool)(sa:Option Addr)(sc:Nat)(sz:List Int)(da:Option Addr)(dc:Nat)(dz:List Int)(w:World)(hp:w.cell? ⟨p,0,none⟩=some (.func (.func F) #[] cs.toArray))(h6:sz.length<=6)(h0:sz.length≠0)(H:∀ w',Below w.heap.size w w'->Calls Tryz.prog F (.slice la ln lc::.int .i64 ((sz.length:Int)-1)::.agg #[.bool c,.slice sa sz.length sc,.slice da dz.length dc]::cs).toArray w' (AnP A w')):
  Calls Tryz.prog 207 #[.slice la ln lc,.agg #[.bool c,.slice sa sz.length sc,.slice da dz.length dc],.pointer (some ⟨p,0,none⟩)] w (AnP A w):=by
 have HH:Hid (∀ w',Below w.heap.size w w'->Calls Tryz.prog F (.slice la ln lc::.int .i64 ((sz.length:Int)-1)::.agg #[.bool c,.slice sa sz.length sc,.slice da dz.length dc]::cs).toArray w' (AnP A w')):=H
 clear H
 have t0:((sz.length:Int) == 0)=false:=beq_eq_false_iff_ne.2 (by omega)
 obtain⟨hb,pa,pr⟩:=ent1 w (.bool c) (.slice sa sz.length sc) (.slice da dz.length dc)
 have a0:=pa.c0
 have a1:=pa.c1
 have a2:=pa.c2
 have hz0:=hb.size
 have hlt0:=pr.lt
 replace hp:=cell_to16 hb.out hp
 go_enter Tryz.func207,Tryz.ntmps207
 go_wp2_with fail
 refine (HH.out _ hb.out).mono ?_
 clear a0 a1 a2
 intro e v9 hU
 obtain⟨xa,xc,ya,yc,E,rfl,HU⟩:=hU.out16
 clear hU
 have hz9:=HU.2.2.2.size
 have hlt:=pr.lt
 have HW:=HU.2
 replace pr:=goA16 pr HU.2.2.2
 have r0:=pr.c0
 have r1:=pr.c1
 have r2:=pr.c2
 have f0:=pr.fr 0
 have f1:=pr.fr 1
 have f2:=pr.fr 2
 go_wp2_with fail
 have FF:=pr.set3 (.bool A.c) (.slice xa A.s.length xc) (.slice ya A.d.length yc)
 have q0:=FF.c0
 have q1:=FF.c1
 have q2:=FF.c2
 exact bodyPost_ret (v:=.tuple #[.agg #[.bool A.c,.slice xa A.s.length xc,.slice ya A.d.length yc],E]) (by simp[results,Tryz.results207,go_sem,q0,q1,q2]) rfl (ret16 (A:=A) (by omega) hlt hb.out HU.2.1 HU.2.2.1 HU.2.2.2 HU.1 _ _ _)
theorem b_maskn (p:Nat)(v:Value)(la:Option Addr)(lc ln:Nat)(c:Bool)(sa:Option Addr)(sc:Nat)(sz:List Int)(da:Option Addr)(dc:Nat)(dz:List Int)(w:World)(hp:w.cell? ⟨p,0,none⟩=some (v))(h0:sz.length=0):
  Calls Tryz.prog 207 #[.slice la ln lc,.agg #[.bool c,.slice sa sz.length sc,.slice da dz.length dc],.pointer (some ⟨p,0,none⟩)] w (AnP (anN 3) w):=by
 obtain⟨hb,pa,pr⟩:=ent1 w (.bool c) (.slice sa sz.length sc) (.slice da dz.length dc)
 have a0:=pa.c0
 have a1:=pa.c1
 have a2:=pa.c2
 have hz0:=hb.size
 have hlt0:=pr.lt
 rw[h0] at pa pr hb a1 hlt0 ⊢
 clear hp h0 pa pr hlt0
 go_enter Tryz.func207,Tryz.ntmps207
 go_wp2_with fail
 exact bodyPost_ret (v:=.tuple #[.agg #[.bool false,.slice none 0 0,.slice none 0 0],.iface 28 (.int .i64 3)]) (by simp[results,Tryz.results207,go_sem]) rfl (err0 (by decide) hb.out)
theorem b_lines (p:Nat)(e:Int)(L:List Int)(F:Nat)(cs:List Value)(hE:∀ args w,(callFunc F args).run Tryz.prog w=.ok (.enter F args) w)(c:Bool)(sa:Option Addr)(sc:Nat)(sz:List Int)(da:Option Addr)(dc:Nat)(dz:List Int)(w:World)(hp:w.cell? ⟨p,0,none⟩=some (.func (.func F) #[] cs.toArray))(he:e=0)(H:∀ w',Below w.heap.size w w'->Calls Tryz.prog F (.agg #[.bool c,.slice sa sz.length sc,.slice da dz.length dc]::cs).toArray w' (UL e L w')):
  Calls Tryz.prog 166 #[.agg #[.bool c,.slice sa sz.length sc,.slice da dz.length dc],.pointer (some ⟨p,0,none⟩)] w (AnP (anA false [(L.length:Int)] L) w):=by
 subst he
 have HH:Hid (∀ w',Below w.heap.size w w'->Calls Tryz.prog F (.agg #[.bool c,.slice sa sz.length sc,.slice da dz.length dc]::cs).toArray w' (UL 0 L w')):=H
 clear H
 obtain⟨hb,pa,pr⟩:=ent1 w (.bool c) (.slice sa sz.length sc) (.slice da dz.length dc)
 have a0:=pa.c0
 have a1:=pa.c1
 have a2:=pa.c2
 have hz0:=hb.size
 have hlt0:=pr.lt
 replace hp:=cell_to16 hb.out hp
 go_enter Tryz.func166,Tryz.ntmps166
 go_wp2_with fail
 refine (HH.out _ hb.out).mono ?_
 rintro e' v1 ⟨g,gc,rfl,hN,hB⟩
 have HN:Hid (NewC _ v1 g L gc):=hN
 have hz1:=hB.size
 replace pr:=goA16 pr hB
 replace hb:=goB16 hb hB
 clear hB hN
 rw[show errV 0=.nilIface from rfl]
 clear a0 a1 a2 hp pa
 go_wp2_with fail
 refine (pline_any g gc L v1).mono ?_
 rintro e' v2 ⟨sa',rfl,hX,hB⟩
 have HX:Hid (NewC v1.heap.size v2 sa' _ 1):=hX
 have HY:Hid (NewC _ v2 g L gc):=HN.go hB
 have hlt1:=pr.lt
 have hz2:=hB.size
 replace pr:=goA16 pr hB
 replace hb:=goB16 hb hB
 clear hX hB HN
 have r0:=pr.c0
 have r1:=pr.c1
 have r2:=pr.c2
 have f0:=pr.fr 0
 have f1:=pr.fr 1
 have f2:=pr.fr 2
 go_wp2_with fail
 have FF:=pr.set3 (.bool false) (.slice sa' 1 1) (.slice g L.length gc)
 have q0:=FF.c0
 have q1:=FF.c1
 have q2:=FF.c2
 exact bodyPost_ret (v:=.tuple #[.agg #[.bool false,.slice sa' 1 1,.slice g L.length gc],.nilIface]) (by simp[results,Tryz.results166,go_sem,q0,q1,q2]) rfl (ok16 (S:=[(L.length:Int)]) (D:=L) rfl rfl rfl (by omega) hlt0 (by omega) (HX.low hz1) HY.out hb.out _ _ _)
theorem b_linesn (p:Nat)(e:Int)(L:List Int)(F:Nat)(cs:List Value)(hE:∀ args w,(callFunc F args).run Tryz.prog w=.ok (.enter F args) w)(c:Bool)(sa:Option Addr)(sc:Nat)(sz:List Int)(da:Option Addr)(dc:Nat)(dz:List Int)(w:World)(hp:w.cell? ⟨p,0,none⟩=some (.func (.func F) #[] cs.toArray))(he:e≠0)(H:∀ w',Below w.heap.size w w'->Calls Tryz.prog F (.agg #[.bool c,.slice sa sz.length sc,.slice da dz.length dc]::cs).toArray w' (UL e L w')):
  Calls Tryz.prog 166 #[.agg #[.bool c,.slice sa sz.length sc,.slice da dz.length dc],.pointer (some ⟨p,0,none⟩)] w (AnP (anN e) w):=by
 have h':Hid (e≠0):=he
 clear he
 have HH:Hid (∀ w',Below w.heap.size w w'->Calls Tryz.prog F (.agg #[.bool c,.slice sa sz.length sc,.slice da dz.length dc]::cs).toArray w' (UL e L w')):=H
 clear H
 obtain⟨hb,pa,pr⟩:=ent1 w (.bool c) (.slice sa sz.length sc) (.slice da dz.length dc)
 have a0:=pa.c0
 have a1:=pa.c1
 have a2:=pa.c2
 have hz0:=hb.size
 have hlt0:=pr.lt
 replace hp:=cell_to16 hb.out hp
 go_enter Tryz.func166,Tryz.ntmps166
 go_wp2_with fail
 refine (HH.out _ hb.out).mono ?_
 rintro e' v1 ⟨g,gc,rfl,hN,hB⟩
 have HN:Hid (NewC _ v1 g L gc):=hN
 have hz1:=hB.size
 replace pr:=goA16 pr hB
 replace hb:=goB16 hb hB
 clear hB hN
 rw[errV_pos h'.out]
 clear a0 a1 a2 hp pa HN
 have r0:=pr.c0
 have r1:=pr.c1
 have r2:=pr.c2
 have f0:=pr.fr 0
 have f1:=pr.fr 1
 have f2:=pr.fr 2
 go_wp2_with fail
 have FF:=pr.set3 (.bool false) (.slice none 0 0) (.slice none 0 0)
 have q0:=FF.c0
 have q1:=FF.c1
 have q2:=FF.c2
 exact bodyPost_ret (v:=.tuple #[.agg #[.bool false,.slice none 0 0,.slice none 0 0],.iface 28 (.int .i64 e)]) (by simp[results,Tryz.results166,go_sem,q0,q1,q2]) rfl (err16 rfl h'.out (by omega) hb.out _ _ _)
end Go.Proofs.YtkmmkcpfhnifhaaGreatDoor
namespace Go.Proofs.YtkmmkcpfhnifhaaGreatDoor
section
variable {P : Program} {ops : Array Oper} {Q : Exit → Act → World → Prop} {md : Region.Mode} {C : World → Prop}
def anyC (P:Program)(md:Region.Mode)(ops:Array Oper)(Q:Exit->Act->World->Prop)(C:World->Prop):Nat->Array Bool->Act->World->Prop
 | 0,l,a,w=>Region.ready md ops l=[]/\Q .normal a w
 | n+1,l,a,w=>(Region.ready md ops l=[]->Q .normal a w)/\∀ i,i∈Region.ready md ops l →
  wpOp P ops Q i (fun a' w'=>C w'/\anyC P md ops Q C n (l.setIfInBounds i true) a' w') a w
theorem anyC.plain {n:Nat}:∀ {l:Array Bool} {a:Act} {w:World},anyC P md ops Q C n l a w->wpAny P md ops Q n l a w:=by
 induction n with
 | zero=>exact fun h=>h
 | succ n ih=>exact fun h=>⟨h.1,fun i hi=>wpOp_mono (fun _ _ k=>ih k.2) (h.2 i hi)⟩
end
end Go.Proofs.YtkmmkcpfhnifhaaGreatDoor
namespace Go.Proofs.YtkmmkcpfhnifhaaGreatDoor
def fl (k:Nat):List Nat->Array Bool
 | []=>Array.replicate k false
 | i::L=>(fl k L).setIfInBounds i true
section
variable {P : Program} {ops : Array Oper} {Q : Exit → Act → World → Prop} {md : Region.Mode} {s : Nat} {C : World → Prop} {n k : Nat} {L : List Nat} {a a' : Act} {w : World} {d : Nat} {v : Value} {oi : Oper}
theorem bT (s:Nat)(C:World->Prop)(k:Nat){id:Nat}(hC:C w.drew)(h:C w.drew->anyT P .any ops Q s C k (fl k []) a w.drew)(hm:P.follows .mixedOrders=true:=by kernel_rfl)(hn:ops.size=k:=by rfl):(Code.region id ops true).wp P Q a w:=
 anyT_begin s C k (fl k []) hm hn (by rw[hn];rfl) (h hC)
theorem pT (i:Nat)(hC:C w)(h:anyT P md ops Q s C n (fl k (i::L)) a' w)(hi:ops[i]?=some oi:=by rfl)(hd:oi.dst=some d:=by rfl)
  (hy:Yields P ops oi v a:=by first | exact Or.inl ⟨by rfl,by intro w';go_simp;first | done | rfl⟩ | exact Or.inr ⟨by rfl,rfl⟩ | exact Or.inr ⟨by rfl,by rfl⟩)
  (ha:a.put (some d) v=a':=by simp only[Act.put,List.setIfInBounds_toArray,List.set_cons_zero,List.set_cons_succ];rfl)
  (hs:Region.noSelect ops=true:=by kernel_rfl)(hf:Region.free md ops (fl k L) i=true:=by kernel_rfl)(hr:(Region.ready md ops (fl k L)).contains i=true:=by kernel_rfl)
  (hQ:∀ c a w,Q (.panic c) (a.put oi.dst v) w->Q (.panic c) a w:=by exact fun _ _ _ h=>h)(his:i≠s:=by decide):anyT P md ops Q s C (n+1) (fl k L) a w:=
 anyT_put i d v (fl k (i::L)) hi hd rfl hs hf hr hQ his hy (fun _=>hC) (by rw[ha];exact h)
theorem lT (i:Nat)(hC:C w)(h:anyT P md ops Q s C n (fl k (i::L)) a' w)(hi:ops[i]?=some oi:=by rfl)(hd:oi.dst=some d:=by rfl)
  (hy:YieldsIf P ops C oi v a:=by first | exact Or.inl ⟨by rfl,by intro w' hw';(try dsimp only at hw');go_simp;first | done | rfl⟩ | exact Or.inr ⟨by rfl,rfl⟩ | exact Or.inr ⟨by rfl,by rfl⟩)
  (ha:a.put (some d) v=a':=by simp only[Act.put,List.setIfInBounds_toArray,List.set_cons_zero,List.set_cons_succ];rfl)
  (hs:Region.noSelect ops=true:=by kernel_rfl)(hf:Region.free md ops (fl k L) i=true:=by kernel_rfl)(hr:(Region.ready md ops (fl k L)).contains i=true:=by kernel_rfl)
  (hQ:∀ c a w,Q (.panic c) (a.put oi.dst v) w->Q (.panic c) a w:=by exact fun _ _ _ h=>h)(hw:waitsB md ops s i=true:=by kernel_rfl)(his:i≠s:=by decide)(hl:(fl k L).getD s true=false:=by kernel_rfl):anyT P md ops Q s C (n+1) (fl k L) a w:=
 anyT_take i d v (fl k (i::L)) hi hd rfl hs hf hr hQ hw his hl hy hC (by rw[ha];exact h)
theorem oT (i:Nat)(h:∀ K:Act->World->Prop,RowKit.Hid (∀ a w,Till s C (fl k (i::L)) w->anyT P md ops Q s C n (fl k (i::L)) a w->K a w)->if Region.wanted oi (yielded ops a.tmps)=true then Oper.wp P oi a w K Q else K (a.put oi.dst undef) w)
 (hr:Region.ready md ops (fl k L)=[i]:=by kernel_rfl)(ho:ops[i]?=some oi:=by rfl):anyT P md ops Q s C (n+1) (fl k L) a w:=anyT_one i (fl k (i::L)) hr ho rfl h
theorem dT (h:Q .normal a w)(hr:Region.ready md ops (fl k L)=[]:=by kernel_rfl):anyT P md ops Q s C 0 (fl k L) a w:=anyT_done hr h
end
end Go.Proofs.YtkmmkcpfhnifhaaGreatDoor
namespace Go.Proofs.YtkmmkcpfhnifhaaGreatDoor
open Go.RowKit
theorem wrap_n (n:Nat)(h:n<=100000):IntKind.u64.wrap (n:Int)=(n:Int):=by
 simp[IntKind.wrap,IntKind.signed,IntKind.bits]
 omega
theorem and_n (n:Nat)(h:n<=100000):Go.bits .and .u64 (n:Int) 4294967295=(n:Int):=by
 have e:(BitVec.ofInt 64 (n:Int) &&& BitVec.ofInt 64 4294967295).toNat=n:=by
  rw[BitVec.toNat_and]
  have a:(BitVec.ofInt 64 (n:Int)).toNat=n:=by simp;omega
  have b:(BitVec.ofInt 64 4294967295).toNat=4294967295:=by decide
  rw[a,b]
  exact (Nat.and_two_pow_sub_one_eq_mod n 32).trans (Nat.mod_eq_of_lt (by omega))
 show IntKind.u64.wrap (((BitVec.ofInt 64 (n:Int) &&& BitVec.ofInt 64 4294967295).toNat:Nat):Int)=_
 rw[e]
 exact wrap_n n h
theorem mul64_any (n:Nat)(hn:n<=100000)(w:World):Calls Tryz.prog 266 #[.int .u64 1,.int .u64 (n:Int)] w fun r w'=>r=.returned (.tuple #[.int .u64 0,.int .u64 (n:Int)])/\w'=w:=by
 have e1:=and_n n hn
 have e2:Go.bits .and .u64 1 4294967295=1:=by decide
 have e3:(n:Int)/4294967296=0:=by omega
 have e4:=wrap_n n hn
 have e5:Go.bits .and .u64 0 4294967295=0:=by decide
 go_enter Tryz.func266,Tryz.ntmps266
 go_wp2_with fail
 go_ret2
 exact⟨rfl,rfl⟩
theorem mul_any (n:Nat)(hn:n<=100000)(w:World):Calls Tryz.prog 247 #[.int .u64 1,.int .u64 (n:Int)] w fun r w'=>r=.returned (.tuple #[.int .u64 0,.int .u64 (n:Int)])/\w'=w:=by
 go_enter Tryz.func247,Tryz.ntmps247
 go_wp2_with fail
 refine (mul64_any n hn w).mono ?_
 rintro e w1 ⟨rfl,rfl⟩
 go_wp2_with fail
 go_ret2
 exact⟨rfl,rfl⟩
def rpL (x:Int)(n k:Nat):List Value:=List.replicate k (.int .i64 x)++List.replicate (n-k) (.int .i64 0)
theorem rpL_len (x:Int){n k:Nat}(h:k<=n):(rpL x n k).length=n:=by unfold rpL;rw[List.length_append,List.length_replicate,List.length_replicate];omega
theorem rpL_next (x:Int){n k m:Nat}(h:k+m<=n):splice (rpL x n k) k (List.replicate m (.int .i64 x))=rpL x n (k+m):=by
 unfold splice rpL
 rw[List.take_append_of_le_length (by simp),List.take_of_length_le (by simp),<-List.append_assoc,List.replicate_append_replicate,List.length_replicate]
 congr 1
 rw[List.drop_append,List.length_replicate,List.drop_of_length_le (by simp),List.nil_append,List.drop_replicate]
 congr 1
 omega
def RepP (L:List Int)(n:Nat)(w:World)(e:Ending)(w':World):Prop:=∃ g gc,e=.returned (.slice g n gc)/\NewC w.heap.size w' g L gc/\Below w.heap.size w w'
theorem rep_src {w:World}{b off m:Nat}{x:Int}(h:∀ j,j<m->w.cell? ⟨b,off+j,none⟩=some (.int .i64 x)):∀ j v,(List.replicate m (Value.int .i64 x))[j]?=some v->w.cell? ((⟨b,off,none⟩:Addr).add j)=some v:=by
 intro j v hj
 by_cases hl:j<m
 ·rw[List.getElem?_replicate,if_pos hl] at hj
  rw[<-Option.some.inj hj]
  have e:(⟨b,off,none⟩:Addr).add j=⟨b,off+j,none⟩:=by
   unfold Addr.add;split
   ·rename_i h0;subst h0;rfl
   ·rfl
  rw[e]
  exact h j hl
 ·rw[List.getElem?_replicate,if_neg hl] at hj;cases hj
theorem rep_one {m:Nat}{x:Int}:∀ v∈List.replicate m (Value.int .i64 x),v.oneCell'=true:=fun v hv=>by rw[List.eq_of_mem_replicate hv];rfl
theorem rep_cell {w:World}{B n k:Nat}{x:Int}{t:TypeId}(h:w.heap[B]?=some (.cells (rpL x n k).toArray t (0,0))):∀ j,j<k->w.cell? ⟨B,0+j,none⟩=some (.int .i64 x):=by
 intro j hj
 rw[Nat.zero_add]
 simp only[World.cell?,h]
 unfold rpL
 simp[List.getElem?_append_left,hj]
theorem repeat_any (a:Option Addr)(cap:Nat)(x:Int)(n:Nat)(hn:n<=4096)(w:World)(hI:IsInts w.heap.size w a [x]):
  Calls Tryz.prog 202 #[.slice a 1 cap,.int .i64 (n:Int)] w (RepP (List.replicate n x) n w):=by
 obtain⟨b,off,rfl,hb,hcell⟩:=hI.at (show 0 < [x].length by simp)
 have hc:w.cell? ⟨b,off,none⟩=some (.int .i64 x):=by have:=hcell 0 (by simp);rwa [Nat.add_zero] at this
 clear hcell hI
 have e4:=wrap_n n (by omega)
 have t0:¬ (n:Int)<0:=by omega
 have t1:¬ (9223372036854775807:Int)<(n:Int):=by omega
 have hmk:=run_make_row' (P:=Tryz.prog) 25 3 (.int .i64 0) 8 Tryz.underlying25 Tryz.infoInt rfl .i64 .i64 n (by omega) (by omega)
 have hsz:(Tryz.prog.info? 3).map (·.size)=some 1:=by
  obtain⟨i0,hi,hz0,hz1,hz2⟩:=info_parts Tryz.infoInt
  rw[hi]
  simp[hz1]
 obtain⟨m,hm⟩:∃ m,m=Nat.min 1 n:=⟨_,rfl⟩
 have hm1:m<=1/\m<=n/\(1<=m\/n=0):=by have:Nat.min 1 n=min 1 n:=rfl;omega
 obtain⟨cs,hcs⟩:∃ cs,cs=List.replicate m (Value.int .i64 x):=⟨_,rfl⟩
 have hb0:Below w.heap.size w (w.alloc (.cells (madeCells #[.int .i64 0] n) 3)):=(Below.refl _ w).alloc (Nat.le_refl _) _
 have HG:Hid ((w.alloc (.cells (madeCells #[.int .i64 0] n) 3)).heap[w.heap.size]?=some (.cells (rpL x n 0).toArray 3 (0,0))/\Below w.heap.size w (w.alloc (.cells (madeCells #[.int .i64 0] n) 3))):=by
  refine⟨?_,hb0⟩
  rw[show (rpL x n 0).toArray=madeCells #[.int .i64 0] n by apply Array.toList_inj.1;rw[toList_madeCells_one];simp[rpL]]
  exact (MapKept.heap_alloc w _).1
 have HP:Hid (∀ j v,cs[j]?=some v->(w.alloc (.cells (madeCells #[.int .i64 0] n) 3)).cell? ((⟨b,off,none⟩:Addr).add j)=some v):=by
  show ∀ j v,_
  rw[hcs]
  refine rep_src fun j hj=>?_
  obtain rfl:j=0:=by omega
  rw[Nat.add_zero]
  exact (hb0.cell (p:=⟨b,off,none⟩) hb).trans hc
 have HN:Hid (cs.length=Nat.min 1 n/\0+cs.length<=(rpL x n 0).length/\(∀ v∈cs,v.oneCell'=true)/\cs.length=m/\splice (rpL x n 0) 0 cs=rpL x n m):=by
  rw[hcs,List.length_replicate]
  exact⟨hm,by rw[rpL_len x (Nat.zero_le _)];omega,rep_one,rfl,by rw[rpL_next x (by omega),Nat.zero_add]⟩
 have HM:Hid (m<=n/\(1<=m\/n=0)):=hm1.2
 clear hcs hm hb0 hc
 go_enter Tryz.func202,Tryz.ntmps202
 go_wp2_with fail
 refine (mul_any n (by omega) w).mono ?_
 rintro e w1 ⟨rfl,rfl⟩
 go_upto_region 7 with fail
 go_wp2_with (refine wpList_copy_splice rfl (.tmp 31) (.tmp 32) 25 25 rfl 3 Tryz.underlying25 hsz (some ⟨w1.heap.size,0,none⟩) (some ⟨b,off,none⟩) n n 1 cap rfl rfl w1.heap.size 0 (rpL x n 0) 3 HG.1 cs HN.1 (fun _=>⟨rfl,_,rfl,HP.out⟩) HN.2.1 HN.2.2.1 w1.heap.size w1 HG.2 (Nat.le_refl _) ?_;intro w2 hg2 hb2)
 rw[HN.2.2.2.1]
 rw[HN.2.2.2.2] at hg2
 have HB:Hid (Below w1.heap.size w1 w2):=hb2
 have hm2:m<=n:=HM.1
 clear hb2 HP HG hmk
 go_loopw [8] (fun i wr=>∃ k:Nat,k<=n/\(1<=k\/n=0)/\i=.int .i64 k/\wr.heap[w1.heap.size]?=some (.cells (rpL x n k).toArray 3 (0,0))/\Below w1.heap.size w1 wr) (fun i _=>n-(intOf i).toNat)
 case atStart=>exact⟨m,hm2,HM.2,rfl,hg2.out,HB.out⟩
 case round=>
  obtain⟨k,hk,hk1,rfl,hg,hbb⟩:=hrel
  by_cases hlt:k<n
  ·obtain⟨q,hq⟩:∃ q,q=Nat.min k (n-k):=⟨_,rfl⟩
   have hq1:1<=q/\k+q<=n/\q<=k:=by have:Nat.min k (n-k)=min k (n-k):=rfl;omega
   obtain⟨xs,hxs⟩:∃ xs,xs=List.replicate q (Value.int .i64 x):=⟨_,rfl⟩
   have HX:Hid ((wr.heap[w1.heap.size]?=some (.cells (rpL x n k).toArray 3 (0,0))/\Below w1.heap.size w1 wr)/\(∀ j v,xs[j]?=some v->wr.cell? ((⟨w1.heap.size,0,none⟩:Addr).add j)=some v)/\xs.length=Nat.min k (n-k)/\k+xs.length<=(rpL x n k).length/\(∀ v∈xs,v.oneCell'=true)/\xs.length=q/\splice (rpL x n k) k xs=rpL x n (k+q)):=by
    rw[hxs,List.length_replicate]
    exact⟨⟨hg,hbb⟩,rep_src fun j hj=>rep_cell hg j (by omega),hq,by rw[rpL_len x hk];omega,rep_one,rfl,rpL_next x hq1.2.1⟩
   have hkn:¬ n=k:=by omega
   have HQ1:Hid (1<=q/\k+q<=n/\q<=k):=hq1
   have HW:IntKind.i64.wrap ((k:Int)+(q:Int))=((k+q:Nat):Int):=by rw[IntWalk.i64_left,w_small (by omega) (by omega)];omega
   clear hg hbb hxs hq HN HM hg2 hm1
   go_wp2_with fail
   refine bT 7 (fun w'=>True) 10 (trivial) fun hq0=>?_
   refine pT 0 hq0 ?_;refine pT 1 hq0 ?_;refine pT 2 hq0 ?_;refine pT 3 hq0 ?_;refine pT 4 hq0 ?_;refine pT 5 hq0 ?_;refine pT 6 hq0 ?_
   clear hq0
   refine oT 7 fun K hK=>?_
   refine step_copy_splice rfl (.tmp 41) (.tmp 44) 25 25 rfl 3 Tryz.underlying25 hsz (some ⟨w1.heap.size,k,none⟩) (some ⟨w1.heap.size,0,none⟩) (n-k) (n-k) k n rfl rfl w1.heap.size k (rpL x n k) 3 HX.1.1 xs HX.2.2.1 (fun _=>⟨rfl,_,rfl,HX.2.1⟩) HX.2.2.2.1 HX.2.2.2.2.1 w1.heap.size w1 HX.1.2.drew (Nat.le_refl _) ?_
   intro w4 hg4 hb4
   rw[HX.2.2.2.2.2.1]
   rw[HX.2.2.2.2.2.2] at hg4
   refine hK.out _ _ (fun h=>absurd h (by decide)) ?_
   clear hK K
   refine oT 8 fun K hK=>?_
   go_simp
   refine hK.out _ _ (fun h=>absurd h (by decide)) ?_
   clear hK K
   refine oT 9 fun K hK=>?_
   go_simp
   refine hK.out _ _ (fun h=>absurd h (by decide)) ?_
   clear hK K
   refine dT ?_
   go_wp2_with fail
   have hq2:=HQ1.out
   exact⟨⟨k+q,by omega,by omega,by go_num,hg4.out,hb4⟩,by simp[intOf];omega⟩
  ·obtain rfl:k=n:=by omega
   have HG:Hid (wr.heap[w1.heap.size]?=some (.cells (rpL x k k).toArray 3 (0,0))/\Below w1.heap.size w1 wr):=⟨hg,hbb⟩
   clear hg hbb
   go_wp2_with fail
   go_ret
   refine⟨some ⟨w1.heap.size,0,none⟩,k,rfl,⟨.inr ⟨w1.heap.size,0,rfl,Nat.le_refl _,lt_of_block HG.1,fun j hj=>?_,fun j=>by simp[World.frozen?,HG.1]⟩,by simp⟩,HG.2⟩
   rw[List.length_replicate] at hj
   rw[rep_cell HG.1 j hj,show nth (List.replicate k x) j=x by simp[nth,hj]]
theorem equal_any (a:Option Addr) (cap:Nat) (zs:List Int) (a':Option Addr) (cap':Nat) (us:List Int) (hreach:zs.length<=9223372036854775807) (n₀:Nat) (w:World) (hI:IsInts n₀ w a zs) (hI':IsInts n₀ w a' us) :
    Calls Tryz.prog 249 #[.slice a zs.length cap,.slice a' us.length cap'] w fun e w'=>e=.returned (.bool (eqB zs us))/\∃ m,w'=w.drewN m:=by
  by_cases hlen:zs.length=us.length
  · have hl:((zs.length:Int) != (us.length:Int))=false:=by simp[hlen]
    have H:Hid (zs.length=us.length):=hlen
    clear hlen
    go_enter Tryz.func249,Tryz.ntmps249
    go_wp2_with fail
    go_loopw [13] (fun i wr=>∃ k:Nat,k<=zs.length/\i=.int .i64 k/\(∀ j,j<k->nth zs j=nth us j)/\∃ m,wr=w.drewN m) (fun i _=>zs.length-(intOf i).toNat)
    case atStart=>exact⟨0,Nat.zero_le _,rfl,fun j hj=>by omega,0,rfl⟩
    case round=>
      obtain⟨k,hk,rfl,hsame,m,rfl⟩:=hrel
      have HS:Hid (∀ j,j<k->nth zs j=nth us j):=hsame
      clear hsame
      by_cases hlt:k<zs.length
      · obtain⟨b,off,rfl,hb,hcell⟩:=hI.at hlt
        obtain⟨b',off',rfl,hb',hcell'⟩:=hI'.at (q:=k) (by rw[<-H.out];exact hlt)
        have hlt':k<us.length:=by rw[<-H.out];exact hlt
        have hc:=hcell k hlt
        have hc':=hcell' k hlt'
        clear hcell hcell'
        by_cases he:nth zs k=nth us k
        · have hne:(nth zs k != nth us k)=false:=by simp[he]
          have HE:Hid (nth zs k=nth us k):=he
          clear he
          go_wp2_with fail
          go_quiet (fail)
          go_wp2
          go_roundw
          case rel => exact ⟨k + 1, by omega, by go_num, fun j hj => by by_cases e : j = k; · rw [e]; exact HE.out
                                                                        · exact HS.out j (by omega),_,rfl⟩
          case measure=>simp[intOf];omega
        · have hne:(nth zs k != nth us k)=true:=by simp[he]
          have hfin:Hid (eqB zs us=false):=eqB_false (fun e=>he (by rw[e]))
          go_wp2_with fail
          go_quiet (fail)
          go_wp2
          go_ret
          exact⟨ret_bool hfin.symm,_,World.drewN_drewN ..⟩
      · obtain rfl:k=zs.length:=by omega
        have hfin:Hid (eqB zs us=true):=eqB_true (nth_ext H.out HS.out)
        go_wp2_with fail
        go_ret
        exact⟨ret_bool hfin.symm,m,rfl⟩
  · have hl:((zs.length:Int) != (us.length:Int))=true:=by simp;omega
    have hfin:Hid (eqB zs us=false):=eqB_false (fun e=>hlen (by rw[e]))
    go_enter Tryz.func249,Tryz.ntmps249
    go_wp2_with fail
    go_ret
    exact⟨ret_bool hfin.symm,0,rfl⟩
end Go.Proofs.YtkmmkcpfhnifhaaGreatDoor
