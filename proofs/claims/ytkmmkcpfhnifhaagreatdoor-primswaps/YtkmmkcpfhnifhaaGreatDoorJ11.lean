/- What the program tells, in part. -/
import Derived.Test.YtkmmkcpfhnifhaaGreatDoorJ10
set_option linter.unusedVariables false
set_option maxHeartbeats 4000000
set_option maxRecDepth 100000
namespace Go.Proofs.YtkmmkcpfhnifhaaGreatDoor
open Go.RowKit
theorem value_any (HV:CVa)(c:Bool)(sa:Option Addr)(sc:Nat)(sz:List Int)(da:Option Addr)(dc:Nat)(dz:List Int)(c':Bool)(sa':Option Addr)(sc':Nat)(sz':List Int)(da':Option Addr)(dc':Nat)(dz':List Int)(w:World)(hA:ArF w c sa sc sz da dc dz)(hA':ArF w c' sa' sc' sz' da' dc' dz'):Calls Tryz.prog 129 #[.agg #[.bool c,.slice sa sz.length sc,.slice da dz.length dc],.agg #[.bool c',.slice sa' sz'.length sc',.slice da' dz'.length dc']] w (AnP (baA c sz dz c' sz' dz') w):=by
 unfold baA
 by_cases g:lstE c sz=0
 ·rw[if_pos g]
  by_cases h:lstE c' sz'=0
  ·rw[if_pos h]
   by_cases h0:sz.length=0
   ·have h1:=one_cell hA.2.2.2 h0
    match dz,h1,hA with
    | [x],_,hA=>
    have e:baB sz [x] dz'=List.replicate dz'.length x:=if_pos h0
    have e2:vaE (List.replicate dz'.length x) dz'=0:=by have:=hA'.s6.2;unfold vaE;rw[List.length_replicate,if_neg (by omega),if_neg (fun q=>q rfl)]
    rw[e,anE_ok e2]
    refine val_eq (vaV (List.replicate dz'.length x) dz') x c sa sc sz da dc [x] c' sa' sc' sz' da' dc' dz' w g h (List.length_eq_zero_iff.1 h0) rfl hA'.s6.2 hA.2.1.1 fun v g gc hB hN=>?_
    have k:=HV g gc (List.replicate dz'.length x) da' dc' dz' v (by rw[List.length_replicate];exact hA'.h2) hA'.h2 hN.ints.1 (hA'.go hB).2.1.1
    rw[List.length_replicate] at k
    refine k.mono fun e w' q=>?_
    unfold UZ at q
    rw[e2] at q
    exact q
   ·have e:baB sz dz dz'=dz:=if_neg h0
    rw[e]
    have k:∀ v,Below w.heap.size w v->Calls Tryz.prog 203 #[.slice da dz.length dc,.slice da' dz'.length dc'] v (UZ (vaE dz dz') (onZ (vaE dz dz') (vaV dz dz')) v):=fun v hB=>HV da dc dz da' dc' dz' v hA.h2 hA'.h2 (hA.go hB).2.1.1 (hA'.go hB).2.1.1
    by_cases he:vaE dz dz'=0
    ·rw[anE_ok he]
     refine val_ne _ c sa sc sz da dc dz c' sa' sc' sz' da' dc' dz' w g h hA.s6.1 h0 fun v hB=>(k v hB).mono fun e w' q=>?_
     unfold UZ at q
     rw[he] at q
     exact q
    ·rw[anE_no he]
     refine val_nen _ c sa sc sz da dc dz c' sa' sc' sz' da' dc' dz' w g h hA.s6.1 h0 (fun v hB=>(k v hB).mono fun e w' q=>?_) he
     unfold UZ onZ at q
     rw[if_neg he,errV_pos he] at q
     exact q
  ·rw[if_neg h];exact val_n2 c sa sc sz da dc dz c' sa' sc' sz' da' dc' dz' w g h hA'.s6.1
 ·rw[if_neg g];exact val_n1 c sa sc sz da dc dz c' sa' sc' sz' da' dc' dz' w g hA.s6.1
theorem dig_n1  (c:Bool)(sa:Option Addr)(sc:Nat)(sz:List Int)(da:Option Addr)(dc:Nat)(dz:List Int)(c':Bool)(sa':Option Addr)(sc':Nat)(sz':List Int)(da':Option Addr)(dc':Nat)(dz':List Int)(w:World)(h:lstE c sz≠0)(h6:sz.length<=6):
  Calls Tryz.prog 130 #[.agg #[.bool c,.slice sa sz.length sc,.slice da dz.length dc],.agg #[.bool c',.slice sa' sz'.length sc',.slice da' dz'.length dc']] w (AnP (anN (lstE c sz)) w):=by
 have h':Hid (lstE c sz≠0):=h
 clear h
 obtain⟨hb,pa,pb,pr⟩:=ent2 w (.bool c) (.slice sa sz.length sc) (.slice da dz.length dc) (.bool c') (.slice sa' sz'.length sc') (.slice da' dz'.length dc')
 have a0:=pa.c0
 have a1:=pa.c1
 have a2:=pa.c2
 have hz0:=hb.size
 have hlt0:=pr.lt
 go_enter Tryz.func130,Tryz.ntmps130
 go_wp2_with fail
 refine (lst_no c sa sc sz da dc dz h'.out h6 _).mono ?_
 rintro e v1 ⟨rfl,hB⟩
 have hz1:=hB.size
 replace pa:=goA16 pa hB
 replace pb:=goA16 pb hB
 replace pr:=goA16 pr hB
 replace hb:=goB16 hb hB
 clear hB
 clear a0 a1 a2
 have r0:=pr.c0
 have r1:=pr.c1
 have r2:=pr.c2
 have f0:=pr.fr 0
 have f1:=pr.fr 1
 have f2:=pr.fr 2
 go_wp2_with fail
 have FF:=pr.set3 (.bool false) (.slice none 0 0) (.slice none 0 0)
 have q0:=FF.c0
 have q1:=FF.c1
 have q2:=FF.c2
 exact bodyPost_ret (v:=.tuple #[.agg #[.bool false,.slice none 0 0,.slice none 0 0],.iface 28 (.int .i64 (lstE c sz))]) (by simp[results,Tryz.results130,go_sem,q0,q1,q2]) rfl (err16 rfl h'.out (by omega) hb.out _ _ _)
theorem dig_n2  (c:Bool)(sa:Option Addr)(sc:Nat)(sz:List Int)(da:Option Addr)(dc:Nat)(dz:List Int)(c':Bool)(sa':Option Addr)(sc':Nat)(sz':List Int)(da':Option Addr)(dc':Nat)(dz':List Int)(w:World)(g:lstE c sz=0)(h:numE c' sz'≠0)(h6:sz'.length<=6):
  Calls Tryz.prog 130 #[.agg #[.bool c,.slice sa sz.length sc,.slice da dz.length dc],.agg #[.bool c',.slice sa' sz'.length sc',.slice da' dz'.length dc']] w (AnP (anN (numE c' sz')) w):=by
 have h':Hid (numE c' sz'≠0):=h
 have g':Hid (lstE c sz=0):=g
 clear h g
 obtain⟨hb,pa,pb,pr⟩:=ent2 w (.bool c) (.slice sa sz.length sc) (.slice da dz.length dc) (.bool c') (.slice sa' sz'.length sc') (.slice da' dz'.length dc')
 have a0:=pa.c0
 have a1:=pa.c1
 have a2:=pa.c2
 have hz0:=hb.size
 have hlt0:=pr.lt
 go_enter Tryz.func130,Tryz.ntmps130
 go_wp2_with fail
 refine (lst_ok c sa sc sz da dc dz g'.out _).mono ?_
 rintro e v1 ⟨rfl,hB⟩
 have hz1:=hB.size
 replace pa:=goA16 pa hB
 replace pb:=goA16 pb hB
 replace pr:=goA16 pr hB
 replace hb:=goB16 hb hB
 clear hB
 have b0:=pb.c0
 have b1:=pb.c1
 have b2:=pb.c2
 clear a0 a1 a2
 go_wp2_with fail
 refine (nmb_no c' sa' sc' sz' da' dc' dz' h'.out h6 _).mono ?_
 rintro e v2 ⟨rfl,hB⟩
 have hz2:=hB.size
 replace pa:=goA16 pa hB
 replace pb:=goA16 pb hB
 replace pr:=goA16 pr hB
 replace hb:=goB16 hb hB
 clear hB
 clear b0 b1 b2
 have r0:=pr.c0
 have r1:=pr.c1
 have r2:=pr.c2
 have f0:=pr.fr 0
 have f1:=pr.fr 1
 have f2:=pr.fr 2
 go_wp2_with fail
 have FF:=pr.set3 (.bool false) (.slice none 0 0) (.slice none 0 0)
 have q0:=FF.c0
 have q1:=FF.c1
 have q2:=FF.c2
 exact bodyPost_ret (v:=.tuple #[.agg #[.bool false,.slice none 0 0,.slice none 0 0],.iface 28 (.int .i64 (numE c' sz'))]) (by simp[results,Tryz.results130,go_sem,q0,q1,q2]) rfl (err16 rfl h'.out (by omega) hb.out _ _ _)
theorem dig_ok (L:List Int)(c:Bool)(sa:Option Addr)(sc:Nat)(sz:List Int)(da:Option Addr)(dc:Nat)(dz:List Int)(c':Bool)(sa':Option Addr)(sc':Nat)(sz':List Int)(da':Option Addr)(dc':Nat)(dz':List Int)(w:World)(hA:ArF w c sa sc sz da dc dz)(hA':ArF w c' sa' sc' sz' da' dc' dz')(g:lstE c sz=0)(h:numE c' sz'=0)(HC:Hid (∀ v,Below w.heap.size w v->Calls Tryz.prog 205 #[.slice da dz.length dc,.int .i64 (nth dz' 0)] v (UL 0 L v))):
  Calls Tryz.prog 130 #[.agg #[.bool c,.slice sa sz.length sc,.slice da dz.length dc],.agg #[.bool c',.slice sa' sz'.length sc',.slice da' dz'.length dc']] w (AnP (anA false [(L.length:Int)] L) w):=by
 have HA:Hid (ArF w c sa sc sz da dc dz/\ArF w c' sa' sc' sz' da' dc' dz'):=⟨hA,hA'⟩
 have h6:=hA.s6.1
 have h6':=hA'.s6.1
 clear hA hA'
 have h':Hid (numE c' sz'=0):=h
 have g':Hid (lstE c sz=0):=g
 clear h g
 obtain⟨x,hx⟩:∃ x,x=nth dz' 0:=⟨_,rfl⟩
 have HX:Hid (x=nth dz' 0):=hx
 rw[<-hx] at HC
 clear hx
 obtain⟨hb,pa,pb,pr⟩:=ent2 w (.bool c) (.slice sa sz.length sc) (.slice da dz.length dc) (.bool c') (.slice sa' sz'.length sc') (.slice da' dz'.length dc')
 have a0:=pa.c0
 have a1:=pa.c1
 have a2:=pa.c2
 have hz0:=hb.size
 have hlt0:=pr.lt
 go_enter Tryz.func130,Tryz.ntmps130
 go_wp2_with fail
 refine (lst_ok c sa sc sz da dc dz g'.out _).mono ?_
 rintro e v1 ⟨rfl,hB⟩
 have hz1:=hB.size
 replace pa:=goA16 pa hB
 replace pb:=goA16 pb hB
 replace pr:=goA16 pr hB
 replace hb:=goB16 hb hB
 clear hB
 have b0:=pb.c0
 have b1:=pb.c1
 have b2:=pb.c2
 clear a0 a1 a2
 go_wp2_with fail
 refine (nmb_ok c' sa' sc' sz' da' dc' dz' h'.out HA.2.2.2.2 _ (goI16 HA.2.2.1.1 hb.out)).mono ?_
 rintro e v2 ⟨rfl,hB⟩
 have hz2:=hB.size
 replace pr:=goA16 pr hB
 replace hb:=goB16 hb hB
 clear hB
 rw[<-HX.out]
 clear pa pb
 clear b0 b1 b2
 go_wp2_with fail
 refine (HC.out _ hb.out).mono ?_
 rintro e' v3 ⟨g,gc,rfl,hN,hB⟩
 have HN:Hid (NewC _ v3 g L gc):=hN
 have hz3:=hB.size
 replace pr:=goA16 pr hB
 replace hb:=goB16 hb hB
 rw[show errV 0=.nilIface from rfl]
 clear hB hN HC
 go_wp2_with fail
 refine (pline_any g gc L v3).mono ?_
 rintro e' v4 ⟨sa4,rfl,hX,hB⟩
 have HX2:Hid (NewC v3.heap.size v4 sa4 _ 1):=hX
 have HY:Hid (NewC _ v4 g L gc):=HN.go hB
 have hlt4:=pr.lt
 have hz4:=hB.size
 replace pr:=goA16 pr hB
 replace hb:=goB16 hb hB
 clear hX hB HN
 have r0:=pr.c0
 have r1:=pr.c1
 have r2:=pr.c2
 have f0:=pr.fr 0
 have f1:=pr.fr 1
 have f2:=pr.fr 2
 go_wp2_with fail
 have FF:=pr.set3 (.bool false) (.slice sa4 1 1) (.slice g L.length gc)
 have q0:=FF.c0
 have q1:=FF.c1
 have q2:=FF.c2
 exact bodyPost_ret (v:=.tuple #[.agg #[.bool false,.slice sa4 1 1,.slice g L.length gc],.nilIface]) (by simp[results,Tryz.results130,go_sem,q0,q1,q2]) rfl (ok16 (S:=[(L.length:Int)]) (D:=L) rfl rfl rfl (by omega) (by omega) (by omega) (HX2.low hz3) HY.out hb.out _ _ _)
theorem digits_any (HD:CDg)(c:Bool)(sa:Option Addr)(sc:Nat)(sz:List Int)(da:Option Addr)(dc:Nat)(dz:List Int)(c':Bool)(sa':Option Addr)(sc':Nat)(sz':List Int)(da':Option Addr)(dc':Nat)(dz':List Int)(w:World)(hA:ArF w c sa sc sz da dc dz)(hA':ArF w c' sa' sc' sz' da' dc' dz'):Calls Tryz.prog 130 #[.agg #[.bool c,.slice sa sz.length sc,.slice da dz.length dc],.agg #[.bool c',.slice sa' sz'.length sc',.slice da' dz'.length dc']] w (AnP (diA c sz dz c' sz' dz') w):=by
 unfold diA
 by_cases g:lstE c sz=0
 ·rw[if_pos g]
  by_cases h:numE c' sz'=0
  ·rw[if_pos h]
   have he:dgE dz=0:=by have:=hA.s6.2;unfold dgE;rw[if_neg (by omega)]
   rw[anE_ok he]
   refine dig_ok _ c sa sc sz da dc dz c' sa' sc' sz' da' dc' dz' w hA hA' g h fun v hB=>?_
   have k:=HD da dc dz (nth dz' 0) v hA.h2 (hA.go hB).2.1.1 hA.2.2.1 (hA'.2.2.1 0)
   rw[he] at k
   exact k
  ·rw[if_neg h];exact dig_n2 c sa sc sz da dc dz c' sa' sc' sz' da' dc' dz' w g h hA'.s6.1
 ·rw[if_neg g];exact dig_n1 c sa sc sz da dc dz c' sa' sc' sz' da' dc' dz' w g hA.s6.1
theorem six_iff {f:Int}:six f=true ↔ twoE f 1 1=0:=by
 unfold six twoE
 by_cases h:f<1\/16<f
 ·rw[if_pos h]
  exact⟨fun q=>absurd (of_decide_eq_true q) (by omega),fun q=>absurd q (by decide)⟩
 ·rw[if_neg h,if_neg (fun q=>absurd q.2 (by decide)),if_neg (fun q=>absurd q.2 (by decide))]
  exact⟨fun _=>rfl,fun _=>decide_eq_true (by omega)⟩
theorem are_any (fs:List Int)(n B cap:Nat)(hn:fs.length=n)(h2:n<=2)(T:∀ j,In64 (nth fs j))(w:World)(hB:B<w.heap.size)(hc:∀ j,j<n->w.cell? ⟨B,j,none⟩=some (.int .i64 (nth fs j))):
  Calls Tryz.prog 108 #[.slice (some ⟨B,0,none⟩) n cap] w fun e w'=>e=.returned (.bool (fs.all six))/\Below w.heap.size w w':=by
 have HC:Hid ((∀ j,j<n->w.cell? ⟨B,j,none⟩=some (.int .i64 (nth fs j)))/\(∀ j,In64 (nth fs j))/\fs.length=n):=⟨hc,T,hn⟩
 clear hc T hn
 go_enter Tryz.func108,Tryz.ntmps108
 go_wp2_with fail
 go_loopw [9] (fun i wr=>∃ k:Nat,k<=n/\i=.int .i64 k/\Hid ((fs.take k).all six=true)/\Below w.heap.size w wr) (fun i _=>n-(intOf i).toNat)
 case atStart=>exact⟨0,Nat.zero_le _,rfl,by show _=_;simp,Below.refl _ w⟩
 case round=>
  obtain⟨k,hk,rfl,HT,hb⟩:=hrel
  by_cases hlt:k<n
  ·have c0:=(hb.cell (p:=⟨B,k,none⟩) hB).trans (HC.1 k hlt)
   have HB:Hid (Below w.heap.size w wr):=hb
   have HX:Hid (In64 (nth fs k)):=HC.2.1 k
   have hlk:k<fs.length:=by rw[HC.2.2];exact hlt
   have HN:Hid (twoE (nth fs k) 1 1=0->(fs.take (k+1)).all six=true):=fun q=>by
    rw[List.take_succ_eq_append_getElem hlk,List.all_append,HT.out,<-nth_get fs k hlk]
    simp[six_iff.2 q]
   have HZ:Hid (twoE (nth fs k) 1 1≠0->fs.all six=false):=fun q=>by
    rw[List.all_eq_false]
    refine⟨nth fs k,?_,fun s=>q (six_iff.1 s)⟩
    rw[nth_get fs k hlk]
    exact List.getElem_mem hlk
   clear hb HT hlk
   generalize nth fs k=x at *
   by_cases hf:twoE x 1 1=0
   ·have HQ:Hid (twoE x 1 1=0/\(fs.take (k+1)).all six=true):=⟨hf,HN.out hf⟩
    clear hf HN HZ
    go_wp2_with fail
    refine (two_any x 1 1 (by unfold In64;omega) (by unfold In64;omega) wr).mono ?_
    rintro e v ⟨rfl,hb⟩
    rw[HQ.1,show errV 0=.nilIface from rfl]
    have HB2:Hid (Below w.heap.size w v):=HB.trans (hb.mono HB.size)
    clear hb
    go_wp2_with fail
    exact⟨⟨k+1,by omega,by go_num,HQ.2,HB2.out⟩,by simp[intOf];omega⟩
   ·have HQ:Hid (twoE x 1 1≠0/\fs.all six=false):=⟨hf,HZ.out hf⟩
    clear hf HN HZ
    go_wp2_with fail
    refine (two_any x 1 1 (by unfold In64;omega) (by unfold In64;omega) wr).mono ?_
    rintro e v ⟨rfl,hb⟩
    rw[errV_pos HQ.1]
    have HB2:Hid (Below w.heap.size w v):=HB.trans (hb.mono HB.size)
    clear hb
    go_wp2_with fail
    go_ret
    exact⟨by rw[HQ.2];rfl,HB2.out⟩
  ·obtain rfl:k=n:=by omega
   have hfin:Hid (fs.all six=true):=by
    have:=HT.out
    rwa [<-HC.2.2,List.take_of_length_le (Nat.le_refl _)] at this
   clear HT
   go_wp2_with fail
   go_ret
   exact⟨by rw[hfin.out];rfl,hb⟩
theorem fresh_c (a:Option Addr)(cap:Nat)(zs:List Int)(h1:zs.length<=100000)(w:World)(hI:IsInts w.heap.size w a zs):
  Calls Tryz.prog 159 #[.slice a zs.length cap] w fun e w'=>∃ g c,e=.returned (.slice g zs.length c)/\NewC w.heap.size w' g zs c/\Below w.heap.size w w':=by
 obtain⟨i0,hi,hz0,hz1,hz2⟩:=info_parts Tryz.infoInt
 have H0:=World.ownsRow_nil w w.heap.size 3 1
 cases a with
 | none=>
  have hz:zs=[]:=by
   rcases hI with h | ⟨_,_,h,_⟩
   ·exact h
   ·cases h
  subst hz
  go_enter Tryz.func159,Tryz.ntmps159
  go_wp2_with fail
  go_ret
  exact⟨none,0,rfl,⟨.inl rfl,Nat.le_refl _⟩,Below.refl _ _⟩
 | some ad=>
  have hnews:∀ j u,(zs.map (Value.int .i64))[j]?=some u->w.cell? (ad.add j)=some u:=by
   intro j u hj
   rw[List.getElem?_map] at hj
   by_cases hl:j<zs.length
   ·obtain⟨b,off,e,hb,hc⟩:=hI.at hl
    cases e
    rw[List.getElem?_eq_getElem hl] at hj
    simp only[Option.map_some] at hj
    obtain rfl:=Option.some.inj hj
    rw[<-nth_get zs j hl]
    have e:(⟨b,off,none⟩:Addr).add j=⟨b,off+j,none⟩:=by
     unfold Addr.add;split
     ·rename_i h0;subst h0;rfl
     ·rfl
    rw[e];exact hc j hl
   ·rw[List.getElem?_eq_none (by omega)] at hj;cases hj
  go_enter Tryz.func159,Tryz.ntmps159
  go_wp2_with (at_builtin;refine wpList_append_own _ rfl _ _ 25 rfl w.heap.size 3 i0 (.int .i64 0) 1 8 Tryz.underlying25 hi hz0 hz1 hz2 rfl (by decide) _ _ _ rfl H0 ad zs.length cap (zs.map (Value.int .i64)) rfl (by simp) hnews (fun x hx=>by obtain⟨y,_,rfl⟩:=List.mem_map.1 hx;rfl) (by unfold maxLen;omega) (by omega) (Nat.le_refl _) ?_;intro v' w3 hown' hgrow3 hnil3)
  rw[List.nil_append,Nat.zero_add] at hown'
  have hB:Below w.heap.size w w3:=(Below.refl _ w).grown hgrow3 (Nat.le_refl _) (fun j hj=>by cases hj)
  obtain⟨g,c,rfl,hIJ⟩:=own_cap hown'
  go_wp2_with fail
  go_ret
  exact⟨g,c,rfl,hIJ,hB⟩
theorem fill_any (c:Bool)(w:World):Calls Tryz.prog 187 #[.bool c] w fun e w'=>e=.returned (.int .i64 (fillE c))/\w'=w:=by
 cases c
 all_goals
  go_enter Tryz.func187,Tryz.ntmps187
  go_wp2_with fail
  go_ret
  exact⟨rfl,rfl⟩
theorem cycle_ne (a:Option Addr)(cap:Nat)(zs:List Int)(n:Nat)(d:Int)(h1:zs.length<=9223372036854775807)(hn:n<=4096)(h0:0<zs.length)(w:World)(hI:IsInts w.heap.size w a zs):
  Calls Tryz.prog 186 #[.slice a zs.length cap,.int .i64 (n:Int),.int .i64 d] w fun e w'=>∃ g c,e=.returned (.slice g (cyc zs n d).length c)/\NewC w.heap.size w' g (cyc zs n d) c/\Below w.heap.size w w':=by
 have hmk:=run_make_row' (P:=Tryz.prog) 25 3 (.int .i64 0) 8 Tryz.underlying25 Tryz.infoInt rfl .i64 .i64 n (by omega) (by omega)
 have t0:((zs.length:Int) == 0)=false:=by rw[beq_eq_false_iff_ne];omega
 have hne:(zs.length:Int)≠0:=by omega
 go_enter Tryz.func186,Tryz.ntmps186
 go_wp2_with fail
 clear hmk
 go_loopw [18] (fun i wr=>∃ k:Nat,k<=n/\i=.int .i64 k/\wr.rowIs w.heap.size 3 n (upTo (cyA zs d) k)/\Below w.heap.size w wr) (fun i _=>n-(intOf i).toNat)
 case atStart=>exact⟨0,Nat.zero_le _,rfl,(World.rowIs_made w (.int .i64 0) n 3).congr (fun j _=>by simp[upTo]),(Below.refl _ w).alloc (Nat.le_refl _) _⟩
 case round=>
  obtain⟨k,hk,rfl,hrow,hB⟩:=hrel
  by_cases hlt:k<n
  ·have hm:k%zs.length<zs.length:=Nat.mod_lt _ h0
   obtain⟨b,off,rfl,hb,hcell⟩:=(hI.below hB).at hm
   have hc:=hcell _ hm
   clear hcell
   have c2:=hrow.cell hlt
   have f2:=hrow.frozen k
   have e1:((k:Int)%(zs.length:Int))=((k%zs.length:Nat):Int):=rfl
   have HV:Hid (nth zs (k%zs.length)=cyA zs d k):=by show _=_;unfold cyA;rw[if_neg (by omega)]
   obtain⟨m,hme⟩:∃ m,m=k%zs.length:=⟨_,rfl⟩
   rw[<-hme] at hm hc e1 HV
   have HM:Hid (m=k%zs.length):=hme
   clear hme
   go_wp2_with fail
   exact⟨⟨k+1,by omega,by go_num,upTo_set hrow _ HV.out,hB.setCell (p:=⟨w.heap.size,k,none⟩) (Nat.le_refl _) _⟩,by simp[intOf];omega⟩
  ·obtain rfl:k=n:=by omega
   go_wp2_with fail
   go_ret
   exact⟨some ⟨w.heap.size,0,none⟩,k,ret_slice' (cyc_length zs k d).symm,⟨upTo_new hrow (Nat.le_refl _) _ (cyc_length zs k d) (fun j hj=>cyc_nth zs k d hj),Nat.le_of_eq (cyc_length zs k d)⟩,hB⟩
theorem cycle_no (a:Option Addr)(cap:Nat)(n:Nat)(d:Int)(hn:n<=4096)(w:World):
  Calls Tryz.prog 186 #[.slice a 0 cap,.int .i64 (n:Int),.int .i64 d] w fun e w'=>∃ g c,e=.returned (.slice g (cyc [] n d).length c)/\NewC w.heap.size w' g (cyc [] n d) c/\Below w.heap.size w w':=by
 have hmk:=run_make_row' (P:=Tryz.prog) 25 3 (.int .i64 0) 8 Tryz.underlying25 Tryz.infoInt rfl .i64 .i64 n (by omega) (by omega)
 go_enter Tryz.func186,Tryz.ntmps186
 go_wp2_with fail
 clear hmk
 go_loopw [18] (fun i wr=>∃ k:Nat,k<=n/\i=.int .i64 k/\wr.rowIs (w.heap.size+1) 3 n (upTo (cyA [] d) k)/\wr.cell? ⟨w.heap.size,0,none⟩=some (.int .i64 d)/\Below w.heap.size w wr) (fun i _=>n-(intOf i).toNat)
 case atStart=>
  refine⟨0,Nat.zero_le _,rfl,?_,?_,((Below.refl _ w).alloc (Nat.le_refl _) _).alloc (by simp) _⟩
  ·have:=World.rowIs_made (w.alloc (.cells #[.int .i64 d] 3)) (.int .i64 0) n 3
   rw[World.size_alloc] at this
   exact this.congr (fun j _=>by simp[upTo])
  ·rw[World.cell?_alloc_lt _ _ ⟨w.heap.size,0,none⟩ (by simp)]
   simp
 case round=>
  obtain⟨k,hk,rfl,hrow,hcd,hB⟩:=hrel
  by_cases hlt:k<n
  ·have c2:=hrow.cell hlt
   have f2:=hrow.frozen k
   have e1:((k:Int)%1)=0:=Int.emod_one _
   have HV:Hid (d=cyA [] d k):=rfl
   go_wp2_with fail
   refine⟨⟨k+1,by omega,by go_num,upTo_set hrow _ HV.out,?_,hB.setCell (p:=⟨w.heap.size+1,k,none⟩) (by show w.heap.size<=w.heap.size+1;omega) _⟩,by simp[intOf];omega⟩
   rw[World.cell?_of_block (Below.heap_setCell wr ⟨w.heap.size+1,k,none⟩ _ w.heap.size (by simp))]
   exact hcd
  ·obtain rfl:k=n:=by omega
   go_wp2_with fail
   go_ret
   exact⟨some ⟨w.heap.size+1,0,none⟩,k,ret_slice' (cyc_length [] k d).symm,⟨upTo_new hrow (by omega) _ (cyc_length [] k d) (fun j hj=>cyc_nth [] k d hj),Nat.le_of_eq (cyc_length [] k d)⟩,hB⟩
theorem cycle_c (a:Option Addr)(cap:Nat)(zs:List Int)(n:Nat)(d:Int)(h1:zs.length<=9223372036854775807)(hn:n<=4096)(w:World)(hI:IsInts w.heap.size w a zs):
  Calls Tryz.prog 186 #[.slice a zs.length cap,.int .i64 (n:Int),.int .i64 d] w fun e w'=>∃ g c,e=.returned (.slice g (cyc zs n d).length c)/\NewC w.heap.size w' g (cyc zs n d) c/\Below w.heap.size w w':=by
 by_cases h0:zs=[]
 ·subst h0;exact cycle_no a cap n d hn w
 ·exact cycle_ne a cap zs n d h1 hn (List.length_pos_iff.2 h0) w hI
theorem count_n (a:Option Addr)(cap:Nat)(zs:List Int)(n:Nat)(hreach:zs.length<=9223372036854775807)(w:World)(hI:IsInts w.heap.size w a zs)(he:errOf zs=0)(hn:(n:Int)=prod zs):
  Calls Tryz.prog 48 #[.slice a zs.length cap] w fun e w'=>e=.returned (.tuple #[.int .i64 (n:Int),.nilIface])/\Below w.heap.size w w':=
 (count_ok a cap zs hreach w hI he).mono fun e w' ⟨h1,h2⟩=>⟨by rw[h1,hn],h2⟩
theorem reshape_c (a:Option Addr)(cap:Nat)(zs:List Int)(n:Nat)(c:Bool)(sa:Option Addr)(sc:Nat)(sz:List Int)(da:Option Addr)(dc:Nat)(dz:List Int)(h0:zs.length<=9223372036854775807)(h1:sz.length<=9223372036854775807)(h2:dz.length<=9223372036854775807)(w:World)
  (hz:IsInts w.heap.size w a zs)(hs:IsInts w.heap.size w sa sz)(hd:IsInts w.heap.size w da dz)(he:errOf zs=0)(hn:(n:Int)=prod zs)(hf:flawE c sz dz=0):
  Calls Tryz.prog 118 #[.slice a zs.length cap,.agg #[.bool c,.slice sa sz.length sc,.slice da dz.length dc]] w fun e w'=>∃ xa xc ya yc,e=.returned (.tuple #[.agg #[.bool c,.slice xa zs.length xc,.slice ya (cyc dz n (fillE c)).length yc],.nilIface])/\NewC w.heap.size w' xa zs xc/\NewC w.heap.size w' ya (cyc dz n (fillE c)) yc/\Below w.heap.size w w':=by
 have HB0:Hid (Below w.heap.size w ((w.alloc (.cells #[.bool c,.slice sa sz.length sc,.slice da dz.length dc] 27)).alloc (.cells #[.bool false,.slice none 0 0,.slice none 0 0] 27))):=((Below.refl _ w).alloc (Nat.le_refl _) _).alloc (by simp) _
 have HI:Hid (IsInts w.heap.size w a zs/\IsInts w.heap.size w sa sz/\IsInts w.heap.size w da dz):=⟨hz,hs,hd⟩
 have HF:Hid (flawE c sz dz=0/\errOf zs=0/\(n:Int)=prod zs):=⟨hf,he,hn⟩
 have HD:Hid (n<=4096/\zs.length<=6):=by have:=errOf_zero.1 he;exact⟨by omega,this.1⟩
 clear hz hs hd hf he hn
 go_enter Tryz.func118,Tryz.ntmps118
 go_wp2_with fail
 refine (count_n a cap zs n h0 _ ((HI.1.below HB0.out).mono HB0.size) HF.2.1 HF.2.2).mono ?_
 rintro e w0 ⟨rfl,hC0⟩
 have HB0':Hid (Below w.heap.size w w0):=HB0.trans (hC0.mono HB0.size)
 have P0:Hid (Abx w0 w.heap.size (.bool c) (.slice sa sz.length sc) (.slice da dz.length dc)):=((Abx.new w _ _ _).al _).go hC0
 have R0:Hid (Abx w0 (w.heap.size+1) (.bool false) (.slice none 0 0) (.slice none 0 0)):=(Abx.new1 w _ _ _ _).go hC0
 clear hC0
 have b0:=P0.c0
 have b1:=P0.c1
 have b2:=P0.c2
 go_wp2_with fail
 refine (check_ok c sa sc sz da dc dz h1 h2 w0 ((HI.2.1.below HB0'.out).mono HB0'.size) ((HI.2.2.below HB0'.out).mono HB0'.size) HF.1).mono ?_
 rintro e w1 ⟨rfl,hC1⟩
 have HB1:Hid (Below w.heap.size w w1):=HB0'.trans (hC1.mono HB0'.size)
 have P1:Hid (Abx w1 w.heap.size (.bool c) (.slice sa sz.length sc) (.slice da dz.length dc)):=P0.go hC1
 have R1:Hid (Abx w1 (w.heap.size+1) (.bool false) (.slice none 0 0) (.slice none 0 0)):=R0.go hC1
 clear hC1 b0 b1 b2
 have c0:=P1.c0
 have c2:=P1.c2
 go_wp2_with fail
 have HBd:Hid (Below w.heap.size w w1.drew):=HB1.drew
 refine bT 7 (fun w'=>w'.cell? ⟨w.heap.size,0,none⟩=some (.bool c)/\w'.cell? ⟨w.heap.size,2,none⟩=some (.slice da dz.length dc)) 8 (⟨c0,c2⟩) fun hq0=>?_
 refine pT 0 hq0 ?_;refine lT 1 hq0 ?_;refine pT 2 hq0 ?_;refine pT 3 hq0 ?_;refine lT 4 hq0 ?_
 clear hq0
 refine oT 5 fun K hK=>?_
 go_simp
 go_wp2_with (go_at_call 187;refine (fill_any c w1.drew).mono ?_;rintro e w2 ⟨rfl,hw2⟩;subst hw2)
 refine hK.out _ _ (fun _=>⟨c0,c2⟩) ?_
 clear hK K
 refine oT 6 fun K hK=>?_
 go_simp
 go_wp2_with (go_at_call 186;refine (cycle_c da dc dz n (fillE c) h2 HD.1 w1.drew ((HI.2.2.below HBd.out).mono HBd.size)).mono ?_;rintro e w3 ⟨ya,yc,rfl,hY,hB3⟩)
 have P3:=P1.dr.go hB3
 have R3:=R1.dr.go hB3
 refine hK.out _ _ (fun _=>⟨P3.c0,P3.c2⟩) ?_
 clear hK K
 refine oT 7 fun K hK=>?_
 go_simp
 refine hK.out _ _ (fun h=>absurd h (by decide)) ?_
 clear hK K
 refine dT ?_
 have HB3:Hid (Below w.heap.size w w3):=HBd.trans (hB3.mono HBd.size)
 have e0:=P3.c0
 go_wp2_with fail
 have HBe:Hid (Below w.heap.size w w3.drew):=HB3.drew
 refine bT 6 (fun w'=>w'.cell? ⟨w.heap.size,0,none⟩=some (.bool c)) 8 (e0) fun hq9=>?_
 refine pT 0 hq9 ?_;refine lT 1 hq9 ?_;refine pT 2 hq9 ?_;refine pT 4 hq9 ?_
 clear hq9
 refine oT 3 fun K hK=>?_
 go_simp
 go_wp2_with (go_at_call 159;refine (fresh_c a cap zs (by have:=HD.2;omega) w3.drew ((HI.1.below HBe.out).mono HBe.size)).mono ?_;rintro e w4 ⟨xa,xc,rfl,hX,hB4⟩)
 have P4:=P3.dr.go hB4
 have R4:=R3.dr.go hB4
 have r0:=R4.c0
 have r1:=R4.c1
 have r2:=R4.c2
 have f0:=R4.fr 0
 have f1:=R4.fr 1
 have f2:=R4.fr 2
 refine hK.out _ _ (fun _=>P4.c0) ?_
 clear hK K
 refine pT 5 (P4.c0) ?_
 refine oT 6 fun K hK=>?_
 go_simp
 refine hK.out _ _ (fun h=>absurd h (by decide)) ?_
 clear hK K
 refine oT 7 fun K hK=>?_
 go_simp
 refine hK.out _ _ (fun h=>absurd h (by decide)) ?_
 clear hK K
 refine dT ?_
 go_wp2_with fail
 have F:=R4.set3 (.bool c) (.slice xa zs.length xc) (.slice ya (cyc dz n (fillE c)).length yc)
 have q0:=F.c0
 have q1:=F.c1
 have q2:=F.c2
 have z1:=R1.lt
 have z3:=R3.lt
 have z4:=HB3.size
 refine bodyPost_ret (v:=.tuple #[.agg #[.bool c,.slice xa zs.length xc,.slice ya (cyc dz n (fillE c)).length yc],.nilIface]) (by simp[results,Tryz.results118,go_sem,q0,q1,q2]) rfl ⟨xa,xc,ya,yc,rfl,?_,?_,?_⟩
 ·exact (hX.set3 (by simpa using z3) _ _ _).low (by simpa using z4)
 ·exact (((hY.go ((Below.refl _ w3).drew)).go hB4).set3 (by simpa using z1) _ _ _).low (by have:=HB1.size;simpa using this)
 ·exact bel_set3 (HBe.trans (hB4.mono HBe.size)) (by omega) _ _ _
theorem reshape_no1 (a:Option Addr)(cap:Nat)(zs:List Int)(c:Bool)(sa:Option Addr)(sc:Nat)(sz:List Int)(da:Option Addr)(dc:Nat)(dz:List Int)(h0:zs.length<=9223372036854775807)(w:World)
  (hz:IsInts w.heap.size w a zs)(he:errOf zs≠0):
  Calls Tryz.prog 118 #[.slice a zs.length cap,.agg #[.bool c,.slice sa sz.length sc,.slice da dz.length dc]] w fun e w'=>e=.returned (.tuple #[.agg #[.bool false,.slice none 0 0,.slice none 0 0],.iface 28 (.int .i64 (errOf zs))])/\Below w.heap.size w w':=by
 have HB0:Hid (Below w.heap.size w ((w.alloc (.cells #[.bool c,.slice sa sz.length sc,.slice da dz.length dc] 27)).alloc (.cells #[.bool false,.slice none 0 0,.slice none 0 0] 27))):=((Below.refl _ w).alloc (Nat.le_refl _) _).alloc (by simp) _
 have HI:Hid (IsInts w.heap.size w a zs/\errOf zs≠0):=⟨hz,he⟩
 clear hz he
 go_enter Tryz.func118,Tryz.ntmps118
 go_wp2_with fail
 refine (count_no a cap zs h0 _ ((HI.1.below HB0.out).mono HB0.size) HI.2).mono ?_
 rintro e w0 ⟨rfl,hC0⟩
 have HB1:Hid (Below w.heap.size w w0):=HB0.trans (hC0.mono HB0.size)
 have R4:Hid (Abx w0 (w.heap.size+1) (.bool false) (.slice none 0 0) (.slice none 0 0)):=(Abx.new1 w _ _ _ _).go hC0
 clear hC0
 have r0:=R4.c0
 have r1:=R4.c1
 have r2:=R4.c2
 have f0:=R4.fr 0
 have f1:=R4.fr 1
 have f2:=R4.fr 2
 go_wp2_with fail
 have F:=R4.set3 (.bool false) (.slice none 0 0) (.slice none 0 0)
 have q0:=F.c0
 have q1:=F.c1
 have q2:=F.c2
 exact bodyPost_ret (v:=.tuple #[.agg #[.bool false,.slice none 0 0,.slice none 0 0],.iface 28 (.int .i64 (errOf zs))]) (by simp[results,Tryz.results118,go_sem,q0,q1,q2]) rfl ⟨rfl,bel_set3 HB1.out (by omega) _ _ _⟩
end Go.Proofs.YtkmmkcpfhnifhaaGreatDoor
