/- What the program tells, in part. -/
import Derived.Test.YtkmmkcpfhnifhaaGreatJ05
import Derived.Lib.SliceRun
set_option linter.unusedVariables false
set_option maxHeartbeats 2000000
set_option maxRecDepth 100000
namespace Go.Proofs.YtkmmkcpfhnifhaaGreat
open Go.RowKit
theorem anp_ok {e:Int}{c:Bool}{S D:List Int}{w w':World}{r:Ending}(he:e=0)(h:∃ xa xc ya yc,r=.returned (.tuple #[.agg #[.bool c,.slice xa S.length xc,.slice ya D.length yc],.nilIface])/\NewC w.heap.size w' xa S xc/\NewC w.heap.size w' ya D yc/\Below w.heap.size w w'):AnP (anE e c S D) w r w':=by
 subst he
 exact h
theorem anp_no {e:Int}{c:Bool}{S D:List Int}{w w':World}{r:Ending}(he:e≠0)(h:r=.returned (.tuple #[.agg #[.bool false,.slice none 0 0,.slice none 0 0],.iface 43 (.int .i64 e)])/\Below w.heap.size w w'):AnP (anE e c S D) w r w':=by
 rw[anE_no he,h.1]
 exact err0 he h.2
theorem cyc_one (dz:List Int)(h:dz.length=1)(d:Int):cyc dz 1 d=dz:=by
 match dz,h with
 | [x],_=>rfl
theorem rs16 (la:Option Addr)(lc:Nat)(l:List Int)(c:Bool)(sa:Option Addr)(sc:Nat)(sz:List Int)(da:Option Addr)(dc:Nat)(dz:List Int)(w:World)(hl:l.length<=4096)(hI:IsInts w.heap.size w la l)(hA:ArF w c sa sc sz da dc dz):
  Calls Tryz.prog 63 #[.slice la l.length lc,.agg #[.bool c,.slice sa sz.length sc,.slice da dz.length dc]] w (AnP (anE (errOf l) c l (cyc dz (prod l).toNat (fillE c))) w):=by
 by_cases h:errOf l=0
 ·have hp:=prod_nonneg (errOf_zero.1 h).2.1
  exact (reshape_c la lc l (prod l).toNat c sa sc sz da dc dz (by omega) hA.h1 hA.h2 w hI hA.1.1 hA.2.1.1 h (by omega) hA.2.2.2).mono fun _ _ k=>anp_ok h k
 ·exact (reshape_no1 la lc l c sa sc sz da dc dz (by omega) w hI h).mono fun _ _ k=>anp_no h k
theorem k_last (F:Nat)(cs:Array Value)(w:World):
  Calls Tryz.prog 46 #[.func (.func F) #[] cs] w fun r w'=>r=.returned (.func (.func 99) #[] #[.pointer (some ⟨w.heap.size,0,none⟩)])/\w'.cell? ⟨w.heap.size,0,none⟩=some (.func (.func F) #[] cs)/\Below w.heap.size w w':=by
 have hb:Hid (Below w.heap.size w (w.alloc (.cells #[.func (.func F) #[] cs] 76))):=(Below.refl _ w).alloc (Nat.le_refl _) _
 have hc:=box16 w (.func (.func F) #[] cs) 76
 go_enter Tryz.func46,Tryz.ntmps46
 go_wp2_with fail
 go_ret
 exact⟨rfl,box16 w _ _,hb.out⟩
theorem k_lines (F:Nat)(cs:Array Value)(w:World):
  Calls Tryz.prog 50 #[.func (.func F) #[] cs] w fun r w'=>r=.returned (.func (.func 105) #[] #[.pointer (some ⟨w.heap.size,0,none⟩)])/\w'.cell? ⟨w.heap.size,0,none⟩=some (.func (.func F) #[] cs)/\Below w.heap.size w w':=by
 have hb:Hid (Below w.heap.size w (w.alloc (.cells #[.func (.func F) #[] cs] 56))):=(Below.refl _ w).alloc (Nat.le_refl _) _
 have hc:=box16 w (.func (.func F) #[] cs) 56
 go_enter Tryz.func50,Tryz.ntmps50
 go_wp2_with fail
 go_ret
 exact⟨rfl,box16 w _ _,hb.out⟩
theorem k_list (F:Nat)(cs:Array Value)(w:World):
  Calls Tryz.prog 62 #[.func (.func F) #[] cs] w fun r w'=>r=.returned (.func (.func 117) #[] #[.pointer (some ⟨w.heap.size,0,none⟩)])/\w'.cell? ⟨w.heap.size,0,none⟩=some (.func (.func F) #[] cs)/\Below w.heap.size w w':=by
 have hb:Hid (Below w.heap.size w (w.alloc (.cells #[.func (.func F) #[] cs] 85))):=(Below.refl _ w).alloc (Nat.le_refl _) _
 have hc:=box16 w (.func (.func F) #[] cs) 85
 go_enter Tryz.func62,Tryz.ntmps62
 go_wp2_with fail
 go_ret
 exact⟨rfl,box16 w _ _,hb.out⟩
theorem fu_last {p:Nat}{v:Value}{W:World}{B:Int->A1}(hc:W.cell? ⟨p,0,none⟩=some v)(h:FuX v W B):Fu1 (.func (.func 99) #[] #[.pointer (some ⟨p,0,none⟩)]) W (lastA B):=by
 obtain⟨F,cs,rfl,hE,H⟩:=h
 refine⟨99,[.pointer (some ⟨p,0,none⟩)],rfl,(enters_of Tryz.func99 (by kernel_rfl) rfl),fun c sa sc sz da dc dz w hB hA=>?_⟩
 have hp:=cell_to16 hB hc
 by_cases h0:sz.length=0
 ·have h1:=one_cell hA.2.2.2 h0
  obtain rfl:=List.length_eq_zero_iff.1 h0
  refine b_none (lastA B c [] dz) p _ c sa sc da dc dz w hp fun w' hB'=>(rs16 none 0 [] c sa sc [] da dc dz w' (by simp) (.inl rfl) (hA.go hB')).mono fun _ _ k=>?_
  have e:anE (errOf []) c [] (cyc dz (prod []).toNat (fillE c))=lastA B c [] dz:=by
   rw[show errOf []=0 by decide,anE_ok rfl,show (prod []).toNat=1 from rfl,cyc_one dz h1];rfl
  rw[e] at k
  exact k
 ·refine b_last (lastA B c sz dz) p F cs hE c sa sc sz da dc dz w hp hA.s6.1 h0 fun w' hB'=>?_
  rw[show lastA B c sz dz=B ((sz.length:Int)-1) c sz dz by unfold lastA;rw[if_neg h0]]
  exact H _ c sa sc sz da dc dz w' (hB.trans (hB'.mono hB.size)) rfl h0 (hA.go hB')
theorem mk_last (B:Int->A1)(v:Value)(w:World)(h:FuX v w B):Calls Tryz.prog 46 #[v] w (Mk1 (lastA B) w):=by
 have h':=h
 obtain⟨F,cs,rfl,_,_⟩:=h'
 exact (k_last F _ w).mono fun _ _ ⟨e,hc,hB⟩=>⟨_,e,fu_last hc (h.go hB),hB⟩
def FuG (v:Value)(W:World)(E:Bool->List Int->List Int->Int)(L:Bool->List Int->List Int->List Int):Prop:=∃ (F:Nat) (cs:List Value),v=.func (.func F) #[] cs.toArray/\En F/\∀ (c:Bool) (sa:Option Addr) (sc:Nat) (sz:List Int) (da:Option Addr) (dc:Nat) (dz:List Int) (w:World),Below W.heap.size W w->ArF w c sa sc sz da dc dz->Calls Tryz.prog F (.agg #[.bool c,.slice sa sz.length sc,.slice da dz.length dc]::cs).toArray w (UL (E c sz dz) (L c sz dz) w)
theorem fu_lines {p:Nat}{v:Value}{W:World}{E:Bool->List Int->List Int->Int}{L:Bool->List Int->List Int->List Int}{A:A1}(hc:W.cell? ⟨p,0,none⟩=some v)(h:FuG v W E L)(hA:∀ c sz dz,A c sz dz=if E c sz dz=0 then anA false [((L c sz dz).length:Int)] (L c sz dz) else anN (E c sz dz)):Fu1 (.func (.func 105) #[] #[.pointer (some ⟨p,0,none⟩)]) W A:=by
 obtain⟨F,cs,rfl,hE,H⟩:=h
 refine⟨105,[.pointer (some ⟨p,0,none⟩)],rfl,(enters_of Tryz.func105 (by kernel_rfl) rfl),fun c sa sc sz da dc dz w hB hA'=>?_⟩
 have hp:=cell_to16 hB hc
 rw[hA]
 have HH:∀ w',Below w.heap.size w w'->Calls Tryz.prog F (.agg #[.bool c,.slice sa sz.length sc,.slice da dz.length dc]::cs).toArray w' (UL (E c sz dz) (L c sz dz) w'):=fun w' hB'=>H c sa sc sz da dc dz w' (hB.trans (hB'.mono hB.size)) (hA'.go hB')
 by_cases h0:E c sz dz=0
 ·rw[if_pos h0]
  exact b_lines p _ _ F cs hE c sa sc sz da dc dz w hp h0 HH
 ·rw[if_neg h0]
  exact b_linesn p _ _ F cs hE c sa sc sz da dc dz w hp h0 HH
theorem fu_list {p:Nat}{v:Value}{W:World}{B:List Int->A1}(hc:W.cell? ⟨p,0,none⟩=some v)(h:FuL v W B):Fu2 (.func (.func 117) #[] #[.pointer (some ⟨p,0,none⟩)]) W (byL B):=by
 obtain⟨F,cs,rfl,hE,H⟩:=h
 refine⟨117,[.pointer (some ⟨p,0,none⟩)],rfl,(enters_of Tryz.func117 (by kernel_rfl) rfl),fun c sa sc sz da dc dz c' sa' sc' sz' da' dc' dz' w hB hA hA'=>?_⟩
 have hp:=cell_to16 hB hc
 unfold byL
 by_cases h0:lstE c sz=0
 ·rw[if_pos h0]
  exact b_list _ p F cs hE c sa sc sz da dc dz c' sa' sc' sz' da' dc' dz' w hp h0 fun w' hB'=>H da dc dz c' sa' sc' sz' da' dc' dz' w' (hB.trans (hB'.mono hB.size)) (hA.go hB').2.1 hA.2.2.1 hA.s6.2 (hA'.go hB')
 ·rw[if_neg h0]
  exact b_listn p _ c sa sc sz da dc dz c' sa' sc' sz' da' dc' dz' w hp h0 hA.s6.1
theorem mk_list (B:List Int->A1)(v:Value)(w:World)(h:FuL v w B):Calls Tryz.prog 62 #[v] w (Mk2 (byL B) w):=by
 have h':=h
 obtain⟨F,cs,rfl,_,_⟩:=h'
 exact (k_list F _ w).mono fun _ _ ⟨e,hc,hB⟩=>⟨_,e,fu_list hc (h.go hB),hB⟩
def P1 (f:Int)(c:Bool)(sz dz:List Int)(w:World)(e:Ending)(w':World):Prop:=
 (e1E f c sz dz≠0/\e=.returned (.tuple #[.agg #[.bool false,.slice none 0 0,.slice none 0 0],.iface 43 (.int .i64 (e1E f c sz dz))])/\Below w.heap.size w w') ∨
 (e1E f c sz dz=0/\∃ xa xc ya yc,e=.returned (.tuple #[.agg #[.bool false,.slice xa sz.length xc,.slice ya (e1V f dz).length yc],.nilIface])/\NewInts w.heap.size w' xa sz/\NewInts w.heap.size w' ya (e1V f dz)/\Below w.heap.size w w')
theorem P1.no {f:Int}{c:Bool}{sz dz:List Int}{w w':World}{e:Int}(h:e1E f c sz dz=e)(h0:e≠0)(hB:Below w.heap.size w w'):P1 f c sz dz w (.returned (.tuple #[.agg #[.bool false,.slice none 0 0,.slice none 0 0],.iface 43 (.int .i64 e)])) w':=by
 subst h;exact .inl ⟨h0,rfl,hB⟩
def P2 (f:Int)(c:Bool)(sz dz:List Int)(c':Bool)(sz' dz':List Int)(w:World)(e:Ending)(w':World):Prop:=
 (e2E f c sz dz c' sz' dz'≠0/\e=.returned (.tuple #[.agg #[.bool false,.slice none 0 0,.slice none 0 0],.iface 43 (.int .i64 (e2E f c sz dz c' sz' dz'))])/\Below w.heap.size w w') ∨
 (e2E f c sz dz c' sz' dz'=0/\∃ xa xc ya yc,e=.returned (.tuple #[.agg #[.bool false,.slice xa (shp sz sz').length xc,.slice ya (e2V f c sz dz c' sz' dz').length yc],.nilIface])/\NewInts w.heap.size w' xa (shp sz sz')/\NewInts w.heap.size w' ya (e2V f c sz dz c' sz' dz')/\Below w.heap.size w w')
theorem P2.no {f:Int}{c:Bool}{sz dz:List Int}{c':Bool}{sz' dz':List Int}{w w':World}{e:Int}(h:e2E f c sz dz c' sz' dz'=e)(h0:e≠0)(hB:Below w.heap.size w w'):P2 f c sz dz c' sz' dz' w (.returned (.tuple #[.agg #[.bool false,.slice none 0 0,.slice none 0 0],.iface 43 (.int .i64 e)])) w':=by
 subst h;exact .inl ⟨h0,rfl,hB⟩
def C2:Prop:=∀ (f:Int) (c:Bool) (sa:Option Addr) (sc:Nat) (sz:List Int) (da:Option Addr) (dc:Nat) (dz:List Int) (c':Bool) (sa':Option Addr) (sc':Nat) (sz':List Int) (da':Option Addr) (dc':Nat) (dz':List Int) (w:World),In64 f->sz.length<=9223372036854775807->dz.length<=9223372036854775807->sz'.length<=9223372036854775807->dz'.length<=9223372036854775807 →
 IsInts w.heap.size w sa sz->IsInts w.heap.size w da dz->IsInts w.heap.size w sa' sz'->IsInts w.heap.size w da' dz'->(∀ j,In64 (nth dz j))->(∀ j,In64 (nth dz' j)) →
 Calls Tryz.prog 146 #[.int .i64 f,.agg #[.bool c,.slice sa sz.length sc,.slice da dz.length dc],.agg #[.bool c',.slice sa' sz'.length sc',.slice da' dz'.length dc']] w fun e w'=>P2 f c sz dz c' sz' dz' w e w'
def P2c (f:Int)(c:Bool)(sz dz:List Int)(c':Bool)(sz' dz':List Int)(w:World)(e:Ending)(w':World):Prop:=
 (e2E f c sz dz c' sz' dz'≠0/\e=.returned (.tuple #[.agg #[.bool false,.slice none 0 0,.slice none 0 0],.iface 43 (.int .i64 (e2E f c sz dz c' sz' dz'))])/\Below w.heap.size w w') ∨
 (e2E f c sz dz c' sz' dz'=0/\∃ xa xc ya yc,e=.returned (.tuple #[.agg #[.bool false,.slice xa (shp sz sz').length xc,.slice ya (e2V f c sz dz c' sz' dz').length yc],.nilIface])/\NewC w.heap.size w' xa (shp sz sz') xc/\NewInts w.heap.size w' ya (e2V f c sz dz c' sz' dz')/\Below w.heap.size w w')
theorem P2c.no {f:Int}{c:Bool}{sz dz:List Int}{c':Bool}{sz' dz':List Int}{w w':World}{e:Int}(h:e2E f c sz dz c' sz' dz'=e)(h0:e≠0)(hB:Below w.heap.size w w'):P2c f c sz dz c' sz' dz' w (.returned (.tuple #[.agg #[.bool false,.slice none 0 0,.slice none 0 0],.iface 43 (.int .i64 e)])) w':=by
 subst h;exact .inl ⟨h0,rfl,hB⟩
def P2d (f:Int)(c:Bool)(sz dz:List Int)(c':Bool)(sz' dz':List Int)(w:World)(e:Ending)(w':World):Prop:=
 (e2E f c sz dz c' sz' dz'≠0/\e=.returned (.tuple #[.agg #[.bool false,.slice none 0 0,.slice none 0 0],.iface 43 (.int .i64 (e2E f c sz dz c' sz' dz'))])/\Below w.heap.size w w') ∨
 (e2E f c sz dz c' sz' dz'=0/\∃ xa xc ya yc,e=.returned (.tuple #[.agg #[.bool false,.slice xa (shp sz sz').length xc,.slice ya (e2V f c sz dz c' sz' dz').length yc],.nilIface])/\NewC w.heap.size w' xa (shp sz sz') xc/\NewC w.heap.size w' ya (e2V f c sz dz c' sz' dz') yc/\Below w.heap.size w w')
theorem P2d.no {f:Int}{c:Bool}{sz dz:List Int}{c':Bool}{sz' dz':List Int}{w w':World}{e:Int}(h:e2E f c sz dz c' sz' dz'=e)(h0:e≠0)(hB:Below w.heap.size w w'):P2d f c sz dz c' sz' dz' w (.returned (.tuple #[.agg #[.bool false,.slice none 0 0,.slice none 0 0],.iface 43 (.int .i64 e)])) w':=by
 subst h;exact .inl ⟨h0,rfl,hB⟩
def C2d:Prop:=∀ (f:Int) (c:Bool) (sa:Option Addr) (sc:Nat) (sz:List Int) (da:Option Addr) (dc:Nat) (dz:List Int) (c':Bool) (sa':Option Addr) (sc':Nat) (sz':List Int) (da':Option Addr) (dc':Nat) (dz':List Int) (w:World),In64 f->sz.length<=9223372036854775807->dz.length<=9223372036854775807->sz'.length<=9223372036854775807->dz'.length<=9223372036854775807 →
 IsInts w.heap.size w sa sz->IsInts w.heap.size w da dz->IsInts w.heap.size w sa' sz'->IsInts w.heap.size w da' dz'->(∀ j,In64 (nth dz j))->(∀ j,In64 (nth dz' j)) →
 Calls Tryz.prog 146 #[.int .i64 f,.agg #[.bool c,.slice sa sz.length sc,.slice da dz.length dc],.agg #[.bool c',.slice sa' sz'.length sc',.slice da' dz'.length dc']] w fun e w'=>P2d f c sz dz c' sz' dz' w e w'
def C2c:Prop:=∀ (f:Int) (c:Bool) (sa:Option Addr) (sc:Nat) (sz:List Int) (da:Option Addr) (dc:Nat) (dz:List Int) (c':Bool) (sa':Option Addr) (sc':Nat) (sz':List Int) (da':Option Addr) (dc':Nat) (dz':List Int) (w:World),In64 f->sz.length<=9223372036854775807->dz.length<=9223372036854775807->sz'.length<=9223372036854775807->dz'.length<=9223372036854775807 →
 IsInts w.heap.size w sa sz->IsInts w.heap.size w da dz->IsInts w.heap.size w sa' sz'->IsInts w.heap.size w da' dz'->(∀ j,In64 (nth dz j))->(∀ j,In64 (nth dz' j)) →
 Calls Tryz.prog 146 #[.int .i64 f,.agg #[.bool c,.slice sa sz.length sc,.slice da dz.length dc],.agg #[.bool c',.slice sa' sz'.length sc',.slice da' dz'.length dc']] w fun e w'=>P2c f c sz dz c' sz' dz' w e w'
theorem C2d.c (H:C2d):C2c:=fun f c sa sc sz da dc dz c' sa' sc' sz' da' dc' dz' w hf h1 h2 h3 h4 h5 h6 h7 h8 h9 h10=>
 (H f c sa sc sz da dc dz c' sa' sc' sz' da' dc' dz' w hf h1 h2 h3 h4 h5 h6 h7 h8 h9 h10).mono fun e w' h=>h.elim .inl (fun ⟨h0,xa,xc,ya,yc,he,hX,hY,hB⟩=>.inr ⟨h0,xa,xc,ya,yc,he,hX,hY.1,hB⟩)
theorem C2c.plain (H:C2c):C2:=fun f c sa sc sz da dc dz c' sa' sc' sz' da' dc' dz' w hf h1 h2 h3 h4 h5 h6 h7 h8 h9 h10=>
 (H f c sa sc sz da dc dz c' sa' sc' sz' da' dc' dz' w hf h1 h2 h3 h4 h5 h6 h7 h8 h9 h10).mono fun e w' h=>h.elim .inl (fun ⟨h0,xa,xc,ya,yc,he,hX,hY,hB⟩=>.inr ⟨h0,xa,xc,ya,yc,he,hX.1,hY,hB⟩)
theorem step_any (a:Option Addr)(cap:Nat)(zs:List Int)(x:Nat)(hx:x<zs.length)(he:errOf zs=0)(n₀:Nat)(w:World)(hI:IsC n₀ w a zs cap):
  Calls Tryz.prog 162 #[.slice a zs.length cap,.int .i64 (x:Nat)] w fun e w'=>e=.returned (.int .i64 (stp zs x))/\w'=w:=by
 obtain⟨hI,hcap⟩:=hI
 obtain⟨b,off,rfl,hb,hcell⟩:=hI.at hx
 have hz:=errOf_zero.1 he
 have hl6:zs.length<=6:=hz.1
 have HA:Hid (AllIn zs):=hz.2.1
 have HC:Hid (∀ j,j<zs.length->w.cell? ⟨b,off+j,none⟩=some (.int .i64 (nth zs j))):=hcell
 obtain⟨m,hm⟩:∃ m,zs.length=x+1+m:=⟨zs.length-(x+1),by omega⟩
 obtain⟨s,hs⟩:∃ s,s=zs.drop (x+1):=⟨_,rfl⟩
 have hsl:s.length=m:=by rw[hs,List.length_drop];omega
 have HS:Hid (s.length=m/\(∀ j,j<m->nth s j=nth zs (x+1+j))/\AllIn s/\prod s=stp zs x):=⟨hsl,fun j hj=>by rw[hs];simp[nth],by rw[hs];exact HA.drop _,by rw[hs];rfl⟩
 clear hs hsl hcell HA
 have hx1:x<9223372036854775806:=by omega
 have HF:Hid (m<=5):=by show m<=5;omega
 by_cases hne:cap=x+1
 ·have hm0:m=0:=by omega
  subst hm0
  have hfin:Hid (stp zs x=1):=by
   have h:=HS.out
   have e:s=[]:=List.eq_nil_of_length_eq_zero h.1
   rw[e] at h
   exact h.2.2.2.symm
  go_enter Tryz.func162,Tryz.ntmps162
  go_wp2_with fail
  go_loop [5,13] (fun pv i=>pv=.int .i64 1/\i=.int .i64 0) (fun _ i=>0)
  case atStart=>exact⟨rfl,rfl⟩
  case round=>
   obtain⟨rfl,rfl⟩:=hrel
   go_wp2_with fail
   go_ret
   exact⟨ret_int hfin.symm,rfl⟩
 ·go_enter Tryz.func162,Tryz.ntmps162
  go_wp2_with fail
  go_loop [5,13] (fun pv i=>∃ k:Nat,k<=m/\i=.int .i64 k/\pv=.int .i64 (prod (s.take k))) (fun _ i=>m-(intOf i).toNat)
  case atStart=>exact⟨0,Nat.zero_le _,rfl,rfl⟩
  case round=>
   obtain⟨k,hk,rfl,rfl⟩:=hrel
   by_cases hlt:k<m
   ·have hc:w.cell? ⟨b,off+(x+1)+k,none⟩=some (.int .i64 (nth s k)):=by
     rw[HS.2.1 k hlt,<-HC.out (x+1+k) (by omega),Nat.add_assoc]
    have HP:Hid (prod (s.take k)*nth s k=prod (s.take (k+1))/\0<=prod (s.take (k+1))/\prod (s.take (k+1))<=1152921504606846976):=by
     refine⟨(prod_take1 s k (by rw[HS.1];exact hlt)).symm,prod_60 (fun y hy=>HS.2.2.1 y (List.mem_of_mem_take hy)) ?_⟩
     have:=HF.out
     rw[List.length_take];omega
    obtain⟨P,hP⟩:∃ P,P=prod (s.take k):=⟨_,rfl⟩
    obtain⟨Q,hQ⟩:∃ Q,Q=prod (s.take (k+1)):=⟨_,rfl⟩
    rw[<-hP]
    have HPQ:Hid (P*nth s k=Q/\0<=Q/\Q<=1152921504606846976):=by rw[hP,hQ];exact HP.out
    have HQ:Hid (Q=prod (s.take (k+1))):=hQ
    have hw:IntKind.i64.wrap (P*nth s k)=Q:=by rw[HPQ.1];exact IntWalk.i64_in _ (by have:=HPQ.2;omega)
    clear hP hQ HP
    go_wp2_with fail
    exact⟨⟨k+1,by omega,by go_num,int_eq HQ.out⟩,by simp[intOf];omega⟩
   ·obtain rfl:k=m:=by omega
    have hfin:Hid (prod (s.take k)=stp zs x):=by
     have h:=HS.out
     rw[List.take_of_length_le (by omega)]
     exact h.2.2.2
    go_wp2_with fail
    go_ret
    exact⟨ret_int hfin.out,rfl⟩
theorem empty_own (w:World)(t:TypeId):(w.alloc (.cells #[] t)).ownsRow w.heap.size t 1 (.slice (some ⟨w.heap.size,0,none⟩) 0 0) 0 []:=
 ⟨rfl,.inr ⟨w.heap.size,0,#[],rfl,Nat.le_refl _,World.alloc_heap_new w _,Nat.le_refl _,by unfold maxLen;omega,rfl,rfl⟩⟩
theorem clone_any (a:Option Addr)(cap:Nat)(zs:List Int)(h1:zs.length<=100000)(w:World)(hI:IsInts w.heap.size w a zs):
  Calls Tryz.prog 22 #[.slice a zs.length cap] w fun e w'=>∃ g c,e=.returned (.slice g zs.length c)/\NewC w.heap.size w' g zs c/\Below w.heap.size w w':=by
 have q0:∀ (w:World) (a:Option Addr) (n c n' c':Nat),(binOp .eql 22 (.slice a n c) (.slice none n' c')).run Tryz.prog w=.ok (.bool a.isNone) w:=fun w a n c n' c'=>Lib.run_eql_slice_nil w _ _ a n c n' c' Tryz.underlying22
 obtain⟨i0,hi,hz0,hz1,hz2⟩:=info_parts Tryz.infoInt
 cases a with
 | none=>
  have hz:zs=[]:=by
   rcases hI with h | ⟨_,_,h,_⟩
   ·exact h
   ·cases h
  subst hz
  go_enter Tryz.func22,Tryz.ntmps22
  go_wp2_with fail
  go_ret
  exact⟨none,0,rfl,⟨.inl rfl,Nat.le_refl _⟩,Below.refl _ _⟩
 | some ad=>
  have H0:=empty_own w 3
  have hI':=(hI.below ((Below.refl _ w).alloc (Nat.le_refl _) (.cells #[] 3)))
  have hnews:∀ j u,(zs.map (Value.int .i64))[j]?=some u->(w.alloc (.cells #[] 3)).cell? (ad.add j)=some u:=by
   intro j u hj
   rw[List.getElem?_map] at hj
   by_cases hl:j<zs.length
   ·obtain⟨b,off,e,hb,hc⟩:=hI'.at hl
    cases e
    rw[List.getElem?_eq_getElem hl] at hj
    simp only[Option.map_some] at hj
    obtain rfl:=Option.some.inj hj
    rw[<-nth_get zs j hl]
    have e:(⟨b,off,none⟩:Addr).add j=⟨b,off+j,none⟩:=by
     unfold Addr.add;split
     ·rename_i h0;subst h0;rfl
     ·rfl
    rw[e];exact hc j hl
   ·rw[List.getElem?_eq_none (by omega)] at hj;cases hj
  clear hI hI'
  go_enter Tryz.func22,Tryz.ntmps22
  go_wp2_with (at_builtin;refine wpList_append_own _ rfl _ _ 22 rfl w.heap.size 3 i0 (.int .i64 0) 1 8 Tryz.underlying22 hi hz0 hz1 hz2 rfl (by decide) _ _ _ rfl H0 ad zs.length cap (zs.map (Value.int .i64)) rfl (by simp) hnews (fun x hx=>by obtain⟨y,_,rfl⟩:=List.mem_map.1 hx;rfl) (by unfold maxLen;omega) (by omega) (by simp) ?_;intro v' w3 hown' hgrow3 hnil3)
  rw[List.nil_append,Nat.zero_add] at hown'
  have hB:Below w.heap.size w w3:=((Below.refl _ w).alloc (Nat.le_refl _) _).grown hgrow3 (by simp) (own_ge H0)
  obtain⟨g,c,rfl,hIJ⟩:=own_cap hown'
  go_wp2_with fail
  go_ret
  exact⟨g,c,rfl,hIJ,hB⟩
def Ins (zs ts:List Int)(pre:List (Ax zs.length)):Prop:=∀ x∈pre,0<=nth ts x.1/\nth ts x.1<nth zs x.1
theorem Ins.nil (zs ts:List Int):Ins zs ts []:=fun x hx=>by cases hx
def rl (rs:List (List Int))(k:Nat):List Int:=rs.getD k []
def gaS (rs:List (List Int)):List Int:=rs.map fun r=>(r.length:Int)
def gaT (rs:List (List Int))(t:List Int):List Int:=(List.range rs.length).map fun k=>nth (rl rs k) (nth t k).toNat
section
variable {rs : List (List Int)} {t : List Int} {k : Nat}
theorem gaS_length:(gaS rs).length=rs.length:=by simp[gaS]
theorem gaS_nth (h:k<rs.length):nth (gaS rs) k=(rl rs k).length:=by simp[gaS,rl,nth,h]
theorem gaT_length:(gaT rs t).length=rs.length:=by simp[gaT]
theorem gaT_nth (h:k<rs.length):nth (gaT rs t) k=nth (rl rs k) (nth t k).toNat:=by simp[gaT,nth,h]
end
theorem crd_drop:∀ (s:List Int) (p:Int) (k:Nat),(crd s p).1.drop k=(crd (s.drop k) p).1
 | _,_,0=>rfl
 | [],p,k+1=>by simp[crd]
 | x::s,p,k+1=>by
  simp only[crd,List.drop_succ_cons]
  exact crd_drop s p k
theorem crd_at (s:List Int)(p:Int){k:Nat}(h:k<s.length):nth (crd s p).1 k=(crd (s.drop (k+1)) p).2.tmod (nth s k):=by
 have e:=crd_drop s p k
 rw[drop_nth s k h,drop_nth _ k (by rw[crd_len];exact h)] at e
 simp only[crd] at e
 exact (List.cons.inj e).1
def gI (rs:List (List Int))(q:Int)(k:Nat):Int:=nth (rl rs k) (q.tmod (nth (gaS rs) k)).toNat
def gstep {N:Nat}(rs:List (List Int))(zs:List Int)(q:(Int × Int) × (Int × Bool))(x:Ax N):(Int × Int) × (Int × Bool):=
 ((q.1.1.tdiv (nth (gaS rs) x.1),wrap64 (q.1.2+wrap64 (gI rs q.1.1 x.1*q.2.1))),(wrap64 (q.2.1*nth zs x.1),q.2.2 && decide (0<=gI rs q.1.1 x.1/\gI rs q.1.1 x.1<nth zs x.1)))
section
variable {N : Nat} (rs : List (List Int)) (zs : List Int) (p : Int) (pre : List (Ax N))
def gQ:Int:=(pre.foldl (gstep rs zs) ((p,0),(1,true))).1.1
def gV:Int:=(pre.foldl (gstep rs zs) ((p,0),(1,true))).1.2
def gA:Int:=(pre.foldl (gstep rs zs) ((p,0),(1,true))).2.1
def gB:Bool:=(pre.foldl (gstep rs zs) ((p,0),(1,true))).2.2
theorem gQ_snoc (k:Nat)(hk:k<N):gQ rs zs p (pre++[⟨k,hk⟩])=(gQ rs zs p pre).tdiv (nth (gaS rs) k):=by
 simp only[gQ,List.foldl_append,List.foldl_cons,List.foldl_nil,gstep]
theorem gV_snoc (k:Nat)(hk:k<N):gV rs zs p (pre++[⟨k,hk⟩])=wrap64 (gV rs zs p pre+wrap64 (gI rs (gQ rs zs p pre) k*gA rs zs p pre)):=by
 simp only[gQ,gV,gA,List.foldl_append,List.foldl_cons,List.foldl_nil,gstep]
theorem gA_snoc (k:Nat)(hk:k<N):gA rs zs p (pre++[⟨k,hk⟩])=wrap64 (gA rs zs p pre*nth zs k):=by
 simp only[gA,List.foldl_append,List.foldl_cons,List.foldl_nil,gstep]
end
theorem gQ_fold {N:Nat}{rs:List (List Int)}{zs:List Int}(h:AllPos (gaS rs))(hN:N=rs.length):∀ (pre:List (Ax N)) (s:(Int × Int) × (Int × Bool)),0<=s.1.1->0<=(pre.foldl (gstep rs zs) s).1.1/\(pre.foldl (gstep rs zs) s).1.1<=s.1.1
 | [],s,hs=>⟨hs,Int.le_refl _⟩
 | x::pre,s,hs=>by
  have hx:=h _ (nth_mem (gaS rs) x.1 (by rw[gaS_length,<-hN];exact x.2))
  have e1:0<=s.1.1.tdiv (nth (gaS rs) x.1):=Int.tdiv_nonneg hs (by omega)
  have e2:s.1.1.tdiv (nth (gaS rs) x.1)<=s.1.1:=by
   have ed:=Int.tmod_add_mul_tdiv s.1.1 (nth (gaS rs) x.1)
   have em:=Int.tmod_nonneg (nth (gaS rs) x.1) hs
   have:1*s.1.1.tdiv (nth (gaS rs) x.1)<=nth (gaS rs) x.1*s.1.1.tdiv (nth (gaS rs) x.1):=Int.mul_le_mul_of_nonneg_right (by omega) e1
   omega
  have ih:=gQ_fold (zs:=zs) h hN pre (gstep rs zs s x) e1
  rw[List.foldl_cons]
  have e3:(gstep rs zs s x).1.1=s.1.1.tdiv (nth (gaS rs) x.1):=rfl
  omega
theorem gQ_bd {N:Nat}{rs:List (List Int)}{zs:List Int}(h:AllPos (gaS rs))(hN:N=rs.length){p:Int}(hp:0<=p)(pre:List (Ax N)):0<=gQ rs zs p pre/\gQ rs zs p pre<=p:=gQ_fold h hN pre ((p,0),(1,true)) hp
theorem gw (V i A:Int):wrap64 (wrap64 V+wrap64 (i*wrap64 A))=wrap64 (i*A+V):=by
 rw[w_mulr,w_addl,w_addr,Int.add_comm]
theorem gfold {N:Nat}(rs:List (List Int))(zs:List Int)(hN:N=rs.length)(hl:N=zs.length)(p:Int)(k:Nat)(hk:k<=N):
  (dn N k).foldl (gstep rs zs) ((p,0),(1,true))=(((crd ((gaS rs).drop (N-k)) p).2,wrap64 (place (zs.drop (N-k)) ((gaT rs (crd (gaS rs) p).1).drop (N-k)))),(wrap64 (prod (zs.drop (N-k))),insB (zs.drop (N-k)) ((gaT rs (crd (gaS rs) p).1).drop (N-k)))):=by
 have:=fold_dn N (gstep rs zs) (fun k=>(((crd ((gaS rs).drop k) p).2,wrap64 (place (zs.drop k) ((gaT rs (crd (gaS rs) p).1).drop k))),(wrap64 (prod (zs.drop k)),insB (zs.drop k) ((gaT rs (crd (gaS rs) p).1).drop k)))) (fun k hk=>by
  have hk':k<rs.length:=by omega
  have e1:=drop_nth zs k (by omega)
  have e2:=drop_nth (gaT rs (crd (gaS rs) p).1) k (by rw[gaT_length];exact hk')
  have e3:=drop_nth (gaS rs) k (by rw[gaS_length];exact hk')
  have e4:gI rs (crd ((gaS rs).drop (k+1)) p).2 k=nth (gaT rs (crd (gaS rs) p).1) k:=by
   rw[gaT_nth hk',crd_at _ _ (by rw[gaS_length];exact hk')];rfl
  simp only[gstep,e4]
  rw[e1,e2,e3]
  simp only[crd,place,prod,insB,gw,w_mull]
  rw[Int.mul_comm (prod _) (nth zs k),Bool.and_comm]) k hk
 have h1:(gaS rs).drop N=[]:=List.drop_eq_nil_of_le (by rw[gaS_length];omega)
 have h2:(gaT rs (crd (gaS rs) p).1).drop N=[]:=List.drop_eq_nil_of_le (by rw[gaT_length];omega)
 have h3:zs.drop N=[]:=List.drop_eq_nil_of_le (by omega)
 have e0:(((p,0),(1,true)):(Int × Int) × (Int × Bool))=(((crd [] p).2,wrap64 (place [] [])),(wrap64 (prod []),insB [] [])):=by simp[crd,place,prod,insB,wrap64]
 rw[<-this,h1,h2,h3,e0]
theorem g_all {N:Nat}{rs:List (List Int)}{zs:List Int}(hN:N=rs.length)(hl:N=zs.length)(p:Nat):gB rs zs p (dn N N)=insB zs (gaT rs (cr (gaS rs) p))/\gV rs zs p (dn N N)=wrap64 (place zs (gaT rs (cr (gaS rs) p))):=by
 have h:=gfold rs zs hN hl p N (Nat.le_refl _)
 rw[Nat.sub_self] at h
 unfold gB gV
 rw[h]
 exact⟨rfl,rfl⟩
abbrev Rw:Type:=(Option Addr × Nat) × List Int
def rv (r:Rw):Value:=.slice r.1.1 r.2.length r.1.2
def rwa (rs:List Rw)(j:Nat):Rw:=rs.getD j ((none,0),[])
def NewR (lo:Nat)(W:World)(rs:List Rw):Prop:=∀ j,j<rs.length->NewC lo W (rwa rs j).1.1 (rwa rs j).2 (rwa rs j).1.2
def IsR (n:Nat)(W:World)(a:Option Addr)(rs:List Rw):Prop:=
 (rs=[]\/∃ b off,a=some ⟨b,off,none⟩/\b<n/\∀ j,j<rs.length->W.cell? ⟨b,off+j,none⟩=some (rv (rwa rs j)))/\∀ j,j<rs.length->IsC n W (rwa rs j).1.1 (rwa rs j).2 (rwa rs j).1.2
section
variable {n n' lo : Nat} {W W' : World} {a : Option Addr} {rs : List Rw}
theorem IsR.below (hB:Below n W W')(h:IsR n W a rs):IsR n W' a rs:=by
 refine⟨?_,fun j hj=>(h.2 j hj).below hB⟩
 rcases h.1 with e | ⟨b,off,e,hb,hc⟩
 ·exact .inl e
 ·exact .inr ⟨b,off,e,hb,fun j hj=>(hB.cell (p:=⟨b,off+j,none⟩) hb).trans (hc j hj)⟩
theorem IsR.mono (h:n<=n')(k:IsR n W a rs):IsR n' W a rs:=by
 refine⟨?_,fun j hj=>(k.2 j hj).mono h⟩
 rcases k.1 with e | ⟨b,off,e,hb,hc⟩
 ·exact .inl e
 ·exact .inr ⟨b,off,e,by omega,hc⟩
theorem IsR.at (h:IsR n W a rs){j:Nat}(hj:j<rs.length):∃ b off,a=some ⟨b,off,none⟩/\b<n/\∀ j,j<rs.length->W.cell? ⟨b,off+j,none⟩=some (rv (rwa rs j)):=by
 rcases h.1 with e | h
 ·subst e;simp at hj
 ·exact h
theorem IsR.kept {Bs:Nat}(hk:Kpt n Bs W W')(h:IsR n W a rs):IsR n W' a rs:=by
 refine⟨?_,fun j hj=>⟨(h.2 j hj).1.kept hk,(h.2 j hj).2⟩⟩
 rcases h.1 with e | ⟨b,off,e,hb,hc⟩
 ·exact .inl e
 ·exact .inr ⟨b,off,e,hb,fun j hj=>(World.cell?_of_block (w:=W) (hk b (.inl hb))).trans (hc j hj)⟩
theorem NewR.nil (lo:Nat)(W:World):NewR lo W []:=fun j hj=>by simp at hj
theorem NewR.go (hB:Below W.heap.size W W')(h:NewR lo W rs):NewR lo W' rs:=fun j hj=>(h j hj).go hB
theorem NewR.set {p:Addr}(hp:p.block<lo)(v:Value)(h:NewR lo W rs):NewR lo (W.setCell p v) rs:=fun j hj=>⟨(h j hj).1.set hp v,(h j hj).2⟩
theorem NewR.is {B:Nat}{t:TypeId}(h:NewR lo W rs)(hr:W.rowIs B t rs.length (fun j=>rv (rwa rs j))):IsR W.heap.size W (some ⟨B,0,none⟩) rs:=
 ⟨.inr ⟨B,0,rfl,hr.lt,fun j hj=>by rw[Nat.zero_add];exact hr.cell hj⟩,fun j hj=>(h j hj).ints⟩
end
end Go.Proofs.YtkmmkcpfhnifhaaGreat
namespace Go.Proofs.YtkmmkcpfhnifhaaGreat
def plainOp (o:Oper):Bool:=match o.op with
 | .move _ | .assign _ | .load .. | .store .. | .binOp .. | .unOp .. | .convert .. | .fieldAddr .. | .field .. | .indexAddr .. | .index .. | .extract .. | .makeInterface .. | .build .. | .alloc .. | .box .. | .slice .. | .makeSlice ..=>true
 | _=>false
def onN (Q:Exit->Act->World->Prop):Exit->Act->World->Prop
 | .normal,b,w=>Q .normal b w
 | _,_,_=>False
def plainR:Result Next->Prop
 | .ok (.value _) _=>True
 | .ok .skip _=>True
 | .halt _ _=>True
 | _=>False
theorem plain_v (s:Sem Value)(P:Program)(w:World):plainR ((do pure (Next.value (<-s)):Sem Next).run P w):=by
 rw[Sem.run_bind]
 cases s.run P w<;>simp[Result.andThen,plainR]
theorem plain_u (s:Sem Unit)(P:Program)(w:World):plainR ((do s;pure Next.skip:Sem Next).run P w):=by
 rw[Sem.run_bind]
 cases s.run P w<;>simp[Result.andThen,plainR]
theorem plain_run {o:Oper}(h:plainOp o=true)(ρ:Operand->Value)(P:Program)(w:World):plainR ((execOp ρ o).run P w):=by
 unfold plainOp at h
 unfold execOp
 cases ho:o.op<;>simp only[ho] at h ⊢<;>first | (cases h;done) | exact plain_v _ P w | exact plain_u _ P w | simp[plainR]
section
variable {F : Fence} {m : Nat} {P : Program} {ops : Array Oper} {Q : Exit → Act → World → Prop} {md : Region.Mode}
theorem upon_in {o:Oper}{a:Act}{K:Act->World->Prop}{r:Result Next}(hr:plainR r)(h:o.upon P a K (onN Q) r):o.uponIn F m P a K Q r:=by
 cases r with
 | ok x w'=>cases x<;>first | exact h | exact hr.elim
 | halt x w'=>cases x<;>exact h.elim
theorem plain_about {o:Oper}(h:plainOp o=true)(w:World)(ρ:Operand->Value):o.about P w ρ=none:=by
 unfold plainOp at h
 unfold Oper.about
 cases ho:o.op<;>simp only[ho] at h ⊢
 cases h
theorem plain_sem {o:Oper}(h:plainOp o=true)(ro:Option Nat)(ρ:Operand->Value):o.semAt ro ρ=execOp ρ o:=
 Oper.semAt_eq ro ρ o fun c hc=>by unfold plainOp at h;rw[hc] at h;cases h
theorem wpOp_in {i:Nat}{K:Act->World->Prop}{a:Act}{w:World}(hpl:∀ o,ops[i]?=some o->plainOp o=true)(h:wpOp P ops (onN Q) i K a w):wpOpIn F m P ops Q i K a w:=by
 unfold wpOp at h
 unfold wpOpIn
 cases ho:ops[i]? with
 | none=>simp only[ho] at h ⊢;exact h
 | some o=>
  have hp:=hpl o ho
  simp only[ho] at h ⊢
  have hab:∀ f,o.about P w a.eval=some f->F.fn f:=fun f hf=>by rw[plain_about hp] at hf;cases hf
  by_cases hw:Region.wanted o (yielded ops a.tmps)=true
  ·rw[if_pos hw] at h ⊢
   rcases h with h | ⟨_,h⟩
   ·refine⟨hab,?_⟩
    rw[plain_sem hp]
    exact upon_in (plain_run hp _ _ _) h
   ·obtain⟨_,_,h⟩:=h
    exact h.elim
  ·rw[if_neg hw] at h ⊢
   exact⟨hab,h⟩
theorem wpAny_in (hpl:ops.all plainOp=true):∀ (n:Nat) (l:Array Bool) (a:Act) (w:World),wpAny P md ops (onN Q) n l a w->wpAnyIn F m P md ops Q n l a w
 | 0,l,a,w,h=>h
 | n+1,l,a,w,h=>⟨h.1,fun i hi=>wpOpIn_mono (fun a w k=>wpAny_in hpl n _ a w k) (wpOp_in (fun o ho=>by
  obtain⟨hlt,he⟩:=Array.getElem?_eq_some_iff.1 ho
  rw[<-he]
  exact Array.all_eq_true.1 hpl i hlt) (h.2 i hi))⟩
theorem anyT_beginIn (s:Nat)(C:World->Prop)(n:Nat)(l:Array Bool){id:Nat}{a:Act}{w:World}(hm:P.follows .mixedOrders=true)(hn:ops.size=n)(hl:Array.replicate ops.size false=l)(hpl:ops.all plainOp=true)
  (h:anyT P .any ops (onN Q) s C n l a w.drew):(Code.region id ops true).wpIn F m P Q a w:=
 wpIn_region_any hm (wpAny_in hpl _ _ _ _ (by rw[hl,hn];exact h.plain))
end
end Go.Proofs.YtkmmkcpfhnifhaaGreat
namespace Go.Proofs.YtkmmkcpfhnifhaaGreat
open Go.RowKit
def kc (m:List Int)(L R:Int)(j:Int):Int:=j/R/L*(sumI m*R)+rnk m (j/R%L).toNat*R+nth m (j/R%L).toNat*(j%R)
section
variable {m s dz : List Int} {x : Nat} {c : Bool}
end
theorem ub_no {e:Int}{c:Bool}{S D:List Int}{w w':World}{e':Int}(h:e=e')(h0:e'≠0)(hB:Below w.heap.size w w'):UB e (onc e c) (onl e S) (onl e D) w (.returned (.tuple #[.agg #[.bool false,.slice none 0 0,.slice none 0 0],.iface 43 (.int .i64 e')])) w':=by
 subst h
 rw[onc_no h0,onl_no h0,onl_no h0]
 exact⟨none,0,none,0,by rw[errV_pos h0];rfl,⟨.inl rfl,Nat.le_refl _⟩,⟨.inl rfl,Nat.le_refl _⟩,hB⟩
theorem ub_ok {e:Int}{c:Bool}{S D:List Int}{w w':World}{xa:Option Addr}{xc:Nat}{ya:Option Addr}{yc:Nat}(h:e=0)(hX:NewC w.heap.size w' xa S xc)(hY:NewC w.heap.size w' ya D yc)(hB:Below w.heap.size w w'):
  UB e (onc e c) (onl e S) (onl e D) w (.returned (.tuple #[.agg #[.bool c,.slice xa S.length xc,.slice ya D.length yc],.nilIface])) w':=by
 subst h
 exact⟨xa,xc,ya,yc,rfl,hX,hY,hB⟩
theorem axE_flaw6 {x:Int}{c:Bool}{sz dz:List Int}(h:flawE c sz dz≠0):axE x c sz dz=flawE c sz dz:=by unfold axE;rw[if_pos h]
theorem axE_index6 {x:Int}{c:Bool}{sz dz:List Int}(h:flawE c sz dz=0)(k:x<0\/(sz.length:Int)<=x):axE x c sz dz=5:=by unfold axE;rw[if_neg (by simpa using h),if_pos k]
theorem UB.mkno {e:Int}{c:Bool}{S D:List Int}{w w':World}{e':Int}(h:e=e')(h0:e'≠0)(hB:Below w.heap.size w w'):UB e (onc e c) (onl e S) (onl e D) w (.returned (.tuple #[.agg #[.bool false,.slice none 0 0,.slice none 0 0],.iface 43 (.int .i64 e')])) w':=by
 subst h
 rw[onc_no h0,onl_no h0,onl_no h0]
 exact⟨none,0,none,0,by rw[errV_pos h0];rfl,⟨.inl rfl,Nat.le_refl _⟩,⟨.inl rfl,Nat.le_refl _⟩,hB⟩
theorem UB.mkok {e:Int}{c:Bool}{S D:List Int}{w w':World}{xa:Option Addr}{xc:Nat}{ya:Option Addr}{yc:Nat}(h:e=0)(hX:NewC w.heap.size w' xa S xc)(hY:NewC w.heap.size w' ya D yc)(hB:Below w.heap.size w w'):
  UB e (onc e c) (onl e S) (onl e D) w (.returned (.tuple #[.agg #[.bool c,.slice xa S.length xc,.slice ya D.length yc],.nilIface])) w':=by
 subst h
 exact⟨xa,xc,ya,yc,rfl,hX,hY,hB⟩
end Go.Proofs.YtkmmkcpfhnifhaaGreat
