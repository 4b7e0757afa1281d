/- What the program tells, in part. -/
import Derived.Test.YtkmmkcpfhnifhaaGreatDoorJ23
set_option linter.unusedVariables false
set_option maxHeartbeats 4000000
set_option maxRecDepth 100000
namespace Go.Proofs.YtkmmkcpfhnifhaaGreatDoor
open Go.RowKit
def HasErr (w:World):Prop:=w.cell? ⟨0,0,none⟩=some (.iface 196 (.agg #[.pointer (some ⟨1,32,none⟩)]))
theorem HasErr.pos {w:World}(h:HasErr w):0<w.heap.size:=World.block_lt_of_cell? w _ h
theorem HasErr.below {n:Nat}{w w':World}(h:HasErr w)(hb:Below n w w')(hn:0<n):HasErr w':=(hb.cell (p:=⟨0,0,none⟩) hn).trans h
theorem HasErr.go {w w':World}(h:HasErr w)(hB:Below w.heap.size w w'):HasErr w':=h.below hB h.pos
theorem HasErr.al {w:World}(h:HasErr w)(o:Obj):HasErr (w.alloc o):=h.go ((Below.refl _ w).alloc (Nat.le_refl _) o)
theorem HasErr.dr {w:World}(h:HasErr w):HasErr w.drew:=h
theorem HasErr.set3 {w:World}{B:Nat}(h:HasErr w)(hB:0<B)(x y z:Value):HasErr (((w.setCell ⟨B,0,none⟩ x).setCell ⟨B,1,none⟩ y).setCell ⟨B,2,none⟩ z):=by
 have k:∀ (W:World) (i:Nat) (v:Value),(W.setCell ⟨B,i,none⟩ v).cell? ⟨0,0,none⟩=W.cell? ⟨0,0,none⟩:=fun W i v=>World.cell?_of_block (Below.heap_setCell W ⟨B,i,none⟩ v 0 (by show 0≠B;omega))
 unfold HasErr
 rw[k,k,k]
 exact h
theorem told_nil (w:World):Calls Tryz.prog 50 #[.nilIface] w fun e w'=>e=.returned (.int .i64 0)/\w'=w:=by
 go_enter Tryz.func50,Tryz.ntmps50
 go_wp2_with fail
 go_ret
 exact⟨rfl,rfl⟩
theorem told_errno (n:Int)(w:World)(hg:HasErr w):Calls Tryz.prog 50 #[.iface 28 (.int .i64 n)] w fun e w'=>e=.returned (.int .i64 n)/\Below w.heap.size w w':=by
 have hlt:=hg.pos
 have hg1:(w.alloc (.cells #[.int .i64 0] 28)).cell? ⟨0,0,none⟩=some (.iface 196 (.agg #[.pointer (some ⟨1,32,none⟩)])):=(World.cell?_alloc_lt _ _ ⟨0,0,none⟩ hlt).trans hg
 have ht1:(w.alloc (.cells #[.int .i64 0] 28)).cell? ⟨w.heap.size,0,none⟩=some (.int .i64 0):=by simp
 have hf1:(w.alloc (.cells #[.int .i64 0] 28)).frozen? ⟨w.heap.size,0,none⟩=false:=by simp
 have hc:=as_hit n ⟨w.heap.size,0,none⟩ (.int .i64 0) _ hg1 ht1 hf1
 have hc2:Calls Tryz.prog 92 #[.iface 28 (.int .i64 n),.iface 110 (.pointer (some ⟨w.heap.size,0,none⟩))] (w.alloc (.cells #[.int .i64 0] 28)) fun ev w'=>ev=.returned (.bool true)/\w'.cell? ⟨w.heap.size,0,none⟩=some (.int .i64 n)/\Below w.heap.size w w':=by
  refine Calls.mono hc ?_
  rintro ev w' ⟨rfl,rfl⟩
  refine⟨rfl,World.cell?_setCell_same' _ _ _ ?_,(((((((Below.refl _ w).alloc (Nat.le_refl _) _).alloc (by simp) _).alloc (by simp;omega) _).alloc (by simp;omega) _).alloc (by simp;omega) _).setCell (p:=⟨w.heap.size,0,none⟩) (Nat.le_refl _) _)⟩
  rw[World.cell?_alloc_lt _ _ ⟨w.heap.size,0,none⟩ (by simp;omega),World.cell?_alloc_lt _ _ ⟨w.heap.size,0,none⟩ (by simp;omega),World.cell?_alloc_lt _ _ ⟨w.heap.size,0,none⟩ (by simp;omega),World.cell?_alloc_lt _ _ ⟨w.heap.size,0,none⟩ (by simp),ht1]
  rfl
 clear hc hg1 ht1 hf1 hg
 go_enter Tryz.func50,Tryz.ntmps50
 go_wp2_with fail
 refine hc2.mono ?_
 clear hc2
 rintro e w1 ⟨rfl,hcell,hB⟩
 go_wp2_with fail
 go_ret
 exact⟨rfl,hB⟩
theorem told_any (n:Int)(w:World)(hg:HasErr w):Calls Tryz.prog 50 #[errV n] w fun e w'=>e=.returned (.int .i64 n)/\Below w.heap.size w w':=by
 by_cases h:n=0
 ·subst h
  exact (told_nil w).mono fun e w' ⟨h1,h2⟩=>⟨h1,by rw[h2];exact Below.refl _ _⟩
 ·rw[errV_pos h];exact told_errno n w hg
theorem lit16 {l:List Int}(h:l.all (fun x=>decide (-9223372036854775808<=x/\x<=9223372036854775807))=true)(j:Nat):In64 (nth l j):=by
 by_cases hj:j<l.length
 ·have:=of_decide_eq_true (List.all_eq_true.1 h _ (nth_mem l j hj))
  exact this
 ·have:nth l j=0:=by simp[nth,List.getElem?_eq_none (show l.length<=j by omega)]
  rw[this];unfold In64;decide
theorem an_calls {A B:An}(h:A=B){F:Nat}{args:Array Value}{w:World}(k:Calls Tryz.prog F args w (AnP A w)):Calls Tryz.prog F args w (fun r w'=>∃ xa xc ya yc,r=.returned (.tuple #[.agg #[.bool B.c,.slice xa B.s.length xc,.slice ya B.d.length yc],errV B.e])/\NewC w.heap.size w' xa B.s xc/\NewC w.heap.size w' ya B.d yc/\Below w.heap.size w w'):=by
 subst h
 exact k
theorem told_same (n:Int)(w:World)(hg:HasErr w):Calls Tryz.prog 14 #[errV n,errV n] w fun e w'=>e=.returned (.bool true)/\Below w.heap.size w w':=by
 obtain⟨E,hE⟩:∃ E,E=errV n:=⟨_,rfl⟩
 have HT:Hid (∀ v,HasErr v->Calls Tryz.prog 50 #[E] v fun e w'=>e=.returned (.int .i64 n)/\Below v.heap.size v w'):=fun v hv=>by rw[hE];exact told_any n v hv
 have HG:Hid (HasErr w):=hg
 rw[<-hE]
 clear hE hg
 go_enter Tryz.func14,Tryz.ntmps14
 go_wp2_with fail
 refine (HT.out w HG.out).mono ?_
 rintro e v1 ⟨rfl,hB⟩
 have hb:Hid (Below w.heap.size w v1):=hB
 clear hB
 go_wp2_with fail
 refine (HT.out v1 (HG.go hb.out)).mono ?_
 rintro e v2 ⟨rfl,hB⟩
 replace hb:Hid (Below w.heap.size w v2):=hb.trans (hB.mono hb.size)
 clear hB
 go_wp2_with fail
 go_ret
 exact⟨by simp,hb.out⟩
theorem An.eq_of {A:An}{e:Int}{c:Bool}{S D:List Int}(h:A.e=e/\A.c=c/\A.s=S/\A.d=D):A=⟨e,c,S,D⟩:=by
 obtain⟨rfl,rfl,rfl,rfl⟩:=h
 rfl
theorem flaws_ok {c:Bool}{sz dz:List Int}{c':Bool}{sz' dz':List Int}(h:flawE c sz dz=0)(h':flawE c' sz' dz'=0):flawsE c sz dz c' sz' dz'=0:=by unfold flawsE;rw[if_pos h];exact h'
theorem sw_eq2 (f:Int){c:Bool}{sz dz:List Int}{c':Bool}{sz' dz':List Int}(h:flawE c sz dz=0)(h':flawE c' sz' dz'=0):twA 5 f 0 c sz dz c' sz' dz'=twA 0 f 0 c' sz' dz' c sz dz:=by
 unfold twA
 rw[flaws_ok h h',flaws_ok h' h]
 rfl
theorem sw_eq1 (f:Int){c:Bool}{sz dz:List Int}(h:flawE c sz dz=0):onA 5 f 0 c sz dz=twA 0 f 0 c sz dz c sz dz:=by
 unfold onA twA
 rw[flaws_ok h h,h]
 rfl
theorem fact16:twA 5 2 0 false [1] [1] false [1] [5]=⟨0,false,[1],[4]⟩:=An.eq_of (by decide +kernel)
def Fa16 (w:World)(e:Ending)(w':World):Prop:=∃ f1 g1 f2 g2,e=.returned (.tuple #[.agg #[.bool false,.slice f1 1 g1,.slice f2 1 g2],.nilIface])/\NewC w.heap.size w' f1 [1] g1/\NewC w.heap.size w' f2 [4] g2/\Below w.heap.size w w'
theorem fact_two (HT:CT2)(va:Option Addr)(vc:Nat)(ga:Option Addr)(gc:Nat)(va':Option Addr)(vc':Nat)(ga':Option Addr)(gc':Nat)(w:World)(h1:IsC w.heap.size w va [1] vc)(h2:IsC w.heap.size w ga [1] gc)(h3:IsC w.heap.size w va' [1] vc')(h4:IsC w.heap.size w ga' [5] gc'):
  Calls Tryz.prog 10 #[.agg #[.int .i64 5,.int .i64 2,.int .i64 0],.agg #[.bool false,.slice va 1 vc,.slice ga 1 gc],.agg #[.bool false,.slice va' 1 vc',.slice ga' 1 gc']] w (Fa16 w):=by
 have k:=HT 5 2 0 false va vc [1] ga gc [1] false va' vc' [1] ga' gc' [5] w (by unfold In64;decide) (by unfold In64;decide) (by unfold In64;decide) (by decide) (by decide) h1 h2 (by decide) (by decide) h3 h4 (lit16 (by decide)) (lit16 (by decide))
 rw[fact16] at k
 exact k
theorem sarr_tt (sa:Option Addr)(sc:Nat)(sz:List Int)(da:Option Addr)(dc:Nat)(dz:List Int)(sa':Option Addr)(sc':Nat)(sz':List Int)(da':Option Addr)(dc':Nat)(dz':List Int)
  (h1:sz.length<=9223372036854775807)(h2:dz.length<=9223372036854775807)(w:World)(hs:IsInts w.heap.size w sa sz)(hd:IsInts w.heap.size w da dz)(hs':IsInts w.heap.size w sa' sz')(hd':IsInts w.heap.size w da' dz'):
  Calls Tryz.prog 15 #[.agg #[.bool true,.slice sa sz.length sc,.slice da dz.length dc],.agg #[.bool true,.slice sa' sz'.length sc',.slice da' dz'.length dc']] w fun e w'=>e=.returned (.bool (eqB sz sz' && eqB dz dz'))/\Below w.heap.size w w':=by
 have hB0:Below w.heap.size w ((w.alloc (.cells #[.bool true,.slice sa sz.length sc,.slice da dz.length dc] 27)).alloc (.cells #[.bool true,.slice sa' sz'.length sc',.slice da' dz'.length dc'] 27)):=((Below.refl _ w).alloc (Nat.le_refl _) _).alloc (by simp) _
 have HB0:Hid (Below w.heap.size w ((w.alloc (.cells #[.bool true,.slice sa sz.length sc,.slice da dz.length dc] 27)).alloc (.cells #[.bool true,.slice sa' sz'.length sc',.slice da' dz'.length dc'] 27))):=hB0
 have HI:Hid (IsInts w.heap.size w sa sz/\IsInts w.heap.size w da dz/\IsInts w.heap.size w sa' sz'/\IsInts w.heap.size w da' dz'):=⟨hs,hd,hs',hd'⟩
 clear hB0 hs hd hs' hd'
 go_enter Tryz.func15,Tryz.ntmps15
 go_wp2_with fail
 refine (ints_any sa sc sz sa' sc' sz' h1 w.heap.size _ (HI.1.below HB0.out) (HI.2.2.1.below HB0.out)).mono ?_
 rintro e w1 ⟨rfl,hC1⟩
 have hB1:Below w.heap.size w w1:=HB0.trans (hC1.mono HB0.size)
 have c0:w1.cell? ⟨w.heap.size,2,none⟩=some (.slice da dz.length dc):=(hC1.cell (p:=⟨w.heap.size,2,none⟩) (by simp;omega)).trans (by simp)
 have c1:w1.cell? ⟨w.heap.size+1,2,none⟩=some (.slice da' dz'.length dc'):=(hC1.cell (p:=⟨w.heap.size+1,2,none⟩) (by simp)).trans (by simp)
 have HB1:Hid (Below w.heap.size w w1):=hB1
 clear hB1 hC1
 go_wp2_with fail
 refine (ints_any da dc dz da' dc' dz' h2 w.heap.size w1 (HI.2.1.below HB1.out) (HI.2.2.2.below HB1.out)).mono ?_
 rintro e w2 ⟨rfl,hC2⟩
 have hB2:Below w.heap.size w w2:=HB1.trans (hC2.mono HB1.size)
 by_cases h:eqB sz sz'=true
 ·rw[h]
  go_wp2_with fail
  go_ret
  exact⟨by simp[h],hB2⟩
 ·have h':eqB sz sz'=false:=by simpa using h
  rw[h']
  go_wp2_with fail
  go_ret
  exact⟨by simp[h'],hB2⟩
theorem sarr_tf (sa:Option Addr)(sc:Nat)(sz:List Int)(da:Option Addr)(dc:Nat)(dz:List Int)(sa':Option Addr)(sc':Nat)(sz':List Int)(da':Option Addr)(dc':Nat)(dz':List Int)
  (h1:sz.length<=9223372036854775807)(h2:dz.length<=9223372036854775807)(w:World)(hs:IsInts w.heap.size w sa sz)(hd:IsInts w.heap.size w da dz)(hs':IsInts w.heap.size w sa' sz')(hd':IsInts w.heap.size w da' dz'):
  Calls Tryz.prog 15 #[.agg #[.bool true,.slice sa sz.length sc,.slice da dz.length dc],.agg #[.bool false,.slice sa' sz'.length sc',.slice da' dz'.length dc']] w fun e w'=>e=.returned (.bool (false))/\Below w.heap.size w w':=by
 have hB0:Below w.heap.size w ((w.alloc (.cells #[.bool true,.slice sa sz.length sc,.slice da dz.length dc] 27)).alloc (.cells #[.bool false,.slice sa' sz'.length sc',.slice da' dz'.length dc'] 27)):=((Below.refl _ w).alloc (Nat.le_refl _) _).alloc (by simp) _
 go_enter Tryz.func15,Tryz.ntmps15
 go_wp2_with fail
 go_ret
 exact⟨rfl,hB0⟩
theorem sarr_ft (sa:Option Addr)(sc:Nat)(sz:List Int)(da:Option Addr)(dc:Nat)(dz:List Int)(sa':Option Addr)(sc':Nat)(sz':List Int)(da':Option Addr)(dc':Nat)(dz':List Int)
  (h1:sz.length<=9223372036854775807)(h2:dz.length<=9223372036854775807)(w:World)(hs:IsInts w.heap.size w sa sz)(hd:IsInts w.heap.size w da dz)(hs':IsInts w.heap.size w sa' sz')(hd':IsInts w.heap.size w da' dz'):
  Calls Tryz.prog 15 #[.agg #[.bool false,.slice sa sz.length sc,.slice da dz.length dc],.agg #[.bool true,.slice sa' sz'.length sc',.slice da' dz'.length dc']] w fun e w'=>e=.returned (.bool (false))/\Below w.heap.size w w':=by
 have hB0:Below w.heap.size w ((w.alloc (.cells #[.bool false,.slice sa sz.length sc,.slice da dz.length dc] 27)).alloc (.cells #[.bool true,.slice sa' sz'.length sc',.slice da' dz'.length dc'] 27)):=((Below.refl _ w).alloc (Nat.le_refl _) _).alloc (by simp) _
 go_enter Tryz.func15,Tryz.ntmps15
 go_wp2_with fail
 go_ret
 exact⟨rfl,hB0⟩
theorem sarr_ff (sa:Option Addr)(sc:Nat)(sz:List Int)(da:Option Addr)(dc:Nat)(dz:List Int)(sa':Option Addr)(sc':Nat)(sz':List Int)(da':Option Addr)(dc':Nat)(dz':List Int)
  (h1:sz.length<=9223372036854775807)(h2:dz.length<=9223372036854775807)(w:World)(hs:IsInts w.heap.size w sa sz)(hd:IsInts w.heap.size w da dz)(hs':IsInts w.heap.size w sa' sz')(hd':IsInts w.heap.size w da' dz'):
  Calls Tryz.prog 15 #[.agg #[.bool false,.slice sa sz.length sc,.slice da dz.length dc],.agg #[.bool false,.slice sa' sz'.length sc',.slice da' dz'.length dc']] w fun e w'=>e=.returned (.bool (eqB sz sz' && eqB dz dz'))/\Below w.heap.size w w':=by
 have hB0:Below w.heap.size w ((w.alloc (.cells #[.bool false,.slice sa sz.length sc,.slice da dz.length dc] 27)).alloc (.cells #[.bool false,.slice sa' sz'.length sc',.slice da' dz'.length dc'] 27)):=((Below.refl _ w).alloc (Nat.le_refl _) _).alloc (by simp) _
 have HB0:Hid (Below w.heap.size w ((w.alloc (.cells #[.bool false,.slice sa sz.length sc,.slice da dz.length dc] 27)).alloc (.cells #[.bool false,.slice sa' sz'.length sc',.slice da' dz'.length dc'] 27))):=hB0
 have HI:Hid (IsInts w.heap.size w sa sz/\IsInts w.heap.size w da dz/\IsInts w.heap.size w sa' sz'/\IsInts w.heap.size w da' dz'):=⟨hs,hd,hs',hd'⟩
 clear hB0 hs hd hs' hd'
 go_enter Tryz.func15,Tryz.ntmps15
 go_wp2_with fail
 refine (ints_any sa sc sz sa' sc' sz' h1 w.heap.size _ (HI.1.below HB0.out) (HI.2.2.1.below HB0.out)).mono ?_
 rintro e w1 ⟨rfl,hC1⟩
 have hB1:Below w.heap.size w w1:=HB0.trans (hC1.mono HB0.size)
 have c0:w1.cell? ⟨w.heap.size,2,none⟩=some (.slice da dz.length dc):=(hC1.cell (p:=⟨w.heap.size,2,none⟩) (by simp;omega)).trans (by simp)
 have c1:w1.cell? ⟨w.heap.size+1,2,none⟩=some (.slice da' dz'.length dc'):=(hC1.cell (p:=⟨w.heap.size+1,2,none⟩) (by simp)).trans (by simp)
 have HB1:Hid (Below w.heap.size w w1):=hB1
 clear hB1 hC1
 go_wp2_with fail
 refine (ints_any da dc dz da' dc' dz' h2 w.heap.size w1 (HI.2.1.below HB1.out) (HI.2.2.2.below HB1.out)).mono ?_
 rintro e w2 ⟨rfl,hC2⟩
 have hB2:Below w.heap.size w w2:=HB1.trans (hC2.mono HB1.size)
 by_cases h:eqB sz sz'=true
 ·rw[h]
  go_wp2_with fail
  go_ret
  exact⟨by simp[h],hB2⟩
 ·have h':eqB sz sz'=false:=by simpa using h
  rw[h']
  go_wp2_with fail
  go_ret
  exact⟨by simp[h'],hB2⟩
theorem sarr_any (c c':Bool)(sa:Option Addr)(sc:Nat)(sz:List Int)(da:Option Addr)(dc:Nat)(dz:List Int)(sa':Option Addr)(sc':Nat)(sz':List Int)(da':Option Addr)(dc':Nat)(dz':List Int)
  (h1:sz.length<=9223372036854775807)(h2:dz.length<=9223372036854775807)(w:World)(hs:IsInts w.heap.size w sa sz)(hd:IsInts w.heap.size w da dz)(hs':IsInts w.heap.size w sa' sz')(hd':IsInts w.heap.size w da' dz'):
  Calls Tryz.prog 15 #[.agg #[.bool c,.slice sa sz.length sc,.slice da dz.length dc],.agg #[.bool c',.slice sa' sz'.length sc',.slice da' dz'.length dc']] w fun e w'=>e=.returned (.bool (arrB c sz dz c' sz' dz'))/\Below w.heap.size w w':=by
 cases c<;>cases c'
 ·exact sarr_ff sa sc sz da dc dz sa' sc' sz' da' dc' dz' h1 h2 w hs hd hs' hd'
 ·exact sarr_ft sa sc sz da dc dz sa' sc' sz' da' dc' dz' h1 h2 w hs hd hs' hd'
 ·exact sarr_tf sa sc sz da dc dz sa' sc' sz' da' dc' dz' h1 h2 w hs hd hs' hd'
 ·exact sarr_tt sa sc sz da dc dz sa' sc' sz' da' dc' dz' h1 h2 w hs hd hs' hd'
theorem take_len (zs:List Int){k:Nat}(h:k<=zs.length):(zs.take k).length=k:=by simp;omega
theorem owns_room {w:World}{base:Nat}{e:TypeId}{g:Option Addr}{n cap:Nat}{xs:List Int}(h:w.ownsRow base e 1 (.slice g n cap) n (xs.map (Value.int .i64))):n<=cap:=by
 rcases h.2 with ⟨e1,_⟩ | ⟨g',cap',cur,e1,_,_,h1,_⟩
 ·simp only[Value.slice.injEq] at e1;have:=h.1;omega
 ·simp only[Value.slice.injEq] at e1;have:=h.1;omega
theorem vector_cap (c:Bool)(a:Option Addr)(cap:Nat)(zs:List Int)(h1:zs.length<=100000)(w:World)(hI:IsInts w.heap.size w a zs):
  Calls Tryz.prog 22 #[.bool c,.slice a zs.length cap] w fun e w'=>∃ sa sc g gc,e=.returned (.agg #[.bool c,.slice sa 1 sc,.slice g zs.length gc])/\NewInts w.heap.size w' sa [(zs.length:Int)]/\NewInts w.heap.size w' g zs/\Below w.heap.size w w'/\1<=sc/\zs.length<=gc:=by
 go_enter Tryz.func22,Tryz.ntmps22
 go_wp2_with fail
 go_loopw [6] (fun i wr=>∃ (k:Nat) (v:Value),k<=zs.length/\i=.int .i64 k/\Abx wr w.heap.size (.bool false) (.slice none 0 0) (.slice none 0 0)/\Abx wr (w.heap.size+1+1) (.bool c) (.slice (some ⟨w.heap.size+1,0,none⟩) 1 1) v/\MidInts (w.heap.size+1) (w.heap.size+1+1) wr (some ⟨w.heap.size+1,0,none⟩) [(zs.length:Int)]
  /\wr.ownsRow (w.heap.size+1+1+1) 3 1 v (zs.take k).length ((zs.take k).map (Value.int .i64))/\w.heap.size+1+1+1<=wr.heap.size/\Below w.heap.size w wr) (fun i _=>zs.length-(intOf i).toNat)
 case atStart=>
  refine⟨0,.slice none 0 0,Nat.zero_le _,rfl,((Abx.new w _ _ _).al _).al _,?_,?_,World.ownsRow_nil _ _ _ _,by simp,(((Below.refl _ w).alloc (Nat.le_refl _) _).alloc (by simp) _).alloc (by simp;omega) _⟩
  case refine_2=>
   have:=(new_lit (w.alloc (.cells #[.bool false,.slice none 0 0,.slice none 0 0] 27)) 3 [(zs.length:Int)]).mid
   simp only[World.size_alloc] at this
   exact this.al (by simp) _
  have:=Abx.new1 (w.alloc (.cells #[.bool false,.slice none 0 0,.slice none 0 0] 27)) (.cells #[.int .i64 (zs.length:Int)] 3) (.bool c) (.slice (some ⟨w.heap.size+1,0,none⟩) 1 1) (.slice none 0 0)
  rwa [World.size_alloc] at this
 case round=>
  obtain⟨k,v,hk,rfl,hR,hO,hl,hown,hsz,hB⟩:=hrel
  by_cases hlt:k<zs.length
  ·obtain⟨b,off,rfl,hb,hcell⟩:=(hI.below hB).at hlt
   have hc:=hcell k hlt
   clear hcell
   have o2:=hO.c2
   have hbw:b<wr.heap.size:=by have:=hB.size;omega
   have HR:Hid (Abx wr w.heap.size (.bool false) (.slice none 0 0) (.slice none 0 0)/\Abx wr (w.heap.size+1+1) (.bool c) (.slice (some ⟨w.heap.size+1,0,none⟩) 1 1) v/\MidInts (w.heap.size+1) (w.heap.size+1+1) wr (some ⟨w.heap.size+1,0,none⟩) [(zs.length:Int)]):=⟨hR,hO,hl⟩
   clear hR hO hl
   go_wp2_with fail
   refine bT 8 (fun w'=>w'.cell? ⟨w.heap.size+1+1,2,none⟩=some v/\w'.cell? ⟨b,off+k,none⟩=some (.int .i64 (nth zs k))) 10 (⟨o2,hc⟩) fun hq0=>?_
   refine pT 0 hq0 ?_;refine lT 1 hq0 ?_;refine pT 2 hq0 ?_;refine pT 3 hq0 ?_;refine pT 4 hq0 ?_;refine lT 5 hq0 ?_
   clear hq0
   refine oT 6 fun K hK=>?_
   go_simp
   have k1:(wr.alloc (.cells #[.int .i64 (nth zs k)] 3)).cell? ⟨w.heap.size+1+1,2,none⟩=some v:=(World.cell?_alloc_lt wr _ ⟨w.heap.size+1+1,2,none⟩ (by show w.heap.size+1+1<wr.heap.size;omega)).trans o2
   have k2:(wr.alloc (.cells #[.int .i64 (nth zs k)] 3)).cell? ⟨b,off+k,none⟩=some (.int .i64 (nth zs k)):=(World.cell?_alloc_lt wr _ ⟨b,off+k,none⟩ hbw).trans hc
   refine hK.out _ _ (fun _=>⟨k1,k2⟩) ?_
   clear hK K
   refine oT 7 fun K hK=>?_
   refine app_step 25 rfl rfl _ _ rfl _ (w.heap.size+1+1+1) wr.heap.size v (zs.take k) (nth zs k) rfl rfl ((hown.alloc _).drew) (heap_alloc_new wr _) (by rw[take_len _ hk];omega) (by simp;omega) ?_
   intro g gc w1 hown1 hB1
   have HO1:Hid (Abx w1 (w.heap.size+1+1) (.bool c) (.slice (some ⟨w.heap.size+1,0,none⟩) 1 1) v):=(HR.2.1.al _).dr.bel hB1 (by omega)
   have q2:=HO1.c2
   have qf:=HO1.fr 2
   have qc:w1.cell? ⟨b,off+k,none⟩=some (.int .i64 (nth zs k)):=(hB1.cell (p:=⟨b,off+k,none⟩) (by show b<_;omega)).trans k2
   refine hK.out _ _ (fun _=>⟨q2,qc⟩) ?_
   clear hK K
   simp only[Act.put,List.setIfInBounds_toArray,List.set_cons_zero,List.set_cons_succ]
   refine oT 8 fun K hK=>?_
   go_simp
   refine hK.out _ _ (fun h=>absurd h (by decide)) ?_
   clear hK K
   refine oT 9 fun K hK=>?_
   go_simp
   refine hK.out _ _ (fun h=>absurd h (by decide)) ?_
   clear hK K
   refine dT ?_
   go_wp2_with fail
   rw[<-take_snoc zs k hlt,take_len _ hk] at hown1
   have hz1:w.heap.size+1+1+1<=w1.heap.size:=by have:=hB1.size;simp at this;omega
   have hl1:=((HR.2.2.al (by omega) (.cells #[.int .i64 (nth zs k)] 3)).dr).bel (hB1.mono (by omega))
   refine⟨⟨k+1,.slice (some ⟨g,0,none⟩) (k+1) gc,by omega,by go_num,?_,HO1.s2 _,?_,?_,by simpa[World.setCell] using hz1,?_⟩,by simp[intOf];omega⟩
   ·exact (((HR.1.al _).dr.bel hB1 (by omega))).ot (by show w.heap.size≠w.heap.size+1+1;omega) _
   ·exact hl1.off (by show w.heap.size+1+1<=w.heap.size+1+1;omega) _
   ·rw[take_len _ (show k+1<=zs.length by omega)]
    exact ownsRow_setCell_below hown1 (by show w.heap.size+1+1<w.heap.size+1+1+1;omega) _
   ·exact (((hB.alloc (by omega) _).drew.trans (hB1.mono (by omega)))).setCell (p:=⟨w.heap.size+1+1,2,none⟩) (by show w.heap.size<=w.heap.size+1+1;omega) _
  ·obtain rfl:k=zs.length:=by omega
   rw[List.take_length] at hown
   obtain⟨g,gc,rfl,hN⟩:=owns_new hown
   have HCp:Hid (zs.length<=gc):=owns_room hown
   have o0:=hO.c0
   have o1:=hO.c1
   have o2:=hO.c2
   have r0:=hR.c0
   have r1:=hR.c1
   have r2:=hR.c2
   have f0:=hR.fr 0
   have f1:=hR.fr 1
   have f2:=hR.fr 2
   have HR:=hR
   clear hR hown
   go_wp2_with fail
   have F:=HR.set3 (.bool c) (.slice (some ⟨w.heap.size+1,0,none⟩) 1 1) (.slice g zs.length gc)
   refine bodyPost_ret (v:=.agg #[.bool c,.slice (some ⟨w.heap.size+1,0,none⟩) 1 1,.slice g zs.length gc]) ?_ rfl ⟨some ⟨w.heap.size+1,0,none⟩,1,g,gc,rfl,?_,?_,bel_set3 hB (Nat.le_refl _) _ _ _,Nat.le_refl _,HCp.out⟩
   ·exact results_cell_row rfl _ _ w.heap.size 27 _ (0,0) _ rfl F Tryz.underlying27 rfl (by kernel_rfl)
   ·exact ((hl.new (by omega)).set3 (by omega) _ _ _).low (by omega)
   ·exact (hN.set3 (by omega) _ _ _).low (by omega)
end Go.Proofs.YtkmmkcpfhnifhaaGreatDoor
namespace Go.Proofs.YtkmmkcpfhnifhaaGreatDoor
open Go.RowKit
section
variable {x y n m : Int} {c : Bool} {sz dz : List Int}
end
def OkA (c:Bool)(S D:List Int)(w:World)(r:Ending)(w':World):Prop:=
 ∃ xa xc ya yc,r=.returned (.tuple #[.agg #[.bool c,.slice xa S.length xc,.slice ya D.length yc],.nilIface])/\NewC w.heap.size w' xa S xc/\NewInts w.heap.size w' ya D/\Below w.heap.size w w'
def NoA (e:Int)(w:World)(r:Ending)(w':World):Prop:=
 ∃ xa xc ya yc,r=.returned (.tuple #[.agg #[.bool false,.slice xa 0 xc,.slice ya 0 yc],.iface 28 (.int .i64 e)])/\Below w.heap.size w w'
theorem UA.ok {e:Int}{c:Bool}{S D:List Int}{w w':World}{r:Ending}(h0:e=0)(h:UA e (onc e c) (onl e S) (onl e D) w r w'):OkA c S D w r w':=by
 subst h0
 exact h
theorem UA.no {e:Int}{c:Bool}{S D:List Int}{w w':World}{r:Ending}(h0:e≠0)(h:UA e (onc e c) (onl e S) (onl e D) w r w'):NoA e w r w':=by
 obtain⟨xa,xc,ya,yc,hr,hX,hY,hB⟩:=h
 rw[onl_no h0,onl_no h0,onc_no h0,errV_pos h0] at hr
 exact⟨xa,xc,ya,yc,hr,hB⟩
theorem vec_c (a:Option Addr)(cap:Nat)(zs:List Int)(h1:zs.length<=100000)(w:World)(hI:IsInts w.heap.size w a zs):
  Calls Tryz.prog 11 #[.slice a zs.length cap] w fun e w'=>∃ sa sc g gc,e=.returned (.agg #[.bool false,.slice sa 1 sc,.slice g zs.length gc])/\NewC w.heap.size w' sa [(zs.length:Int)] sc/\NewC w.heap.size w' g zs gc/\Below w.heap.size w w':=by
 have hb:Hid (Below w.heap.size w (w.alloc (.cells #[.bool false,.slice none 0 0,.slice none 0 0] 27))):=(Below.refl _ w).alloc (Nat.le_refl _) _
 have HR0:Hid (Abx (w.alloc (.cells #[.bool false,.slice none 0 0,.slice none 0 0] 27)) w.heap.size (.bool false) (.slice none 0 0) (.slice none 0 0)):=Abx.new w _ _ _
 have HI:Hid (IsInts w.heap.size w a zs):=hI
 clear hI
 go_enter Tryz.func11,Tryz.ntmps11
 go_wp2_with fail
 refine (vector_cap false a cap zs h1 _ ((HI.below hb.out).mono hb.size)).mono ?_
 rintro e v1 ⟨sa,sc,g,gc,rfl,hS,hG,hB,hsc,hgc⟩
 have HR:=HR0.go hB
 have r_0:=HR.c0
 have r_1:=HR.c1
 have r_2:=HR.c2
 have f_0:=HR.fr 0
 have f_1:=HR.fr 1
 have f_2:=HR.fr 2
 have hb1:Hid (Below w.heap.size w v1):=hb.trans (hB.mono hb.size)
 have HH:Hid (NewInts (w.heap.size+1) v1 sa [(zs.length:Int)]/\NewInts (w.heap.size+1) v1 g zs):=by rw[World.size_alloc] at hS hG;exact⟨hS,hG⟩
 clear hB hS hG
 go_wp2_with fail
 have FF:=HR.set3 (.bool false) (.slice sa 1 sc) (.slice g zs.length gc)
 have q0:=FF.c0
 have q1:=FF.c1
 have q2:=FF.c2
 exact bodyPost_ret (v:=.agg #[.bool false,.slice sa 1 sc,.slice g zs.length gc]) (by simp[results,Tryz.results11,go_sem,q0,q1,q2]) rfl ⟨sa,sc,g,gc,rfl,⟨(HH.1.set3 (by omega) _ _ _).low (by omega),hsc⟩,⟨(HH.2.set3 (by omega) _ _ _).low (by omega),hgc⟩,bel_set3 hb1.out (Nat.le_refl _) _ _ _⟩
end Go.Proofs.YtkmmkcpfhnifhaaGreatDoor
