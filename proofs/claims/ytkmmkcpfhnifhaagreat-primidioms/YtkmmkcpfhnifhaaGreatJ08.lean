/- What the program tells, in part. -/
import Derived.Test.YtkmmkcpfhnifhaaGreatJ07
set_option linter.unusedVariables false
set_option maxHeartbeats 4000000
set_option maxRecDepth 100000
namespace Go.Proofs.YtkmmkcpfhnifhaaGreat
open Go.RowKit
theorem run_none7 (W:World)(ty:TypeId)(g:Option Addr)(n cap c:Nat)(h:n<=cap):
  (Builtin.append_ #[22,22] ty #[.slice g n cap,.slice none 0 c]).run Tryz.prog W=.ok (.slice g n cap) W:=by
 obtain⟨i0,hi,hz0,hz1,hz2⟩:=info_parts Tryz.infoInt
 have ht:Tryz.prog.underlying 22=some (.slice 3):=Tryz.underlying22
 cases g with
 | none=>simp[Builtin.append_,run_underlying ht,sizeOf,typeInfo,hi,Builtin.lenOf,Builtin.firstCells,h]
 | some x=>simp[Builtin.append_,run_underlying ht,sizeOf,typeInfo,hi,Builtin.lenOf,Builtin.firstCells,storeCells,h]
theorem app_wp {o:Oper}{a:Act}{K:Act->World->Prop}{Q:Exit->Act->World->Prop}(S T:Operand)(ho:o.op=.call { callee:=.builtin .append,args:=#[S,T],argTypes:=#[22,22] })
  (W:World)(base:Nat)(v:Value)(xs:List Int)(m:Nat)(hm:xs.length=m)(da:Option Addr)(dz:List Int)(n dc:Nat)(hn:dz.length=n)
  (hS:a.eval S=v)(hT:a.eval T=.slice da n dc)(hown:W.ownsRow base 3 1 v m (xs.map (Value.int .i64)))(hI:IsInts W.heap.size W da dz)(hlen:m+n<=1000000)(hbase:base<=W.heap.size)
  (k:∀ g gc w1,w1.ownsRow base 3 1 (.slice g (m+n) gc) (m+n) ((xs++dz).map (Value.int .i64))->NewC base w1 g (xs++dz) gc->Below base W w1->K (a.put o.dst (.slice g (m+n) gc)) w1):
  Oper.wp Tryz.prog o a W K Q:=by
 subst hn hm
 obtain⟨i0,hi,hz0,hz1,hz2⟩:=info_parts Tryz.infoInt
 cases da with
 | none=>
  have hz:dz=[]:=by
   rcases hI with h | ⟨_,_,h,_⟩
   ·exact h
   ·cases h
  subst hz
  obtain⟨g,cap,hv,hN⟩:=own_cap hown
  unfold Oper.wp execOp
  simp only[ho,resolve,invoke,builtin,Sem.run_bind,Sem.run_pure,Result.andThen_ok,List.map_toArray,List.map_cons,List.map_nil,hS,hT]
  rw[hv,List.length_nil,run_none7 W _ g xs.length cap dc hN.2]
  refine k g cap W ?_ ?_ (Below.refl _ _)
  ·rw[hv] at hown;simpa using hown
  ·simpa using hN
 | some ad=>
  have hne:∀ j u,(dz.map (Value.int .i64))[j]?=some u->W.cell? (ad.add j)=some u:=by
   intro j u hj
   rw[List.getElem?_map] at hj
   by_cases hl:j<dz.length
   ·obtain⟨b,off,e,hb,hc⟩:=hI.at hl
    cases e
    rw[List.getElem?_eq_getElem hl] at hj
    simp only[Option.map_some] at hj
    obtain rfl:=Option.some.inj hj
    rw[<-nth_get dz j hl]
    have e:(⟨b,off,none⟩:Addr).add j=⟨b,off+j,none⟩:=by
     unfold Addr.add;split
     ·rename_i h0;subst h0;rfl
     ·rfl
    rw[e];exact hc j hl
   ·rw[List.getElem?_eq_none (by omega)] at hj;cases hj
  refine wp_append_own W S T 22 ho base 3 i0 (.int .i64 0) 1 8 Tryz.underlying22 hi hz0 hz1 hz2 rfl (by decide) v xs.length (xs.map (Value.int .i64)) hS hown ad dz.length dc (dz.map (Value.int .i64)) hT (by simp) hne (fun x hx=>by obtain⟨y,_,rfl⟩:=List.mem_map.1 hx;rfl) (by unfold maxLen;omega) (by omega) hbase ?_
  intro v' w1 hown1 hgrow _
  rw[<-List.map_append] at hown1
  obtain⟨g,gc,hv',hN⟩:=own_cap hown1
  rw[List.length_append] at hv'
  rw[hv'] at hown1 ⊢
  exact k g gc w1 hown1 hN (grown_below hown hgrow hbase)
theorem app_all {ops:Array Oper}{rest:List Oper}{o:Oper}{a:Act}{Q:Exit->Act->World->Prop}(hgd:o.guard=none)(S T:Operand)(ho:o.op=.call { callee:=.builtin .append,args:=#[S,T],argTypes:=#[22,22] })
  (W:World)(base:Nat)(v:Value)(xs:List Int)(m:Nat)(hm:xs.length=m)(da:Option Addr)(dz:List Int)(n dc:Nat)(hn:dz.length=n)
  (hS:a.eval S=v)(hT:a.eval T=.slice da n dc)(hown:W.ownsRow base 3 1 v m (xs.map (Value.int .i64)))(hI:IsInts W.heap.size W da dz)(hlen:m+n<=1000000)(hbase:base<=W.heap.size)
  (k:∀ g gc w1,w1.ownsRow base 3 1 (.slice g (m+n) gc) (m+n) ((xs++dz).map (Value.int .i64))->NewC base w1 g (xs++dz) gc->Below base W w1->wpList Tryz.prog ops Q rest (a.put o.dst (.slice g (m+n) gc)) w1):
  wpList Tryz.prog ops Q (o::rest) a W:=
 wpList_plain hgd fun _ hK=>app_wp S T ho W base v xs m hm da dz n dc hn hS hT hown hI hlen hbase fun g gc w1 h1 h2 h3=>hK _ _ (k g gc w1 h1 h2 h3)
theorem lengths_any  (c:Bool)(sa:Option Addr)(sc:Nat)(sz:List Int)(da:Option Addr)(dc:Nat)(dz:List Int)(w:World)(hA:ArF w c sa sc sz da dc dz):
  Calls Tryz.prog 44 #[.agg #[.bool c,.slice sa sz.length sc,.slice da dz.length dc]] w (AnP (anA false [(sz.length:Int)] sz) w):=by
 have HA:Hid (ArF w c sa sc sz da dc dz):=hA
 have h6:=hA.s6.1
 clear hA
 obtain⟨hb,pa,pr⟩:=ent1 w (.bool c) (.slice sa sz.length sc) (.slice da dz.length dc)
 have a0:=pa.c0
 have a1:=pa.c1
 have a2:=pa.c2
 have hz0:=hb.size
 have hlt0:=pr.lt
 have HI:Hid (IsInts _ _ sa sz):=goI16 HA.1.1 hb.out
 go_enter Tryz.func44,Tryz.ntmps44
 go_wp2_with (at_builtin;refine app_all rfl _ _ rfl _ _ (.slice none 0 0) [] 0 rfl sa sz sz.length sc rfl rfl rfl (World.ownsRow_nil _ _ _ _) HI.out (by omega) (Nat.le_refl _) ?_;intro g gc v1 _ hN hB)
 have HN:Hid (NewC _ v1 g sz gc):=hN
 have hz1:=hB.size
 replace pr:=goA16 pr hB
 replace hb:=goB16 hb hB
 clear hB hN pa
 clear a0 a1 a2
 refine (pline_any g gc sz v1).mono ?_
 rintro e' v2 ⟨sa',rfl,hX,hB⟩
 have HX:Hid (NewC v1.heap.size v2 sa' _ 1):=hX
 have HY:Hid (NewC _ v2 g sz gc):=HN.go hB
 have hlt1:=pr.lt
 have hz2:=hB.size
 replace pr:=goA16 pr hB
 replace hb:=goB16 hb hB
 clear hX hB HN
 have r0:=pr.c0
 have r1:=pr.c1
 have r2:=pr.c2
 have f0:=pr.fr 0
 have f1:=pr.fr 1
 have f2:=pr.fr 2
 go_wp2_with fail
 have FF:=pr.set3 (.bool false) (.slice sa' 1 1) (.slice g sz.length gc)
 have q0:=FF.c0
 have q1:=FF.c1
 have q2:=FF.c2
 exact bodyPost_ret (v:=.tuple #[.agg #[.bool false,.slice sa' 1 1,.slice g sz.length gc],.nilIface]) (by simp[results,Tryz.results44,go_sem,q0,q1,q2]) rfl (ok16 (S:=[(sz.length:Int)]) (D:=sz) rfl rfl rfl (by omega) hlt0 (by omega) (HX.low hz1) HY.out hb.out _ _ _)
theorem ravel_c (c:Bool)(sa:Option Addr)(sc:Nat)(sz:List Int)(da:Option Addr)(dc:Nat)(dz:List Int)(h1:sz.length<=9223372036854775807)(h2:dz.length<=9223372036854775807)(w:World)(hs:IsInts w.heap.size w sa sz)(hd:IsInts w.heap.size w da dz)(hf:flawE c sz dz=0):
  Calls Tryz.prog 45 #[.agg #[.bool c,.slice sa sz.length sc,.slice da dz.length dc]] w fun e w'=>∃ xa xc ya yc,e=.returned (.tuple #[.agg #[.bool c,.slice xa 1 xc,.slice ya dz.length yc],.nilIface])/\NewC w.heap.size w' xa [(dz.length:Int)] xc/\NewC w.heap.size w' ya dz yc/\Below w.heap.size w w':=by
 have HB0:Hid (Below w.heap.size w ((w.alloc (.cells #[.bool c,.slice sa sz.length sc,.slice da dz.length dc] 24)).alloc (.cells #[.bool false,.slice none 0 0,.slice none 0 0] 24))):=((Below.refl _ w).alloc (Nat.le_refl _) _).alloc (by simp) _
 have HI:Hid (IsInts w.heap.size w sa sz/\IsInts w.heap.size w da dz):=⟨hs,hd⟩
 have HF:Hid (flawE c sz dz=0):=hf
 have HD:Hid (dz.length<=4096):=(flawE_short hf).2
 clear hs hd hf
 go_enter Tryz.func45,Tryz.ntmps45
 go_wp2_with fail
 refine (check_ok c sa sc sz da dc dz h1 h2 _ ((HI.1.below HB0.out).mono HB0.size) ((HI.2.below HB0.out).mono HB0.size) HF.out).mono ?_
 rintro e w1 ⟨rfl,hC1⟩
 have HB1:Hid (Below w.heap.size w w1):=HB0.trans (hC1.mono HB0.size)
 have P1:Hid (Abx w1 w.heap.size (.bool c) (.slice sa sz.length sc) (.slice da dz.length dc)):=((Abx.new w _ _ _).al _).go hC1
 have R1:Hid (Abx w1 (w.heap.size+1) (.bool false) (.slice none 0 0) (.slice none 0 0)):=(Abx.new1 w _ _ _ _).go hC1
 clear hC1
 have c0:=P1.c0
 have c2:=P1.c2
 go_wp2_with fail
 have HBd:Hid (Below w.heap.size w w1.drew):=HB1.drew
 refine bT 6 (fun w'=>w'.cell? ⟨w.heap.size,0,none⟩=some (.bool c)/\w'.cell? ⟨w.heap.size,2,none⟩=some (.slice da dz.length dc)) 8 (⟨c0,c2⟩) fun hq0=>?_
 refine pT 0 hq0 ?_;refine lT 1 hq0 ?_;refine pT 2 hq0 ?_;refine lT 3 hq0 ?_
 clear hq0
 refine oT 4 fun K hK=>?_
 go_simp
 go_wp2_with (go_at_call 98;refine (fresh_c da dc dz (by have:=HD.out;omega) w1.drew ((HI.2.below HBd.out).mono HBd.size)).mono ?_;rintro e w2 ⟨ya,yc,rfl,hY,hB2⟩)
 have P2:=P1.dr.go hB2
 refine hK.out _ _ (fun _=>⟨P2.c0,P2.c2⟩) ?_
 clear hK K
 refine oT 5 fun K hK=>?_
 go_simp
 go_wp2_with (go_at_call 97;refine (line16_c c ya yc dz w2).mono ?_;rintro e w3 ⟨xa,xc,rfl,hX,hB3⟩)
 have P3:=P2.go hB3
 have R3:=(R1.dr.go hB2).go hB3
 have r0:=R3.c0
 have r1:=R3.c1
 have r2:=R3.c2
 have f0:=R3.fr 0
 have f1:=R3.fr 1
 have f2:=R3.fr 2
 refine hK.out _ _ (fun _=>⟨P3.c0,P3.c2⟩) ?_
 clear hK K
 refine oT 6 fun K hK=>?_
 go_simp
 refine hK.out _ _ (fun h=>absurd h (by decide)) ?_
 clear hK K
 refine oT 7 fun K hK=>?_
 go_simp
 refine hK.out _ _ (fun h=>absurd h (by decide)) ?_
 clear hK K
 refine dT ?_
 go_wp2_with fail
 have F:=R3.set3 (.bool c) (.slice xa 1 xc) (.slice ya dz.length yc)
 have q0:=F.c0
 have q1:=F.c1
 have q2:=F.c2
 have z1:=R1.lt
 have z2:=hB2.size
 have z3:=R3.lt
 refine bodyPost_ret (v:=.tuple #[.agg #[.bool c,.slice xa 1 xc,.slice ya dz.length yc],.nilIface]) (by simp[results,Tryz.results45,go_sem,q0,q1,q2]) rfl ⟨xa,xc,ya,yc,rfl,?_,?_,?_⟩
 ·exact (hX.set3 (by simp at z2;omega) _ _ _).low (by simp at z2;omega)
 ·exact ((hY.go hB3).set3 (by simpa using z1) _ _ _).low (by simp;omega)
 ·exact bel_set3 (HBd.trans ((hB2.mono HBd.size).trans (hB3.mono (by have:=HBd.size;omega)))) (by omega) _ _ _
def CRvB:Prop:=∀ (x:Int) (c:Bool) (sa:Option Addr) (sc:Nat) (sz:List Int) (da:Option Addr) (dc:Nat) (dz:List Int) (w:World),In64 x->sz.length<=9223372036854775807->dz.length<=9223372036854775807->IsC w.heap.size w sa sz sc->IsInts w.heap.size w da dz->(∀ j,In64 (nth dz j)) →
 Calls Tryz.prog 47 #[.int .i64 x,.agg #[.bool c,.slice sa sz.length sc,.slice da dz.length dc]] w (UB (axE x c sz dz) (onc (axE x c sz dz) c) (axS5 x c sz dz) (rvD5 x c sz dz) w)
theorem rv1_any (i:Nat)(L:Int)(h:(i:Int)<L)(hL:L<=4096)(w:World):
  Calls Tryz.prog 101 #[.int .i64 (i:Nat),.int .i64 L] w (fun e w'=>e=.returned (.int .i64 (L-1-i))/\w'=w):=by
 go_enter Tryz.func101,Tryz.ntmps101
 go_wp2_with fail
 go_ret
 exact⟨rfl,rfl⟩
theorem rvb_holds:CRvB:=by
 intro x c sa sc sz da dc dz w hx h1 h2 hs hd T
 have HI:Hid (IsC w.heap.size w sa sz sc/\IsInts w.heap.size w da dz):=⟨hs,hd⟩
 have HX:Hid (In64 x):=hx
 clear hs hd hx T
 obtain⟨S,hS⟩:∃ S,S=axS5 x c sz dz:=⟨_,rfl⟩
 obtain⟨D,hD⟩:∃ D,D=rvD5 x c sz dz:=⟨_,rfl⟩
 obtain⟨C,hC⟩:∃ C,C=onc (axE x c sz dz) c:=⟨_,rfl⟩
 obtain⟨E,hE⟩:∃ E,E=errV (axE x c sz dz):=⟨_,rfl⟩
 have HB0:Hid (Below w.heap.size w ((w.alloc (.cells #[.bool c,.slice sa sz.length sc,.slice da dz.length dc] 24)).alloc (.cells #[.bool false,.slice none 0 0,.slice none 0 0] 24))):=((Below.refl _ w).alloc (Nat.le_refl _) _).alloc (by simp) _
 have pa:=(Abx.new w (.bool c) (.slice sa sz.length sc) (.slice da dz.length dc)).al (.cells #[.bool false,.slice none 0 0,.slice none 0 0] 24)
 have pr:=Abx.new1 w (.cells #[.bool c,.slice sa sz.length sc,.slice da dz.length dc] 24) (.bool false) (.slice none 0 0) (.slice none 0 0)
 have p0:=pa.c0
 have p1:=pa.c1
 have p2:=pa.c2
 have hU:=alongb_any x c sa sc sz da dc dz 101 [] (enters_of Tryz.func101 (by kernel_rfl) rfl) (fun i=>nth sz x.toNat-1-i) HX.out h1 h2 _ ((HI.1.below HB0.out).mono HB0.size) ((HI.2.below HB0.out).mono HB0.size) (fun i h0 h1=>by omega) (fun i hi hL w' _=>rv1_any i _ hi hL w')
 have hU':Calls Tryz.prog 100 #[.int .i64 x,.agg #[.bool c,.slice sa sz.length sc,.slice da dz.length dc],.func (.func 101) #[] #[]] ((w.alloc (.cells #[.bool c,.slice sa sz.length sc,.slice da dz.length dc] 24)).alloc (.cells #[.bool false,.slice none 0 0,.slice none 0 0] 24)) (UB (axE x c sz dz) C S D ((w.alloc (.cells #[.bool c,.slice sa sz.length sc,.slice da dz.length dc] 24)).alloc (.cells #[.bool false,.slice none 0 0,.slice none 0 0] 24))):=by rw[hS,hD,hC];exact hU
 unfold UB at hU'
 rw[<-hE] at hU'
 have HU:Hid (UB (axE x c sz dz) (onc (axE x c sz dz) c) (axS5 x c sz dz) (rvD5 x c sz dz) w=UB (axE x c sz dz) C S D w/\errV (axE x c sz dz)=E):=by rw[hS,hD,hC,hE];exact⟨rfl,rfl⟩
 rw[HU.1]
 clear hS hD hC hE hU
 go_enter Tryz.func47,Tryz.ntmps47
 go_wp2_with fail
 refine hU'.mono ?_
 rintro e v1 ⟨xa,xc,ya,yc,rfl,hX,hY,hB⟩
 have HR:=pr.go hB
 have HB1:Hid (Below w.heap.size w v1):=HB0.trans (hB.mono HB0.size)
 have HN:Hid (NewC (w.heap.size+2) v1 xa S xc/\NewC (w.heap.size+2) v1 ya D yc):=by
  simp only[World.size_alloc] at hX hY
  exact⟨hX,hY⟩
 clear hB hX hY pa pr p0 p1 p2 hU'
 have r_0:=HR.c0
 have r_1:=HR.c1
 have r_2:=HR.c2
 have f_0:=HR.fr 0
 have f_1:=HR.fr 1
 have f_2:=HR.fr 2
 go_wp2_with fail
 have FF:=HR.set3 (.bool C) (.slice xa S.length xc) (.slice ya D.length yc)
 have q0:=FF.c0
 have q1:=FF.c1
 have q2:=FF.c2
 refine bodyPost_ret (v:=.tuple #[.agg #[.bool C,.slice xa S.length xc,.slice ya D.length yc],E]) (by simp[results,Tryz.results47,go_sem,q0,q1,q2]) rfl ?_
 unfold UB
 rw[HU.2]
 exact⟨xa,xc,ya,yc,rfl,(HN.1.set3 (by omega) _ _ _).low (by omega),(HN.2.set3 (by omega) _ _ _).low (by omega),bel_set3 HB1.out (by omega) _ _ _⟩
def P1c (f:Int)(c:Bool)(sz dz:List Int)(w:World)(e:Ending)(w':World):Prop:=
 (e1E f c sz dz≠0/\e=.returned (.tuple #[.agg #[.bool false,.slice none 0 0,.slice none 0 0],.iface 43 (.int .i64 (e1E f c sz dz))])/\Below w.heap.size w w') ∨
 (e1E f c sz dz=0/\∃ xa xc ya yc,e=.returned (.tuple #[.agg #[.bool false,.slice xa sz.length xc,.slice ya (e1V f dz).length yc],.nilIface])/\NewC w.heap.size w' xa sz xc/\NewC w.heap.size w' ya (e1V f dz) yc/\Below w.heap.size w w')
theorem P1c.no {f:Int}{c:Bool}{sz dz:List Int}{w w':World}{e:Int}(h:e1E f c sz dz=e)(h0:e≠0)(hB:Below w.heap.size w w'):P1c f c sz dz w (.returned (.tuple #[.agg #[.bool false,.slice none 0 0,.slice none 0 0],.iface 43 (.int .i64 e)])) w':=by
 subst h;exact .inl ⟨h0,rfl,hB⟩
def C1c:Prop:=∀ (f:Int) (c:Bool) (sa:Option Addr) (sc:Nat) (sz:List Int) (da:Option Addr) (dc:Nat) (dz:List Int) (w:World),In64 f->sz.length<=9223372036854775807->dz.length<=9223372036854775807->IsInts w.heap.size w sa sz->IsInts w.heap.size w da dz->(∀ j,In64 (nth dz j)) →
 Calls Tryz.prog 43 #[.int .i64 f,.agg #[.bool c,.slice sa sz.length sc,.slice da dz.length dc]] w fun e w'=>P1c f c sz dz w e w'
structure K1:Prop where
 one:C1c
 rv:CRvB
 fl:CFlB
 up:CUp
 dn:CDn
 nb:CNb
theorem fu_len (W:World):Fu1 (.func (.func 44) #[] #[]) W (p1A 18):=⟨44,[],rfl,(enters_of Tryz.func44 (by kernel_rfl) rfl),fun c sa sc sz da dc dz w hB hA=>lengths_any c sa sc sz da dc dz w hA⟩
theorem fu_rav (W:World):Fu1 (.func (.func 45) #[] #[]) W (p1A 19):=⟨45,[],rfl,(enters_of Tryz.func45 (by kernel_rfl) rfl),fun c sa sc sz da dc dz w hB hA=>ravel_c c sa sc sz da dc dz hA.h1 hA.h2 w hA.1.1 hA.2.1.1 hA.2.2.2⟩
theorem fu_rv (H:CRvB)(W:World):FuX (.func (.func 47) #[] #[]) W rvA:=⟨47,[],rfl,(enters_of Tryz.func47 (by kernel_rfl) rfl),fun x c sa sc sz da dc dz w hB hx h0 hA=>H x c sa sc sz da dc dz w (by have:=hA.s6.1;unfold In64;omega) hA.h1 hA.h2 hA.1 hA.2.1.1 hA.2.2.1⟩
theorem fg_up (H:CUp)(W:World):FuG (.func (.func 20) #[] #[]) W gdE (fun c sz dz=>onL (gdE c sz dz) (gdO false sz dz)):=⟨20,[],rfl,(enters_of Tryz.func20 (by kernel_rfl) rfl),fun c sa sc sz da dc dz w hB hA=>H c sa sc sz da dc dz w hA.h1 hA.h2 hA.1 hA.2.1⟩
theorem li_eq (d:Bool)(c:Bool)(sz dz:List Int):liA (gdO d) c sz dz=if gdE c sz dz=0 then anA false [((onL (gdE c sz dz) (gdO d sz dz)).length:Int)] (onL (gdE c sz dz) (gdO d sz dz)) else anN (gdE c sz dz):=by
 unfold liA onL
 by_cases h:gdE c sz dz=0
 ·rw[if_pos h,if_pos h,anE_ok h]
 ·rw[if_neg h,anE_no h]
theorem mk_lines (v:Value)(w:World)(E:Bool->List Int->List Int->Int)(L:Bool->List Int->List Int->List Int)(A:A1)(h:FuG v w E L)(hA:∀ c sz dz,A c sz dz=if E c sz dz=0 then anA false [((L c sz dz).length:Int)] (L c sz dz) else anN (E c sz dz)):Calls Tryz.prog 50 #[v] w (Mk1 A w):=by
 have h':=h
 obtain⟨F,cs,rfl,_,_⟩:=h'
 refine (k_lines F _ w).mono fun _ _ ⟨e,hc,hB⟩=>⟨_,e,fu_lines hc ?_ hA,hB⟩
 obtain⟨F2,cs2,e2,hE,H⟩:=h
 exact⟨F2,cs2,e2,hE,fun c sa sc sz da dc dz w2 hB2=>H c sa sc sz da dc dz w2 (hB.trans (hB2.mono hB.size))⟩
theorem t1_18  (w:World):Calls Tryz.prog 23 #[.int .i64 18] w (Mk1 (p1A 18) w):=by
 have hb:Hid (Below w.heap.size w (w.alloc (.cells #[.int .i64 18] 29))):=(Below.refl _ w).alloc (Nat.le_refl _) _
 have hc:=box16 w (.int .i64 18) 29
 go_enter Tryz.func23,Tryz.ntmps23
 go_wp2_with fail
 go_ret
 exact⟨_,rfl,fu_len _,hb.out⟩
theorem t1_19  (w:World):Calls Tryz.prog 23 #[.int .i64 19] w (Mk1 (p1A 19) w):=by
 have hb:Hid (Below w.heap.size w (w.alloc (.cells #[.int .i64 19] 29))):=(Below.refl _ w).alloc (Nat.le_refl _) _
 have hc:=box16 w (.int .i64 19) 29
 go_enter Tryz.func23,Tryz.ntmps23
 go_wp2_with fail
 go_ret
 exact⟨_,rfl,fu_rav _,hb.out⟩
theorem t1_20 (H:CRvB)(w:World):Calls Tryz.prog 23 #[.int .i64 20] w (Mk1 (p1A 20) w):=by
 have hb:Hid (Below w.heap.size w (w.alloc (.cells #[.int .i64 20] 29))):=(Below.refl _ w).alloc (Nat.le_refl _) _
 have hc:=box16 w (.int .i64 20) 29
 have HC:Hid (Calls Tryz.prog 46 #[.func (.func 47) #[] #[]] (w.alloc (.cells #[.int .i64 20] 29)) (Mk1 (p1A 20) (w.alloc (.cells #[.int .i64 20] 29)))):=mk_last _ _ _ (fu_rv H _)
 go_enter Tryz.func23,Tryz.ntmps23
 go_wp2_with fail
 refine HC.mono ?_
 rintro e v ⟨u,rfl,hU,hB⟩
 have HU:Hid (Fu1 u v (p1A 20)/\Below w.heap.size w v):=⟨hU,hb.trans (hB.mono hb.size)⟩
 obtain⟨F,cs,rfl,_,_⟩:=hU
 clear hB HC
 go_wp2_with fail
 go_ret
 exact⟨_,rfl,HU.out⟩
theorem t1_26 (H:CUp)(w:World):Calls Tryz.prog 23 #[.int .i64 26] w (Mk1 (p1A 26) w):=by
 have hb:Hid (Below w.heap.size w (w.alloc (.cells #[.int .i64 26] 29))):=(Below.refl _ w).alloc (Nat.le_refl _) _
 have hc:=box16 w (.int .i64 26) 29
 have HC:Hid (Calls Tryz.prog 50 #[.func (.func 20) #[] #[]] (w.alloc (.cells #[.int .i64 26] 29)) (Mk1 (p1A 26) (w.alloc (.cells #[.int .i64 26] 29)))):=mk_lines _ _ _ _ _ (fg_up H _) (li_eq false)
 go_enter Tryz.func23,Tryz.ntmps23
 go_wp2_with fail
 refine HC.mono ?_
 rintro e v ⟨u,rfl,hU,hB⟩
 have HU:Hid (Fu1 u v (p1A 26)/\Below w.heap.size w v):=⟨hU,hb.trans (hB.mono hb.size)⟩
 obtain⟨F,cs,rfl,_,_⟩:=hU
 clear hB HC
 go_wp2_with fail
 go_ret
 exact⟨_,rfl,HU.out⟩
theorem f1_0 (A:A1)(f g:Int)(H:∀ w',Calls Tryz.prog 23 #[.int .i64 f] w' (Mk1 A w'))(w:World):Calls Tryz.prog 12 #[.agg #[.int .i64 0,.int .i64 f,.int .i64 g]] w (Mk1 A w):=by
 have hb:Hid (Below w.heap.size w (w.alloc (.cells #[.int .i64 0,.int .i64 f,.int .i64 g] 31))):=(Below.refl _ w).alloc (Nat.le_refl _) _
 have p0:=act_c0 w (.int .i64 0) (.int .i64 f) (.int .i64 g)
 have p1:=act_c1 w (.int .i64 0) (.int .i64 f) (.int .i64 g)
 have p2:=act_c2 w (.int .i64 0) (.int .i64 f) (.int .i64 g)
 have HH:Hid (∀ w',Calls Tryz.prog 23 #[.int .i64 f] w' (Mk1 A w')):=H
 clear H
 go_enter Tryz.func12,Tryz.ntmps12
 go_wp2_with fail
 refine (HH.out _).mono ?_
 clear p0 p1 p2 HH
 rintro e v ⟨u,rfl,hU,hB⟩
 have HU:Hid (Fu1 u v A/\Below w.heap.size w v):=⟨hU,(goB16 hb hB).out⟩
 obtain⟨F,cs,rfl,_,_⟩:=hU
 clear hB
 go_wp2_with fail
 go_ret
 exact⟨_,rfl,HU.out⟩
theorem findOne_ok (B:A1)(op f g:Int)(c:Bool)(sa:Option Addr)(sc:Nat)(sz:List Int)(da:Option Addr)(dc:Nat)(dz:List Int)(HF:∀ w',Calls Tryz.prog 12 #[.agg #[.int .i64 op,.int .i64 f,.int .i64 g]] w' (Mk1 B w'))(w:World)(l1:sz.length<=9223372036854775807)(l2:dz.length<=9223372036854775807)(hs:IsC w.heap.size w sa sz sc)(hd:IsC w.heap.size w da dz dc)(hf:flawE c sz dz=0)(T:∀ j,In64 (nth dz j)):Calls Tryz.prog 4 #[.agg #[.int .i64 op,.int .i64 f,.int .i64 g],.agg #[.bool c,.slice sa sz.length sc,.slice da dz.length dc]] w (AnP (B c sz dz) w):=by
 have h':Hid (flawE c sz dz=0):=hf
 have HA:Hid (ArF w c sa sc sz da dc dz/\True):=⟨⟨hs,hd,T,hf⟩,trivial⟩
 clear hf T
 obtain⟨A,hAe⟩:∃ A,B c sz dz=A:=⟨_,rfl⟩
 have HAE:Hid (B c sz dz=A):=hAe
 rw[hAe]
 clear hAe
 have HH:Hid (∀ w',Calls Tryz.prog 12 #[.agg #[.int .i64 op,.int .i64 f,.int .i64 g]] w' (Mk1 B w')):=HF
 clear HF
 have hq:=eqn_fun Tryz.underlying41
 have HI:Hid (IsC w.heap.size w sa sz sc/\IsC w.heap.size w da dz dc):=⟨hs,hd⟩
 clear hs hd
 obtain⟨W0,hW⟩:∃ W0,W0=(((w.alloc (.cells #[.int .i64 op,.int .i64 f,.int .i64 g] 31)).alloc (.cells #[.bool c,.slice sa sz.length sc,.slice da dz.length dc] 24)).alloc (.cells #[.bool false,.slice none 0 0,.slice none 0 0] 24)):=⟨_,rfl⟩
 have he:=ent1 (w.alloc (.cells #[.int .i64 op,.int .i64 f,.int .i64 g] 31)) (.bool c) (.slice sa sz.length sc) (.slice da dz.length dc)
 simp only[World.size_alloc] at he
 rw[<-hW] at he
 obtain⟨hb',pa,pr⟩:=he
 have hb:Hid (Below w.heap.size w W0):=((Below.refl _ w).alloc (Nat.le_refl _) _).trans (hb'.mono (by omega))
 have q0:W0.cell? ⟨w.heap.size,0,none⟩=some (.int .i64 op):=(hb'.cell (p:=⟨w.heap.size,0,none⟩) (by show w.heap.size<w.heap.size+1;omega)).trans (act_c0 w _ _ _)
 have q1:W0.cell? ⟨w.heap.size,1,none⟩=some (.int .i64 f):=(hb'.cell (p:=⟨w.heap.size,1,none⟩) (by show w.heap.size<w.heap.size+1;omega)).trans (act_c1 w _ _ _)
 have q2:W0.cell? ⟨w.heap.size,2,none⟩=some (.int .i64 g):=(hb'.cell (p:=⟨w.heap.size,2,none⟩) (by show w.heap.size<w.heap.size+1;omega)).trans (act_c2 w _ _ _)
 clear hb'
 have hz0:=hb.size
 rw[hW] at q0 q1 q2
 go_enter Tryz.func4,Tryz.ntmps4
 go_wp2_with fail
 rw[<-hW]
 clear q0 q1 q2 hW
 refine (HH.out W0).mono ?_
 rintro e v1 ⟨u,rfl,hU,hB⟩
 have HU:Hid (Fu1 u v1 B):=hU
 replace pa:=goA16 pa hB
 replace pr:=goA16 pr hB
 replace hb:=goB16 hb hB
 obtain⟨F,cs,rfl,hE,_⟩:=hU
 clear hB HH
 have a0:=pa.c0
 have a1:=pa.c1
 have a2:=pa.c2
 go_wp2_with fail
 refine (check_ok c sa sc sz da dc dz l1 l2 v1 (goI16 HI.1.1 hb.out) (goI16 HI.2.1 hb.out) h'.out).mono ?_
 rintro e v2 ⟨rfl,hB⟩
 replace pa:=goA16 pa hB
 replace pr:=goA16 pr hB
 have hB2:Hid (Below v1.heap.size v1 v2):=hB
 replace hb:=goB16 hb hB
 clear hB
 clear a0 a1 a2
 have a0:=pa.c0
 have a1:=pa.c1
 have a2:=pa.c2
 obtain⟨F',cs',he',hE',H'⟩:=HU.out
 have HD:Hid (Calls Tryz.prog F (.agg #[.bool c,.slice sa sz.length sc,.slice da dz.length dc]::cs).toArray v2 (AnP A v2)):=by
  have k:=H' c sa sc sz da dc dz v2 hB2.out (HA.1.go hb.out)
  rw[HAE.out] at k
  obtain⟨rfl,rfl⟩:F=F'/\cs=cs':=by simpa using he'
  exact k
 clear he' hE' H'
 replace hE:∀ args w,(callFunc F args).run Tryz.prog w=.ok (.enter F args) w:=hE
 go_wp2_with fail
 refine HD.mono ?_
 clear HD
 clear a0 a1 a2
 intro e v9 hU
 obtain⟨xa,xc,ya,yc,E,rfl,HU⟩:=hU.out16
 clear hU
 have hz9:=HU.2.2.2.size
 have hlt:=pr.lt
 have HW:=HU.2
 replace pr:=goA16 pr HU.2.2.2
 have r0:=pr.c0
 have r1:=pr.c1
 have r2:=pr.c2
 have f0:=pr.fr 0
 have f1:=pr.fr 1
 have f2:=pr.fr 2
 go_wp2_with fail
 have FF:=pr.set3 (.bool A.c) (.slice xa A.s.length xc) (.slice ya A.d.length yc)
 have q0:=FF.c0
 have q1:=FF.c1
 have q2:=FF.c2
 exact bodyPost_ret (v:=.tuple #[.agg #[.bool A.c,.slice xa A.s.length xc,.slice ya A.d.length yc],E]) (by simp[results,Tryz.results4,go_sem,q0,q1,q2]) rfl (ret16 (A:=A) (by omega) hlt hb.out HU.2.1 HU.2.2.1 HU.2.2.2 HU.1 _ _ _)
theorem sarr_tt (sa:Option Addr)(sc:Nat)(sz:List Int)(da:Option Addr)(dc:Nat)(dz:List Int)(sa':Option Addr)(sc':Nat)(sz':List Int)(da':Option Addr)(dc':Nat)(dz':List Int)
  (h1:sz.length<=9223372036854775807)(h2:dz.length<=9223372036854775807)(w:World)(hs:IsInts w.heap.size w sa sz)(hd:IsInts w.heap.size w da dz)(hs':IsInts w.heap.size w sa' sz')(hd':IsInts w.heap.size w da' dz'):
  Calls Tryz.prog 18 #[.agg #[.bool true,.slice sa sz.length sc,.slice da dz.length dc],.agg #[.bool true,.slice sa' sz'.length sc',.slice da' dz'.length dc']] w fun e w'=>e=.returned (.bool (eqB sz sz' && eqB dz dz'))/\Below w.heap.size w w':=by
 have hB0:Below w.heap.size w ((w.alloc (.cells #[.bool true,.slice sa sz.length sc,.slice da dz.length dc] 24)).alloc (.cells #[.bool true,.slice sa' sz'.length sc',.slice da' dz'.length dc'] 24)):=((Below.refl _ w).alloc (Nat.le_refl _) _).alloc (by simp) _
 have HB0:Hid (Below w.heap.size w ((w.alloc (.cells #[.bool true,.slice sa sz.length sc,.slice da dz.length dc] 24)).alloc (.cells #[.bool true,.slice sa' sz'.length sc',.slice da' dz'.length dc'] 24))):=hB0
 have HI:Hid (IsInts w.heap.size w sa sz/\IsInts w.heap.size w da dz/\IsInts w.heap.size w sa' sz'/\IsInts w.heap.size w da' dz'):=⟨hs,hd,hs',hd'⟩
 clear hB0 hs hd hs' hd'
 go_enter Tryz.func18,Tryz.ntmps18
 go_wp2_with fail
 refine (ints_any sa sc sz sa' sc' sz' h1 w.heap.size _ (HI.1.below HB0.out) (HI.2.2.1.below HB0.out)).mono ?_
 rintro e w1 ⟨rfl,hC1⟩
 have hB1:Below w.heap.size w w1:=HB0.trans (hC1.mono HB0.size)
 have c0:w1.cell? ⟨w.heap.size,2,none⟩=some (.slice da dz.length dc):=(hC1.cell (p:=⟨w.heap.size,2,none⟩) (by simp;omega)).trans (by simp)
 have c1:w1.cell? ⟨w.heap.size+1,2,none⟩=some (.slice da' dz'.length dc'):=(hC1.cell (p:=⟨w.heap.size+1,2,none⟩) (by simp)).trans (by simp)
 have HB1:Hid (Below w.heap.size w w1):=hB1
 clear hB1 hC1
 go_wp2_with fail
 refine (ints_any da dc dz da' dc' dz' h2 w.heap.size w1 (HI.2.1.below HB1.out) (HI.2.2.2.below HB1.out)).mono ?_
 rintro e w2 ⟨rfl,hC2⟩
 have hB2:Below w.heap.size w w2:=HB1.trans (hC2.mono HB1.size)
 by_cases h:eqB sz sz'=true
 ·rw[h]
  go_wp2_with fail
  go_ret
  exact⟨by simp[h],hB2⟩
 ·have h':eqB sz sz'=false:=by simpa using h
  rw[h']
  go_wp2_with fail
  go_ret
  exact⟨by simp[h'],hB2⟩
theorem sarr_tf (sa:Option Addr)(sc:Nat)(sz:List Int)(da:Option Addr)(dc:Nat)(dz:List Int)(sa':Option Addr)(sc':Nat)(sz':List Int)(da':Option Addr)(dc':Nat)(dz':List Int)
  (h1:sz.length<=9223372036854775807)(h2:dz.length<=9223372036854775807)(w:World)(hs:IsInts w.heap.size w sa sz)(hd:IsInts w.heap.size w da dz)(hs':IsInts w.heap.size w sa' sz')(hd':IsInts w.heap.size w da' dz'):
  Calls Tryz.prog 18 #[.agg #[.bool true,.slice sa sz.length sc,.slice da dz.length dc],.agg #[.bool false,.slice sa' sz'.length sc',.slice da' dz'.length dc']] w fun e w'=>e=.returned (.bool (false))/\Below w.heap.size w w':=by
 have hB0:Below w.heap.size w ((w.alloc (.cells #[.bool true,.slice sa sz.length sc,.slice da dz.length dc] 24)).alloc (.cells #[.bool false,.slice sa' sz'.length sc',.slice da' dz'.length dc'] 24)):=((Below.refl _ w).alloc (Nat.le_refl _) _).alloc (by simp) _
 go_enter Tryz.func18,Tryz.ntmps18
 go_wp2_with fail
 go_ret
 exact⟨rfl,hB0⟩
theorem sarr_ft (sa:Option Addr)(sc:Nat)(sz:List Int)(da:Option Addr)(dc:Nat)(dz:List Int)(sa':Option Addr)(sc':Nat)(sz':List Int)(da':Option Addr)(dc':Nat)(dz':List Int)
  (h1:sz.length<=9223372036854775807)(h2:dz.length<=9223372036854775807)(w:World)(hs:IsInts w.heap.size w sa sz)(hd:IsInts w.heap.size w da dz)(hs':IsInts w.heap.size w sa' sz')(hd':IsInts w.heap.size w da' dz'):
  Calls Tryz.prog 18 #[.agg #[.bool false,.slice sa sz.length sc,.slice da dz.length dc],.agg #[.bool true,.slice sa' sz'.length sc',.slice da' dz'.length dc']] w fun e w'=>e=.returned (.bool (false))/\Below w.heap.size w w':=by
 have hB0:Below w.heap.size w ((w.alloc (.cells #[.bool false,.slice sa sz.length sc,.slice da dz.length dc] 24)).alloc (.cells #[.bool true,.slice sa' sz'.length sc',.slice da' dz'.length dc'] 24)):=((Below.refl _ w).alloc (Nat.le_refl _) _).alloc (by simp) _
 go_enter Tryz.func18,Tryz.ntmps18
 go_wp2_with fail
 go_ret
 exact⟨rfl,hB0⟩
theorem sarr_ff (sa:Option Addr)(sc:Nat)(sz:List Int)(da:Option Addr)(dc:Nat)(dz:List Int)(sa':Option Addr)(sc':Nat)(sz':List Int)(da':Option Addr)(dc':Nat)(dz':List Int)
  (h1:sz.length<=9223372036854775807)(h2:dz.length<=9223372036854775807)(w:World)(hs:IsInts w.heap.size w sa sz)(hd:IsInts w.heap.size w da dz)(hs':IsInts w.heap.size w sa' sz')(hd':IsInts w.heap.size w da' dz'):
  Calls Tryz.prog 18 #[.agg #[.bool false,.slice sa sz.length sc,.slice da dz.length dc],.agg #[.bool false,.slice sa' sz'.length sc',.slice da' dz'.length dc']] w fun e w'=>e=.returned (.bool (eqB sz sz' && eqB dz dz'))/\Below w.heap.size w w':=by
 have hB0:Below w.heap.size w ((w.alloc (.cells #[.bool false,.slice sa sz.length sc,.slice da dz.length dc] 24)).alloc (.cells #[.bool false,.slice sa' sz'.length sc',.slice da' dz'.length dc'] 24)):=((Below.refl _ w).alloc (Nat.le_refl _) _).alloc (by simp) _
 have HB0:Hid (Below w.heap.size w ((w.alloc (.cells #[.bool false,.slice sa sz.length sc,.slice da dz.length dc] 24)).alloc (.cells #[.bool false,.slice sa' sz'.length sc',.slice da' dz'.length dc'] 24))):=hB0
 have HI:Hid (IsInts w.heap.size w sa sz/\IsInts w.heap.size w da dz/\IsInts w.heap.size w sa' sz'/\IsInts w.heap.size w da' dz'):=⟨hs,hd,hs',hd'⟩
 clear hB0 hs hd hs' hd'
 go_enter Tryz.func18,Tryz.ntmps18
 go_wp2_with fail
 refine (ints_any sa sc sz sa' sc' sz' h1 w.heap.size _ (HI.1.below HB0.out) (HI.2.2.1.below HB0.out)).mono ?_
 rintro e w1 ⟨rfl,hC1⟩
 have hB1:Below w.heap.size w w1:=HB0.trans (hC1.mono HB0.size)
 have c0:w1.cell? ⟨w.heap.size,2,none⟩=some (.slice da dz.length dc):=(hC1.cell (p:=⟨w.heap.size,2,none⟩) (by simp;omega)).trans (by simp)
 have c1:w1.cell? ⟨w.heap.size+1,2,none⟩=some (.slice da' dz'.length dc'):=(hC1.cell (p:=⟨w.heap.size+1,2,none⟩) (by simp)).trans (by simp)
 have HB1:Hid (Below w.heap.size w w1):=hB1
 clear hB1 hC1
 go_wp2_with fail
 refine (ints_any da dc dz da' dc' dz' h2 w.heap.size w1 (HI.2.1.below HB1.out) (HI.2.2.2.below HB1.out)).mono ?_
 rintro e w2 ⟨rfl,hC2⟩
 have hB2:Below w.heap.size w w2:=HB1.trans (hC2.mono HB1.size)
 by_cases h:eqB sz sz'=true
 ·rw[h]
  go_wp2_with fail
  go_ret
  exact⟨by simp[h],hB2⟩
 ·have h':eqB sz sz'=false:=by simpa using h
  rw[h']
  go_wp2_with fail
  go_ret
  exact⟨by simp[h'],hB2⟩
theorem sarr_any (c c':Bool)(sa:Option Addr)(sc:Nat)(sz:List Int)(da:Option Addr)(dc:Nat)(dz:List Int)(sa':Option Addr)(sc':Nat)(sz':List Int)(da':Option Addr)(dc':Nat)(dz':List Int)
  (h1:sz.length<=9223372036854775807)(h2:dz.length<=9223372036854775807)(w:World)(hs:IsInts w.heap.size w sa sz)(hd:IsInts w.heap.size w da dz)(hs':IsInts w.heap.size w sa' sz')(hd':IsInts w.heap.size w da' dz'):
  Calls Tryz.prog 18 #[.agg #[.bool c,.slice sa sz.length sc,.slice da dz.length dc],.agg #[.bool c',.slice sa' sz'.length sc',.slice da' dz'.length dc']] w fun e w'=>e=.returned (.bool (arrB c sz dz c' sz' dz'))/\Below w.heap.size w w':=by
 cases c<;>cases c'
 ·exact sarr_ff sa sc sz da dc dz sa' sc' sz' da' dc' dz' h1 h2 w hs hd hs' hd'
 ·exact sarr_ft sa sc sz da dc dz sa' sc' sz' da' dc' dz' h1 h2 w hs hd hs' hd'
 ·exact sarr_tf sa sc sz da dc dz sa' sc' sz' da' dc' dz' h1 h2 w hs hd hs' hd'
 ·exact sarr_tt sa sc sz da dc dz sa' sc' sz' da' dc' dz' h1 h2 w hs hd hs' hd'
theorem take_len (zs:List Int){k:Nat}(h:k<=zs.length):(zs.take k).length=k:=by simp;omega
theorem owns_room {w:World}{base:Nat}{e:TypeId}{g:Option Addr}{n cap:Nat}{xs:List Int}(h:w.ownsRow base e 1 (.slice g n cap) n (xs.map (Value.int .i64))):n<=cap:=by
 rcases h.2 with ⟨e1,_⟩ | ⟨g',cap',cur,e1,_,_,h1,_⟩
 ·simp only[Value.slice.injEq] at e1;have:=h.1;omega
 ·simp only[Value.slice.injEq] at e1;have:=h.1;omega
theorem vector_cap (c:Bool)(a:Option Addr)(cap:Nat)(zs:List Int)(h1:zs.length<=100000)(w:World)(hI:IsInts w.heap.size w a zs):
  Calls Tryz.prog 13 #[.bool c,.slice a zs.length cap] w fun e w'=>∃ sa sc g gc,e=.returned (.agg #[.bool c,.slice sa 1 sc,.slice g zs.length gc])/\NewInts w.heap.size w' sa [(zs.length:Int)]/\NewInts w.heap.size w' g zs/\Below w.heap.size w w'/\1<=sc/\zs.length<=gc:=by
 go_enter Tryz.func13,Tryz.ntmps13
 go_wp2_with fail
 go_loopw [6] (fun i wr=>∃ (k:Nat) (v:Value),k<=zs.length/\i=.int .i64 k/\Abx wr w.heap.size (.bool false) (.slice none 0 0) (.slice none 0 0)/\Abx wr (w.heap.size+1+1) (.bool c) (.slice (some ⟨w.heap.size+1,0,none⟩) 1 1) v/\MidInts (w.heap.size+1) (w.heap.size+1+1) wr (some ⟨w.heap.size+1,0,none⟩) [(zs.length:Int)]
  /\wr.ownsRow (w.heap.size+1+1+1) 3 1 v (zs.take k).length ((zs.take k).map (Value.int .i64))/\w.heap.size+1+1+1<=wr.heap.size/\Below w.heap.size w wr) (fun i _=>zs.length-(intOf i).toNat)
 case atStart=>
  refine⟨0,.slice none 0 0,Nat.zero_le _,rfl,((Abx.new w _ _ _).al _).al _,?_,?_,World.ownsRow_nil _ _ _ _,by simp,(((Below.refl _ w).alloc (Nat.le_refl _) _).alloc (by simp) _).alloc (by simp;omega) _⟩
  case refine_2=>
   have:=(new_lit (w.alloc (.cells #[.bool false,.slice none 0 0,.slice none 0 0] 24)) 3 [(zs.length:Int)]).mid
   simp only[World.size_alloc] at this
   exact this.al (by simp) _
  have:=Abx.new1 (w.alloc (.cells #[.bool false,.slice none 0 0,.slice none 0 0] 24)) (.cells #[.int .i64 (zs.length:Int)] 3) (.bool c) (.slice (some ⟨w.heap.size+1,0,none⟩) 1 1) (.slice none 0 0)
  rwa [World.size_alloc] at this
 case round=>
  obtain⟨k,v,hk,rfl,hR,hO,hl,hown,hsz,hB⟩:=hrel
  by_cases hlt:k<zs.length
  ·obtain⟨b,off,rfl,hb,hcell⟩:=(hI.below hB).at hlt
   have hc:=hcell k hlt
   clear hcell
   have o2:=hO.c2
   have hbw:b<wr.heap.size:=by have:=hB.size;omega
   have HR:Hid (Abx wr w.heap.size (.bool false) (.slice none 0 0) (.slice none 0 0)/\Abx wr (w.heap.size+1+1) (.bool c) (.slice (some ⟨w.heap.size+1,0,none⟩) 1 1) v/\MidInts (w.heap.size+1) (w.heap.size+1+1) wr (some ⟨w.heap.size+1,0,none⟩) [(zs.length:Int)]):=⟨hR,hO,hl⟩
   clear hR hO hl
   go_wp2_with fail
   refine bT 8 (fun w'=>w'.cell? ⟨w.heap.size+1+1,2,none⟩=some v/\w'.cell? ⟨b,off+k,none⟩=some (.int .i64 (nth zs k))) 10 (⟨o2,hc⟩) fun hq0=>?_
   refine pT 0 hq0 ?_;refine lT 1 hq0 ?_;refine pT 2 hq0 ?_;refine pT 3 hq0 ?_;refine pT 4 hq0 ?_;refine lT 5 hq0 ?_
   clear hq0
   refine oT 6 fun K hK=>?_
   go_simp
   have k1:(wr.alloc (.cells #[.int .i64 (nth zs k)] 3)).cell? ⟨w.heap.size+1+1,2,none⟩=some v:=(World.cell?_alloc_lt wr _ ⟨w.heap.size+1+1,2,none⟩ (by show w.heap.size+1+1<wr.heap.size;omega)).trans o2
   have k2:(wr.alloc (.cells #[.int .i64 (nth zs k)] 3)).cell? ⟨b,off+k,none⟩=some (.int .i64 (nth zs k)):=(World.cell?_alloc_lt wr _ ⟨b,off+k,none⟩ hbw).trans hc
   refine hK.out _ _ (fun _=>⟨k1,k2⟩) ?_
   clear hK K
   refine oT 7 fun K hK=>?_
   refine app_step 25 rfl rfl _ _ rfl _ (w.heap.size+1+1+1) wr.heap.size v (zs.take k) (nth zs k) rfl rfl ((hown.alloc _).drew) (heap_alloc_new wr _) (by rw[take_len _ hk];omega) (by simp;omega) ?_
   intro g gc w1 hown1 hB1
   have HO1:Hid (Abx w1 (w.heap.size+1+1) (.bool c) (.slice (some ⟨w.heap.size+1,0,none⟩) 1 1) v):=(HR.2.1.al _).dr.bel hB1 (by omega)
   have q2:=HO1.c2
   have qf:=HO1.fr 2
   have qc:w1.cell? ⟨b,off+k,none⟩=some (.int .i64 (nth zs k)):=(hB1.cell (p:=⟨b,off+k,none⟩) (by show b<_;omega)).trans k2
   refine hK.out _ _ (fun _=>⟨q2,qc⟩) ?_
   clear hK K
   simp only[Act.put,List.setIfInBounds_toArray,List.set_cons_zero,List.set_cons_succ]
   refine oT 8 fun K hK=>?_
   go_simp
   refine hK.out _ _ (fun h=>absurd h (by decide)) ?_
   clear hK K
   refine oT 9 fun K hK=>?_
   go_simp
   refine hK.out _ _ (fun h=>absurd h (by decide)) ?_
   clear hK K
   refine dT ?_
   go_wp2_with fail
   rw[<-take_snoc zs k hlt,take_len _ hk] at hown1
   have hz1:w.heap.size+1+1+1<=w1.heap.size:=by have:=hB1.size;simp at this;omega
   have hl1:=((HR.2.2.al (by omega) (.cells #[.int .i64 (nth zs k)] 3)).dr).bel (hB1.mono (by omega))
   refine⟨⟨k+1,.slice (some ⟨g,0,none⟩) (k+1) gc,by omega,by go_num,?_,HO1.s2 _,?_,?_,by simpa[World.setCell] using hz1,?_⟩,by simp[intOf];omega⟩
   ·exact (((HR.1.al _).dr.bel hB1 (by omega))).ot (by show w.heap.size≠w.heap.size+1+1;omega) _
   ·exact hl1.off (by show w.heap.size+1+1<=w.heap.size+1+1;omega) _
   ·rw[take_len _ (show k+1<=zs.length by omega)]
    exact ownsRow_setCell_below hown1 (by show w.heap.size+1+1<w.heap.size+1+1+1;omega) _
   ·exact (((hB.alloc (by omega) _).drew.trans (hB1.mono (by omega)))).setCell (p:=⟨w.heap.size+1+1,2,none⟩) (by show w.heap.size<=w.heap.size+1+1;omega) _
  ·obtain rfl:k=zs.length:=by omega
   rw[List.take_length] at hown
   obtain⟨g,gc,rfl,hN⟩:=owns_new hown
   have HCp:Hid (zs.length<=gc):=owns_room hown
   have o0:=hO.c0
   have o1:=hO.c1
   have o2:=hO.c2
   have r0:=hR.c0
   have r1:=hR.c1
   have r2:=hR.c2
   have f0:=hR.fr 0
   have f1:=hR.fr 1
   have f2:=hR.fr 2
   have HR:=hR
   clear hR hown
   go_wp2_with fail
   have F:=HR.set3 (.bool c) (.slice (some ⟨w.heap.size+1,0,none⟩) 1 1) (.slice g zs.length gc)
   refine bodyPost_ret (v:=.agg #[.bool c,.slice (some ⟨w.heap.size+1,0,none⟩) 1 1,.slice g zs.length gc]) ?_ rfl ⟨some ⟨w.heap.size+1,0,none⟩,1,g,gc,rfl,?_,?_,bel_set3 hB (Nat.le_refl _) _ _ _,Nat.le_refl _,HCp.out⟩
   ·exact results_cell_row rfl _ _ w.heap.size 24 _ (0,0) _ rfl F Tryz.underlying24 rfl (by kernel_rfl)
   ·exact ((hl.new (by omega)).set3 (by omega) _ _ _).low (by omega)
   ·exact (hN.set3 (by omega) _ _ _).low (by omega)
def rvG (x:Int)(sz dz:List Int):List Int:=GA sz dz sz (revT sz x.toNat)
section
variable {x y n m : Int} {c : Bool} {sz dz : List Int}
theorem axE_err (h:axE x c sz dz=0):errOf sz=0/\(dz.length:Int)=prod sz/\x.toNat<sz.length:=⟨(flawE_zero (axE_zero.1 h).1).1,(flawE_zero (axE_zero.1 h).1).2.1,(axE_zero.1 h).2.2⟩
theorem rv_flaw (h:axE x c sz dz=0):flawE c sz (rvG x sz dz)=0:=GA_flaw (axE_zero.1 h).1 (axE_err h).1 fun t ht=>revT_in ht (axE_err h).2.2
theorem axE_of (h:axE y c sz dz=0){xs:List Int}(hf:flawE c sz xs=0):axE y c sz xs=0:=axE_zero.2 ⟨hf,(axE_zero.1 h).2⟩
theorem rv_rv (h:axE x c sz dz=0):rvG x sz (rvG x sz dz)=dz:=by
 obtain⟨h1,h2,h3⟩:=axE_err h
 unfold rvG
 rw[GA_comp h1 h1 fun t ht=>revT_in ht h3]
 exact GA_id h1 h2 fun t ht=>revT_twice ht h3
end
def OkA (c:Bool)(S D:List Int)(w:World)(r:Ending)(w':World):Prop:=
 ∃ xa xc ya yc,r=.returned (.tuple #[.agg #[.bool c,.slice xa S.length xc,.slice ya D.length yc],.nilIface])/\NewC w.heap.size w' xa S xc/\NewInts w.heap.size w' ya D/\Below w.heap.size w w'
def NoA (e:Int)(w:World)(r:Ending)(w':World):Prop:=
 ∃ xa xc ya yc,r=.returned (.tuple #[.agg #[.bool false,.slice xa 0 xc,.slice ya 0 yc],.iface 43 (.int .i64 e)])/\Below w.heap.size w w'
theorem UA.ok {e:Int}{c:Bool}{S D:List Int}{w w':World}{r:Ending}(h0:e=0)(h:UA e (onc e c) (onl e S) (onl e D) w r w'):OkA c S D w r w':=by
 subst h0
 exact h
theorem UA.no {e:Int}{c:Bool}{S D:List Int}{w w':World}{r:Ending}(h0:e≠0)(h:UA e (onc e c) (onl e S) (onl e D) w r w'):NoA e w r w':=by
 obtain⟨xa,xc,ya,yc,hr,hX,hY,hB⟩:=h
 rw[onl_no h0,onl_no h0,onc_no h0,errV_pos h0] at hr
 exact⟨xa,xc,ya,yc,hr,hB⟩
theorem vec_c (a:Option Addr)(cap:Nat)(zs:List Int)(h1:zs.length<=100000)(w:World)(hI:IsInts w.heap.size w a zs):
  Calls Tryz.prog 5 #[.slice a zs.length cap] w fun e w'=>∃ sa sc g gc,e=.returned (.agg #[.bool false,.slice sa 1 sc,.slice g zs.length gc])/\NewC w.heap.size w' sa [(zs.length:Int)] sc/\NewC w.heap.size w' g zs gc/\Below w.heap.size w w':=by
 have hb:Hid (Below w.heap.size w (w.alloc (.cells #[.bool false,.slice none 0 0,.slice none 0 0] 24))):=(Below.refl _ w).alloc (Nat.le_refl _) _
 have HR0:Hid (Abx (w.alloc (.cells #[.bool false,.slice none 0 0,.slice none 0 0] 24)) w.heap.size (.bool false) (.slice none 0 0) (.slice none 0 0)):=Abx.new w _ _ _
 have HI:Hid (IsInts w.heap.size w a zs):=hI
 clear hI
 go_enter Tryz.func5,Tryz.ntmps5
 go_wp2_with fail
 refine (vector_cap false a cap zs h1 _ ((HI.below hb.out).mono hb.size)).mono ?_
 rintro e v1 ⟨sa,sc,g,gc,rfl,hS,hG,hB,hsc,hgc⟩
 have HR:=HR0.go hB
 have r_0:=HR.c0
 have r_1:=HR.c1
 have r_2:=HR.c2
 have f_0:=HR.fr 0
 have f_1:=HR.fr 1
 have f_2:=HR.fr 2
 have hb1:Hid (Below w.heap.size w v1):=hb.trans (hB.mono hb.size)
 have HH:Hid (NewInts (w.heap.size+1) v1 sa [(zs.length:Int)]/\NewInts (w.heap.size+1) v1 g zs):=by rw[World.size_alloc] at hS hG;exact⟨hS,hG⟩
 clear hB hS hG
 go_wp2_with fail
 have FF:=HR.set3 (.bool false) (.slice sa 1 sc) (.slice g zs.length gc)
 have q0:=FF.c0
 have q1:=FF.c1
 have q2:=FF.c2
 exact bodyPost_ret (v:=.agg #[.bool false,.slice sa 1 sc,.slice g zs.length gc]) (by simp[results,Tryz.results5,go_sem,q0,q1,q2]) rfl ⟨sa,sc,g,gc,rfl,⟨(HH.1.set3 (by omega) _ _ _).low (by omega),hsc⟩,⟨(HH.2.set3 (by omega) _ _ _).low (by omega),hgc⟩,bel_set3 hb1.out (Nat.le_refl _) _ _ _⟩
def OkB (c:Bool)(S D:List Int)(w:World)(r:Ending)(w':World):Prop:=
 ∃ xa xc ya yc,r=.returned (.tuple #[.agg #[.bool c,.slice xa S.length xc,.slice ya D.length yc],.nilIface])/\NewC w.heap.size w' xa S xc/\NewC w.heap.size w' ya D yc/\Below w.heap.size w w'
theorem UB.ok {e:Int}{c:Bool}{S D S' D':List Int}{w w':World}{r:Ending}(h0:e=0/\S=S'/\D=D')(h:UB e (onc e c) (onl e S) (onl e D) w r w'):OkB c S' D' w r w':=by
 obtain⟨rfl,rfl,rfl⟩:=h0
 exact h
theorem UB.no {e:Int}{c:Bool}{S D:List Int}{w w':World}{r:Ending}(h0:e≠0)(h:UB e (onc e c) (onl e S) (onl e D) w r w'):NoA e w r w':=UA.no h0 h.ua
end Go.Proofs.YtkmmkcpfhnifhaaGreat
namespace Go.Proofs.YtkmmkcpfhnifhaaGreat
open Go.ChangeShapes Go.WideShapes Go.ChangeAt Go.RowKit Go.Deep
abbrev ArV:Type:=Bool × ((Option Addr × Nat) × List Int) × ((Option Addr × Nat) × List Int)
def ArV.s (b:ArV):Value:=.slice b.2.1.1.1 b.2.1.2.length b.2.1.1.2
def ArV.d (b:ArV):Value:=.slice b.2.2.1.1 b.2.2.2.length b.2.2.1.2
def ArV.ar (b:ArV):Bool × (List Int × List Int):=(b.1,(b.2.1.2,b.2.2.2))
def arz (bs:List ArV)(j:Nat):ArV:=bs.getD j (false,(((none,0),[]),((none,0),[])))
def IsAv (n:Nat)(W:World)(b:ArV):Prop:=
 b.2.1.2.length<=9223372036854775807/\b.2.2.2.length<=9223372036854775807/\IsC n W b.2.1.1.1 b.2.1.2 b.2.1.1.2/\IsC n W b.2.2.1.1 b.2.2.2 b.2.2.1.2/\(∀ j,In64 (nth b.2.1.2 j))/\∀ j,In64 (nth b.2.2.2 j)
def IsAs (n:Nat)(W:World)(a:Option Addr)(bs:List ArV):Prop:=
 (bs=[]\/∃ b off,a=some ⟨b,off,none⟩/\b<n/\∀ j,j<bs.length->W.cell? ⟨b,off+j*3,none⟩=some (.bool (arz bs j).1)/\W.cell? ⟨b,off+j*3+1,none⟩=some (arz bs j).s/\W.cell? ⟨b,off+j*3+2,none⟩=some (arz bs j).d)/\∀ j,j<bs.length->IsAv n W (arz bs j)
section
variable {n n' : Nat} {W W' : World} {a : Option Addr} {bs : List ArV}
theorem IsAv.below {b:ArV}(hB:Below n W W')(h:IsAv n W b):IsAv n W' b:=⟨h.1,h.2.1,h.2.2.1.below hB,h.2.2.2.1.below hB,h.2.2.2.2⟩
theorem IsAv.mono {b:ArV}(hn:n<=n')(h:IsAv n W b):IsAv n' W b:=⟨h.1,h.2.1,h.2.2.1.mono hn,h.2.2.2.1.mono hn,h.2.2.2.2⟩
theorem IsAs.below (hB:Below n W W')(h:IsAs n W a bs):IsAs n W' a bs:=by
 refine⟨?_,fun j hj=>(h.2 j hj).below hB⟩
 rcases h.1 with e | ⟨b,off,e,hb,hc⟩
 ·exact .inl e
 ·exact .inr ⟨b,off,e,hb,fun j hj=>⟨(hB.cell (p:=⟨b,off+j*3,none⟩) hb).trans (hc j hj).1,(hB.cell (p:=⟨b,off+j*3+1,none⟩) hb).trans (hc j hj).2.1,(hB.cell (p:=⟨b,off+j*3+2,none⟩) hb).trans (hc j hj).2.2⟩⟩
theorem IsAs.mono (hn:n<=n')(h:IsAs n W a bs):IsAs n' W a bs:=by
 refine⟨?_,fun j hj=>(h.2 j hj).mono hn⟩
 rcases h.1 with e | ⟨b,off,e,hb,hc⟩
 ·exact .inl e
 ·exact .inr ⟨b,off,e,by omega,hc⟩
theorem IsAs.at (h:IsAs n W a bs){j:Nat}(hj:j<bs.length):∃ b off,a=some ⟨b,off,none⟩/\b<n/\∀ j,j<bs.length->W.cell? ⟨b,off+j*3,none⟩=some (.bool (arz bs j).1)/\W.cell? ⟨b,off+j*3+1,none⟩=some (arz bs j).s/\W.cell? ⟨b,off+j*3+2,none⟩=some (arz bs j).d:=by
 rcases h.1 with e | h
 ·subst e;simp at hj
 ·exact h
end
end Go.Proofs.YtkmmkcpfhnifhaaGreat
