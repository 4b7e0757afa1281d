/- What the program tells, in part. -/
import Derived.Test.YtkmmkcpfhnifhaaGreatDoorJ26
set_option linter.unusedVariables false
set_option maxHeartbeats 2000000
set_option maxRecDepth 100000
namespace Go.Proofs.YtkmmkcpfhnifhaaGreatDoor
open Go.RowKit
theorem blk_to {w w':World}{b:Nat}{o:Obj}(h:w.heap[b]?=some o)(hB:Below w.heap.size w w'):w'.heap[b]?=some o:=by
 obtain⟨hlt,_⟩:=Array.getElem?_eq_some_iff.1 h
 exact (hB.block b hlt).trans h
theorem cell_lt {w:World}{p:Addr}{v:Value}(h:w.cell? p=some v):p.block<w.heap.size:=by
 refine Classical.byContradiction fun hn=>?_
 have e:w.heap[p.block]?=none:=Array.getElem?_eq_none (by omega)
 rw[show w.cell? p=none by simp[World.cell?,e]] at h
 cases h
theorem cell_to {w w':World}{p:Addr}{v:Value}(h:w.cell? p=some v)(hB:Below w.heap.size w w'):w'.cell? p=some v:=(hB.cell (cell_lt h)).trans h
def tkC (f:Int):Bool:=decide (f=8\/f=9)
theorem takes_any (f:Int)(w:World):Calls Tryz.prog 256 #[.int .i64 f] w fun e w'=>e=.returned (.bool (tkC f))/\w'=w:=by
 by_cases h8:f=8
 ·subst h8
  go_enter Tryz.func256,Tryz.ntmps256
  go_wp2_with fail
  go_ret
  exact⟨ret_bool (by simp[tkC]),rfl⟩
 ·have t8:(f == 8)=false:=by simp[h8]
  have H8:Hid (f≠8):=h8
  clear h8
  go_enter Tryz.func256,Tryz.ntmps256
  go_wp2_with fail
  go_ret
  have h8:=H8.out
  exact⟨ret_bool (by simp[tkC,h8];try rfl),rfl⟩
def PairF (n:Nat)(w:World)(v:Value)(f:Int)(t:Bool):Prop:=∃ k b o,b<n/\v=.func (.func k) #[] #[.pointer (some ⟨b,0,none⟩)]/\(∀ args w,(callFunc k args).run Tryz.prog w=.ok (.enter k args) w)/\w.heap[b]?=some o ∧
 ∀ (x y:Int),In64 x->In64 y->∀ w':World,w'.heap[b]?=some o->Calls Tryz.prog k #[.int .i64 x,.int .i64 y,.pointer (some ⟨b,0,none⟩)] w' fun e w''=>e=.returned (.tuple #[.int .i64 (tcV f t x y),errV (tcE f t x y)])/\Below w'.heap.size w' w''
section
variable {n : Nat} {w w' : World} {v : Value} {f : Int} {t : Bool}
theorem PairF.bel (h:PairF n w v f t)(hB:Below n w w'):PairF n w' v f t:=by
 obtain⟨k,b,o,hn,e,h1,hb,h2⟩:=h
 exact⟨k,b,o,hn,e,h1,(hB.block b hn).trans hb,h2⟩
theorem PairF.go (h:PairF n w v f t)(hB:Below w.heap.size w w'):PairF n w' v f t:=by
 obtain⟨k,b,o,hn,e,h1,hb,h2⟩:=h
 exact⟨k,b,o,hn,e,h1,blk_to hb hB,h2⟩
theorem PairF.grown (h:PairF n w v f t){r:Nat}(hg:w.grownBy w' (some r))(hr:n<=r):PairF n w' v f t:=by
 obtain⟨k,b,o,hn,e,h1,hb,h2⟩:=h
 exact⟨k,b,o,hn,e,h1,(hg.block b (Array.getElem?_eq_some_iff.1 hb).1 (fun q=>by have:=Option.some.inj q;omega)).trans hb,h2⟩
theorem PairF.fn (h:PairF n w v f t):∃ k d,v=.func (.func k) #[] #[.pointer (some ⟨d,0,none⟩)]:=by
 obtain⟨k,b,o,hn,e,h1,hb,h2⟩:=h
 exact⟨k,b,e⟩
end
theorem pair1_any (f:Int)(hf:f=8\/f=9)(x y:Int)(b:Nat)(w:World)(hc:w.cell? ⟨b,0,none⟩=some (.int .i64 f)):
  Calls Tryz.prog 257 #[.int .i64 x,.int .i64 y,.pointer (some ⟨b,0,none⟩)] w fun e w'=>e=.returned (.tuple #[.int .i64 (tcV f false x y),errV (tcE f false x y)])/\Below w.heap.size w w':=by
 have HV:Hid (twoV f 0 1=tcV f false x y/\twoE f 0 1=tcE f false x y):=by
  unfold tcV tcE
  rw[if_neg (by decide),if_neg (by decide)]
  rcases hf with rfl | rfl<;>exact⟨by decide,by decide⟩
 clear hf
 go_enter Tryz.func257,Tryz.ntmps257
 go_wp2_with fail
 refine (two_any f 0 1 (by unfold In64;decide) (by unfold In64;decide) w).mono ?_
 rintro e w1 ⟨rfl,hb⟩
 go_wp2_with fail
 go_ret2
 exact⟨ret2 HV.1 (by rw[HV.2];rfl),hb⟩
theorem pair2_any (f:Int)(x y:Int)(hx:In64 x)(hy:In64 y)(b:Nat)(w:World)(hc:w.cell? ⟨b,0,none⟩=some (.int .i64 f)):
  Calls Tryz.prog 258 #[.int .i64 x,.int .i64 y,.pointer (some ⟨b,0,none⟩)] w fun e w'=>e=.returned (.tuple #[.int .i64 (tcV f true x y),errV (tcE f true x y)])/\Below w.heap.size w w':=by
 have HX:Hid (In64 x/\In64 y):=⟨hx,hy⟩
 clear hx hy
 go_enter Tryz.func258,Tryz.ntmps258
 go_wp2_with fail
 refine (two_any f x y HX.1 HX.2 w).mono ?_
 rintro e w1 ⟨rfl,hb⟩
 go_wp2_with fail
 go_ret2
 exact⟨rfl,hb⟩
theorem takes_fn {f:Int}(h:tkC f=true):f=8\/f=9:=by unfold tkC at h;exact of_decide_eq_true h
theorem takes_bad {c c':Bool}{f:Int}:((c || c') && !tkC f)=true ↔ (c=true\/c'=true)/\f≠8/\f≠9:=by
 unfold tkC
 simp
theorem pairing_ok (f:Int)(c c':Bool)(h:((c || c') && !tkC f)=false)(w:World):
  Calls Tryz.prog 218 #[.int .i64 f,.bool c,.bool c'] w fun e w'=>∃ v,e=.returned (.tuple #[v,.nilIface])/\PairF w'.heap.size w' v f (c == c')/\Below w.heap.size w w':=by
 have HB0:Hid (Below w.heap.size w (w.alloc (.cells #[.int .i64 f] 22))):=(Below.refl _ w).alloc (Nat.le_refl _) _
 have B0:Hid ((w.alloc (.cells #[.int .i64 f] 22)).heap[w.heap.size]?=some (.cells #[.int .i64 f] 22 (0,0))):=(MapKept.heap_alloc w _).1
 have HK:Hid ((c || c')=true->tkC f=true):=fun hc=>by
  rw[hc] at h
  simpa using h
 clear h
 cases c<;>cases c'
 case false.false=>
  clear HK
  go_enter Tryz.func218,Tryz.ntmps218
  go_wp2_with fail
  go_ret2
  exact⟨.func (.func 258) #[] #[.pointer (some ⟨w.heap.size,0,none⟩)],rfl,⟨_,w.heap.size,_,by simp,rfl,enters_of Tryz.func258 (by kernel_rfl) rfl,B0.out,fun x y hx hy w' hB=>pair2_any f x y hx hy _ w' (cell_of_one hB)⟩,HB0.out⟩
 all_goals
  have hk:tkC f=true:=HK.out rfl
  go_enter Tryz.func218,Tryz.ntmps218
  go_wp2_with fail
  refine (takes_any f _).mono ?_
  rintro e w1 ⟨rfl,rfl⟩
  rw[hk]
  go_wp2_with fail
  go_ret2
 all_goals first
  | exact⟨.func (.func 258) #[] #[.pointer (some ⟨w.heap.size,0,none⟩)],rfl,⟨_,w.heap.size,_,by simp,rfl,enters_of Tryz.func258 (by kernel_rfl) rfl,B0.out,fun x y hx hy w' hB=>pair2_any f x y hx hy _ w' (cell_of_one hB)⟩,HB0.out⟩
  | exact⟨.func (.func 257) #[] #[.pointer (some ⟨w.heap.size,0,none⟩)],rfl,⟨_,w.heap.size,_,by simp,rfl,enters_of Tryz.func257 (by kernel_rfl) rfl,B0.out,fun x y hx hy w' hB=>pair1_any f (takes_fn (HK.out rfl)) x y _ w' (cell_of_one hB)⟩,HB0.out⟩
theorem pairing_no (f:Int)(c c':Bool)(h:((c || c') && !tkC f)=true)(w:World):
  Calls Tryz.prog 218 #[.int .i64 f,.bool c,.bool c'] w fun e w'=>e=.returned (.tuple #[.nilFunc,.iface 28 (.int .i64 6)])/\Below w.heap.size w w':=by
 have HB0:Hid (Below w.heap.size w (w.alloc (.cells #[.int .i64 f] 22))):=(Below.refl _ w).alloc (Nat.le_refl _) _
 have hk:tkC f=false:=by
  rw[Bool.and_eq_true] at h
  simpa using h.2
 have hc:(c || c')=true:=by
  rw[Bool.and_eq_true] at h
  exact h.1
 clear h
 cases c<;>cases c'
 case false.false=>exact absurd hc (by decide)
 all_goals
  clear hc
  go_enter Tryz.func218,Tryz.ntmps218
  go_wp2_with fail
  refine (takes_any f _).mono ?_
  rintro e w1 ⟨rfl,rfl⟩
  rw[hk]
  go_wp2_with fail
  go_ret2
  exact⟨rfl,HB0.out⟩
def sgl (sz:List Int):Bool:=decide ((sz.length:Int)=0)
theorem sgl_t {sz:List Int}(h:sz.length=0):sgl sz=true:=by simp[sgl];simpa using h
theorem sgl_f {sz:List Int}(h:sz.length≠0):sgl sz=false:=by simp[sgl];intro e;rw[e] at h;exact h rfl
theorem single_any (c:Bool)(sa:Option Addr)(sc:Nat)(sz:List Int)(D:Value)(w:World):
  Calls Tryz.prog 267 #[.agg #[.bool c,.slice sa sz.length sc,D]] w fun e w'=>e=.returned (.bool (sgl sz))/\Below w.heap.size w w':=by
 have HB0:Hid (Below w.heap.size w (w.alloc (.cells #[.bool c,.slice sa sz.length sc,D] 27))):=(Below.refl _ w).alloc (Nat.le_refl _) _
 go_enter Tryz.func267,Tryz.ntmps267
 go_wp2_with fail
 go_ret
 exact⟨rfl,HB0.out⟩
def fitE (sz sz':List Int):Int:=if sz.length=0\/sz'.length=0 then 0 else if sz.length≠sz'.length then 3 else if sz≠sz' then 4 else 0
theorem fit_any (c:Bool)(sa:Option Addr)(sc:Nat)(sz:List Int)(D:Value)(c':Bool)(sa':Option Addr)(sc':Nat)(sz':List Int)(D':Value)(h1:sz.length<=9223372036854775807)(w:World)(hs:IsInts w.heap.size w sa sz)(hs':IsInts w.heap.size w sa' sz'):
  Calls Tryz.prog 251 #[.agg #[.bool c,.slice sa sz.length sc,D],.agg #[.bool c',.slice sa' sz'.length sc',D']] w fun e w'=>e=.returned (errV (fitE sz sz'))/\Below w.heap.size w w':=by
 have HI:Hid (IsInts w.heap.size w sa sz/\IsInts w.heap.size w sa' sz'):=⟨hs,hs'⟩
 obtain⟨W0,hW0⟩:∃ W0,W0=(w.alloc (.cells #[.bool c,.slice sa sz.length sc,D] 27)).alloc (.cells #[.bool c',.slice sa' sz'.length sc',D'] 27):=⟨_,rfl⟩
 have HB0:Hid (Below w.heap.size w W0):=by rw[hW0];exact ((Below.refl _ w).alloc (Nat.le_refl _) _).alloc (by simp) _
 have P0:Hid (Abx W0 w.heap.size (.bool c) (.slice sa sz.length sc) D):=by rw[hW0];exact (Abx.new w _ _ _).al _
 have Q0:Hid (Abx W0 (w.heap.size+1) (.bool c') (.slice sa' sz'.length sc') D'):=by rw[hW0];exact Abx.new1 w _ _ _ _
 have HW:Hid (W0=_):=hW0
 clear hs hs' hW0
 by_cases h0:sz.length=0
 ·have HE:Hid (errV (fitE sz sz')=.nilIface):=by show _=_;unfold fitE;rw[if_pos (.inl h0)];rfl
  have S0:Hid (sgl sz=true):=sgl_t h0
  clear h0
  go_enter Tryz.func251,Tryz.ntmps251
  go_wp2_with fail
  rw[<-HW.out]
  refine (single_any c sa sc sz D W0).mono ?_
  rintro e w1 ⟨rfl,hb⟩
  rw[S0.out]
  have HB1:Hid (Below w.heap.size w w1):=HB0.trans (hb.mono HB0.size)
  clear hb
  go_wp2_with fail
  go_ret
  exact⟨ret_err HE.out,HB1.out⟩
 ·have S0:Hid (sgl sz=false):=sgl_f h0
  by_cases h0':sz'.length=0
  ·have HE:Hid (errV (fitE sz sz')=.nilIface):=by show _=_;unfold fitE;rw[if_pos (.inr h0')];rfl
   have S0':Hid (sgl sz'=true):=sgl_t h0'
   clear h0 h0'
   go_enter Tryz.func251,Tryz.ntmps251
   go_wp2_with fail
   rw[<-HW.out]
   refine (single_any c sa sc sz D W0).mono ?_
   rintro e w1 ⟨rfl,hb⟩
   rw[S0.out]
   have HB1:Hid (Below w.heap.size w w1):=HB0.trans (hb.mono HB0.size)
   have Q1:Hid (Abx w1 (w.heap.size+1) (.bool c') (.slice sa' sz'.length sc') D'):=Q0.go hb
   have q0:=Q1.c0
   have q1:=Q1.c1
   have q2:=Q1.c2
   clear hb
   go_wp2_with fail
   refine (single_any c' sa' sc' sz' D' w1).mono ?_
   rintro e w2 ⟨rfl,hb⟩
   rw[S0'.out]
   have HB2:Hid (Below w.heap.size w w2):=HB1.trans (hb.mono HB1.size)
   clear hb
   go_wp2_with fail
   go_ret
   exact⟨ret_err HE.out,HB2.out⟩
  ·have S0':Hid (sgl sz'=false):=sgl_f h0'
   have HN:Hid (¬ (sz.length=0\/sz'.length=0)):=by rintro (h | h);exact h0 h;exact h0' h
   clear h0 h0'
   by_cases hl:sz.length=sz'.length
   ·have tl:((sz.length:Int) != (sz'.length:Int))=false:=by simp[hl]
    have HL:Hid (sz.length=sz'.length):=hl
    clear hl
    go_enter Tryz.func251,Tryz.ntmps251
    go_wp2_with fail
    rw[<-HW.out]
    refine (single_any c sa sc sz D W0).mono ?_
    rintro e w1 ⟨rfl,hb⟩
    rw[S0.out]
    have HB1:Hid (Below w.heap.size w w1):=HB0.trans (hb.mono HB0.size)
    have P1:Hid (Abx w1 w.heap.size (.bool c) (.slice sa sz.length sc) D):=P0.go hb
    have Q1:Hid (Abx w1 (w.heap.size+1) (.bool c') (.slice sa' sz'.length sc') D'):=Q0.go hb
    have q0:=Q1.c0
    have q1:=Q1.c1
    have q2:=Q1.c2
    clear hb
    go_wp2_with fail
    refine (single_any c' sa' sc' sz' D' w1).mono ?_
    rintro e w2 ⟨rfl,hb⟩
    rw[S0'.out]
    have HB2:Hid (Below w.heap.size w w2):=HB1.trans (hb.mono HB1.size)
    have P2:=P1.go hb
    have Q2:=Q1.go hb
    clear q0 q1 q2 hb
    have p1:=P2.c1
    have q1:=Q2.c1
    clear P2 Q2
    go_wp2_with fail
    refine (equal_any sa sc sz sa' sc' sz' h1 w.heap.size w2 (HI.1.below HB2.out) (HI.2.below HB2.out)).mono ?_
    rintro e w3 ⟨rfl,m,rfl⟩
    by_cases he:sz=sz'
    ·have HE:Hid (errV (fitE sz sz')=.nilIface/\eqB sz sz'=true):=⟨by unfold fitE;rw[if_neg HN.out,if_neg (by simpa using HL.out),if_neg (by simpa using he)];rfl,eqB_true he⟩
     clear he
     rw[HE.2]
     go_wp2_with fail
     go_ret
     exact⟨ret_err HE.1,bel_drewN HB2.out _⟩
    ·have HE:Hid (errV (fitE sz sz')=.iface 28 (.int .i64 4)/\eqB sz sz'=false):=⟨by unfold fitE;rw[if_neg HN.out,if_neg (by simpa using HL.out),if_pos he];rfl,eqB_false he⟩
     clear he
     rw[HE.2]
     go_wp2_with fail
     go_ret
     exact⟨ret_err HE.1,bel_drewN HB2.out _⟩
   ·have tl:((sz.length:Int) != (sz'.length:Int))=true:=by simp;omega
    have HE:Hid (errV (fitE sz sz')=.iface 28 (.int .i64 3)):=by show _=_;unfold fitE;rw[if_neg HN.out,if_pos hl];rfl
    clear hl
    go_enter Tryz.func251,Tryz.ntmps251
    go_wp2_with fail
    rw[<-HW.out]
    refine (single_any c sa sc sz D W0).mono ?_
    rintro e w1 ⟨rfl,hb⟩
    rw[S0.out]
    have HB1:Hid (Below w.heap.size w w1):=HB0.trans (hb.mono HB0.size)
    have P1:Hid (Abx w1 w.heap.size (.bool c) (.slice sa sz.length sc) D):=P0.go hb
    have Q1:Hid (Abx w1 (w.heap.size+1) (.bool c') (.slice sa' sz'.length sc') D'):=Q0.go hb
    have q0:=Q1.c0
    have q1:=Q1.c1
    have q2:=Q1.c2
    clear hb
    go_wp2_with fail
    refine (single_any c' sa' sc' sz' D' w1).mono ?_
    rintro e w2 ⟨rfl,hb⟩
    rw[S0'.out]
    have HB2:Hid (Below w.heap.size w w2):=HB1.trans (hb.mono HB1.size)
    have P2:=P1.go hb
    have Q2:=Q1.go hb
    clear q0 q1 q2 hb
    have p1:=P2.c1
    have q1:=Q2.c1
    clear P2 Q2
    go_wp2_with fail
    go_ret
    exact⟨ret_err HE.out,HB2.out⟩
theorem wider_any (c:Bool)(sa:Option Addr)(sc:Nat)(sz:List Int)(da:Option Addr)(dl dc:Nat)(c':Bool)(sa':Option Addr)(sc':Nat)(sz':List Int)(da':Option Addr)(dl' dc':Nat)(w:World):
  Calls Tryz.prog 253 #[.agg #[.bool c,.slice sa sz.length sc,.slice da dl dc],.agg #[.bool c',.slice sa' sz'.length sc',.slice da' dl' dc']] w fun e w'=>e=.returned (if sz.length=0 then .agg #[.bool c',.slice sa' sz'.length sc',.slice da' dl' dc'] else .agg #[.bool c,.slice sa sz.length sc,.slice da dl dc])/\Below w.heap.size w w':=by
 obtain⟨W0,hW0⟩:∃ W0,W0=((w.alloc (.cells #[.bool c,.slice sa sz.length sc,.slice da dl dc] 27)).alloc (.cells #[.bool c',.slice sa' sz'.length sc',.slice da' dl' dc'] 27)).alloc (.cells #[.bool false,.slice none 0 0,.slice none 0 0] 27):=⟨_,rfl⟩
 have HB0:Hid (Below w.heap.size w W0):=by rw[hW0];exact (((Below.refl _ w).alloc (Nat.le_refl _) _).alloc (by simp) _).alloc (by simp;omega) _
 have P0:Hid (Abx W0 w.heap.size (.bool c) (.slice sa sz.length sc) (.slice da dl dc)):=by rw[hW0];exact ((Abx.new w _ _ _).al _).al _
 have Q0:Hid (Abx W0 (w.heap.size+1) (.bool c') (.slice sa' sz'.length sc') (.slice da' dl' dc')):=by rw[hW0];exact (Abx.new1 w _ _ _ _).al _
 have R0:Hid (Abx W0 (w.heap.size+1+1) (.bool false) (.slice none 0 0) (.slice none 0 0)):=by
  rw[hW0]
  have:=Abx.new1 (w.alloc (.cells #[.bool c,.slice sa sz.length sc,.slice da dl dc] 27)) (.cells #[.bool c',.slice sa' sz'.length sc',.slice da' dl' dc'] 27) (.bool false) (.slice none 0 0) (.slice none 0 0)
  rwa [World.size_alloc] at this
 have HW:Hid (W0=_):=hW0
 clear hW0
 by_cases h0:sz.length=0
 ·have S0:Hid (sgl sz=true):=sgl_t h0
  rw[if_pos h0]
  clear h0
  go_enter Tryz.func253,Tryz.ntmps253
  go_wp2_with fail
  rw[<-HW.out]
  refine (single_any c sa sc sz (.slice da dl dc) W0).mono ?_
  rintro e w1 ⟨rfl,hb⟩
  rw[S0.out]
  have HB1:Hid (Below w.heap.size w w1):=HB0.trans (hb.mono HB0.size)
  have Q1:Hid (Abx w1 (w.heap.size+1) (.bool c') (.slice sa' sz'.length sc') (.slice da' dl' dc')):=Q0.go hb
  have R1:Hid (Abx w1 (w.heap.size+1+1) (.bool false) (.slice none 0 0) (.slice none 0 0)):=R0.go hb
  clear hb
  have p0:=Q1.c0
  have p1:=Q1.c1
  have p2:=Q1.c2
  have r0:=R1.c0
  have r1:=R1.c1
  have r2:=R1.c2
  have f0:=R1.fr 0
  have f1:=R1.fr 1
  have f2:=R1.fr 2
  go_wp2_with fail
  have F:=R1.set3 (.bool c') (.slice sa' sz'.length sc') (.slice da' dl' dc')
  have q0:=F.c0
  have q1:=F.c1
  have q2:=F.c2
  exact bodyPost_ret (v:=.agg #[.bool c',.slice sa' sz'.length sc',.slice da' dl' dc']) (by simp[results,Tryz.results253,go_sem,q0,q1,q2]) rfl ⟨rfl,bel_set3 HB1.out (by omega) _ _ _⟩
 ·have S0:Hid (sgl sz=false):=sgl_f h0
  rw[if_neg h0]
  clear h0
  go_enter Tryz.func253,Tryz.ntmps253
  go_wp2_with fail
  rw[<-HW.out]
  refine (single_any c sa sc sz (.slice da dl dc) W0).mono ?_
  rintro e w1 ⟨rfl,hb⟩
  rw[S0.out]
  have HB1:Hid (Below w.heap.size w w1):=HB0.trans (hb.mono HB0.size)
  have P1:Hid (Abx w1 w.heap.size (.bool c) (.slice sa sz.length sc) (.slice da dl dc)):=P0.go hb
  have R1:Hid (Abx w1 (w.heap.size+1+1) (.bool false) (.slice none 0 0) (.slice none 0 0)):=R0.go hb
  clear hb
  have p0:=P1.c0
  have p1:=P1.c1
  have p2:=P1.c2
  have r0:=R1.c0
  have r1:=R1.c1
  have r2:=R1.c2
  have f0:=R1.fr 0
  have f1:=R1.fr 1
  have f2:=R1.fr 2
  go_wp2_with fail
  have F:=R1.set3 (.bool c) (.slice sa sz.length sc) (.slice da dl dc)
  have q0:=F.c0
  have q1:=F.c1
  have q2:=F.c2
  exact bodyPost_ret (v:=.agg #[.bool c,.slice sa sz.length sc,.slice da dl dc]) (by simp[results,Tryz.results253,go_sem,q0,q1,q2]) rfl ⟨rfl,bel_set3 HB1.out (by omega) _ _ _⟩
def Apt (o:Obj):Prop:=∀ (u:Value) (t:TypeId),o=.cells #[u] t (0,0)->t≠178
def GetF (B:Nat)(w0 w:World)(v:Value)(n:Nat)(g:Nat->Int):Prop:=∃ k b o,v=.func (.func k) #[] #[.pointer (some ⟨b,0,none⟩)]/\(∀ args w,(callFunc k args).run Tryz.prog w=.ok (.enter k args) w)/\Apt o/\w.heap[b]?=some o ∧
 ∀ i,i<n->∀ w':World,w'.heap[b]?=some o->Below B w0 w'->Calls Tryz.prog k #[.int .i64 (i:Nat),.pointer (some ⟨b,0,none⟩)] w' fun e w''=>e=.returned (.int .i64 (g i))/\Below w'.heap.size w' w''
section
variable {w w' w0 : World} {v : Value} {n B : Nat} {g : Nat → Int}
theorem GetF.go (h:GetF B w0 w v n g)(hB:Below w.heap.size w w'):GetF B w0 w' v n g:=by
 obtain⟨k,b,o,e,h1,ha,hb,h2⟩:=h
 exact⟨k,b,o,e,h1,ha,blk_to hb hB,h2⟩
theorem Apt.ne {o:Obj}(ha:Apt o){b b':Nat}{x:Value}{t:TypeId}(hb:w.heap[b]?=some o)(h:w.heap[b']?=some (.cells #[x] t (0,0)))(ht:t=178):b≠b':=by
 intro e
 subst e
 exact ha x t (Option.some.inj (hb.symm.trans h)) ht
theorem GetF.set (h:GetF B w0 w v n g){b':Nat}{x y:Value}{t':TypeId}(hb':w.heap[b']?=some (.cells #[x] t' (0,0)))(ht:t'=178):GetF B w0 (w.setCell ⟨b',0,none⟩ y) v n g:=by
 obtain⟨k,b,o,e,h1,ha,hb,h2⟩:=h
 exact⟨k,b,o,e,h1,ha,(Below.heap_setCell w ⟨b',0,none⟩ y b (ha.ne hb hb' ht)).trans hb,h2⟩
end
theorem apt_arr (x y z:Value):Apt (.cells (cellsA x y z) 27 (0,0)):=by
 intro u t h
 injection h with h1 h2 h3
 subst h2
 decide
theorem cells1_any (i:Nat)(b:Nat)(da:Option Addr)(dc:Nat)(dz:List Int)(h0:0<dz.length)(m:Nat)(w:World)(hc:w.cell? ⟨b,2,none⟩=some (.slice da dz.length dc))(hd:IsInts m w da dz):
  Calls Tryz.prog 268 #[.int .i64 (i:Nat),.pointer (some ⟨b,0,none⟩)] w fun e w'=>e=.returned (.int .i64 (nth dz 0))/\Below w.heap.size w w':=by
 obtain⟨b',off,rfl,hb,hcell⟩:=hd.at h0
 have hx:=hcell 0 h0
 clear hcell hd
 rw[Nat.add_zero] at hx
 go_enter Tryz.func268,Tryz.ntmps268
 go_wp2_with fail
 go_ret
 exact⟨rfl,Below.refl _ _⟩
theorem cells2_any (i:Nat)(b:Nat)(da:Option Addr)(dc:Nat)(dz:List Int)(h0:i<dz.length)(m:Nat)(w:World)(hc:w.cell? ⟨b,2,none⟩=some (.slice da dz.length dc))(hd:IsInts m w da dz):
  Calls Tryz.prog 269 #[.int .i64 (i:Nat),.pointer (some ⟨b,0,none⟩)] w fun e w'=>e=.returned (.int .i64 (nth dz i))/\Below w.heap.size w w':=by
 obtain⟨b',off,rfl,hb,hcell⟩:=hd.at h0
 have hx:=hcell i h0
 clear hcell hd
 go_enter Tryz.func269,Tryz.ntmps269
 go_wp2_with fail
 go_ret
 exact⟨rfl,Below.refl _ _⟩
def cAt (sz dz:List Int)(i:Nat):Int:=if sz.length=0 then nth dz 0 else nth dz i
theorem cellsf_any (c:Bool)(sa:Option Addr)(sc:Nat)(sz:List Int)(da:Option Addr)(dc:Nat)(dz:List Int)(n:Nat)(h0:sz.length=0->0<dz.length)(hn:sz.length≠0->n<=dz.length)(B:Nat)(w0 w:World)(hd:IsInts B w0 da dz):
  Calls Tryz.prog 252 #[.agg #[.bool c,.slice sa sz.length sc,.slice da dz.length dc]] w fun e w'=>∃ v,e=.returned v/\GetF B w0 w' v n (cAt sz dz)/\Below w.heap.size w w':=by
 have HB0:Hid (Below w.heap.size w (w.alloc (.cells #[.bool c,.slice sa sz.length sc,.slice da dz.length dc] 27))):=(Below.refl _ w).alloc (Nat.le_refl _) _
 have P0:Hid (Abx (w.alloc (.cells #[.bool c,.slice sa sz.length sc,.slice da dz.length dc] 27)) w.heap.size (.bool c) (.slice sa sz.length sc) (.slice da dz.length dc)):=Abx.new w _ _ _
 have HD:Hid (IsInts B w0 da dz):=hd
 clear hd
 by_cases h:sz.length=0
 ·have S0:Hid (sgl sz=true/\sz.length=0/\0<dz.length):=⟨sgl_t h,h,h0 h⟩
  clear h h0 hn
  go_enter Tryz.func252,Tryz.ntmps252
  go_wp2_with fail
  refine (single_any c sa sc sz (.slice da dz.length dc) _).mono ?_
  rintro e w1 ⟨rfl,hb⟩
  rw[S0.1]
  have P1:Hid (Abx w1 w.heap.size (.bool c) (.slice sa sz.length sc) (.slice da dz.length dc)):=P0.go hb
  have HB1:Hid (Below w.heap.size w w1):=HB0.trans (hb.mono HB0.size)
  clear hb
  go_wp2_with fail
  go_ret
  refine⟨.func (.func 268) #[] #[.pointer (some ⟨w.heap.size,0,none⟩)],rfl,⟨_,_,_,rfl,enters_of Tryz.func268 (by kernel_rfl) rfl,apt_arr _ _ _,P1.out,fun i hi w' hA hB=>?_⟩,HB1.out⟩
  unfold cAt
  rw[if_pos S0.2.1]
  exact cells1_any i _ da dc dz S0.2.2 B w' (Abx.c2 (show Abx w' w.heap.size _ _ _ from hA)) (HD.below hB)
 ·have S0:Hid (sgl sz=false/\sz.length≠0/\n<=dz.length):=⟨sgl_f h,h,hn h⟩
  clear h h0 hn
  go_enter Tryz.func252,Tryz.ntmps252
  go_wp2_with fail
  refine (single_any c sa sc sz (.slice da dz.length dc) _).mono ?_
  rintro e w1 ⟨rfl,hb⟩
  rw[S0.1]
  have P1:Hid (Abx w1 w.heap.size (.bool c) (.slice sa sz.length sc) (.slice da dz.length dc)):=P0.go hb
  have HB1:Hid (Below w.heap.size w w1):=HB0.trans (hb.mono HB0.size)
  clear hb
  go_wp2_with fail
  go_ret
  refine⟨.func (.func 269) #[] #[.pointer (some ⟨w.heap.size,0,none⟩)],rfl,⟨_,_,_,rfl,enters_of Tryz.func269 (by kernel_rfl) rfl,apt_arr _ _ _,P1.out,fun i hi w' hA hB=>?_⟩,HB1.out⟩
  unfold cAt
  rw[if_neg S0.2.1]
  exact cells2_any i _ da dc dz (Nat.lt_of_lt_of_le hi S0.2.2) B w' (Abx.c2 (show Abx w' w.heap.size _ _ _ from hA)) (HD.below hB)
theorem two1_any (f:Int)(t:Bool)(n:Nat)(g g':Nat->Int)(b1 b2 b3:Nat)(v1 v2 v3:Value)(i:Nat)(hi:i<n)(w:World)(t1 t2 t3:TypeId)(h1:w.heap[b1]?=some (.cells #[v1] t1 (0,0)))(h2:w.heap[b2]?=some (.cells #[v2] t2 (0,0)))(h3:w.heap[b3]?=some (.cells #[v3] t3 (0,0)))
  (B:Nat)(w0:World)(hB0:Below B w0 w)(hB:B<=w.heap.size)(n1:Nat)(F1:PairF n1 w v1 f t)(F2:GetF B w0 w v2 n g)(F3:GetF B w0 w v3 n g')(T:In64 (g i))(T':In64 (g' i)):
  Calls Tryz.prog 254 #[.int .i64 (i:Nat),.pointer (some ⟨b1,0,none⟩),.pointer (some ⟨b2,0,none⟩),.pointer (some ⟨b3,0,none⟩)] w (AskP (fun i=>tcV f t (g i) (g' i)) (fun i=>tcE f t (g i) (g' i)) i w):=by
 obtain⟨k1,p1,o1,_,rfl,e1,x1,H1⟩:=F1
 obtain⟨k2,p2,o2,rfl,e2,_,x2,H2⟩:=F2
 obtain⟨k3,p3,o3,rfl,e3,_,x3,H3⟩:=F3
 have c1:=cell_of_one h1
 have c2:=cell_of_one h2
 have c3:=cell_of_one h3
 have HH:Hid ((w.heap[b1]?=_)/\(w.heap[b2]?=_)/\(w.heap[b3]?=_)):=⟨h1,h2,h3⟩
 have K1:Hid (_):=H1
 have K2:Hid (_):=H2
 have K3:Hid (_):=H3
 have HT:Hid (In64 (g i)/\In64 (g' i)):=⟨T,T'⟩
 have XX:Hid ((w.heap[p1]?=_)/\(w.heap[p2]?=_)/\(w.heap[p3]?=_)):=⟨x1,x2,x3⟩
 have HB:Hid (Below B w0 w/\B<=w.heap.size):=⟨hB0,hB⟩
 clear h1 h2 h3 H1 H2 H3 T T' x1 x2 x3 hB0 hB
 go_enter Tryz.func254,Tryz.ntmps254
 go_wp2_with fail
 refine bT 10 (fun w'=>w'.cell? ⟨b1,0,none⟩=some (.func (.func k1) #[] #[.pointer (some ⟨p1,0,none⟩)])/\w'.cell? ⟨b2,0,none⟩=some (.func (.func k2) #[] #[.pointer (some ⟨p2,0,none⟩)])/\w'.cell? ⟨b3,0,none⟩=some (.func (.func k3) #[] #[.pointer (some ⟨p3,0,none⟩)])) 12 (⟨c1,c2,c3⟩) fun hq0=>?_
 refine lT 0 hq0 ?_;refine lT 1 hq0 ?_;refine pT 2 hq0 ?_;refine lT 4 hq0 ?_;refine pT 5 hq0 ?_
 clear hq0
 refine oT 3 fun K hK=>?_
 go_simp
 go_wp2_with fail
 refine (K2.out i hi w.drew XX.2.1 HB.1.drew).mono ?_
 rintro e w2 ⟨rfl,hB2⟩
 have HB2:Hid (Below w.heap.size w w2):=(Below.refl _ w).drew.trans hB2
 have D1:=cell_of_one (blk_to HH.1 HB2.out)
 have D2:=cell_of_one (blk_to HH.2.1 HB2.out)
 have D3:=cell_of_one (blk_to HH.2.2 HB2.out)
 refine hK.out _ _ (fun _=>⟨D1,D2,D3⟩) ?_
 clear hK K
 refine oT 6 fun K hK=>?_
 go_simp
 go_wp2_with fail
 refine (K3.out i hi w2 (blk_to XX.2.2 HB2.out) (HB.1.trans (HB2.mono HB.2))).mono ?_
 rintro e w3 ⟨rfl,hB3⟩
 have HB3:Hid (Below w.heap.size w w3):=HB2.trans (hB3.mono HB2.size)
 have E1:=cell_of_one (blk_to HH.1 HB3.out)
 have E2:=cell_of_one (blk_to HH.2.1 HB3.out)
 have E3:=cell_of_one (blk_to HH.2.2 HB3.out)
 refine hK.out _ _ (fun _=>⟨E1,E2,E3⟩) ?_
 clear hK K
 refine oT 7 fun K hK=>?_
 go_simp
 go_wp2_with fail
 refine (K1.out (g i) (g' i) HT.1 HT.2 w3 (blk_to XX.1 HB3.out)).mono ?_
 rintro e w4 ⟨rfl,hB4⟩
 have HB4:Hid (Below w.heap.size w w4):=HB3.trans (hB4.mono HB3.size)
 have G1:=cell_of_one (blk_to HH.1 HB4.out)
 have G2:=cell_of_one (blk_to HH.2.1 HB4.out)
 have G3:=cell_of_one (blk_to HH.2.2 HB4.out)
 refine hK.out _ _ (fun _=>⟨G1,G2,G3⟩) ?_
 clear hK K
 refine pT 8 (⟨G1,G2,G3⟩) ?_;refine pT 9 (⟨G1,G2,G3⟩) ?_
 refine oT 10 fun K hK=>?_
 go_simp
 refine hK.out _ _ (fun h=>absurd h (by decide)) ?_
 clear hK K
 refine oT 11 fun K hK=>?_
 go_simp
 refine hK.out _ _ (fun h=>absurd h (by decide)) ?_
 clear hK K
 refine dT ?_
 go_wp2_with fail
 go_ret2
 exact⟨rfl,HB4.out⟩
end Go.Proofs.YtkmmkcpfhnifhaaGreatDoor
