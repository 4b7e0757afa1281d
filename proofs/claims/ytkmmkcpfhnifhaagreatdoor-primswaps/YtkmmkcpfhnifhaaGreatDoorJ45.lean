/- What the program tells, in part. -/
import Derived.Lib.AppendZerosOnto
import Derived.Test.YtkmmkcpfhnifhaaGreatDoorJ37
set_option linter.unusedVariables false
set_option maxHeartbeats 4000000
set_option maxRecDepth 100000
namespace Go.Proofs.YtkmmkcpfhnifhaaGreatDoor
open Go.RowKit
def pcB (fs:List Int):Bool:=fs.all fun f=>decide (1<=f/\f<=16)
def pcE (fs:List Int)(c:Bool)(sz dz:List Int)(c':Bool)(sz' dz':List Int):Int:=if pcB fs=true then flawsE c sz dz c' sz' dz' else 1
theorem pcB_bad {fs:List Int}{k:Nat}(hk:k<fs.length)(h:¬ (1<=nth fs k/\nth fs k<=16)):pcB fs=false:=by
 unfold pcB
 rw[List.all_eq_false]
 refine⟨nth fs k,?_,by simpa using h⟩
 rw[nth_get fs k hk]
 exact List.getElem_mem hk
theorem pcB_good {fs:List Int}(h:∀ j,j<fs.length->1<=nth fs j/\nth fs j<=16):pcB fs=true:=by
 unfold pcB
 rw[List.all_eq_true]
 intro x hx
 obtain⟨j,hj,rfl⟩:=List.getElem_of_mem hx
 have:=h j hj
 rw[nth_get fs j hj] at this
 exact decide_eq_true this
theorem pcheck_any (c:Bool)(sa:Option Addr)(sc:Nat)(sz:List Int)(da:Option Addr)(dc:Nat)(dz:List Int)(c':Bool)(sa':Option Addr)(sc':Nat)(sz':List Int)(da':Option Addr)(dc':Nat)(dz':List Int)(fa:Option Addr)(fc:Nat)(fs:List Int)(n:Nat)(hn:fs.length=n)(hn4:n<=100)
  (h1:sz.length<=9223372036854775807)(h2:dz.length<=9223372036854775807)(h1':sz'.length<=9223372036854775807)(h2':dz'.length<=9223372036854775807)(w:World)(hs:IsInts w.heap.size w sa sz)(hd:IsInts w.heap.size w da dz)(hs':IsInts w.heap.size w sa' sz')(hd':IsInts w.heap.size w da' dz')(hf:IsInts w.heap.size w fa fs):
  Calls Tryz.prog 216 #[.agg #[.bool c,.slice sa sz.length sc,.slice da dz.length dc],.agg #[.bool c',.slice sa' sz'.length sc',.slice da' dz'.length dc'],.slice fa n fc] w fun e w'=>e=.returned (errV (pcE fs c sz dz c' sz' dz'))/\Below w.heap.size w w':=by
 have HI:Hid ((IsInts w.heap.size w sa sz/\IsInts w.heap.size w da dz)/\(IsInts w.heap.size w sa' sz'/\IsInts w.heap.size w da' dz')/\IsInts w.heap.size w fa fs):=⟨⟨hs,hd⟩,⟨hs',hd'⟩,hf⟩
 have HN:Hid (fs.length=n):=hn
 clear hs hd hs' hd' hf hn
 go_enter Tryz.func216,Tryz.ntmps216
 go_wp2_with fail
 go_loopw [13] (fun i wr=>∃ k:Nat,k<=n/\i=.int .i64 k/\Hid (∀ j,j<k->1<=nth fs j/\nth fs j<=16)/\Abx wr w.heap.size (.bool c) (.slice sa sz.length sc) (.slice da dz.length dc)/\Abx wr (w.heap.size+1) (.bool c') (.slice sa' sz'.length sc') (.slice da' dz'.length dc')/\Below w.heap.size w wr) (fun i _=>n-(intOf i).toNat)
 case atStart=>exact⟨0,Nat.zero_le _,rfl,fun j hj=>absurd hj (by omega),(Abx.new w _ _ _).al _,Abx.new1 w _ _ _ _,((Below.refl _ w).alloc (Nat.le_refl _) _).alloc (by simp) _⟩
 case round=>
  obtain⟨k,hk,rfl,HG,hA,hR,hB⟩:=hrel
  have HA:Hid (Abx wr w.heap.size (.bool c) (.slice sa sz.length sc) (.slice da dz.length dc)/\Abx wr (w.heap.size+1) (.bool c') (.slice sa' sz'.length sc') (.slice da' dz'.length dc')/\Below w.heap.size w wr):=⟨hA,hR,hB⟩
  clear hA hR hB
  by_cases hlt:k<n
  ·obtain⟨b,off,rfl,hb,hcell⟩:=(HI.2.2.below HA.2.2).at (q:=k) (by rw[HN.out];exact hlt)
   have ck:=hcell k (by rw[HN.out];exact hlt)
   clear hcell
   obtain⟨x,hx⟩:∃ x,x=nth fs k:=⟨_,rfl⟩
   have HX:Hid (x=nth fs k):=hx
   rw[<-hx] at ck
   clear hx
   have h2w:=two_any x 1 1 (by unfold In64;decide) (by unfold In64;decide) wr
   by_cases hg:x<1\/16<x
   ·have ht:errV (twoE x 1 1)=.iface 28 (.int .i64 1):=by unfold twoE;rw[if_pos hg];rfl
    have HE:Hid (pcE fs c sz dz c' sz' dz'=1):=by show _=_;unfold pcE;rw[pcB_bad (k:=k) (by rw[HN.out];exact hlt) (by rw[<-HX.out];omega)];rfl
    rw[ht] at h2w
    clear ht hg
    go_wp2_with fail
    refine h2w.mono ?_
    rintro e v1 ⟨rfl,hB⟩
    have HB:Hid (Below w.heap.size w v1):=HA.2.2.trans (hB.mono HA.2.2.size)
    clear hB h2w
    go_wp2_with fail
    go_ret
    exact⟨by rw[HE.out];rfl,HB.out⟩
   ·have ht:errV (twoE x 1 1)=.nilIface:=by rw[te0 (by omega) (by omega) (fun _=>by decide) (fun _=>by decide)];rfl
    have HE:Hid (∀ j,j<k+1->1<=nth fs j/\nth fs j<=16):=fun j hj=>by
     by_cases e:j=k
     ·subst e;rw[<-HX.out];omega
     ·exact HG.out j (by omega)
    rw[ht] at h2w
    clear ht hg
    go_wp2_with fail
    refine h2w.mono ?_
    rintro e v1 ⟨rfl,hB⟩
    have HB:Hid (Below wr.heap.size wr v1):=hB
    clear hB h2w
    go_wp2_with fail
    exact⟨⟨k+1,by omega,by go_num,HE.out,HA.1.go HB.out,HA.2.1.go HB.out,HA.2.2.trans (HB.mono HA.2.2.size)⟩,by simp[intOf];omega⟩
  ·obtain rfl:k=n:=by omega
   have HE:Hid (pcE fs c sz dz c' sz' dz'=flawsE c sz dz c' sz' dz'):=by show _=_;unfold pcE;rw[pcB_good (fun j hj=>HG.out j (by rw[<-HN.out];exact hj))];rfl
   have p0:=HA.1.c0
   have p1:=HA.1.c1
   have p2:=HA.1.c2
   have q0:=HA.2.1.c0
   have q1:=HA.2.1.c1
   have q2:=HA.2.1.c2
   have hb1:Below w.heap.size w (wr.alloc (.cells #[.bool c',.slice sa' sz'.length sc',.slice da' dz'.length dc'] 27)):=HA.2.2.alloc HA.2.2.size _
   have hall:=chkall8 c sa sc sz da dc dz (some ⟨wr.heap.size,0,none⟩) 1 [(c',(((sa',sc'),sz'),((da',dc'),dz')))] h1 h2 (by simp) (wr.alloc (.cells #[.bool c',.slice sa' sz'.length sc',.slice da' dz'.length dc'] 27)) ((HI.1.1.below hb1).mono hb1.size) ((HI.1.2.below hb1).mono hb1.size) (isBs_one (Abx.new wr _ _ _) h1' h2' ((HI.2.1.1.below hb1).mono hb1.size) ((HI.2.1.2.below hb1).mono hb1.size))
   rw[bsE_one,<-HE.out] at hall
   have HB1:Hid (Below w.heap.size w (wr.alloc (.cells #[.bool c',.slice sa' sz'.length sc',.slice da' dz'.length dc'] 27))):=hb1
   clear hb1
   go_wp2_with fail
   refine hall.mono ?_
   rintro e v1 ⟨rfl,hB⟩
   have HB:Hid (Below w.heap.size w v1):=HB1.trans (hB.mono HB1.size)
   clear hB hall
   go_wp2_with fail
   go_ret
   exact⟨rfl,HB.out⟩
def cmE (sz sz':List Int):Int:=if sz.length=0\/sz'.length=0 then 3 else if inN sz≠nth sz' 0 then 4 else 0
def CmP (sz sz':List Int)(w:World)(e:Ending)(w':World):Prop:=∃ v,e=.returned (.tuple #[.int .i64 v,errV (cmE sz sz')])/\(cmE sz sz'=0->v=inN sz)/\w'=w
theorem CmP.mk {sz sz':List Int}{w:World}(E v:Int)(V:Value)(hV:V=errV E)(h:cmE sz sz'=E)(hv:E=0->v=inN sz):CmP sz sz' w (.returned (.tuple #[.int .i64 v,V])) w:=⟨v,by rw[hV,h],fun h0=>hv (by rw[<-h];exact h0),rfl⟩
theorem pcommon_any (sa:Option Addr)(sc:Nat)(sz:List Int)(sa':Option Addr)(sc':Nat)(sz':List Int)(h1:sz.length<=9223372036854775807)(h1':sz'.length<=9223372036854775807)(w:World)(hs:IsInts w.heap.size w sa sz)(hs':IsInts w.heap.size w sa' sz'):
  Calls Tryz.prog 221 #[.slice sa sz.length sc,.slice sa' sz'.length sc'] w (CmP sz sz' w):=by
 by_cases h0:sz.length=0
 ·have HE:Hid (cmE sz sz'=3):=by show _=_;unfold cmE;rw[if_pos (.inl h0)]
  have t0:((sz.length:Int) == 0)=true:=by simp;simpa using h0
  clear hs hs' h0
  go_enter Tryz.func221,Tryz.ntmps221
  go_wp2_with fail
  go_ret2
  exact CmP.mk 3 0 _ rfl HE.out (fun h=>absurd h (by decide))
 ·have t0:((sz.length:Int) == 0)=false:=by simp;simpa using h0
  by_cases h0':sz'.length=0
  ·have HE:Hid (cmE sz sz'=3):=by show _=_;unfold cmE;rw[if_pos (.inr h0')]
   have t0':((sz'.length:Int) == 0)=true:=by simp;simpa using h0'
   clear hs hs' h0 h0'
   go_enter Tryz.func221,Tryz.ntmps221
   go_wp2_with fail
   go_ret2
   exact CmP.mk 3 0 _ rfl HE.out (fun h=>absurd h (by decide))
  ·have t0':((sz'.length:Int) == 0)=false:=by simp;simpa using h0'
   have HL:Hid (¬ (sz.length=0\/sz'.length=0)):=by rintro (h | h);exact h0 h;exact h0' h
   obtain⟨m,hm⟩:∃ m,sz.length=m+1:=⟨sz.length-1,by omega⟩
   obtain⟨m',hm'⟩:∃ m',sz'.length=m'+1:=⟨sz'.length-1,by omega⟩
   obtain⟨b,off,rfl,hb,hc⟩:=hs.at (q:=m) (by omega)
   obtain⟨b',off',rfl,hb',hc'⟩:=hs'.at (q:=0) (by omega)
   have k0:=hc m (by omega)
   have k1:=hc' 0 (by omega)
   rw[Nat.add_zero] at k1
   have HM:Hid (nth sz m=inN sz):=by show _=_;unfold inN;rw[hm,Nat.add_sub_cancel]
   obtain⟨x,hx⟩:∃ x,x=nth sz m:=⟨_,rfl⟩
   obtain⟨y,hy⟩:∃ y,y=nth sz' 0:=⟨_,rfl⟩
   rw[<-hx] at k0
   rw[<-hy] at k1
   have HX:Hid (x=nth sz m/\y=nth sz' 0):=⟨hx,hy⟩
   have hm4:m+1<=9223372036854775807:=by omega
   have hm4':m'+1<=9223372036854775807:=by omega
   have w1:wrap64 (((m+1:Nat):Int)-1)=(m:Int):=by rw[wrap64_small (by omega) (by omega)];omega
   rw[hm,hm']
   clear hs hs' h0 h0' hc hc' hx hy hm hm' h1 h1' t0 t0'
   have t0:((m:Int)+1 == 0)=false:=by simp;omega
   have t0':((m':Int)+1 == 0)=false:=by simp;omega
   by_cases he:x=y
   ·have te:(x != y)=false:=by simp[he]
    have HE:Hid (cmE sz sz'=0/\x=inN sz):=⟨by unfold cmE;rw[if_neg HL.out,if_neg];rw[<-HM.out,<-HX.1,<-HX.2,he];exact fun h=>h rfl,by rw[HX.1];exact HM.out⟩
    clear he
    go_enter Tryz.func221,Tryz.ntmps221
    go_wp2_with fail
    go_ret2
    exact CmP.mk 0 x _ rfl HE.1 (fun _=>HE.2)
   ·have te:(x != y)=true:=by simp[he]
    have HE:Hid (cmE sz sz'=4):=by show _=_;unfold cmE;rw[if_neg HL.out,if_pos];rw[<-HM.out,<-HX.1,<-HX.2];exact he
    clear he
    go_enter Tryz.func221,Tryz.ntmps221
    go_wp2_with fail
    go_ret2
    exact CmP.mk 4 0 _ rfl HE.out (fun h=>absurd h (by decide))
theorem pstep_any (a:Option Addr)(cap:Nat)(zs:List Int)(hx:0<zs.length)(he:errOf zs=0)(n₀:Nat)(w:World)(hI:IsC n₀ w a zs cap):
  Calls Tryz.prog 222 #[.slice a zs.length cap] w fun e w'=>e=.returned (.int .i64 (stp zs 0))/\w'=w:=by
 obtain⟨hI,hcap⟩:=hI
 obtain⟨b,off,rfl,hb,hcell⟩:=hI.at hx
 have hz:=errOf_zero.1 he
 have hl6:zs.length<=6:=hz.1
 have HA:Hid (AllIn zs):=hz.2.1
 have HC:Hid (∀ j,j<zs.length->w.cell? ⟨b,off+j,none⟩=some (.int .i64 (nth zs j))):=hcell
 obtain⟨m,hm⟩:∃ m,zs.length=1+m:=⟨zs.length-1,by omega⟩
 obtain⟨s,hs⟩:∃ s,s=zs.drop (0+1):=⟨_,rfl⟩
 have hsl:s.length=m:=by rw[hs,List.length_drop];omega
 have HS:Hid (s.length=m/\(∀ j,j<m->nth s j=nth zs (0+1+j))/\AllIn s/\prod s=stp zs 0):=⟨hsl,fun j hj=>by rw[hs];simp[nth,Nat.add_comm],by rw[hs];exact HA.drop _,by rw[hs];rfl⟩
 clear hs hsl hcell HA
 have HF:Hid (m<=5):=by show m<=5;omega
 by_cases hne:cap=1
 ·have hm0:m=0:=by omega
  subst hm0
  have hfin:Hid (stp zs 0=1):=by
   have h:=HS.out
   have e:s=[]:=List.eq_nil_of_length_eq_zero h.1
   rw[e] at h
   exact h.2.2.2.symm
  go_enter Tryz.func222,Tryz.ntmps222
  go_wp2_with fail
  go_loop [3,9] (fun pv i=>pv=.int .i64 1/\i=.int .i64 0) (fun _ i=>0)
  case atStart=>exact⟨rfl,rfl⟩
  case round=>
   obtain⟨rfl,rfl⟩:=hrel
   go_wp2_with fail
   go_ret
   exact⟨ret_int hfin.symm,rfl⟩
 ·go_enter Tryz.func222,Tryz.ntmps222
  go_wp2_with fail
  go_loop [3,9] (fun pv i=>∃ k:Nat,k<=m/\i=.int .i64 k/\pv=.int .i64 (prod (s.take k))) (fun _ i=>m-(intOf i).toNat)
  case atStart=>exact⟨0,Nat.zero_le _,rfl,rfl⟩
  case round=>
   obtain⟨k,hk,rfl,rfl⟩:=hrel
   by_cases hlt:k<m
   ·have hc:w.cell? ⟨b,off+1+k,none⟩=some (.int .i64 (nth s k)):=by
     rw[HS.2.1 k hlt,<-HC.out (0+1+k) (by omega),Nat.add_assoc]
    have HP:Hid (prod (s.take k)*nth s k=prod (s.take (k+1))/\0<=prod (s.take (k+1))/\prod (s.take (k+1))<=1152921504606846976):=by
     refine⟨(prod_take1 s k (by rw[HS.1];exact hlt)).symm,prod_60 (fun y hy=>HS.2.2.1 y (List.mem_of_mem_take hy)) ?_⟩
     have:=HF.out
     rw[List.length_take];omega
    obtain⟨P,hP⟩:∃ P,P=prod (s.take k):=⟨_,rfl⟩
    obtain⟨Q,hQ⟩:∃ Q,Q=prod (s.take (k+1)):=⟨_,rfl⟩
    rw[<-hP]
    have HPQ:Hid (P*nth s k=Q/\0<=Q/\Q<=1152921504606846976):=by rw[hP,hQ];exact HP.out
    have HQ:Hid (Q=prod (s.take (k+1))):=hQ
    have hw:IntKind.i64.wrap (P*nth s k)=Q:=by rw[HPQ.1];exact IntWalk.i64_in _ (by have:=HPQ.2;omega)
    clear hP hQ HP
    go_wp2_with fail
    exact⟨⟨k+1,by omega,by go_num,int_eq HQ.out⟩,by simp[intOf];omega⟩
   ·obtain rfl:k=m:=by omega
    have hfin:Hid (prod (s.take k)=stp zs 0):=by
     have h:=HS.out
     rw[List.take_of_length_le (by omega)]
     exact h.2.2.2
    go_wp2_with fail
    go_ret
    exact⟨ret_int hfin.out,rfl⟩
def upP (V:Nat->Int)(n:Nat):List Int:=(List.range n).map V
theorem upP_length (V:Nat->Int)(n:Nat):(upP V n).length=n:=by simp[upP]
theorem upP_nth (V:Nat->Int)(n:Nat){j:Nat}(h:j<n):nth (upP V n) j=V j:=by simp[upP,nth,h]
def AskJ (J:World->Prop)(V E:Nat->Int)(i n0:Nat)(w:World)(e:Ending)(w':World):Prop:=
 ∃ v,e=.returned (.tuple #[.int .i64 v,errV (E i)])/\(E i=0->v=V i)/\J w'/\w.heap.size<=w'.heap.size/\∀ b,n0<=b->b<w.heap.size->w'.heap[b]?=w.heap[b]?
theorem askj_ok {J:World->Prop}{V E:Nat->Int}{i n0:Nat}(h:E i=0){w w':World}{e:Ending}(H:AskJ J V E i n0 w e w'):e=.returned (.tuple #[.int .i64 (V i),.nilIface])/\J w'/\w.heap.size<=w'.heap.size/\∀ b,n0<=b->b<w.heap.size->w'.heap[b]?=w.heap[b]?:=by
 obtain⟨v,rfl,hv,r⟩:=H
 exact⟨by rw[hv h,h];rfl,r⟩
theorem askj_no {J:World->Prop}{V E:Nat->Int}{i n0:Nat}(h:E i≠0){w w':World}{e:Ending}(H:AskJ J V E i n0 w e w'):∃ v,e=.returned (.tuple #[.int .i64 v,.iface 28 (.int .i64 (E i))])/\J w'/\w.heap.size<=w'.heap.size/\∀ b,n0<=b->b<w.heap.size->w'.heap[b]?=w.heap[b]?:=by
 obtain⟨v,rfl,hv,r⟩:=H
 exact⟨v,by rw[errV_pos h],r⟩
def TlP (J:World->Prop)(N:Nat)(V E:Nat->Int)(sa:Option Addr)(n sc:Nat)(w:World)(e:Ending)(w':World):Prop:=
 (∃ i,i<N/\E i≠0/\e=.returned (.tuple #[.agg #[.bool false,.slice none 0 0,.slice none 0 0],.iface 28 (.int .i64 (E i))])/\J w') ∨
 ((∀ i,i<N->E i=0)/\∃ ya yc,e=.returned (.tuple #[.agg #[.bool false,.slice sa n sc,.slice ya N yc],.nilIface])/\NewC w.heap.size w' ya (upP V N) yc/\J w')
theorem all13 {P:Nat->Prop}{k:Nat}(h:∀ j,j<k->P j)(hk:P k):∀ j,j<k+1->P j:=fun j hj=>by
 by_cases e:j=k
 ·subst e;exact hk
 ·exact h j (by omega)
theorem ptell_any (sa:Option Addr)(n sc:Nat)(N:Nat)(f:Nat)(cs:List Value)(hE:∀ args w,(callFunc f args).run Tryz.prog w=.ok (.enter f args) w)(V E:Nat->Int)(h2:N<=4096)(w:World)(J:World->Prop)(hJ:J w)(hgo:∀ w1 w2,J w1->Below w.heap.size w1 w2->J w2)
  (H:∀ i,i<N->∀ w',J w'->Calls Tryz.prog f (.int .i64 (i:Nat)::cs).toArray w' (AskJ J V E i w.heap.size w')):
  Calls Tryz.prog 219 #[.slice sa n sc,.int .i64 (N:Nat),.func (.func f) #[] cs.toArray] w (TlP J N V E sa n sc w):=by
 have hmk:=run_make_row' (P:=Tryz.prog) 25 3 (.int .i64 0) 8 Tryz.underlying25 Tryz.infoInt rfl .i64 .i64 N (by omega) (by omega)
 have HJ:Hid (J w/\∀ w1 w2,J w1->Below w.heap.size w1 w2->J w2):=⟨hJ,hgo⟩
 have HH:Hid (∀ i,i<N->∀ w',J w'->Calls Tryz.prog f (.int .i64 (i:Nat)::cs).toArray w' (AskJ J V E i w.heap.size w')):=H
 clear H hJ hgo
 go_enter Tryz.func219,Tryz.ntmps219
 go_wp2_with fail
 clear hmk
 go_loopw [16] (fun i wr=>∃ k:Nat,k<=N/\i=.int .i64 k/\Hid (∀ j,j<k->E j=0)/\wr.rowIs (w.heap.size+1) 3 N (upTo V k)/\Abx wr w.heap.size (.bool false) (.slice none 0 0) (.slice none 0 0)/\Hid (J wr)) (fun i _=>N-(intOf i).toNat)
 case atStart=>
  refine⟨0,Nat.zero_le _,rfl,fun j hj=>absurd hj (by omega),?_,(Abx.new w _ _ _).al _,HJ.2 _ _ HJ.1 (((Below.refl _ w).alloc (Nat.le_refl _) _).alloc (by simp) _)⟩
  have:=World.rowIs_made (w.alloc (.cells #[.bool false,.slice none 0 0,.slice none 0 0] 27)) (.int .i64 0) N 3
  rw[World.size_alloc] at this
  exact this.congr (fun j _=>by simp[upTo])
 case round=>
  obtain⟨k,hk,rfl,HZ,hrow,hR,HJr⟩:=hrel
  have HR:Hid (Abx wr w.heap.size (.bool false) (.slice none 0 0) (.slice none 0 0)/\wr.rowIs (w.heap.size+1) 3 N (upTo V k)):=⟨hR,hrow⟩
  clear hR hrow
  by_cases hlt:k<N
  ·by_cases he:E k=0
   ·have HE:Hid (E k=0):=he
    clear he
    go_wp2_with fail
    refine (HH.out k hlt wr HJr.out).mono ?_
    intro e w1 ha
    obtain⟨rfl,hJ1,hsz,hkp⟩:=askj_ok HE.out ha
    have hrow:=HR.2.of_block (hkp _ (by omega) HR.2.lt)
    have hA:=HR.1.of (hkp _ (Nat.le_refl _) HR.1.lt)
    have c2:=hrow.cell hlt
    have f2:=hrow.frozen k
    have HW1:Hid (w1.rowIs (w.heap.size+1) 3 N (upTo V k)/\Abx w1 w.heap.size (.bool false) (.slice none 0 0) (.slice none 0 0)/\J w1):=⟨hrow,hA,hJ1⟩
    clear ha hsz hkp hrow hA hJ1
    go_wp2_with fail
    exact⟨⟨k+1,by omega,by go_num,all13 HZ.out HE.out,upTo_set HW1.1 _ rfl,HW1.2.1.ot (a:=⟨w.heap.size+1,k,none⟩) (by show w.heap.size≠w.heap.size+1;omega) _,
     HJ.2 _ _ HW1.2.2 ((Below.refl _ w1).setCell (p:=⟨w.heap.size+1,k,none⟩) (by show w.heap.size<=w.heap.size+1;omega) _)⟩,by simp[intOf];omega⟩
   ·have HE:Hid (E k≠0):=he
    clear he
    go_wp2_with fail
    refine (HH.out k hlt wr HJr.out).mono ?_
    intro e w1 ha
    obtain⟨v,rfl,hJ1,hsz,hkp⟩:=askj_no HE.out ha
    have R4:Hid (Abx w1 w.heap.size (.bool false) (.slice none 0 0) (.slice none 0 0)/\J w1):=⟨HR.1.of (hkp _ (Nat.le_refl _) HR.1.lt),hJ1⟩
    clear ha hsz hkp hJ1
    have r0:=R4.1.c0
    have r1:=R4.1.c1
    have r2:=R4.1.c2
    have f0:=R4.1.fr 0
    have f1:=R4.1.fr 1
    have f2:=R4.1.fr 2
    go_wp2_with fail
    have F:=R4.1.set3 (.bool false) (.slice none 0 0) (.slice none 0 0)
    have q0:=F.c0
    have q1:=F.c1
    have q2:=F.c2
    exact bodyPost_ret (v:=.tuple #[.agg #[.bool false,.slice none 0 0,.slice none 0 0],.iface 28 (.int .i64 (E k))]) (by simp[results,Tryz.results219,go_sem,q0,q1,q2]) rfl (.inl ⟨k,hlt,HE.out,rfl,HJ.2 _ _ R4.2 (bel_set3 (Below.refl _ w1) (Nat.le_refl _) _ _ _)⟩)
  ·obtain rfl:k=N:=by omega
   have HX:Hid (NewInts (w.heap.size+1) wr (some ⟨w.heap.size+1,0,none⟩) (upP V k)):=upTo_new HR.2 (Nat.le_refl _) _ (upP_length V k) (fun j hj=>upP_nth V k hj)
   have r0:=HR.1.c0
   have r1:=HR.1.c1
   have r2:=HR.1.c2
   have f0:=HR.1.fr 0
   have f1:=HR.1.fr 1
   have f2:=HR.1.fr 2
   go_wp2_with fail
   have F:=HR.1.set3 (.bool false) (.slice sa n sc) (.slice (some ⟨w.heap.size+1,0,none⟩) k k)
   have q0:=F.c0
   have q1:=F.c1
   have q2:=F.c2
   exact bodyPost_ret (v:=.tuple #[.agg #[.bool false,.slice sa n sc,.slice (some ⟨w.heap.size+1,0,none⟩) k k],.nilIface]) (by simp[results,Tryz.results219,go_sem,q0,q1,q2]) rfl (.inr ⟨HZ.out,some ⟨w.heap.size+1,0,none⟩,k,rfl,⟨(HX.set3 (by omega) _ _ _).low (by omega),by rw[upP_length];exact Nat.le_refl _⟩,HJ.2 _ _ HJr.out (bel_set3 (Below.refl _ wr) (Nat.le_refl _) _ _ _)⟩)
theorem divs {p X Y M:Nat}(h:p=X*M+Y)(hY:Y<M):p/M=X/\p%M=Y:=by
 have hM:0<M:=by omega
 subst h
 constructor
 ·rw[Nat.mul_comm,Nat.mul_add_div hM,Nat.div_eq_of_lt hY,Nat.add_zero]
 ·rw[Nat.mul_comm,Nat.mul_add_mod,Nat.mod_eq_of_lt hY]
theorem parts_place {s s' t:List Int}(h:insB (s++s') t=true):place (s++s') t=place s (t.take s.length)*prod s'+place s' (t.drop s.length)/\(0<=place s (t.take s.length)/\place s (t.take s.length)<prod s)/\0<=place s' (t.drop s.length)/\place s' (t.drop s.length)<prod s':=by
 have hp:=ins_parts h
 have hl:=insB_len h
 rw[List.length_append] at hl
 refine⟨?_,place_bd hp.1,place_bd hp.2⟩
 have e:t=t.take s.length++t.drop s.length:=(List.take_append_drop _ _).symm
 have e2:place (s++s') t=place (s++s') (t.take s.length++t.drop s.length):=by rw[<-e]
 rw[e2]
 exact place_append _ _ (by rw[List.length_take];omega)
theorem cr_parts {s s':List Int}(he:errOf (s++s')=0){p M:Nat}(hM:(M:Int)=prod s')(hp:(p:Int)<prod (s++s')):
  0<M/\place s ((cr (s++s') p).take s.length)=((p/M:Nat):Int)/\place s' ((cr (s++s') p).drop s.length)=((p%M:Nat):Int)/\((p/M:Nat):Int)<prod s:=by
 obtain⟨hi,hpl⟩:=cr_fact he hp
 obtain⟨h1,h2,h3⟩:=parts_place hi
 rw[hpl,<-hM] at h1
 rw[<-hM] at h3
 obtain⟨X,hX⟩:∃ X:Nat,(X:Int)=place s ((cr (s++s') p).take s.length):=⟨_,Int.toNat_of_nonneg h2.1⟩
 obtain⟨Y,hY⟩:∃ Y:Nat,(Y:Int)=place s' ((cr (s++s') p).drop s.length):=⟨_,Int.toNat_of_nonneg h3.1⟩
 rw[<-hX] at h1 h2 ⊢
 rw[<-hY] at h1 h3 ⊢
 have e:p=X*M+Y:=by exact_mod_cast h1
 obtain⟨e1,e2⟩:=divs e (by omega)
 rw[e1,e2]
 exact⟨by omega,rfl,rfl,h2.2⟩
theorem ot_at {f:Int}{c:Bool}{s dz:List Int}{c':Bool}{s' dz':List Int}(he:errOf (s++s')=0){p M:Nat}(hM:(M:Int)=prod s')(hp:(p:Int)<prod (s++s')):
  0<M/\p/M<(prod s).toNat/\p%M<M/\otC f c s dz c' s' dz' (cr (s++s') p)=tcV f (c == c') (nth dz (p/M)) (nth dz' (p%M))/\otX f c s dz c' s' dz' (cr (s++s') p)=tcE f (c == c') (nth dz (p/M)) (nth dz' (p%M)):=by
 obtain⟨h0,h1,h2,h3⟩:=cr_parts he hM hp
 have e1:cel s dz ((cr (s++s') p).take s.length)=nth dz (p/M):=by unfold cel;rw[h1,Int.toNat_natCast]
 have e2:cel s' dz' ((cr (s++s') p).drop s.length)=nth dz' (p%M):=by unfold cel;rw[h2,Int.toNat_natCast]
 refine⟨h0,by omega,Nat.mod_lt _ h0,?_,?_⟩
 ·unfold otC;rw[e1,e2]
 ·unfold otX;rw[e1,e2]
theorem take_last {s:List Int}(h:s.length≠0):s=s.take (s.length-1)++[inN s]:=by
 have h1:s.length-1<s.length:=by omega
 have e:=List.take_append_drop (s.length-1) s
 rw[List.drop_eq_getElem_cons h1,List.drop_eq_nil_of_le (by omega)] at e
 unfold inN
 rw[nth_get s _ h1]
 exact e.symm
theorem in_at {s dz s' dz':List Int}(hs:s.length≠0)(hs':s'.length≠0)(hn:inN s=nth s' 0)(he:errOf (inS s s')=0){p L A:Nat}(hL:(L:Int)=inN s)(hA:(A:Int)=prod (s'.drop 1))(hp:(p:Int)<prod (inS s s')):
  0<A/\∀ k:Nat,inU s dz (cr (inS s s') p) k=nth dz (p/A*L+k)/\inV s s' dz' (cr (inS s s') p) k=nth dz' (p%A+k*A)/\(k<L->((p/A*L+k:Nat):Int)<prod s/\((p%A+k*A:Nat):Int)<prod s'):=by
 have hlen:(s.take (s.length-1)).length=s.length-1:=by rw[List.length_take];omega
 obtain⟨h0,h1,h2,h3⟩:=cr_parts (s:=s.take (s.length-1)) (s':=s'.drop 1) he hA hp
 rw[hlen] at h1 h2
 obtain⟨hi,hpl⟩:=cr_fact he hp
 have htl:=insB_len hi
 have htk:((cr (inS s s') p).take (s.length-1)).length=s.length-1:=by
  have:(inS s s').length=s.length-1+(s'.length-1):=by unfold inS;simp
  rw[List.length_take];omega
 have es:=take_last hs
 have es':s'=nth s' 0::s'.drop 1:=by
  match s',hs' with
  | a::r,_=>rfl
 refine⟨h0,fun k=>?_⟩
 have p1:place s ((cr (inS s s') p).take (s.length-1)++[(k:Int)])=((p/A*L+k:Nat):Int):=by
  have:place (s.take (s.length-1)++[inN s]) ((cr (inS s s') p).take (s.length-1)++[(k:Int)])=((p/A*L+k:Nat):Int):=by
   rw[place_append _ _ (by rw[htk,hlen])]
   show place (s.take (s.length-1)) ((cr (inS s s') p).take (s.length-1))*_+_=_
   rw[show place (s.take (s.length-1)) ((cr (inS s s') p).take (s.length-1))=((p/A:Nat):Int) from h1,<-hL]
   simp[place,prod]
  rw[<-es] at this
  exact this
 have p2:place s' ((k:Int)::(cr (inS s s') p).drop (s.length-1))=((p%A+k*A:Nat):Int):=by
  have:place (nth s' 0::s'.drop 1) ((k:Int)::(cr (inS s s') p).drop (s.length-1))=((p%A+k*A:Nat):Int):=by
   show (k:Int)*prod (s'.drop 1)+place (s'.drop 1) ((cr (inS s s') p).drop (s.length-1))=_
   rw[show place (s'.drop 1) ((cr (inS s s') p).drop (s.length-1))=((p%A:Nat):Int) from h2,<-hA]
   simp[Int.add_comm]
  rw[<-es'] at this
  exact this
 refine⟨?_,?_,fun hk=>⟨?_,?_⟩⟩
 ·unfold inU cel;rw[p1,Int.toNat_natCast]
 ·unfold inV cel;rw[p2,Int.toNat_natCast]
 ·have e:prod s=prod (s.take (s.length-1))*(L:Int):=by
   have:prod (s.take (s.length-1)++[inN s])=prod (s.take (s.length-1))*(L:Int):=by rw[prod_append,<-hL];simp[prod]
   rw[<-es] at this
   exact this
  rw[e]
  have h4:((p/A:Nat):Int)+1<=prod (s.take (s.length-1)):=by omega
  have h5:=Int.mul_le_mul_of_nonneg_right h4 (show (0:Int)<=(L:Int) by omega)
  rw[Int.add_mul,Int.one_mul] at h5
  rw[Int.natCast_add,Int.natCast_mul]
  omega
 ·have e:prod s'=(L:Int)*(A:Int):=by
   have:prod (nth s' 0::s'.drop 1)=(L:Int)*(A:Int):=by rw[hL,hn,hA];rfl
   rw[<-es'] at this
   exact this
  rw[e]
  have h4:(k:Int)+1<=(L:Int):=by omega
  have h5:=Int.mul_le_mul_of_nonneg_right h4 (show (0:Int)<=(A:Int) by omega)
  rw[Int.add_mul,Int.one_mul] at h5
  have h6:p%A<A:=Nat.mod_lt _ h0
  rw[Int.natCast_add,Int.natCast_mul]
  omega
theorem grow_any (n:Nat)(hn:n<=100000)(w:World):
  Calls Tryz.prog 255 #[.slice none 0 0,.int .i64 (n:Nat)] w fun e w'=>∃ g gc,e=.returned (.slice g 0 gc)/\w'.ownsRow w.heap.size 3 1 (.slice g 0 gc) 0 []/\Below w.heap.size w w':=by
 have h1:¬ ((n:Int)<0):=by omega
 by_cases h0:n=0
 ·subst h0
  go_enter Tryz.func255,Tryz.ntmps255
  go_wp2_with fail
  go_ret
  exact⟨none,0,rfl,World.ownsRow_nil _ _ _ _,Below.refl _ _⟩
 ·have h2:(n:Int) > 0:=by omega
  obtain⟨i0,hi,hz0,hz1,hz2⟩:=info_parts Tryz.infoInt
  have hold:(Builtin.firstCells i0.size 0 (.slice none 0 0)).run Tryz.prog w.drew=.ok ([]:List Value).toArray w.drew:=run_firstCells_none w.drew i0.size 0 0 0
  have hrz:∀ ty,(Builtin.append_ #[25,3] ty #[.slice none 0 0,.int .i64 (n:Nat)]).run Tryz.prog w=
    .ok (.slice (some ⟨w.heap.size,0,none⟩) (0+n) (grownCap w (0+n) 0 3)) (w.drew.alloc (.cells (([]:List Value).toArray++Builtin.zeroCells (Value.int .i64 0).cells n++Builtin.zeroCells (Value.int .i64 0).cells (grownCap w (0+n) 0 3-(0+n))) 3)):=fun ty=>
   Lib.run_append_grow_zeros w 25 3 ty 3 i0 (.int .i64 0) .i64 .i64 Tryz.underlying25 Tryz.underlying3 hi hz0 none 0 0 [] hold n (by omega) (by omega) (by omega) (by omega) (by rw[hz2];omega) (by rw[hz2];exact growslice_fits (by omega) (by omega))
  have hG:=grownCap_ge w (0+n) 0 3
  have hG2:=grownCap_le_maxLen w (0+n) 0 3 (by unfold maxLen;omega)
  obtain⟨G,hGe⟩:∃ G,G=grownCap w (0+n) 0 3:=⟨_,rfl⟩
  rw[<-hGe] at hrz hG hG2
  obtain⟨cs,hcs⟩:∃ cs,cs=([]:List Value).toArray++Builtin.zeroCells (Value.int .i64 0).cells n++Builtin.zeroCells (Value.int .i64 0).cells (G-(0+n)):=⟨_,rfl⟩
  rw[<-hcs] at hrz
  have hsz:cs.size=G*1:=by
   rw[hcs]
   simp[Builtin.zeroCells,Value.cells]
   omega
  have HB:Hid (Below w.heap.size w (w.drew.alloc (.cells cs 3))):=(Below.refl _ w).drew.alloc (Nat.le_refl _) _
  have HO:Hid ((w.drew.alloc (.cells cs 3)).ownsRow w.heap.size 3 1 (.slice (some ⟨w.heap.size,0,none⟩) 0 G) 0 []):=
   ⟨rfl,.inr ⟨w.heap.size,G,cs,rfl,Nat.le_refl _,World.alloc_heap_new w.drew _,Nat.zero_le _,hG2,hsz,rfl⟩⟩
  have hG63:G<=9223372036854775807:=by unfold maxLen at hG2;omega
  rw[Nat.zero_add] at hrz hG
  clear hold hcs hsz hG2 hGe h0
  go_enter Tryz.func255,Tryz.ntmps255
  go_wp2_with (at_builtin;refine Lib.wpList_append_run _ rfl _ _ _ _ rfl _ _ rfl rfl _ _ (hrz _) ?_)
  go_ret
  exact⟨some ⟨w.heap.size,0,none⟩,G,rfl,HO.out,HB.out⟩
theorem two_cells (w:World)(x y:Value)(t:TypeId):(w.alloc (.cells #[x,y] t)).cell? ⟨w.heap.size,0,none⟩=some x/\(w.alloc (.cells #[x,y] t)).cell? ⟨w.heap.size,1,none⟩=some y:=by
 have hb:(w.alloc (.cells #[x,y] t)).heap[w.heap.size]?=some (.cells #[x,y] t (0,0)):=(MapKept.heap_alloc w _).1
 exact⟨by simp only[World.cell?];rw[hb];rfl,by simp only[World.cell?];rw[hb];rfl⟩
def jc (x y:List Int)(k:Nat):List Int:=if k=0 then [] else if k=1 then x else x++y
def ConcP (S:List Int)(n:Nat)(w:World)(e:Ending)(w':World):Prop:=∃ g gc,e=.returned (.slice g n gc)/\NewC w.heap.size w' g S gc/\Below w.heap.size w w'
theorem concat_any (x y:List Int)(xl yl:Nat)(hxl:x.length=xl)(hyl:y.length=yl)(xa:Option Addr)(xc:Nat)(ya:Option Addr)(yc:Nat)(hx:xl<=100)(hy:yl<=100)(B cc:Nat)(w:World)(hB:B<w.heap.size)
  (h0:w.cell? ⟨B,0,none⟩=some (.slice xa xl xc))(h1:w.cell? ⟨B,1,none⟩=some (.slice ya yl yc))(hX:IsInts w.heap.size w xa x)(hY:IsInts w.heap.size w ya y):
  Calls Tryz.prog 217 #[.slice (some ⟨B,0,none⟩) 2 cc] w (ConcP (x++y) (xl+yl) w):=by
 have HX:Hid (IsInts w.heap.size w xa x/\IsInts w.heap.size w ya y):=⟨hX,hY⟩
 have HL:Hid (x.length=xl/\y.length=yl):=⟨hxl,hyl⟩
 clear hX hY hxl hyl
 have n1:¬ ((xl:Int)<0):=by omega
 have n2:¬ ((xl:Int)+(yl:Int)<0):=by omega
 go_enter Tryz.func217,Tryz.ntmps217
 go_wp2_with fail
 go_loop [3,11] (fun s i=>(i=.int .i64 0/\s=.int .i64 0)\/(i=.int .i64 1/\s=.int .i64 (xl:Nat))\/(i=.int .i64 2/\s=.int .i64 ((xl:Int)+(yl:Int)))) (fun _ i=>2-(intOf i).toNat)
 case atStart=>exact .inl ⟨rfl,rfl⟩
 case round=>
  rcases hrel with ⟨rfl,rfl⟩ | ⟨rfl,rfl⟩ | ⟨rfl,rfl⟩
  ·go_wp2_with fail
   exact⟨.inr (.inl ⟨rfl,by first | rfl | (simp)⟩),by decide⟩
  ·go_wp2_with fail
   exact⟨.inr (.inr ⟨rfl,rfl⟩),by decide⟩
  ·go_wp2_with fail
   have hg:Calls Tryz.prog 255 #[.slice none 0 0,.int .i64 ((xl:Int)+(yl:Int))] w fun e w'=>∃ g gc,e=.returned (.slice g 0 gc)/\w'.ownsRow w.heap.size 3 1 (.slice g 0 gc) 0 []/\Below w.heap.size w w':=by
    have:=grow_any (xl+yl) (by omega) w
    rwa [Int.natCast_add] at this
   refine hg.mono ?_
   rintro e v1 ⟨g,gc,rfl,hO,hb⟩
   have HO:Hid (v1.ownsRow w.heap.size 3 1 (.slice g 0 gc) 0 []/\Below w.heap.size w v1):=⟨hO,hb⟩
   clear hg hO hb
   go_wp2_with fail
   go_loopw [6,27] (fun v i wr=>∃ k g gc,k<=2/\i=.int .i64 (k:Nat)/\v=.slice g (jc x y k).length gc/\wr.ownsRow w.heap.size 3 1 (.slice g (jc x y k).length gc) (jc x y k).length ((jc x y k).map (Value.int .i64))/\Below w.heap.size w wr) (fun _ i _=>2-(intOf i).toNat)
   case atStart=>exact⟨0,g,gc,by omega,rfl,rfl,HO.1,HO.2⟩
   case round=>
    obtain⟨k,g,gc,hk,rfl,rfl,hO,hb⟩:=hrel
    have HO:Hid (wr.ownsRow w.heap.size 3 1 (.slice g (jc x y k).length gc) (jc x y k).length ((jc x y k).map (Value.int .i64))/\Below w.heap.size w wr):=⟨hO,hb⟩
    have c0:=(hb.cell (p:=⟨B,0,none⟩) hB).trans h0
    have c1:=(hb.cell (p:=⟨B,1,none⟩) hB).trans h1
    clear hO hb
    obtain rfl | rfl | rfl:k=0\/k=1\/k=2:=by omega
    ·have HO1:Hid (wr.ownsRow w.heap.size 3 1 (.slice g 0 gc) 0 (([]:List Int).map (Value.int .i64))/\Below w.heap.size w wr/\IsInts wr.heap.size wr xa x):=⟨HO.1,HO.2,(HX.1.below HO.2).mono HO.2.size⟩
     show Code.wp _ _ _ _ _
     rw[show (jc x y 0).length=0 from rfl]
     clear HO
     go_wp2_with (at_builtin;refine app_all rfl _ _ rfl _ w.heap.size (.slice g 0 gc) [] 0 rfl xa x xl xc HL.1 rfl rfl HO1.1 HO1.2.2 (by omega) HO1.2.1.size ?_;intro g2 gc2 w2 hO2 hN2 hb2)
     refine⟨⟨1,g2,gc2,by omega,rfl,?_,?_,HO1.2.1.trans hb2⟩,by decide⟩
     ·rw[show jc x y 1=x from rfl,HL.1]
     ·rw[show jc x y 1=x from rfl,HL.1]
      rw[Nat.zero_add] at hO2
      exact hO2
    ·have HO1:Hid (wr.ownsRow w.heap.size 3 1 (.slice g xl gc) xl (x.map (Value.int .i64))/\Below w.heap.size w wr/\IsInts wr.heap.size wr ya y):=by
      have h:=HO.1
      rw[show jc x y 1=x from rfl,HL.1] at h
      exact⟨h,HO.2,(HX.2.below HO.2).mono HO.2.size⟩
     rw[show (jc x y 1).length=xl from HL.1]
     clear HO
     go_wp2_with (at_builtin;refine app_all rfl _ _ rfl _ w.heap.size (.slice g xl gc) x xl HL.1 ya y yl yc HL.2 rfl rfl HO1.1 HO1.2.2 (by omega) HO1.2.1.size ?_;intro g2 gc2 w2 hO2 hN2 hb2)
     refine⟨⟨2,g2,gc2,by omega,rfl,?_,?_,HO1.2.1.trans hb2⟩,by decide⟩
     ·rw[show jc x y 2=x++y from rfl,List.length_append,HL.1,HL.2]
     ·rw[show jc x y 2=x++y from rfl,List.length_append,HL.1,HL.2]
      exact hO2
    ·have HO1:Hid (NewC w.heap.size wr g (x++y) gc/\Below w.heap.size w wr):=by
      obtain⟨g',gc',e,hN⟩:=own_cap HO.1
      have e':g=g'/\gc=gc':=by
       injection e with e1 e2 e3
       exact⟨e1,e3⟩
      obtain⟨rfl,rfl⟩:=e'
      exact⟨hN,HO.2⟩
     rw[show (jc x y 2).length=xl+yl by rw[show jc x y 2=x++y from rfl,List.length_append,HL.1,HL.2]]
     clear HO
     go_wp2_with fail
     go_ret
     exact⟨g,gc,rfl,HO1.1,HO1.2⟩
end Go.Proofs.YtkmmkcpfhnifhaaGreatDoor
