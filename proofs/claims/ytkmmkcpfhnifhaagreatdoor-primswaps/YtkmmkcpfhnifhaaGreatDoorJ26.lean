/- What the program tells, in part. -/
import Derived.Test.YtkmmkcpfhnifhaaGreatDoorJ22
import Derived.WalkSmall
set_option linter.unusedVariables false
set_option maxHeartbeats 2000000
set_option maxRecDepth 100000
namespace Go.Proofs.YtkmmkcpfhnifhaaGreatDoor
open Go.RowKit
def upL (V:Nat->Int)(n:Nat):List Int:=(List.range n).map V
theorem upL_length (V:Nat->Int)(n:Nat):(upL V n).length=n:=by simp[upL]
theorem upL_nth (V:Nat->Int)(n:Nat){j:Nat}(h:j<n):nth (upL V n) j=V j:=by simp[upL,nth,h]
def TellP (n:Nat)(V E:Nat->Int)(sz:List Int)(w:World)(e:Ending)(w':World):Prop:=
 (∃ i,i<n/\E i≠0/\e=.returned (.tuple #[.agg #[.bool false,.slice none 0 0,.slice none 0 0],.iface 28 (.int .i64 (E i))])/\Below w.heap.size w w') ∨
 ((∀ i,i<n->E i=0)/\∃ xa xc ya yc,e=.returned (.tuple #[.agg #[.bool false,.slice xa sz.length xc,.slice ya n yc],.nilIface])/\NewC w.heap.size w' xa sz xc/\NewInts w.heap.size w' ya (upL V n)/\Below w.heap.size w w')
def TellQ (n:Nat)(V E:Nat->Int)(sz:List Int)(w:World)(e:Ending)(w':World):Prop:=
 (∃ i,i<n/\E i≠0/\e=.returned (.tuple #[.agg #[.bool false,.slice none 0 0,.slice none 0 0],.iface 28 (.int .i64 (E i))])/\Below w.heap.size w w') ∨
 ((∀ i,i<n->E i=0)/\∃ xa xc ya yc,e=.returned (.tuple #[.agg #[.bool false,.slice xa sz.length xc,.slice ya n yc],.nilIface])/\NewC w.heap.size w' xa sz xc/\NewC w.heap.size w' ya (upL V n) yc/\Below w.heap.size w w')
theorem TellQ.plain {n:Nat}{V E:Nat->Int}{sz:List Int}{w:World}{e:Ending}{w':World}(h:TellQ n V E sz w e w'):TellP n V E sz w e w':=
 h.elim .inl (fun ⟨h0,xa,xc,ya,yc,he,hX,hY,hB⟩=>.inr ⟨h0,xa,xc,ya,yc,he,hX,hY.1,hB⟩)
def AskP (V E:Nat->Int)(i:Nat)(w:World)(e:Ending)(w':World):Prop:=e=.returned (.tuple #[.int .i64 (V i),errV (E i)])/\Below w.heap.size w w'
theorem ask_ok {V E:Nat->Int}{i:Nat}(h:E i=0){w w':World}{e:Ending}(H:AskP V E i w e w'):e=.returned (.tuple #[.int .i64 (V i),.nilIface])/\Below w.heap.size w w':=⟨by rw[H.1,h];rfl,H.2⟩
theorem ask_no {V E:Nat->Int}{i:Nat}(h:E i≠0){w w':World}{e:Ending}(H:AskP V E i w e w'):e=.returned (.tuple #[.int .i64 (V i),.iface 28 (.int .i64 (E i))])/\Below w.heap.size w w':=⟨by rw[H.1,errV_pos h],H.2⟩
theorem row_go {w w':World}{b:Nat}{t:TypeId}{n:Nat}{f:Nat->Value}(h:w.rowIs b t n f)(hB:Below w.heap.size w w'):w'.rowIs b t n f:=h.of_block (hB.block b h.lt)
theorem news_of {w:World}{ad:Addr}{zs:List Int}{m:Nat}(hI:IsInts m w (some ad) zs):∀ j u,(zs.map (Value.int .i64))[j]?=some u->w.cell? (ad.add j)=some u:=by
 intro j u hj
 rw[List.getElem?_map] at hj
 by_cases hl:j<zs.length
 ·obtain⟨b,off,e,hb,hc⟩:=hI.at hl
  cases e
  rw[List.getElem?_eq_getElem hl] at hj
  simp only[Option.map_some] at hj
  obtain rfl:=Option.some.inj hj
  rw[<-nth_get zs j hl]
  have e:(⟨b,off,none⟩:Addr).add j=⟨b,off+j,none⟩:=by
   unfold Addr.add;split
   ·rename_i h0;subst h0;rfl
   ·rfl
  rw[e];exact hc j hl
 ·rw[List.getElem?_eq_none (by omega)] at hj;cases hj
theorem tell_all (c:Bool)(sa:Option Addr)(sc:Nat)(sz:List Int)(da:Option Addr)(dc:Nat)(dz:List Int)(f:Nat)(cs:List Value)(hE:∀ args w,(callFunc f args).run Tryz.prog w=.ok (.enter f args) w)(V E:Nat->Int)(h1:sz.length<=100000)(h2:dz.length<=4096)(w:World)(hs:IsInts w.heap.size w sa sz)
  (H:∀ i,i<dz.length->∀ w',Below w.heap.size w w'->Calls Tryz.prog f (.int .i64 (i:Nat)::cs).toArray w' (AskP V E i w')):
  Calls Tryz.prog 155 #[.agg #[.bool c,.slice sa sz.length sc,.slice da dz.length dc],.func (.func f) #[] cs.toArray] w (TellQ dz.length V E sz w):=by
 obtain⟨n,hn⟩:∃ n,n=dz.length:=⟨_,rfl⟩
 rw[<-hn] at H h2 ⊢
 have HN:Hid (n=dz.length):=hn
 clear hn
 have hmk:=run_make_row' (P:=Tryz.prog) 25 3 (.int .i64 0) 8 Tryz.underlying25 Tryz.infoInt rfl .i64 .i64 n (by omega) (by omega)
 go_enter Tryz.func155,Tryz.ntmps155
 go_wp2_with fail
 clear hmk
 have HS:Hid (IsInts w.heap.size w sa sz):=hs
 clear hs
 have HH:Hid (∀ i,i<n->∀ w',Below w.heap.size w w'->Calls Tryz.prog f (.int .i64 (i:Nat)::cs).toArray w' (AskP V E i w')):=H
 clear H
 go_loopw [16] (fun i wr=>∃ k:Nat,k<=n/\i=.int .i64 k/\(∀ j,j<k->E j=0)/\wr.rowIs (w.heap.size+2) 3 n (upTo V k)/\Abx wr w.heap.size (.bool c) (.slice sa sz.length sc) (.slice da n dc)/\Abx wr (w.heap.size+1) (.bool false) (.slice none 0 0) (.slice none 0 0)/\Below w.heap.size w wr) (fun i _=>n-(intOf i).toNat)
 case atStart=>
  refine⟨0,Nat.zero_le _,rfl,fun j hj=>absurd hj (by omega),?_,((Abx.new w _ _ _).al _).al _,(Abx.new1 w _ _ _ _).al _,(((Below.refl _ w).alloc (Nat.le_refl _) _).alloc (by simp) _).alloc (by simp;omega) _⟩
  have:=World.rowIs_made ((w.alloc (.cells #[.bool c,.slice sa sz.length sc,.slice da n dc] 27)).alloc (.cells #[.bool false,.slice none 0 0,.slice none 0 0] 27)) (.int .i64 0) n 3
  rw[World.size_alloc,World.size_alloc] at this
  exact this.congr (fun j _=>by simp[upTo])
 case round=>
  obtain⟨k,hk,rfl,hz,hrow,hA,hR,hB⟩:=hrel
  have HZ:Hid (∀ j,j<k->E j=0):=hz
  clear hz
  have HA:Hid (Abx wr w.heap.size (.bool c) (.slice sa sz.length sc) (.slice da n dc)):=hA
  have HR:Hid (Abx wr (w.heap.size+1) (.bool false) (.slice none 0 0) (.slice none 0 0)):=hR
  have HB:Hid (Below w.heap.size w wr):=hB
  have HW:Hid (wr.rowIs (w.heap.size+2) 3 n (upTo V k)):=hrow
  clear hA hR hB hrow
  by_cases hlt:k<n
  ·by_cases he:E k=0
   ·have HE:Hid (E k=0):=he
    clear he
    go_wp2_with fail
    refine (HH.out k hlt wr HB.out).mono ?_
    intro e w1 ha
    obtain⟨rfl,hb⟩:=ask_ok HE.out ha
    have hrow:=row_go HW.out hb
    have c2:=hrow.cell hlt
    have f2:=hrow.frozen k
    have HW1:Hid (w1.rowIs (w.heap.size+2) 3 n (upTo V k)):=hrow
    have HB1:Hid (Below wr.heap.size wr w1):=hb
    clear ha hb hrow
    go_wp2_with fail
    exact⟨⟨k+1,by omega,by go_num,allN HZ.out HE.out,upTo_set HW1.out _ rfl,(HA.go HB1.out).ot (a:=⟨w.heap.size+1+1,k,none⟩) (by show w.heap.size≠w.heap.size+1+1;omega) _,(HR.go HB1.out).ot (a:=⟨w.heap.size+1+1,k,none⟩) (by show w.heap.size+1≠w.heap.size+1+1;omega) _,
     (HB.trans (HB1.mono HB.size)).setCell (p:=⟨w.heap.size+1+1,k,none⟩) (by show w.heap.size<=w.heap.size+1+1;omega) _⟩,by simp[intOf];omega⟩
   ·have HE:Hid (E k≠0):=he
    clear he
    go_wp2_with fail
    refine (HH.out k hlt wr HB.out).mono ?_
    intro e w1 ha
    obtain⟨rfl,hb⟩:=ask_no HE.out ha
    have R4:Hid (Abx w1 (w.heap.size+1) (.bool false) (.slice none 0 0) (.slice none 0 0)):=HR.go hb
    have HB1:Hid (Below w.heap.size w w1):=HB.trans (hb.mono HB.size)
    clear ha hb
    have r0:=R4.c0
    have r1:=R4.c1
    have r2:=R4.c2
    have f0:=R4.fr 0
    have f1:=R4.fr 1
    have f2:=R4.fr 2
    go_wp2_with fail
    have F:=R4.set3 (.bool false) (.slice none 0 0) (.slice none 0 0)
    have q0:=F.c0
    have q1:=F.c1
    have q2:=F.c2
    exact bodyPost_ret (v:=.tuple #[.agg #[.bool false,.slice none 0 0,.slice none 0 0],.iface 28 (.int .i64 (E k))]) (by simp[results,Tryz.results155,go_sem,q0,q1,q2]) rfl (.inl ⟨k,hlt,HE.out,rfl,bel_set3 HB1.out (by omega) _ _ _⟩)
  ·obtain rfl:k=n:=by omega
   have c1:=HA.c1
   have HX:Hid (NewInts (w.heap.size+2) wr (some ⟨w.heap.size+1+1,0,none⟩) (upL V k)):=upTo_new HW.out (Nat.le_refl _) _ (upL_length V k) (fun j hj=>upL_nth V k hj)
   obtain⟨i0,hi,hz0,hz1,hz2⟩:=info_parts Tryz.infoInt
   have H0:=World.ownsRow_nil wr wr.heap.size 3 1
   cases sa with
   | none=>
    have hz:sz=[]:=by
     rcases HS.out with h | ⟨_,_,h,_⟩
     ·exact h
     ·cases h
    subst hz
    clear H0 hi hz0 hz1 hz2
    have r0:=HR.c0
    have r1:=HR.c1
    have r2:=HR.c2
    have f0:=HR.fr 0
    have f1:=HR.fr 1
    have f2:=HR.fr 2
    go_wp2_with fail
    have F:=HR.set3 (.bool false) (.slice none 0 0) (.slice (some ⟨w.heap.size+1+1,0,none⟩) k k)
    have q0:=F.c0
    have q1:=F.c1
    have q2:=F.c2
    exact bodyPost_ret (v:=.tuple #[.agg #[.bool false,.slice none 0 0,.slice (some ⟨w.heap.size+1+1,0,none⟩) k k],.nilIface]) (by simp[results,Tryz.results155,go_sem,q0,q1,q2]) rfl (.inr ⟨HZ.out,none,0,some ⟨w.heap.size+1+1,0,none⟩,k,rfl,⟨.inl rfl,Nat.le_refl _⟩,⟨(HX.set3 (by omega) _ _ _).low (by omega),by rw[upL_length];exact Nat.le_refl _⟩,bel_set3 HB.out (by omega) _ _ _⟩)
   | some ad=>
    have hnews:=news_of (HS.below HB.out)
    go_wp2_with (at_builtin;refine wpList_append_own _ rfl _ _ 25 rfl wr.heap.size 3 i0 (.int .i64 0) 1 8 Tryz.underlying25 hi hz0 hz1 hz2 rfl (by decide) _ _ _ rfl H0 ad sz.length sc (sz.map (Value.int .i64)) rfl (by simp) hnews (fun x hx=>by obtain⟨y,_,rfl⟩:=List.mem_map.1 hx;rfl) (by unfold maxLen;omega) (by omega) (Nat.le_refl _) ?_;intro v' w3 hown' hgrow3 hnil3;rw[List.nil_append,Nat.zero_add] at hown';have hB3:Below wr.heap.size wr w3:=(Below.refl _ wr).grown hgrow3 (Nat.le_refl _) (fun j hj=>by cases hj);obtain⟨g,c3,rfl,hIJ⟩:=own_cap hown';have HJ:Hid (NewC wr.heap.size w3 g sz c3):=hIJ;have HB3:Hid (Below wr.heap.size wr w3):=hB3;have R3:Hid (Abx w3 (w.heap.size+1) (.bool false) (.slice none 0 0) (.slice none 0 0)):=HR.go hB3;clear hown' hgrow3 hnil3 hB3 hIJ;have r0:=R3.c0;have r1:=R3.c1;have r2:=R3.c2;have f0:=R3.fr 0;have f1:=R3.fr 1;have f2:=R3.fr 2)
    have F:=R3.set3 (.bool false) (.slice g sz.length c3) (.slice (some ⟨w.heap.size+1+1,0,none⟩) k k)
    have q0:=F.c0
    have q1:=F.c1
    have q2:=F.c2
    have z1:=HR.lt
    exact bodyPost_ret (v:=.tuple #[.agg #[.bool false,.slice g sz.length c3,.slice (some ⟨w.heap.size+1+1,0,none⟩) k k],.nilIface]) (by simp[results,Tryz.results155,go_sem,q0,q1,q2]) rfl (.inr ⟨HZ.out,g,c3,some ⟨w.heap.size+1+1,0,none⟩,k,rfl,(HJ.set3 z1 _ _ _).low HB.size,⟨((HX.go HB3.out).set3 (by omega) _ _ _).low (by omega),by rw[upL_length];exact Nat.le_refl _⟩,bel_set3 (HB.trans (HB3.mono HB.size)) (by omega) _ _ _⟩)
theorem ifV_sign (a:Int):ifV (decide (0<a))-ifV (decide (a<0))=if a=0 then 0 else if 0<a then 1 else -1:=by
 unfold ifV
 by_cases h1:0<a
 ·have h2:¬ a<0:=by omega
  have h3:¬ a=0:=by omega
  simp[h1,h2,h3]
 ·by_cases h2:a<0
  ·have h3:¬ a=0:=by omega
   simp[h1,h2,h3]
  ·have h3:a=0:=by omega
   simp[h3]
theorem one_1 (a:Int)(w:World):Calls Tryz.prog 154 #[.int .i64 1,.int .i64 a] w fun e w'=>e=.returned (.tuple #[.int .i64 (oneV 1 a),errV (oneE 1 a)])/\w'=w:=by
 go_enter Tryz.func154,Tryz.ntmps154
 go_wp2_with fail
 go_ret2
 exact⟨ret2 (by simp[oneV]) (by simp[oneE,errV]),rfl⟩
theorem one_2 (a:Int)(w:World):Calls Tryz.prog 154 #[.int .i64 2,.int .i64 a] w fun e w'=>e=.returned (.tuple #[.int .i64 (oneV 2 a),errV (oneE 2 a)])/\w'=w:=by
 go_enter Tryz.func154,Tryz.ntmps154
 go_wp2_with fail
 go_ret2
 exact⟨ret2 (by simp[oneV]) (by simp[oneE,errV]),rfl⟩
theorem one_3 (a:Int) (w:World):Calls Tryz.prog 154 #[.int .i64 3,.int .i64 a] w fun e w'=>e=.returned (.tuple #[.int .i64 (oneV 3 a),errV (oneE 3 a)])/\w'=w:=by
  have HS:Hid (wrap64 (ifV (decide (0<a))-ifV (decide (a<0)))=if a=0 then 0 else if 0<a then 1 else -1):=by
    show _=_
    rw[ifV_sign]
    refine w_small ?_ ?_ <;> (split; · decide
                              split<;>decide)
  go_enter Tryz.func154,Tryz.ntmps154
  go_wp2_with fail
  refine (one_if (decide (0<a)) w).mono ?_
  rintro e w1 ⟨rfl,rfl⟩
  go_wp2_with fail
  refine (one_if (decide (a<0)) w1).mono ?_
  rintro e w2 ⟨rfl,rfl⟩
  go_wp2_with fail
  go_ret2
  exact⟨ret2 (by rw[HS.out];simp[oneV]) (by simp[oneE,errV]),rfl⟩
theorem one_5 (a:Int)(ha:In64 a)(w:World):Calls Tryz.prog 154 #[.int .i64 5,.int .i64 a] w fun e w'=>e=.returned (.tuple #[.int .i64 (oneV 5 a),errV (oneE 5 a)])/\w'=w:=by
 have HA:Hid (In64 a):=ha
 clear ha
 go_enter Tryz.func154,Tryz.ntmps154
 go_wp2_with fail
 all_goals (go_ret2;have ha:=HA.out;exact⟨ret2 (by unfold oneV In64 at *;simp only[wrap64] at *;grind) (by simp[oneE,errV]),rfl⟩)
theorem not_any (a:Int)(w:World):Calls Tryz.prog 230 #[.int .i64 a] w fun e w'=>e=.returned (.tuple #[.int .i64 (oneV 17 a),errV (oneE 17 a)])/\w'=w:=by
 by_cases h0:a=0
 ·subst h0
  go_enter Tryz.func230,Tryz.ntmps230
  go_wp2_with fail
  go_ret2
  exact⟨ret2 (by simp[oneV]) (by simp[oneE,errV]),rfl⟩
 ·by_cases h1:a=1
  ·subst h1
   go_enter Tryz.func230,Tryz.ntmps230
   go_wp2_with fail
   go_ret2
   exact⟨ret2 (by simp[oneV]) (by simp[oneE,errV]),rfl⟩
  ·have HN:Hid (a≠0/\a≠1):=⟨h0,h1⟩
   have t0:(a != 0)=true:=by simp[h0]
   have t1:(a != 1)=true:=by simp[h1]
   clear h0 h1
   go_enter Tryz.func230,Tryz.ntmps230
   go_wp2_with fail
   go_ret2
   have h:=HN.out
   exact⟨ret2 (by simp[oneV,h.1]) (by simp[oneE,errV,h.1,h.2]),rfl⟩
theorem one_17 (a:Int)(w:World):Calls Tryz.prog 154 #[.int .i64 17,.int .i64 a] w fun e w'=>e=.returned (.tuple #[.int .i64 (oneV 17 a),errV (oneE 17 a)])/\w'=w:=by
 go_enter Tryz.func154,Tryz.ntmps154
 go_wp2_with fail
 refine (not_any a w).mono ?_
 rintro e w1 ⟨rfl,hw⟩
 subst hw
 go_wp2_with fail
 go_ret2
 exact⟨rfl,rfl⟩
theorem one_other (f a:Int)(hf:f≠1/\f≠2/\f≠3/\f≠5/\f≠17)(w:World):Calls Tryz.prog 154 #[.int .i64 f,.int .i64 a] w fun e w'=>e=.returned (.tuple #[.int .i64 (oneV f a),errV (oneE f a)])/\w'=w:=by
 have HF:Hid (f≠1/\f≠2/\f≠3/\f≠5/\f≠17):=hf
 have n1:(f == 1)=false:=by simp;omega
 have n2:(f == 2)=false:=by simp;omega
 have n3:(f == 3)=false:=by simp;omega
 have n5:(f == 5)=false:=by simp;omega
 have n17:(f == 17)=false:=by simp;omega
 clear hf
 go_enter Tryz.func154,Tryz.ntmps154
 go_wp2_with fail
 go_ret2
 obtain⟨h1,h2,h3,h5,h17⟩:=HF.out
 exact⟨ret2 (by simp[oneV,h1,h2,h3,h5,h17]) (by simp[oneE,errV,h1,h2,h3,h5,h17]),rfl⟩
theorem one_any (f a:Int)(ha:In64 a)(w:World):Calls Tryz.prog 154 #[.int .i64 f,.int .i64 a] w fun e w'=>e=.returned (.tuple #[.int .i64 (oneV f a),errV (oneE f a)])/\w'=w:=by
 by_cases hf:f≠1/\f≠2/\f≠3/\f≠5/\f≠17
 ·exact one_other f a hf w
 ·rcases (by omega:f=1\/f=2\/f=3\/f=5\/f=17) with rfl | rfl | rfl | rfl | rfl
  ·exact one_1 a w
  ·exact one_2 a w
  ·exact one_3 a w
  ·exact one_5 a ha w
  ·exact one_17 a w
theorem mem_nth1 {zs:List Int}{x:Int}(h:x∈zs):∃ j,j<zs.length/\nth zs j=x:=by
 obtain⟨j,hj,rfl⟩:=List.mem_iff_getElem.1 h
 exact⟨j,hj,nth_get zs j hj⟩
theorem blk_go {w w':World}{b:Nat}{o:Obj}(h:w.heap[b]?=some o)(hB:Below w.heap.size w w'):w'.heap[b]?=some o:=by
 obtain⟨hlt,_⟩:=Array.getElem?_eq_some_iff.1 h
 exact (hB.block b hlt).trans h
theorem one1_any (f:Int)(p q:Nat)(c:Bool)(S:Value)(da:Option Addr)(dc:Nat)(dz:List Int)(i:Nat)(hi:i<dz.length)(hl:dz.length<=4096)(w:World)(hp:w.cell? ⟨p,0,none⟩=some (.int .i64 f))(hq:w.cell? ⟨q,2,none⟩=some (.slice da dz.length dc))(m:Nat)(hd:IsInts m w da dz)(T:In64 (nth dz i)):
  Calls Tryz.prog 156 #[.int .i64 (i:Nat),.pointer (some ⟨p,0,none⟩),.pointer (some ⟨q,0,none⟩)] w (AskP (fun i=>oneV f (nth dz i)) (fun i=>oneE f (nth dz i)) i w):=by
 obtain⟨b,off,rfl,hb,hcell⟩:=hd.at hi
 have hc:=hcell i hi
 clear hcell hd
 obtain⟨x,hx⟩:∃ x,x=nth dz i:=⟨_,rfl⟩
 have HX:Hid (x=nth dz i):=hx
 rw[<-hx] at hc T
 have HT:Hid (In64 x):=T
 clear hx T
 go_enter Tryz.func156,Tryz.ntmps156
 go_wp2_with fail
 refine bT 9 (fun w'=>w'.cell? ⟨p,0,none⟩=some (.int .i64 f)/\w'.cell? ⟨q,2,none⟩=some (.slice (some ⟨b,off,none⟩) dz.length dc)/\w'.cell? ⟨b,off+i,none⟩=some (.int .i64 x)) 11 (⟨hp,hq,hc⟩) fun hq0=>?_
 refine lT 0 hq0 ?_;refine pT 1 hq0 ?_;refine lT 2 hq0 ?_;refine pT 3 hq0 ?_;refine pT 4 hq0 ?_;refine lT 5 hq0 ?_
 clear hq0
 refine oT 6 fun K hK=>?_
 go_simp
 go_wp2_with (go_at_call 154;refine (one_any f x HT.out w.drew).mono ?_;rintro e w2 ⟨rfl,rfl⟩)
 refine hK.out _ _ (fun _=>⟨hp,hq,hc⟩) ?_
 clear hK K
 refine pT 7 (⟨hp,hq,hc⟩) ?_;refine pT 8 (⟨hp,hq,hc⟩) ?_
 refine oT 9 fun K hK=>?_
 go_simp
 refine hK.out _ _ (fun h=>absurd h (by decide)) ?_
 clear hK K
 refine oT 10 fun K hK=>?_
 go_simp
 refine hK.out _ _ (fun h=>absurd h (by decide)) ?_
 clear hK K
 refine dT ?_
 go_wp2_with fail
 go_ret2
 exact⟨by rw[HX.out];rfl,(Below.refl _ w).drew⟩
theorem each_one_c:C1c:=by
 intro f c sa sc sz da dc dz w hf h1 h2 hs hd T
 have HI:Hid (IsInts w.heap.size w sa sz/\IsInts w.heap.size w da dz):=⟨hs,hd⟩
 have HT:Hid (∀ j,In64 (nth dz j)):=T
 obtain⟨W0,hW0⟩:∃ W0,W0=((w.alloc (.cells #[.int .i64 f] 22)).alloc (.cells #[.bool c,.slice sa sz.length sc,.slice da dz.length dc] 27)).alloc (.cells #[.bool false,.slice none 0 0,.slice none 0 0] 27):=⟨_,rfl⟩
 have HB0:Hid (Below w.heap.size w W0):=by rw[hW0];exact (((Below.refl _ w).alloc (Nat.le_refl _) _).alloc (by simp) _).alloc (by simp;omega) _
 have B0:Hid (W0.heap[w.heap.size]?=some (.cells #[.int .i64 f] 22 (0,0))):=by
  rw[hW0]
  exact ((Below.heap_alloc _ _ w.heap.size (by simp;omega)).trans (Below.heap_alloc _ _ w.heap.size (by simp))).trans (MapKept.heap_alloc w _).1
 have P0:Hid (Abx W0 (w.heap.size+1) (.bool c) (.slice sa sz.length sc) (.slice da dz.length dc)):=by rw[hW0];exact (Abx.new1 w _ _ _ _).al _
 have R0:Hid (Abx W0 (w.heap.size+1+1) (.bool false) (.slice none 0 0) (.slice none 0 0)):=by
  rw[hW0]
  have:=Abx.new1 (w.alloc (.cells #[.int .i64 f] 22)) (.cells #[.bool c,.slice sa sz.length sc,.slice da dz.length dc] 27) (.bool false) (.slice none 0 0) (.slice none 0 0)
  rwa [World.size_alloc] at this
 have HW:Hid (W0=_):=hW0
 clear hs hd T hW0
 by_cases h0:oneE f 0=0
 ·have H0:Hid (oneE f 0=0):=h0
  have V0:Hid (errV (oneE f 0)=.nilIface):=by show _=_;rw[h0];rfl
  clear h0
  by_cases h3:flawE c sz dz=0
  ·have H3:Hid (flawE c sz dz=0):=h3
   have HL:Hid (sz.length<=6/\dz.length<=4096):=flawE_short h3
   clear h3
   go_enter Tryz.func97,Tryz.ntmps97
   go_wp2_with fail
   refine (one_any f 0 (by unfold In64;decide) _).mono ?_
   rintro e w1 ⟨rfl,hw⟩
   have hw':W0=w1:=HW.trans hw.symm
   subst hw'
   rw[V0.out]
   have p0:=P0.c0
   have p1:=P0.c1
   have p2:=P0.c2
   clear hw
   go_wp2_with fail
   refine (check_ok c sa sc sz da dc dz h1 h2 W0 ((HI.1.below HB0.out).mono HB0.size) ((HI.2.below HB0.out).mono HB0.size) H3.out).mono ?_
   rintro e w2 ⟨rfl,hC⟩
   have HB2:Hid (Below w.heap.size w w2):=HB0.trans (hC.mono HB0.size)
   have B2:Hid (w2.heap[w.heap.size]?=some (.cells #[.int .i64 f] 22 (0,0))):=blk_go B0.out hC
   have P2:Hid (Abx w2 (w.heap.size+1) (.bool c) (.slice sa sz.length sc) (.slice da dz.length dc)):=P0.go hC
   have R2:Hid (Abx w2 (w.heap.size+1+1) (.bool false) (.slice none 0 0) (.slice none 0 0)):=R0.go hC
   clear hC p0 p1 p2 HW B0 P0 R0 HB0 V0
   have p0:=P2.c0
   have p1:=P2.c1
   have p2:=P2.c2
   cases c with
   | true=>
    have HE:Hid (e1E f true sz dz=6):=by show _=_;unfold e1E;rw[if_neg (by simpa using H0.out),if_neg (by simpa using H3.out),if_pos rfl]
    have r0:=R2.c0
    have r1:=R2.c1
    have r2:=R2.c2
    have f0:=R2.fr 0
    have f1:=R2.fr 1
    have f2:=R2.fr 2
    go_wp2_with fail
    have F:=R2.set3 (.bool false) (.slice none 0 0) (.slice none 0 0)
    have q0:=F.c0
    have q1:=F.c1
    have q2:=F.c2
    exact bodyPost_ret (v:=.tuple #[.agg #[.bool false,.slice none 0 0,.slice none 0 0],.iface 28 (.int .i64 6)]) (by simp[results,Tryz.results97,go_sem,q0,q1,q2]) rfl (P1c.no HE.out (by decide) (bel_set3 HB2.out (by omega) _ _ _))
   | false=>
    have H:∀ i,i<dz.length->∀ w',Below w2.heap.size w2 w'->Calls Tryz.prog 156 (.int .i64 (i:Nat)::[.pointer (some ⟨w.heap.size,0,none⟩),.pointer (some ⟨w.heap.size+1,0,none⟩)]).toArray w' (AskP (fun i=>oneV f (nth dz i)) (fun i=>oneE f (nth dz i)) i w'):=fun i hi w' hB=>
     one1_any f _ _ false (.slice none 0 0) da dc dz i hi HL.2 w' (cell_of_one (blk_go B2.out hB)) (P2.go hB).c2 w.heap.size (HI.2.below (HB2.trans (hB.mono HB2.size))) (HT.out i)
    have HH:Hid (_):=H
    clear H
    go_wp2_with fail
    refine (tell_all false sa sc sz da dc dz 156 [.pointer (some ⟨w.heap.size,0,none⟩),.pointer (some ⟨w.heap.size+1,0,none⟩)] (enters_of Tryz.func156 (by kernel_rfl) rfl) _ _ (by have:=HL.1;omega) HL.2 w2 ((HI.1.below HB2.out).mono HB2.size) HH.out).mono ?_
    rintro e w3 (⟨i,hi,hne,rfl,hb⟩ | ⟨hall,xa,xc,ya,yc,rfl,hX,hY,hb⟩)
    ·have HE:Hid (oneE f (nth dz i)=6/\e1E f false sz dz=6):=by
      refine⟨(oneE_cell H0.out _).resolve_left hne,?_⟩
      unfold e1E
      rw[if_neg (by simpa using H0.out),if_neg (by simpa using H3.out),if_neg (by decide),if_neg]
      intro h
      exact hne (by simpa using List.all_eq_true.1 h _ (nth_mem dz i hi))
     have R3:Hid (Abx w3 (w.heap.size+1+1) (.bool false) (.slice none 0 0) (.slice none 0 0)):=R2.go hb
     have HB3:Hid (Below w.heap.size w w3):=HB2.trans (hb.mono HB2.size)
     clear hb hne p0 p1 p2
     have r0:=R3.c0
     have r1:=R3.c1
     have r2:=R3.c2
     have f0:=R3.fr 0
     have f1:=R3.fr 1
     have f2:=R3.fr 2
     go_wp2_with fail
     have F:=R3.set3 (.bool false) (.slice none 0 0) (.slice none 0 0)
     have q0:=F.c0
     have q1:=F.c1
     have q2:=F.c2
     exact bodyPost_ret (v:=.tuple #[.agg #[.bool false,.slice none 0 0,.slice none 0 0],.iface 28 (.int .i64 (oneE f (nth dz i)))]) (by simp[results,Tryz.results97,go_sem,q0,q1,q2]) rfl (P1c.no (HE.2.trans HE.1.symm) (by rw[HE.1];decide) (bel_set3 HB3.out (by omega) _ _ _))
    ·have HE:Hid (e1E f false sz dz=0/\e1V f dz=upL (fun i=>oneV f (nth dz i)) dz.length):=by
      constructor
      ·unfold e1E
       rw[if_neg (by simpa using H0.out),if_neg (by simpa using H3.out),if_neg (by decide),if_pos]
       refine List.all_eq_true.2 fun x hx=>?_
       obtain⟨j,hj,rfl⟩:=mem_nth1 hx
       simpa using hall j hj
      ·exact nth_ext (by rw[e1V_length,upL_length]) fun j hj=>by rw[e1V_length] at hj;rw[e1V_nth f dz hj,upL_nth _ _ hj]
     have R3:Hid (Abx w3 (w.heap.size+1+1) (.bool false) (.slice none 0 0) (.slice none 0 0)):=R2.go hb
     have HB3:Hid (Below w.heap.size w w3):=HB2.trans (hb.mono HB2.size)
     have HX:Hid (NewC w2.heap.size w3 xa sz xc/\NewC w2.heap.size w3 ya (e1V f dz) yc):=⟨hX,by rw[HE.2];exact hY⟩
     have z:=R2.lt
     clear hb hX hY hall p0 p1 p2
     have r0:=R3.c0
     have r1:=R3.c1
     have r2:=R3.c2
     have f0:=R3.fr 0
     have f1:=R3.fr 1
     have f2:=R3.fr 2
     go_wp2_with fail
     have F:=R3.set3 (.bool false) (.slice xa sz.length xc) (.slice ya dz.length yc)
     have q0:=F.c0
     have q1:=F.c1
     have q2:=F.c2
     refine bodyPost_ret (v:=.tuple #[.agg #[.bool false,.slice xa sz.length xc,.slice ya dz.length yc],.nilIface]) (by simp[results,Tryz.results97,go_sem,q0,q1,q2]) rfl (.inr ⟨HE.1,xa,xc,ya,yc,by rw[e1V_length],?_,?_,bel_set3 HB3.out (by omega) _ _ _⟩)
     ·exact (HX.1.set3 z _ _ _).low HB2.size
     ·exact (HX.2.set3 z _ _ _).low HB2.size
  ·have H3:Hid (flawE c sz dz≠0):=h3
   have HE:Hid (e1E f c sz dz=flawE c sz dz):=by show _=_;unfold e1E;rw[if_neg (by simpa using H0.out),if_pos h3]
   clear h3
   go_enter Tryz.func97,Tryz.ntmps97
   go_wp2_with fail
   refine (one_any f 0 (by unfold In64;decide) _).mono ?_
   rintro e w1 ⟨rfl,hw⟩
   have hw':W0=w1:=HW.trans hw.symm
   subst hw'
   rw[V0.out]
   have p0:=P0.c0
   have p1:=P0.c1
   have p2:=P0.c2
   clear hw
   go_wp2_with fail
   refine (check_no c sa sc sz da dc dz h1 h2 W0 ((HI.1.below HB0.out).mono HB0.size) ((HI.2.below HB0.out).mono HB0.size) H3.out).mono ?_
   rintro e w2 ⟨rfl,hC⟩
   have HB2:Hid (Below w.heap.size w w2):=HB0.trans (hC.mono HB0.size)
   have R2:Hid (Abx w2 (w.heap.size+1+1) (.bool false) (.slice none 0 0) (.slice none 0 0)):=R0.go hC
   clear hC p0 p1 p2
   have r0:=R2.c0
   have r1:=R2.c1
   have r2:=R2.c2
   have f0:=R2.fr 0
   have f1:=R2.fr 1
   have f2:=R2.fr 2
   go_wp2_with fail
   have F:=R2.set3 (.bool false) (.slice none 0 0) (.slice none 0 0)
   have q0:=F.c0
   have q1:=F.c1
   have q2:=F.c2
   exact bodyPost_ret (v:=.tuple #[.agg #[.bool false,.slice none 0 0,.slice none 0 0],.iface 28 (.int .i64 (flawE c sz dz))]) (by simp[results,Tryz.results97,go_sem,q0,q1,q2]) rfl (P1c.no HE.out H3.out (bel_set3 HB2.out (by omega) _ _ _))
 ·have H0:Hid (oneE f 0≠0):=h0
  have HE:Hid (e1E f c sz dz=oneE f 0):=by show _=_;unfold e1E;rw[if_pos h0]
  have V0:Hid (errV (oneE f 0)=.iface 28 (.int .i64 (oneE f 0))):=errV_pos h0
  clear h0
  go_enter Tryz.func97,Tryz.ntmps97
  go_wp2_with fail
  refine (one_any f 0 (by unfold In64;decide) _).mono ?_
  rintro e w1 ⟨rfl,hw⟩
  have hw':W0=w1:=HW.trans hw.symm
  subst hw'
  rw[V0.out]
  clear hw
  have r0:=R0.c0
  have r1:=R0.c1
  have r2:=R0.c2
  have f0:=R0.fr 0
  have f1:=R0.fr 1
  have f2:=R0.fr 2
  go_wp2_with fail
  have F:=R0.set3 (.bool false) (.slice none 0 0) (.slice none 0 0)
  have q0:=F.c0
  have q1:=F.c1
  have q2:=F.c2
  exact bodyPost_ret (v:=.tuple #[.agg #[.bool false,.slice none 0 0,.slice none 0 0],.iface 28 (.int .i64 (oneE f 0))]) (by simp[results,Tryz.results97,go_sem,q0,q1,q2]) rfl (P1c.no HE.out H0.out (bel_set3 HB0.out (by omega) _ _ _))
theorem nth_cons9 (x:Int)(r:List Int)(j:Nat):nth (x::r) (j+1)=nth r j:=by simp[nth]
theorem cmp_cut:∀ (k:Nat) {p q:List Int},(∀ j,j<k->nth p j=nth q j)->k<p.length->k<q.length->cmpL p q=(if nth p k<nth q k then -1 else if nth q k<nth p k then 1 else cmpL (p.drop (k+1)) (q.drop (k+1)))
 | 0,x::p,y::q,_,_,_=>rfl
 | k+1,x::p,y::q,h,hp,hq=>by
  have e:x=y:=h 0 (by omega)
  subst e
  have ih:=cmp_cut k (p:=p) (q:=q) (fun j hj=>by have:=h (j+1) (by omega);rwa [nth_cons9,nth_cons9] at this) (by simpa using hp) (by simpa using hq)
  rw[nth_cons9,nth_cons9,List.drop_succ_cons,List.drop_succ_cons,<-ih]
  show (if x<x then (-1:Int) else if x<x then 1 else cmpL p q)=_
  rw[if_neg (by omega),if_neg (by omega)]
 | _,[],_,_,hp,_=>by simp at hp
 | _,_,[],_,_,hq=>by simp at hq
theorem cmp_same:∀ p:List Int,cmpL p p=0
 | []=>rfl
 | x::p=>by
  show (if x<x then (-1:Int) else if x<x then 1 else cmpL p p)=0
  rw[if_neg (by omega),if_neg (by omega)]
  exact cmp_same p
theorem ret_int9 {a b:Int}(h:a=b):Ending.returned (.int .i64 a)=.returned (.int .i64 b):=by rw[h]
def cm3 (x y:Int):Int:=if x<y then -1 else if y<x then 1 else 0
theorem nan_any (x:Int)(w:World):Calls Tryz.prog 261 #[.int .i64 x] w fun e w'=>e=.returned (.bool false)/\w'=w:=by
 go_enter Tryz.func261,Tryz.ntmps261
 go_wp2_with fail
 go_ret
 exact⟨rfl,rfl⟩
theorem cmpi_any (x y:Int)(w:World):Calls Tryz.prog 236 #[.int .i64 x,.int .i64 y] w fun e w'=>e=.returned (.int .i64 (cm3 x y))/\w'=w:=by
 have H:Hid (∀ z,Calls Tryz.prog 261 #[.int .i64 z] w fun e w'=>e=.returned (.bool false)/\w'=w):=fun z=>nan_any z w
 by_cases h1:x<y
 ·have HE:Hid (cm3 x y=-1):=by show _=_;unfold cm3;rw[if_pos h1]
  go_enter Tryz.func236,Tryz.ntmps236
  go_wp2_with fail
  refine (H.out x).mono ?_
  rintro e w1 ⟨rfl,rfl⟩
  go_wp2_with fail
  refine (H.out y).mono ?_
  rintro e w2 ⟨rfl,rfl⟩
  go_wp2_with fail
  go_ret
  exact⟨by rw[HE.out];rfl,rfl⟩
 ·by_cases h2:y<x
  ·have HE:Hid (cm3 x y=1):=by show _=_;unfold cm3;rw[if_neg h1,if_pos h2]
   go_enter Tryz.func236,Tryz.ntmps236
   go_wp2_with fail
   refine (H.out x).mono ?_
   rintro e w1 ⟨rfl,rfl⟩
   go_wp2_with fail
   refine (H.out y).mono ?_
   rintro e w2 ⟨rfl,rfl⟩
   go_wp2_with fail
   go_ret
   exact⟨by rw[HE.out];rfl,rfl⟩
  ·have HE:Hid (cm3 x y=0):=by show _=_;unfold cm3;rw[if_neg h1,if_neg h2]
   go_enter Tryz.func236,Tryz.ntmps236
   go_wp2_with fail
   refine (H.out x).mono ?_
   rintro e w1 ⟨rfl,rfl⟩
   go_wp2_with fail
   refine (H.out y).mono ?_
   rintro e w2 ⟨rfl,rfl⟩
   go_wp2_with fail
   go_ret
   exact⟨by rw[HE.out];rfl,rfl⟩
theorem cm3_cut {k:Nat}{p q:List Int}(h:∀ j,j<k->nth p j=nth q j)(hp:k<p.length)(hq:k<q.length)(hne:cm3 (nth p k) (nth q k)≠0):cmpL p q=cm3 (nth p k) (nth q k):=by
 rw[cmp_cut k h hp hq]
 unfold cm3 at *
 by_cases h1:nth p k<nth q k
 ·rw[if_pos h1,if_pos h1]
 ·rw[if_neg h1] at hne ⊢
  rw[if_neg h1]
  by_cases h2:nth q k<nth p k
  ·rw[if_pos h2,if_pos h2]
  ·rw[if_neg h2] at hne;exact absurd rfl hne
theorem cm3_zero {x y:Int}(h:cm3 x y=0):x=y:=by
 unfold cm3 at h
 by_cases h1:x<y
 ·rw[if_pos h1] at h;exact absurd h (by decide)
 ·rw[if_neg h1] at h
  by_cases h2:y<x
  ·rw[if_pos h2] at h;exact absurd h (by decide)
  ·omega
theorem scmp_any (a:Option Addr)(cap:Nat)(p:List Int)(b:Option Addr)(bap:Nat)(q:List Int)(hl:p.length=q.length)(hreach:p.length<=9223372036854775807)(n₀:Nat)(w:World)(hI:IsInts n₀ w a p)(hI':IsInts n₀ w b q):
  Calls Tryz.prog 171 #[.slice a p.length cap,.slice b q.length bap] w fun e w'=>e=.returned (.int .i64 (cmpL p q))/\w'=w:=by
 obtain⟨C,hC⟩:∃ C,C=cmpL p q:=⟨_,rfl⟩
 rw[<-hC]
 have HC:Hid (C=cmpL p q):=hC
 have H:Hid (p.length=q.length):=hl
 have HM:Hid (∀ x y,Calls Tryz.prog 236 #[.int .i64 x,.int .i64 y] w fun e w'=>e=.returned (.int .i64 (cm3 x y))/\w'=w):=fun x y=>cmpi_any x y w
 have l1:p.length<=q.length:=by omega
 have l2:q.length<=p.length:=by omega
 clear hl hC
 go_enter Tryz.func171,Tryz.ntmps171
 go_wp2_with fail
 go_loopw [11] (fun i wr=>∃ k:Nat,k<=p.length/\i=.int .i64 k/\(∀ j,j<k->nth p j=nth q j)/\wr=w) (fun i _=>p.length-(intOf i).toNat)
 case atStart=>exact⟨0,Nat.zero_le _,rfl,fun j hj=>by omega,rfl⟩
 case round=>
  obtain⟨k,hk,rfl,hsame,rfl⟩:=hrel
  have HS:Hid (∀ j,j<k->nth p j=nth q j):=hsame
  clear hsame
  by_cases hlt:k<p.length
  ·have hlt':k<q.length:=by omega
   obtain⟨bb,off,rfl,hb,hcell⟩:=hI.at hlt
   obtain⟨b',off',rfl,hb',hcell'⟩:=hI'.at hlt'
   have hc:=hcell k hlt
   have hc':=hcell' k hlt'
   clear hcell hcell'
   by_cases h1:cm3 (nth p k) (nth q k)=0
   ·have HE:Hid (nth p k=nth q k):=cm3_zero h1
    have hb0:(cm3 (nth p k) (nth q k) == 0)=true:=by rw[h1];rfl
    go_wp2_with fail
    refine (HM.out _ _).mono ?_
    rintro e w1 ⟨rfl,rfl⟩
    go_wp2_with fail
    have HS2:∀ j,j<k+1->nth p j=nth q j:=fun j hj=>by
     by_cases e:j=k
     ·rw[e];exact HE.out
     ·exact HS.out j (by omega)
    exact⟨⟨k+1,by omega,by go_num,HS2,by first | rfl | trivial⟩,by simp[intOf];omega⟩
   ·have HF:Hid (C=cm3 (nth p k) (nth q k)):=by show _=_;rw[HC.out];exact cm3_cut HS.out hlt hlt' h1
    have hb0:(cm3 (nth p k) (nth q k) == 0)=false:=beq_eq_false_iff_ne.2 h1
    go_wp2_with fail
    refine (HM.out _ _).mono ?_
    rintro e w1 ⟨rfl,rfl⟩
    go_wp2_with fail
    go_ret
    exact⟨ret_int9 HF.symm,rfl⟩
  ·obtain rfl:k=p.length:=by omega
   have hfin:Hid (C=0):=by show _=_;rw[HC.out,<-nth_ext H.out HS.out,cmp_same]
   go_wp2_with fail
   go_ret
   exact⟨ret_int9 hfin.symm,rfl⟩
def RwF (f:Nat)(cmp:List Int->List Int->Int):Prop:=∀ (a:Option Addr) (cap:Nat) (p:List Int) (b:Option Addr) (bap:Nat) (q:List Int),p.length=q.length->p.length<=9223372036854775807->∀ (n₀:Nat) (w:World),IsInts n₀ w a p->IsInts n₀ w b q →
 Calls Tryz.prog f #[.slice a p.length cap,.slice b q.length bap] w fun e w'=>e=.returned (.int .i64 (cmp p q))/\w'=w
theorem up1_any:RwF 170 cmpL:=by
 intro a cap p b bap q hl hr n₀ w hI hI'
 have H:Hid (Calls Tryz.prog 171 #[.slice a p.length cap,.slice b q.length bap] w fun e w'=>e=.returned (.int .i64 (cmpL p q))/\w'=w):=scmp_any a cap p b bap q hl hr n₀ w hI hI'
 clear hI hI' hl
 go_enter Tryz.func170,Tryz.ntmps170
 go_wp2_with fail
 refine H.mono ?_
 rintro e w1 ⟨rfl,rfl⟩
 go_wp2_with fail
 go_ret
 exact⟨rfl,rfl⟩
theorem down1_any:RwF 172 (fun p q=>cmpL q p):=by
 intro a cap p b bap q hl hr n₀ w hI hI'
 have H:Hid (Calls Tryz.prog 171 #[.slice b q.length bap,.slice a p.length cap] w fun e w'=>e=.returned (.int .i64 (cmpL q p))/\w'=w):=scmp_any b bap q a cap p hl.symm (by omega) n₀ w hI' hI
 clear hI hI' hl
 go_enter Tryz.func172,Tryz.ntmps172
 go_wp2_with fail
 refine H.mono ?_
 rintro e w1 ⟨rfl,rfl⟩
 go_wp2_with fail
 go_ret
 exact⟨rfl,rfl⟩
end Go.Proofs.YtkmmkcpfhnifhaaGreatDoor
