/- What the program tells, in part. -/
import Derived.Test.YtkmmkcpfhnifhaaGreatDoorJ45
import Derived.Test.YtkmmkcpfhnifhaaGreatDoorJ36
set_option linter.unusedVariables false
set_option maxHeartbeats 4000000
set_option maxRecDepth 100000
namespace Go.Proofs.YtkmmkcpfhnifhaaGreatDoor
open Go.RowKit
section
variable {w w1 w2 : World} {r : Nat}
theorem gb_refl (w:World)(r:Nat):w.grownBy w (some r):=⟨rfl,rfl,rfl,Nat.le_refl _,fun _ _ _=>rfl⟩
theorem gb_drew (h:w.grownBy w1 (some r)):w.grownBy w1.drew (some r):=⟨h.os,h.tape,h.output,h.size,h.block⟩
theorem gb_go (h:w.grownBy w1 (some r))(hB:Below w1.heap.size w1 w2):w.grownBy w2 (some r):=⟨hB.os.trans h.os,hB.tape.trans h.tape,hB.output.trans h.output,Nat.le_trans h.size hB.size,fun k hk hne=>(hB.block k (Nat.lt_of_lt_of_le hk h.size)).trans (h.block k hk hne)⟩
theorem gb_bel {n:Nat}(h:w.grownBy w1 (some r))(hn:w.heap.size<=n)(hB:Below n w1 w2):w.grownBy w2 (some r):=⟨hB.os.trans h.os,hB.tape.trans h.tape,hB.output.trans h.output,Nat.le_trans h.size hB.size,fun k hk hne=>(hB.block k (by omega)).trans (h.block k hk hne)⟩
theorem gb_set (h:w.grownBy w1 (some r))(k:Nat)(v:Value):w.grownBy (w1.setCell ⟨r,k,none⟩ v) (some r):=by
 refine⟨h.os,h.tape,h.output,?_,fun i hi hne=>?_⟩
 ·have:(w1.setCell ⟨r,k,none⟩ v).heap.size=w1.heap.size:=by simp[World.setCell]
  rw[this];exact h.size
 ·exact (Below.heap_setCell w1 ⟨r,k,none⟩ v i (fun e=>hne (by rw[e]))).trans (h.block i hi hne)
theorem gb_trans (h:w.grownBy w1 (some r))(k:w1.grownBy w2 (some r)):w.grownBy w2 (some r):=⟨k.os.trans h.os,k.tape.trans h.tape,k.output.trans h.output,Nat.le_trans h.size k.size,fun i hi hne=>(k.block i (Nat.lt_of_lt_of_le hi h.size) hne).trans (h.block i hi hne)⟩
theorem gb_cell (h:w.grownBy w1 (some r)){p:Addr}{v:Value}(hc:w.cell? p=some v)(hne:p.block≠r):w1.cell? p=some v:=h.cell hc (fun e=>hne (Option.some.inj e))
theorem gb_ints (h:w.grownBy w1 (some r)){n:Nat}{a:Option Addr}{zs:List Int}(hI:IsInts n w a zs)(hn:n<=r)(hw:n<=w.heap.size):IsInts n w1 a zs:=hI.below ((Below.refl n w).grown h hw (fun k e=>by have:=Option.some.inj e;omega))
end
def Rw13 (w:World)(B L:Nat)(xs:List Int):Prop:=xs.length=L/\w.rowIs B 3 L (fun j=>.int .i64 (nth xs j))
theorem Rw13.go {w w':World}{B L:Nat}{xs:List Int}(h:Rw13 w B L xs)(hB:Below w.heap.size w w'):Rw13 w' B L xs:=⟨h.1,h.2.of_block (hB.block B h.2.lt)⟩
theorem Rw13.put {w:World}{B L:Nat}{xs:List Int}(h:Rw13 w B L xs){i:Nat}(hi:i<L)(v:Int):Rw13 (w.setCell ⟨B,i,none⟩ (.int .i64 v)) B L (xs.set i v):=by
 refine⟨by rw[List.length_set];exact h.1,(h.2.set i _).congr fun j hj=>?_⟩
 rw[nth_set _ _ _ _ (by rw[h.1];omega)]
 by_cases e:j=i
 ·rw[if_pos e,if_pos e]
 ·rw[if_neg e,if_neg e]
theorem ffold_all (f:Int) (B:Nat) (l:List Int) (L cap:Nat) (hL:L<=4096) (hc:L<=cap) (w:World) (T:∀ j,In64 (nth l j)) (hr:Rw13 w B L l):Calls Tryz.prog 183 #[.int .i64 f,.slice (some ⟨B,0,none⟩) L cap] w (FdP f l w):=by
  obtain⟨hl,hr⟩:=hr
  cases L with
  | zero=>
    obtain rfl:=List.eq_nil_of_length_eq_zero hl
    exact ffold_nil f _ _ w
  | succ n=>
    have hn:n<l.length:=by omega
    have e:l=l.take n++[nth l n]:=by
      have h:=List.take_append_drop n l
      rw[List.drop_eq_getElem_cons hn,List.drop_eq_nil_of_le (by omega),<-nth_get l n hn] at h
      exact h.symm
    have ht:∀ j,j<n->nth (l.take n) j=nth l j:=fun j hj=>by unfold nth;rw[List.getD_eq_getElem?_getD,List.getD_eq_getElem?_getD,List.getElem?_take_of_lt hj]
    have h:=ffold_snoc f B 0 (l.take n) (nth l n) n cap (by rw[List.length_take];omega) (by omega) (by omega) w hr.lt
      (.inr ⟨B,0,rfl,hr.lt,fun j hj=>by rw[List.length_take] at hj;rw[ht j (by omega),Nat.zero_add];exact hr.cell (by omega)⟩)
      (by rw [Nat.zero_add]; exact hr.cell (by omega)) (fun j => by
        by_cases hj:j<n
        · rw[ht j hj];exact T j
        · have:nth (l.take n) j=0:=by simp[nth,List.getElem?_eq_none (show (l.take n).length<=j by rw[List.length_take];omega)]
          rw[this];unfold In64;decide) (T n)
    rw[<-e] at h
    exact h
def lnI (g:Int)(t:Bool)(U V:Nat->Int)(L:Nat):List Int:=(List.range L).map fun k=>tcV g t (U k) (V k)
def lnX (f g:Int)(t:Bool)(U V:Nat->Int)(L:Nat):Int:=if ((List.range L).all fun k=>tcE g t (U k) (V k) == 0)=true then fdE f (lnI g t U V L) else 6
def InP (f g:Int)(t:Bool)(U V:Nat->Int)(B L:Nat)(w:World)(e:Ending)(w':World):Prop:=
 ∃ v,e=.returned (.tuple #[.int .i64 v,errV (lnX f g t U V L)])/\(lnX f g t U V L=0->v=fdV f (lnI g t U V L))/\w.grownBy w' (some B)/\∃ xs,Rw13 w' B L xs
theorem lnI_eq {g:Int}{t:Bool}{U V:Nat->Int}{L:Nat}{xs:List Int}(hl:xs.length=L)(h:∀ j,j<L->nth xs j=tcV g t (U j) (V j)):xs=lnI g t U V L:=by
 refine nth_ext (by simp[lnI,hl]) fun j hj=>?_
 rw[h j (by omega)]
 simp[lnI,nth,show j<L by omega]
theorem lnX_six {f g:Int}{t:Bool}{U V:Nat->Int}{L k:Nat}(hk:k<L)(h:tcE g t (U k) (V k)≠0):lnX f g t U V L=6:=by
 unfold lnX
 rw[if_neg]
 intro hh
 have:=List.all_eq_true.1 hh k (List.mem_range.2 hk)
 exact h (by simpa using this)
theorem lnX_all {f g:Int}{t:Bool}{U V:Nat->Int}{L:Nat}(h:∀ j,j<L->tcE g t (U j) (V j)=0):lnX f g t U V L=fdE f (lnI g t U V L):=by
 unfold lnX
 rw[if_pos]
 exact List.all_eq_true.2 fun k hk=>by simpa using h k (List.mem_range.1 hk)
theorem lnI_64 {g:Int}{t:Bool}{U V:Nat->Int}{L:Nat}(hU:∀ k,In64 (U k))(hV:∀ k,In64 (V k))(j:Nat):In64 (nth (lnI g t U V L) j):=by
 by_cases hj:j<L
 ·have:nth (lnI g t U V L) j=tcV g t (U j) (V j):=by simp[lnI,nth,hj]
  rw[this]
  exact tcV_64 (hU j) (hV j)
 ·have:nth (lnI g t U V L) j=0:=by simp[lnI,nth,hj]
  rw[this];unfold In64;decide
theorem inner1_any (f g:Int)(t:Bool)(hg:¬ (g<1\/16<g))(p L A N M:Nat)(hA:0<A)(hA4:A<=4096)(hp4:p<=4096)(hL4:L<=4096)(hN4:N<=4096)(hM4:M<=4096)(b1 b2 b3 b4 b5 b6 b7 B n0 m:Nat)(v:Value)(da:Option Addr)(dc:Nat)(dz:List Int)(da':Option Addr)(dc':Nat)(dz':List Int)(hN:dz.length=N)(hM:dz'.length=M)(hin:∀ k,k<L->p/A*L+k<N/\p%A+k*A<M)(T:∀ j,In64 (nth dz j))(T':∀ j,In64 (nth dz' j))(w:World)
  (k1:w.cell? ⟨b1,0,none⟩=some (.int .i64 (A:Nat)))(k2:w.cell? ⟨b2,0,none⟩=some (.int .i64 (L:Nat)))(k3:w.cell? ⟨b3,0,none⟩=some (.slice (some ⟨B,0,none⟩) L L))(k4:w.cell? ⟨b4,0,none⟩=some v)(k5:w.cell? ⟨b5,2,none⟩=some (.slice da N dc))(k6:w.cell? ⟨b6,2,none⟩=some (.slice da' M dc'))(k7:w.cell? ⟨b7,0,none⟩=some (.int .i64 f))
  (n1:b1≠B)(n2:b2≠B)(n3:b3≠B)(n4:b4≠B)(n5:b5≠B)(n6:b6≠B)(n7:b7≠B)(F:PairF n0 w v g t)(hn0:n0<=B)(hmB:m<=B)(hmw:m<=w.heap.size)(hd:IsInts m w da dz)(hd':IsInts m w da' dz')(xs:List Int)(hr:Rw13 w B L xs):
  Calls Tryz.prog 223 #[.int .i64 (p:Nat),.pointer (some ⟨b1,0,none⟩),.pointer (some ⟨b2,0,none⟩),.pointer (some ⟨b3,0,none⟩),.pointer (some ⟨b4,0,none⟩),.pointer (some ⟨b5,0,none⟩),.pointer (some ⟨b6,0,none⟩),.pointer (some ⟨b7,0,none⟩)] w (InP f g t (fun k=>nth dz (p/A*L+k)) (fun k=>nth dz' (p%A+k*A)) B L w):=by
 obtain⟨kf,d,rfl⟩:=F.fn
 obtain⟨q,hq⟩:∃ q,q=p/A:=⟨_,rfl⟩
 obtain⟨r,hre⟩:∃ r,r=p%A:=⟨_,rfl⟩
 have d1:(p:Int)/(A:Int)=(q:Int):=by rw[hq];simp
 have d2:(p:Int).tmod (A:Int)=(r:Int):=by rw[Int.tmod_eq_emod_of_nonneg (by omega),hre];simp
 have hqp:q<=p:=by rw[hq];exact Nat.div_le_self _ _
 have hrA:r<A:=by rw[hre];exact Nat.mod_lt _ hA
 rw[<-hq,<-hre] at hin ⊢
 obtain⟨l,hl⟩:∃ l,l=q*L:=⟨_,rfl⟩
 rw[<-hl] at hin ⊢
 have hl16:l<=4096*4096:=by rw[hl];exact Nat.mul_le_mul (by omega) hL4
 have d3:IntKind.i64.wrap (q:Int)=(q:Int):=IntWalk.i64_in _ (by omega)
 have d5:IntKind.i64.wrap ((q:Int)*(L:Int))=(l:Int):=by rw[hl,<-Int.natCast_mul];exact IntWalk.i64_in _ (by rw[<-hl];omega)
 have hA0:¬ A=0:=by omega
 obtain⟨U,hU⟩:∃ U:Nat->Int,U=fun k=>nth dz (l+k):=⟨_,rfl⟩
 obtain⟨V,hV⟩:∃ V:Nat->Int,V=fun k=>nth dz' (r+k*A):=⟨_,rfl⟩
 rw[<-hU,<-hV]
 have HT:Hid ((∀ k,In64 (U k))/\∀ k,In64 (V k)):=⟨fun k=>by rw[hU];exact T _,fun k=>by rw[hV];exact T' _⟩
 have HI:Hid (IsInts m w da dz/\IsInts m w da' dz'/\PairF n0 w (.func (.func kf) #[] #[.pointer (some ⟨d,0,none⟩)]) g t/\Rw13 w B L xs):=⟨hd,hd',F,hr⟩
 have HU:Hid ((∀ k,U k=nth dz (l+k))/\(∀ k,V k=nth dz' (r+k*A))/\(∀ k,k<L->l+k<N/\r+k*A<M)/\dz.length=N/\dz'.length=M):=⟨fun k=>by rw[hU],fun k=>by rw[hV],hin,hN,hM⟩
 have HG:Hid (¬ (g<1\/16<g)):=hg
 have HC:Hid ((w.cell? ⟨b1,0,none⟩=some (.int .i64 (A:Nat))/\b1≠B)/\(w.cell? ⟨b3,0,none⟩=some (.slice (some ⟨B,0,none⟩) L L)/\b3≠B)/\(w.cell? ⟨b4,0,none⟩=some (.func (.func kf) #[] #[.pointer (some ⟨d,0,none⟩)])/\b4≠B)/\(w.cell? ⟨b5,2,none⟩=some (.slice da N dc)/\b5≠B)/\(w.cell? ⟨b6,2,none⟩=some (.slice da' M dc')/\b6≠B)/\(w.cell? ⟨b7,0,none⟩=some (.int .i64 f)/\b7≠B)):=⟨⟨k1,n1⟩,⟨k3,n3⟩,⟨k4,n4⟩,⟨k5,n5⟩,⟨k6,n6⟩,k7,n7⟩
 have HM:Hid (m<=B/\m<=w.heap.size/\n0<=B):=⟨hmB,hmw,hn0⟩
 clear hq hre hl hU hV hd hd' F hr hin hN hM T T' hg n1 n2 n3 n4 n5 n6 n7 k4 k5 k6 k7 hmB hmw hn0
 go_enter Tryz.func223,Tryz.ntmps223
 go_wp2_with fail
 refine bT 9 (fun w'=>w'.cell? ⟨b1,0,none⟩=some (.int .i64 (A:Nat))/\w'.cell? ⟨b2,0,none⟩=some (.int .i64 (L:Nat))) 10 (⟨k1,k2⟩) fun hq0=>?_
 refine pT 0 hq0 ?_;refine lT 1 hq0 ?_;refine pT 2 hq0 ?_;refine lT 3 hq0 ?_;refine pT 4 hq0 ?_;refine pT 5 hq0 ?_;refine lT 6 hq0 ?_;refine pT 7 hq0 ?_
 clear hq0
 refine oT 8 fun K hK=>?_
 go_simp
 refine hK.out _ _ (fun _=>⟨k1,k2⟩) ?_
 clear hK K
 refine oT 9 fun K hK=>?_
 go_simp
 refine hK.out _ _ (fun h=>absurd h (by decide)) ?_
 clear hK K
 refine dT ?_
 clear d1 d2 d3 d5
 have k3:w.drew.cell? ⟨b3,0,none⟩=some (.slice (some ⟨B,0,none⟩) L L):=HC.2.1.1
 go_wp2_with fail
 clear k1 k2 k3
 go_loopw [26] (fun i wr=>∃ (k:Nat) (ys:List Int),k<=L/\i=.int .i64 k/\Hid (∀ j,j<k->tcE g t (U j) (V j)=0)/\Hid (∀ j,j<k->nth ys j=tcV g t (U j) (V j))/\Hid (Rw13 wr B L ys)/\Hid (w.grownBy wr (some B))) (fun i _=>L-(intOf i).toNat)
 case atStart=>exact⟨0,xs,Nat.zero_le _,rfl,fun j hj=>absurd hj (by omega),fun j hj=>absurd hj (by omega),HI.2.2.2,gb_drew (gb_refl _ _)⟩
 case round=>
  obtain⟨k,ys,hk,rfl,HZ,HY,HR,HB⟩:=hrel
  by_cases hlt:k<L
  ·obtain⟨hi1,hi2⟩:=HU.2.2.1 k hlt
   have hkA:k*A<=4096*4096:=Nat.mul_le_mul (by omega) hA4
   obtain⟨i1,hi1e⟩:∃ i1,i1=l+k:=⟨_,rfl⟩
   obtain⟨i2,hi2e⟩:∃ i2,i2=r+k*A:=⟨_,rfl⟩
   rw[<-hi1e] at hi1
   rw[<-hi2e] at hi2
   have hw1:IntKind.i64.wrap ((l:Int)+(k:Int))=(i1:Int):=by rw[hi1e,<-Int.natCast_add];exact IntWalk.i64_in _ (by omega)
   have hw2:IntKind.i64.wrap ((r:Int)+IntKind.i64.wrap ((k:Int)*(A:Int)))=(i2:Int):=by
    rw[<-Int.natCast_mul,IntWalk.i64_in ((k*A:Nat):Int) (by omega),<-Int.natCast_add,<-hi2e];exact IntWalk.i64_in _ (by omega)
   obtain⟨bd,od,rfl,hbd,hcD⟩:=(gb_ints HB.out HI.1 HM.1 HM.2.1).at (q:=i1) (by rw[HU.2.2.2.1];exact hi1)
   obtain⟨bd',od',rfl,hbd',hcD'⟩:=(gb_ints HB.out HI.2.1 HM.1 HM.2.1).at (q:=i2) (by rw[HU.2.2.2.2];exact hi2)
   have c0:=hcD i1 (by rw[HU.2.2.2.1];exact hi1)
   have c1:=hcD' i2 (by rw[HU.2.2.2.2];exact hi2)
   rw[hi1e,<-HU.1 k,<-hi1e] at c0
   rw[hi2e,<-HU.2.1 k,<-hi2e] at c1
   obtain⟨x,hx⟩:∃ x,x=U k:=⟨_,rfl⟩
   obtain⟨y,hy⟩:∃ y,y=V k:=⟨_,rfl⟩
   rw[<-hx] at c0
   rw[<-hy] at c1
   have HXY:Hid (x=U k/\y=V k):=⟨hx,hy⟩
   have k1:=gb_cell HB.out HC.1.1 HC.1.2
   have k4:=gb_cell HB.out HC.2.2.1.1 HC.2.2.1.2
   have k5:=gb_cell HB.out HC.2.2.2.1.1 HC.2.2.2.1.2
   have k6:=gb_cell HB.out HC.2.2.2.2.1.1 HC.2.2.2.2.1.2
   obtain⟨kf',d',o,_,ev,e1,xd,H1⟩:=HI.2.2.1.grown HB.out HM.2.2
   have hfe:kf=kf'/\d=d':=by
    injection ev with e2 e3 e4
    injection e2 with e5
    simp at e4
    exact⟨e5,e4⟩
   obtain⟨rfl,rfl⟩:=hfe
   have HX:Hid (wr.heap[d]?=some o/\∀ w',w'.heap[d]?=some o->Calls Tryz.prog kf #[.int .i64 x,.int .i64 y,.pointer (some ⟨d,0,none⟩)] w' fun e w''=>e=.returned (.tuple #[.int .i64 (tcV g t x y),errV (tcE g t x y)])/\Below w'.heap.size w' w''):=⟨xd,H1 x y (by rw[hx];exact HT.1 k) (by rw[hy];exact HT.2 k)⟩
   clear hcD hcD' hx hy ev xd H1 hi1e hi2e
   go_wp2_with fail
   refine bT 21 (fun w'=>w'.cell? ⟨b4,0,none⟩=some (.func (.func kf) #[] #[.pointer (some ⟨d,0,none⟩)])/\w'.cell? ⟨b5,2,none⟩=some (.slice (some ⟨bd,od,none⟩) N dc)/\w'.cell? ⟨b6,2,none⟩=some (.slice (some ⟨bd',od',none⟩) M dc')/\w'.cell? ⟨b1,0,none⟩=some (.int .i64 (A:Nat))/\w'.cell? ⟨bd,od+i1,none⟩=some (.int .i64 x)/\w'.cell? ⟨bd',od'+i2,none⟩=some (.int .i64 y)) 23 (⟨k4,k5,k6,k1,c0,c1⟩) fun hq11=>?_
   refine lT 0 hq11 ?_;refine pT 1 hq11 ?_;refine lT 2 hq11 ?_;refine pT 3 hq11 ?_;refine pT 4 hq11 ?_;refine pT 5 hq11 ?_;refine pT 6 hq11 ?_;refine lT 7 hq11 ?_
   refine pT 8 hq11 ?_;refine lT 9 hq11 ?_;refine pT 10 hq11 ?_;refine pT 11 hq11 ?_;refine lT 12 hq11 ?_;refine pT 13 hq11 ?_;refine pT 14 hq11 ?_;refine pT 15 hq11 ?_
   refine lT 16 hq11 ?_
   clear hq11
   refine oT 17 fun K hK=>?_
   go_simp
   go_wp2_with fail
   refine (HX.2 wr.drew HX.1).mono ?_
   rintro e w2 ⟨rfl,hB2⟩
   have HB2:Hid (Below wr.heap.size wr w2):=(Below.refl _ wr).drew.trans hB2
   clear hB2
   refine hK.out _ _ (fun _=>⟨cell_to k4 HB2.out,cell_to k5 HB2.out,cell_to k6 HB2.out,cell_to k1 HB2.out,cell_to c0 HB2.out,cell_to c1 HB2.out⟩) ?_
   clear hK K
   refine pT 18 (⟨cell_to k4 HB2.out,cell_to k5 HB2.out,cell_to k6 HB2.out,cell_to k1 HB2.out,cell_to c0 HB2.out,cell_to c1 HB2.out⟩) ?_
   refine pT 19 (⟨cell_to k4 HB2.out,cell_to k5 HB2.out,cell_to k6 HB2.out,cell_to k1 HB2.out,cell_to c0 HB2.out,cell_to c1 HB2.out⟩) ?_
   refine pT 20 (⟨cell_to k4 HB2.out,cell_to k5 HB2.out,cell_to k6 HB2.out,cell_to k1 HB2.out,cell_to c0 HB2.out,cell_to c1 HB2.out⟩) ?_
   refine oT 21 fun K hK=>?_
   go_simp
   refine hK.out _ _ (fun h=>absurd h (by decide)) ?_
   clear hK K
   refine oT 22 fun K hK=>?_
   go_simp
   refine hK.out _ _ (fun h=>absurd h (by decide)) ?_
   clear hK K
   refine dT ?_
   clear k1 k4 k5 k6 c0 c1 hw1 hw2
   have k3:=cell_to (gb_cell HB.out HC.2.1.1 HC.2.1.2) HB2.out
   replace HR:Hid (Rw13 w2 B L ys):=HR.go HB2.out
   replace HB:Hid (w.grownBy w2 (some B)):=gb_go HB.out HB2.out
   by_cases he:tcE g t x y=0
   ·have HE:Hid (tcE g t (U k) (V k)=0/\tcV g t x y=tcV g t (U k) (V k)):=⟨by rw[<-HXY.1,<-HXY.2];exact he,by rw[HXY.1,HXY.2]⟩
    rw[he,errV_zero]
    have c2:=HR.2.cell hlt
    have f2:=HR.2.frozen k
    clear he
    go_wp2_with fail
    refine⟨⟨k+1,ys.set k (tcV g t x y),by omega,by go_num,all13 HZ.out HE.1,fun j hj=>?_,HR.put hlt _,gb_set HB.out _ _⟩,by simp[intOf];omega⟩
    rw[nth_set _ _ _ _ (by rw[HR.1];omega)]
    by_cases e:j=k
    ·rw[if_pos e,e];exact HE.2
    ·rw[if_neg e];exact HY.out j (by omega)
   ·have h6:tcE g t x y=6:=(tcE_cell HG.out t x y).resolve_left he
    have HE:Hid (lnX f g t U V L=6):=lnX_six hlt (by rw[<-HXY.1,<-HXY.2];exact he)
    rw[h6,show errV 6=.iface 28 (.int .i64 6) from rfl]
    clear he h6
    go_wp2_with fail
    go_ret2
    exact⟨0,by rw[HE.out];rfl,fun h=>absurd (HE.symm.trans h) (by decide),HB.out,ys,HR.out⟩
  ·obtain rfl:k=L:=by omega
   have HL:Hid (ys=lnI g t U V k):=lnI_eq HR.1 HY.out
   have HX:Hid (lnX f g t U V k=fdE f (lnI g t U V k)):=lnX_all HZ.out
   have k3:=gb_cell HB.out HC.2.1.1 HC.2.1.2
   have k7:=gb_cell HB.out HC.2.2.2.2.2.1 HC.2.2.2.2.2.2
   have hfd:=ffold_all f B ys k k hL4 (Nat.le_refl _) wr (fun j=>by rw[HL.out];exact lnI_64 HT.1 HT.2 j) HR.out
   go_wp2_with fail
   refine hfd.mono ?_
   rintro e w2 ⟨v,rfl,hv,hB2⟩
   have HV:Hid ((fdE f ys=0->v=fdV f ys)/\Below wr.heap.size wr w2):=⟨hv,hB2⟩
   clear hv hB2 hfd k3 k7
   go_wp2_with fail
   go_ret2
   exact⟨v,by rw[HX.out,<-HL.out];rfl,fun h=>by rw[HX.out,<-HL.out] at h;rw[<-HL.out];exact HV.1 h,gb_go HB.out HV.2,ys,HR.go HV.2⟩
end Go.Proofs.YtkmmkcpfhnifhaaGreatDoor
namespace Go.Proofs.YtkmmkcpfhnifhaaGreatDoor
open Go.RowKit
theorem ni_pc {f g:Int}{c:Bool}{sz dz:List Int}{c':Bool}{sz' dz':List Int}(h:pcE [f,g] c sz dz c' sz' dz'≠0):inE f g c sz dz c' sz' dz'=pcE [f,g] c sz dz c' sz' dz':=by
 unfold pcE at *
 unfold inE
 by_cases hf:(f<1\/16<f)\/g<1\/16<g
 ·have hb:pcB [f,g]=false:=by
   rcases hf with h | h
   ·exact pcB_bad (k:=0) (by simp) (by show ¬ (1<=f/\f<=16);omega)
   ·exact pcB_bad (k:=1) (by simp) (by show ¬ (1<=g/\g<=16);omega)
  rw[if_pos hf,if_neg (by rw[hb];decide)]
 ·have hg:pcB [f,g]=true:=pcB_good fun j hj=>by
   have:j=0\/j=1:=by simp at hj;omega
   rcases this with rfl | rfl
   ·show 1<=f/\f<=16;omega
   ·show 1<=g/\g<=16;omega
  rw[if_pos hg] at h ⊢
  rw[if_neg hf,if_pos h]
theorem ni_pc0 {f g:Int}{c:Bool}{sz dz:List Int}{c':Bool}{sz' dz':List Int}(h:pcE [f,g] c sz dz c' sz' dz'=0):¬ ((f<1\/16<f)\/g<1\/16<g)/\flawsE c sz dz c' sz' dz'=0:=by
 unfold pcE at h
 by_cases hg:pcB [f,g]=true
 ·rw[if_pos hg] at h
  refine⟨fun hf=>?_,h⟩
  have hb:pcB [f,g]=false:=by
   rcases hf with h | h
   ·exact pcB_bad (k:=0) (by simp) (by show ¬ (1<=f/\f<=16);omega)
   ·exact pcB_bad (k:=1) (by simp) (by show ¬ (1<=g/\g<=16);omega)
  rw[hb] at hg
  exact absurd hg (by decide)
 ·rw[if_neg hg] at h
  exact absurd h (by decide)
theorem is_take13 {n:Nat}{w:World}{b off:Nat}{zs:List Int}(h:IsInts n w (some ⟨b,off,none⟩) zs)(k:Nat):IsInts n w (some ⟨b,off,none⟩) (zs.take k):=by
 by_cases h0:(zs.take k).length=0
 ·exact .inl (List.eq_nil_of_length_eq_zero h0)
 ·have hz:0<zs.length:=by rw[List.length_take] at h0;omega
  obtain⟨b',off',e,hb,hc⟩:=h.at (q:=0) hz
  cases e
  refine .inr ⟨b,off,rfl,hb,fun j hj=>?_⟩
  rw[List.length_take] at hj
  rw[hc j (by omega)]
  unfold nth
  rw[List.getD_eq_getElem?_getD,List.getD_eq_getElem?_getD,List.getElem?_take_of_lt (by omega)]
theorem is_tail13 {n:Nat}{w:World}{b off:Nat}{zs:List Int}(h:IsInts n w (some ⟨b,off,none⟩) zs){cap:Nat}(hc:zs.length<=cap)(h0:zs.length≠0):IsInts n w (if cap=1 then some ⟨b,off,none⟩ else some ⟨b,off+1,none⟩) (zs.drop 1):=by
 by_cases h1:zs.length=1
 ·exact .inl (List.eq_nil_of_length_eq_zero (by rw[List.length_drop];omega))
 ·rw[if_neg (by omega)]
  obtain⟨b',off',e,hb,hcl⟩:=h.at (q:=0) (by omega)
  cases e
  refine .inr ⟨b,off+1,rfl,hb,fun j hj=>?_⟩
  rw[List.length_drop] at hj
  rw[show off+1+j=off+(1+j) by omega,hcl (1+j) (by omega)]
  simp[nth,Nat.add_comm]
theorem mid_gb {w w':World}{lo hi r:Nat}{a:Option Addr}{zs:List Int}{c:Nat}(h:MidC lo hi w a zs c)(hh:hi<=w.heap.size)(hg:w.grownBy w' (some r))(hr:hi<=r):MidC lo hi w' a zs c:=by
 refine⟨?_,h.2⟩
 rcases h.1 with e | ⟨b,o,e,h0,h1,h2,h3⟩
 ·exact .inl e
 ·have hbk:=hg.block b (by omega) (fun e=>by have:=Option.some.inj e;omega)
  exact .inr ⟨b,o,e,h0,h1,fun j hj=>(World.cell?_of_block (a:=⟨b,o+j,none⟩) hbk).trans (h2 j hj),fun j=>(World.frozen?_of_block (a:=⟨b,o+j,none⟩) hbk).trans (h3 j)⟩
theorem abx_gb {w w':World}{b r:Nat}{x y z:Value}(h:Abx w b x y z)(hg:w.grownBy w' (some r))(hne:b≠r):Abx w' b x y z:=h.of (hg.block b h.lt (fun e=>hne (Option.some.inj e)))
theorem ni_E {f g:Int}{c:Bool}{sz dz:List Int}{c':Bool}{sz' dz':List Int}(h1:¬ ((f<1\/16<f)\/g<1\/16<g))(h2:flawsE c sz dz c' sz' dz'=0)(h3:sz.length≠0)(h4:sz'.length≠0)(h5:inN sz=nth sz' 0):
  inE f g c sz dz c' sz' dz'=if errOf (inS sz sz')≠0 then errOf (inS sz sz') else if (c=true\/c'=true)/\g≠8/\g≠9 then 6 else if inN sz=0/\neutE f≠0 then neutE f else if okT (inS sz sz') (inX f g c sz dz c' sz' dz')=true then 0 else 6:=by
 unfold inE
 rw[if_neg h1,if_neg (not_not_intro h2),if_neg (by omega),if_neg (not_not_intro h5)]
theorem ni_at {f g:Int}{c:Bool}{s dz:List Int}{c':Bool}{s' dz':List Int}(hs:s.length≠0)(hs':s'.length≠0)(hn:inN s=nth s' 0)(he:errOf (inS s s')=0){p L A:Nat}(hL:(L:Int)=inN s)(hA:(A:Int)=prod (s'.drop 1))(hp:(p:Int)<prod (inS s s')):
  inL g c s dz c' s' dz' (cr (inS s s') p)=lnI g (c == c') (fun k=>nth dz (p/A*L+k)) (fun k=>nth dz' (p%A+k*A)) L/\inX f g c s dz c' s' dz' (cr (inS s s') p)=lnX f g (c == c') (fun k=>nth dz (p/A*L+k)) (fun k=>nth dz' (p%A+k*A)) L:=by
 obtain⟨_,h⟩:=in_at (dz:=dz) (dz':=dz') hs hs' hn he hL hA hp
 have eL:(inN s).toNat=L:=by omega
 have e1:inL g c s dz c' s' dz' (cr (inS s s') p)=lnI g (c == c') (fun k=>nth dz (p/A*L+k)) (fun k=>nth dz' (p%A+k*A)) L:=by
  unfold inL lnI
  rw[eL]
  exact List.map_congr_left fun k _=>by rw[(h k).1,(h k).2.1]
 refine⟨e1,?_⟩
 unfold inX lnX
 rw[e1]
 have e2:inO g c s dz c' s' dz' (cr (inS s s') p)=(List.range L).all fun k=>tcE g (c == c') (nth dz (p/A*L+k)) (nth dz' (p%A+k*A)) == 0:=by
  unfold inO
  rw[eL]
  congr 1
  funext k
  rw[(h k).1,(h k).2.1]
 rw[e2]
def bk:Value->Nat
 | .slice (some a) _ _=>a.block
 | .pointer (some a)=>a.block
 | _=>0
def St18 (w0:World)(L:Nat)(A:Int)(x1 x4 y5 y6:Bool)(v88 v91 v18 v19:Value)(w:World):Prop:=
 Below w0.heap.size w0 w/\(x1=true->∃ B,v88=.slice (some ⟨B,0,none⟩) L L/\w0.heap.size<=B/\Rw13 w B L (List.replicate L 0))/\(x4=true->v91=.int .i64 A)/\(y5=true->∃ b,v18=.pointer (some ⟨b,0,none⟩)/\w0.heap.size<=b/\Boxed w b 25 (.slice none 0 0))/\(y6=true->∃ b,v19=.pointer (some ⟨b,0,none⟩)/\w0.heap.size<=b/\Boxed w b 3 (.int .i64 0)) ∧
 (x1=true->y5=true->bk v88≠bk v18)/\(x1=true->y6=true->bk v88≠bk v19)/\(y5=true->y6=true->bk v18≠bk v19)
section
variable {w0 w w' : World} {L : Nat} {A : Int} {x1 x4 y5 y6 : Bool} {v88 v91 v18 v19 : Value}
theorem St18.go (h:St18 w0 L A x1 x4 y5 y6 v88 v91 v18 v19 w)(hB:Below w.heap.size w w'):St18 w0 L A x1 x4 y5 y6 v88 v91 v18 v19 w':=by
 obtain⟨a1,a2,a3,a4,a5,a6⟩:=h
 exact⟨a1.trans (hB.mono a1.size),fun e=>by obtain⟨B,e1,e2,e3⟩:=a2 e;exact⟨B,e1,e2,e3.go hB⟩,a3,fun e=>by obtain⟨b,e1,e2,e3⟩:=a4 e;exact⟨b,e1,e2,blk_to e3 hB⟩,fun e=>by obtain⟨b,e1,e2,e3⟩:=a5 e;exact⟨b,e1,e2,blk_to e3 hB⟩,a6⟩
theorem St18.l88 (h:St18 w0 L A x1 x4 y5 y6 v88 v91 v18 v19 w)(e:x1=true):bk v88<w.heap.size:=by obtain⟨B,rfl,_,h3⟩:=h.2.1 e;exact h3.2.lt
theorem St18.l18 (h:St18 w0 L A x1 x4 y5 y6 v88 v91 v18 v19 w)(e:y5=true):bk v18<w.heap.size:=by obtain⟨b,rfl,_,h3⟩:=h.2.2.2.1 e;exact h3.lt
theorem St18.l19 (h:St18 w0 L A x1 x4 y5 y6 v88 v91 v18 v19 w)(e:y6=true):bk v19<w.heap.size:=by obtain⟨b,rfl,_,h3⟩:=h.2.2.2.2.1 e;exact h3.lt
theorem al13 (w:World)(o:Obj):Below w.heap.size w (w.alloc o):=(Below.refl _ w).alloc (Nat.le_refl _) o
theorem zeros13 (w:World)(L:Nat)(t:TypeId)(ht:t=3):Rw13 (w.alloc (.cells (madeCells #[.int .i64 0] L) t)) w.heap.size L (List.replicate L 0):=by
 subst ht
 refine⟨by simp,(World.rowIs_made w (.int .i64 0) L 3).congr fun j hj=>?_⟩
 rw[nth_replicate]
theorem St18.m1 (h:St18 w0 L A false x4 y5 y6 v88 v91 v18 v19 w):St18 w0 L A true x4 y5 y6 (.slice (some ⟨w.heap.size,0,none⟩) L L) v91 v18 v19 (w.alloc (.cells (madeCells #[.int .i64 0] L) 3)):=by
 obtain⟨a1,a2,a3,a4,a5,a6,a7,a8⟩:=h.go (al13 w (.cells (madeCells #[.int .i64 0] L) 3))
 exact⟨a1,fun _=>⟨w.heap.size,rfl,h.1.size,zeros13 w L _ rfl⟩,a3,a4,a5,fun _ e=>by have:=h.l18 e;show w.heap.size≠_;omega,fun _ e=>by have:=h.l19 e;show w.heap.size≠_;omega,a8⟩
theorem St18.m4 (h:St18 w0 L A x1 false y5 y6 v88 v91 v18 v19 w):St18 w0 L A x1 true y5 y6 v88 (.int .i64 A) v18 v19 w:=by
 obtain⟨a1,a2,a3,a4,a5,a6⟩:=h
 exact⟨a1,a2,fun _=>rfl,a4,a5,a6⟩
theorem St18.m5 (h:St18 w0 L A x1 x4 false y6 v88 v91 v18 v19 w):St18 w0 L A x1 x4 true y6 v88 v91 (.pointer (some ⟨w.heap.size,0,none⟩)) v19 (w.alloc (.cells #[.slice none 0 0] 25)):=by
 obtain⟨a1,a2,a3,a4,a5,a6,a7,a8⟩:=h.go (al13 w (.cells #[.slice none 0 0] 25))
 exact⟨a1,a2,a3,fun _=>⟨w.heap.size,rfl,h.1.size,Boxed.new _ _ _⟩,a5,fun e _=>by have:=h.l88 e;show _≠w.heap.size;omega,a7,fun _ e=>by have:=h.l19 e;show w.heap.size≠_;omega⟩
theorem St18.m6 (h:St18 w0 L A x1 x4 y5 false v88 v91 v18 v19 w):St18 w0 L A x1 x4 y5 true v88 v91 v18 (.pointer (some ⟨w.heap.size,0,none⟩)) (w.alloc (.cells #[.int .i64 0] 3)):=by
 obtain⟨a1,a2,a3,a4,a5,a6,a7,a8⟩:=h.go (al13 w (.cells #[.int .i64 0] 3))
 exact⟨a1,a2,a3,a4,fun _=>⟨w.heap.size,rfl,h.1.size,Boxed.new _ _ _⟩,a6,fun e _=>by have:=h.l88 e;show _≠w.heap.size;omega,fun e _=>by have:=h.l18 e;show _≠w.heap.size;omega⟩
end
end Go.Proofs.YtkmmkcpfhnifhaaGreatDoor
