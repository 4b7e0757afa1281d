/- What the program tells, in part. -/
import Derived.Test.YtkmmkcpfhnifhaaGreatDoorJ33
set_option linter.unusedVariables false
set_option maxHeartbeats 8000000
set_option maxRecDepth 100000
namespace Go.Proofs.YtkmmkcpfhnifhaaGreatDoor
open Go.RowKit
theorem ub12_no {e:Int}{S D:List Int}{w w':World}{e':Int}(h:e=e')(h0:e'≠0)(hB:Below w.heap.size w w'):UB e false (onl e S) (onl e D) w (.returned (.tuple #[.agg #[.bool false,.slice none 0 0,.slice none 0 0],.iface 28 (.int .i64 e')])) w':=by
 subst h
 rw[onl_no h0,onl_no h0]
 exact⟨none,0,none,0,by rw[errV_pos h0];rfl,⟨.inl rfl,Nat.le_refl _⟩,⟨.inl rfl,Nat.le_refl _⟩,hB⟩
theorem ub12_ok {e:Int}{S D:List Int}{w w':World}{xa:Option Addr}{xc:Nat}{ya:Option Addr}{yc n m:Nat}(h:e=0)(hn:S.length=n)(hm:D.length=m)(hX:NewC w.heap.size w' xa S xc)(hY:NewC w.heap.size w' ya D yc)(hB:Below w.heap.size w w'):
  UB e false (onl e S) (onl e D) w (.returned (.tuple #[.agg #[.bool false,.slice xa n xc,.slice ya m yc],.nilIface])) w':=by
 subst h hn hm
 exact⟨xa,xc,ya,yc,rfl,hX,hY,hB⟩
def UBr (e:Int)(S D:List Int)(w:World)(r:Ending)(w':World):Prop:=
 ∃ xa xc ya yc mid,r=.returned (.tuple #[.agg #[.bool false,.slice xa S.length xc,.slice ya D.length yc],errV e])/\MidC w.heap.size mid w' xa S xc/\NewC mid w' ya D yc/\(w.heap.size<=mid/\mid<=w'.heap.size)/\xc<=9223372036854775807/\Below w.heap.size w w'
theorem UBr.ub {e:Int}{S D:List Int}{w w':World}{r:Ending}:UBr e S D w r w'->UB e false S D w r w'
 | ⟨xa,xc,ya,yc,mid,e,hX,hY,hm,_,hB⟩=>⟨xa,xc,ya,yc,e,⟨hX.1.new hm.2,hX.2⟩,hY.low hm.1,hB⟩
theorem ubr_no {e:Int}{S D:List Int}{w w':World}{e':Int}(h:e=e')(h0:e'≠0)(hB:Below w.heap.size w w'):UBr e (onl e S) (onl e D) w (.returned (.tuple #[.agg #[.bool false,.slice none 0 0,.slice none 0 0],.iface 28 (.int .i64 e')])) w':=by
 subst h
 rw[onl_no h0,onl_no h0]
 exact⟨none,0,none,0,w.heap.size,by rw[errV_pos h0];rfl,⟨.inl rfl,Nat.le_refl _⟩,⟨.inl rfl,Nat.le_refl _⟩,⟨Nat.le_refl _,hB.size⟩,by decide,hB⟩
theorem ubr_ok {e:Int}{S D:List Int}{w w':World}{xa:Option Addr}{xc:Nat}{ya:Option Addr}{yc n m mid:Nat}(h:e=0)(hn:S.length=n)(hm:D.length=m)(hX:MidC w.heap.size mid w' xa S xc)(hY:NewC mid w' ya D yc)(hmd:w.heap.size<=mid/\mid<=w'.heap.size)(hc:xc<=9223372036854775807)(hB:Below w.heap.size w w'):
  UBr e (onl e S) (onl e D) w (.returned (.tuple #[.agg #[.bool false,.slice xa n xc,.slice ya m yc],.nilIface])) w':=by
 subst h hn hm
 exact⟨xa,xc,ya,yc,mid,rfl,hX,hY,hmd,hc,hB⟩
theorem MidC.lo12 {lo lo' hi:Nat}{W:World}{a:Option Addr}{zs:List Int}{cap:Nat}(h:MidC lo hi W a zs cap)(hl:lo'<=lo):MidC lo' hi W a zs cap:=⟨h.1.low hl,h.2⟩
section
variable (f : Int) (sz dz : List Int) (x m : Nat) (a b : Nat → Nat)
def rnG (t:List Int):List Int:=run (rdL sz dz x (xout x t)) (a (nth t x).toNat) (b (nth t x).toNat)
def rnE:Int:=if errOf (sz.set x m)≠0 then errOf (sz.set x m) else if okT (sz.set x m) (fun t=>fdE f (rnG sz dz x a b t))=true then 0 else 6
def rnD:List Int:=TA (sz.set x m) fun t=>fdV f (rnG sz dz x a b t)
end
theorem rnE_six {f:Int}{sz dz:List Int}{x m:Nat}{a b:Nat->Nat}(he:errOf (sz.set x m)=0){t:List Int}(ht:insB (sz.set x m) t=true)(h:fdE f (rnG sz dz x a b t)≠0):rnE f sz dz x m a b=6:=by
 unfold rnE
 rw[if_neg (not_not_intro he),if_neg fun h2=>h ((okT_iff he).1 h2 t ht)]
theorem rnE_zero {f:Int}{sz dz:List Int}{x m:Nat}{a b:Nat->Nat}(he:errOf (sz.set x m)=0)(h:∀ t,insB (sz.set x m) t=true->fdE f (rnG sz dz x a b t)=0):rnE f sz dz x m a b=0:=by
 unfold rnE
 rw[if_neg (not_not_intro he),if_pos ((okT_iff he).2 h)]
theorem run_snoc {l:List Int}{a b:Nat}(h:a<b)(hb:b<=l.length):run l a b=run l a (b-1)++[nth l (b-1)]:=by
 refine nth_ext (by rw[List.length_append,run_length hb,run_length (by omega),List.length_singleton];omega) fun j hj=>?_
 rw[run_length hb] at hj
 rw[nth_run _ _ _ _ (by omega)]
 by_cases e:j<b-1-a
 ·rw[nth_append_left _ _ _ (by rw[run_length (by omega)];exact e),nth_run _ _ _ _ (by omega)]
 ·rw[nth_app_else _ _ _ (by rw[run_length (by omega)];exact e),run_length (by omega)]
  have e2:j-(b-1-a)=0:=by omega
  rw[e2,show a+j=b-1 by omega]
  rfl
theorem ffold_run (f:Int) (B:Nat) (l:List Int) (L a b d cap:Nat) (hl:l.length=L) (hL:L<=4096) (hab:a<b) (hb:b<=L) (hd:d=b-a) (hc:d<=cap) (w:World) (T:∀ j,In64 (nth l j)) (hr:w.rowIs B 3 L (fun j=>.int .i64 (nth l j))) :
    Calls Tryz.prog 183 #[.int .i64 f,.slice (some ⟨B,a,none⟩) d cap] w (FdP f (run l a b) w):=by
  have h:=ffold_snoc f B a (run l a (b-1)) (nth l (b-1)) (b-1-a) cap (by rw[run_length (by omega)]) (by omega) (by omega) w hr.lt
    (.inr ⟨B,a,rfl,hr.lt,fun j hj=>by rw[run_length (by omega)] at hj;rw[nth_run _ _ _ _ (by omega)];exact hr.cell (by omega)⟩)
    (by rw [show a + (b - 1 - a) = b - 1 by omega]; exact hr.cell (by omega)) (fun j => by
      by_cases h:a+j<b-1
      · rw[nth_run _ _ _ _ h];exact T _
      · have:nth (run l a (b-1)) j=0:=by simp[nth,List.getElem?_eq_none (show (run l a (b-1)).length<=j by rw[run_length (by omega)];omega)]
        rw[this];unfold In64;decide) (T _)
  rw[<-run_snoc hab (by omega),show b-1-a+1=d by omega] at h
  exact h
theorem MidInts.hi_mono {lo hi hi':Nat}{W:World}{a:Option Addr}{zs:List Int}(h:MidInts lo hi W a zs)(hh:hi<=hi'):MidInts lo hi' W a zs:=by
 rcases h with e | ⟨b,o,e,h0,h1,h2⟩
 ·exact .inl e
 ·exact .inr ⟨b,o,e,h0,by omega,h2⟩
theorem row_put12 {wr:World}{B:Nat}{t:TypeId}{n:Nat}{xs:List Int}(h:wr.rowIs B t n (fun j=>.int .i64 (nth xs j)))(hx:xs.length=n){i:Nat}(hi:i<n)(v:Int):(wr.setCell ⟨B,i,none⟩ (.int .i64 v)).rowIs B t n (fun j=>.int .i64 (nth (xs.set i v) j)):=by
 refine (h.set i _).congr fun j hj=>?_
 rw[nth_set _ _ _ _ (by omega)]
 by_cases e:j=i
 ·rw[if_pos e,if_pos e]
 ·rw[if_neg e,if_neg e]
theorem l64n {l:List Int}(h:L64 l)(j:Nat):In64 (nth l j):=by
 by_cases hj:j<l.length
 ·exact h _ (nth_mem l j hj)
 ·have:nth l j=0:=by simp[nth,List.getElem?_eq_none (show l.length<=j by omega)]
  rw[this];unfold In64;decide
theorem rnG_at {sz dz:List Int}{x:Nat}{a b:Nat->Nat}{t:List Int}(h:x<=t.length)(k:Nat):rnG sz dz x a b (xin x k t)=run (rdL sz dz x t) (a k) (b k):=by
 unfold rnG;rw[xout_xin h,xin_at h,Int.toNat_natCast]
theorem row_go12 {w w':World}{b:Nat}{t:TypeId}{n:Nat}{f:Nat->Value}(h:w.rowIs b t n f)(hB:Below w.heap.size w w'):w'.rowIs b t n f:=h.of_block (hB.block b h.lt)
def EnP (a b:Nat)(w:World)(e:Ending)(w':World):Prop:=e=.returned (.tuple #[.int .i64 (a:Nat),.int .i64 (b:Nat)])/\Below w.heap.size w w'
theorem runs_any (f:Int)(x:Nat)(sa:Option Addr)(sc:Nat)(sz:List Int)(da:Option Addr)(dc:Nat)(dz:List Int)(m F:Nat)(cs:List Value)(hE:∀ args w,(callFunc F args).run Tryz.prog w=.ok (.enter F args) w)(a b:Nat->Nat)
  (hf:1<=f/\f<=16)(hfl:flawE false sz dz=0)(hx:x<sz.length)(hm:m<=4096)(T:∀ j,In64 (nth dz j))(hab:∀ k,k<m->(a k<b k\/(a k=0/\b k=0/\nth sz x=0))/\(b k:Int)<=nth sz x)(w:World)(hs:IsC w.heap.size w sa sz sc)(hd:IsInts w.heap.size w da dz)
  (H:∀ k,k<m->∀ w',Below w.heap.size w w'->Calls Tryz.prog F (.int .i64 (k:Nat)::cs).toArray w' (EnP (a k) (b k) w')):
  Calls Tryz.prog 112 #[.int .i64 f,.int .i64 (x:Nat),.agg #[.bool false,.slice sa sz.length sc,.slice da dz.length dc],.int .i64 (m:Nat),.func (.func F) #[] cs.toArray] w (UBr (rnE f sz dz x m a b) (onl (rnE f sz dz x m a b) (sz.set x m)) (onl (rnE f sz dz x m a b) (rnD f sz dz x m a b)) w):=by
 have he:=(flawE_zero hfl).1
 have HI:Hid (IsC w.heap.size w sa sz sc/\IsInts w.heap.size w da dz):=⟨hs,hd⟩
 have HH:Hid (∀ k,k<m->∀ w',Below w.heap.size w w'->Calls Tryz.prog F (.int .i64 (k:Nat)::cs).toArray w' (EnP (a k) (b k) w')):=H
 have HF:Hid ((1<=f/\f<=16)/\errOf sz=0/\(dz.length:Int)=prod sz/\(∀ j,In64 (nth dz j))/\∀ k,k<m->(a k<b k\/(a k=0/\b k=0/\nth sz x=0))/\(b k:Int)<=nth sz x):=⟨hf,he,(flawE_zero hfl).2.1,T,hab⟩
 have hl6:sz.length<=6:=(errOf_zero.1 he).1
 have hb0:Hid (Below w.heap.size w ((w.alloc (.cells #[.bool false,.slice sa sz.length sc,.slice da dz.length dc] 27)).alloc (.cells #[.bool false,.slice none 0 0,.slice none 0 0] 27))):=((Below.refl _ w).alloc (Nat.le_refl _) _).alloc (by simp) _
 have pa:=(Abx.new w (.bool false) (.slice sa sz.length sc) (.slice da dz.length dc)).al (.cells #[.bool false,.slice none 0 0,.slice none 0 0] 27)
 have pr:=Abx.new1 w (.cells #[.bool false,.slice sa sz.length sc,.slice da dz.length dc] 27) (.bool false) (.slice none 0 0) (.slice none 0 0)
 have p0:=pa.c0
 have p1:=pa.c1
 have p2:=pa.c2
 clear hs hd H T hab hfl he hf
 go_enter Tryz.func112,Tryz.ntmps112
 go_wp2_with fail
 refine (clone_cap sa sc sz (by omega) _ ((HI.1.1.below hb0.out).mono hb0.size)).mono ?_
 rintro e v1 ⟨g,gc,rfl,hN,hgc,hB⟩
 have HB1:Hid (Below w.heap.size w v1):=hb0.trans (hB.mono hb0.size)
 have HP:Hid (Abx v1 w.heap.size (.bool false) (.slice sa sz.length sc) (.slice da dz.length dc)):=pa.go hB
 have HR:Hid (Abx v1 (w.heap.size+1) (.bool false) (.slice none 0 0) (.slice none 0 0)):=pr.go hB
 simp only[World.size_alloc] at hN
 have hM:=hN.midc
 obtain⟨bg,og,rfl,hg1,hg2,cg,fg⟩:=hM.at hx
 obtain⟨S,hS⟩:∃ S,S=sz.set x (m:Int):=⟨_,rfl⟩
 have hSl:S.length=sz.length:=by rw[hS,List.length_set]
 have hM2:=hM.put hx (m:Int)
 rw[<-hS] at hM2
 obtain⟨v2,hv2⟩:∃ v2,v2=v1.setCell ⟨bg,og+x,none⟩ (.int .i64 (m:Int)):=⟨_,rfl⟩
 have hs2:v2.heap.size=v1.heap.size:=by rw[hv2];simp[World.setCell]
 have HM:Hid (MidC (w.heap.size+2) v2.heap.size v2 (some ⟨bg,og,none⟩) S gc):=by rw[hs2,hv2];exact hM2
 have HB2:Hid (Below w.heap.size w v2):=by rw[hv2];exact HB1.setCell (p:=⟨bg,og+x,none⟩) (by show w.heap.size<=bg;omega) _
 have HP2:Hid (Abx v2 w.heap.size (.bool false) (.slice sa sz.length sc) (.slice da dz.length dc)):=by rw[hv2];exact HP.ot (a:=⟨bg,og+x,none⟩) (by show w.heap.size≠bg;omega) _
 have HR2:Hid (Abx v2 (w.heap.size+1) (.bool false) (.slice none 0 0) (.slice none 0 0)):=by rw[hv2];exact HR.ot (a:=⟨bg,og+x,none⟩) (by show w.heap.size+1≠bg;omega) _
 have HS:Hid (S=sz.set x (m:Int)/\S.length=sz.length):=⟨hS,hSl⟩
 have HV2:Hid (v1.setCell ⟨bg,og+x,none⟩ (.int .i64 (m:Int))=v2):=hv2.symm
 clear hN hB pa pr p0 p1 p2 hb0 hM hM2 hS hv2 HP HR hs2
 go_wp2_with fail
 rw[HV2.out]
 clear cg fg
 by_cases he:errOf S=0
 ·have HE:Hid (errOf S=0):=he
  have hz:=errOf_zero.1 he
  have hcount:=count_ok (some ⟨bg,og,none⟩) gc S (by omega) v2 (HM.is (Nat.le_refl _)).1 he
  rw[hSl] at hcount
  have hpn:=prod_nonneg hz.2.1
  obtain⟨N,hN⟩:∃ N:Nat,(N:Int)=prod S:=⟨(prod S).toNat,by omega⟩
  have hN4:N<=4096:=by have:=hz.2.2;omega
  rw[<-hN] at hcount
  have HN:Hid ((N:Int)=prod S):=hN
  have hAn:0<=stp S x:=prod_nonneg (hz.2.1.drop _)
  obtain⟨A,hA⟩:∃ A:Nat,(A:Int)=stp S x:=⟨(stp S x).toNat,by omega⟩
  have HA:Hid ((A:Int)=stp S x):=hA
  clear he hz hpn hN hAn hA
  refine hcount.mono ?_
  rintro e v3 ⟨rfl,hB⟩
  have hz23:=hB.size
  have HM3:Hid (MidC (w.heap.size+2) v3.heap.size v3 (some ⟨bg,og,none⟩) S gc):=by
   have h:=HM.go (Nat.le_refl _) hB
   exact⟨h.1.hi_mono hz23,h.2⟩
  have HB3:Hid (Below w.heap.size w v3):=HB2.trans (hB.mono HB2.size)
  have HP3:Hid (Abx v3 w.heap.size (.bool false) (.slice sa sz.length sc) (.slice da dz.length dc)):=HP2.go hB
  have HR3:Hid (Abx v3 (w.heap.size+1) (.bool false) (.slice none 0 0) (.slice none 0 0)):=HR2.go hB
  clear hcount hB HP2 HR2 HB2 HM HV2
  have hstep:=fstep_any (some ⟨bg,og,none⟩) gc S x (by rw[hSl];exact hx) HE.out v3.heap.size v3 (HM3.is (Nat.le_refl _))
  rw[hSl,<-HA.out] at hstep
  go_wp2_with fail
  refine hstep.mono ?_
  rintro e v4 ⟨rfl,rfl⟩
  clear hstep
  have hmk:=run_make_row' (P:=Tryz.prog) 25 3 (.int .i64 0) 8 Tryz.underlying25 Tryz.infoInt rfl .i64 .i64 N (by omega) (by omega)
  have hv4:w.heap.size+2<=v4.heap.size:=by have:=HR3.lt;omega
  have hxS:x<S.length:=by rw[hSl];exact hx
  have HNx:Hid (nth S x=(m:Int)):=by show _=_;rw[HS.1];exact nth_set_self hx
  have HXo:Hid (xout x S=xout x sz):=by show _=_;rw[HS.1];exact xout_set _
  have HSt:Hid (Dnl S x 0 0 (fun t=>fdV f (rnG sz dz x a b t)) (List.replicate N 0)/\Okl S x 0 0 (fun t=>fdE f (rnG sz dz x a b t))/\(v4.alloc (.cells (madeCells #[.int .i64 0] N) 3)).rowIs v4.heap.size 3 N (fun j=>.int .i64 (nth (List.replicate N 0) j))/\MidC (w.heap.size+2) v4.heap.size (v4.alloc (.cells (madeCells #[.int .i64 0] N) 3)) (some ⟨bg,og,none⟩) S gc/\Abx (v4.alloc (.cells (madeCells #[.int .i64 0] N) 3)) w.heap.size (.bool false) (.slice sa sz.length sc) (.slice da dz.length dc)/\Abx (v4.alloc (.cells (madeCells #[.int .i64 0] N) 3)) (w.heap.size+1) (.bool false) (.slice none 0 0) (.slice none 0 0)/\Below w.heap.size w (v4.alloc (.cells (madeCells #[.int .i64 0] N) 3))):=
   ⟨Dnl.start S x _ (by rw[List.length_replicate];have:=HN.out;omega),Okl.start hxS _,(World.rowIs_made v4 (.int .i64 0) N 3).congr (fun j _=>by rw[nth_replicate]),HM3.al (Nat.le_refl _) _,HP3.al _,HR3.al _,HB3.alloc HB3.size _⟩
  clear HM3 HP3 HR3 HB3
  by_cases hm0:m=0
  ·have hN0:N=0:=by
    have h:=HN.out
    rw[xout_prod hxS,HNx.out,hm0] at h
    simp at h
    exact h
   have hm1:(m:Int)<1:=by omega
   have hN1:¬ (0:Int)<(N:Int):=by omega
   have HQ0:Hid (m=0):=hm0
   clear hm0 hN0
   go_wp2_with fail
   clear hmk
   go_loopw [50] (fun i wr=>i=.int .i64 0/\∃ D,Dnl S x 0 0 (fun t=>fdV f (rnG sz dz x a b t)) D/\Okl S x 0 0 (fun t=>fdE f (rnG sz dz x a b t))/\wr.rowIs v4.heap.size 3 N (fun j=>.int .i64 (nth D j))/\MidC (w.heap.size+2) v4.heap.size wr (some ⟨bg,og,none⟩) S gc/\Abx wr w.heap.size (.bool false) (.slice sa sz.length sc) (.slice da dz.length dc)/\Abx wr (w.heap.size+1) (.bool false) (.slice none 0 0) (.slice none 0 0)/\Below w.heap.size w wr) (fun i _=>0)
   case atStart=>exact⟨rfl,_,HSt.out⟩
   case round=>
    clear HSt
    obtain⟨rfl,D,hD,hO,hrow,hM,hA,hR,hB⟩:=hrel
    have hfin:1<=nth S x->prod (xout x S)<=((0:Nat):Int):=fun h=>by rw[HNx.out,HQ0.out] at h;exact absurd h (by decide)
    have hDS:D=rnD f sz dz x m a b:=by
     have h:=hD.done (by rw[hSl];exact hx) HE.out hfin
     rw[h,HS.1];rfl
    have HRn:Hid (rnE f sz dz x m a b=0):=rnE_zero (by rw[<-HS.1];exact HE.out) (by rw[<-HS.1];exact hO.done (by rw[hSl];exact hx) hfin)
    have HD:Hid (D=rnD f sz dz x m a b/\D.length=N):=⟨hDS,by rw[hD.1];have:=HN.out;omega⟩
    have HQ:Hid (wr.rowIs v4.heap.size 3 N (fun j=>.int .i64 (nth D j))/\MidC (w.heap.size+2) v4.heap.size wr (some ⟨bg,og,none⟩) S gc/\Abx wr (w.heap.size+1) (.bool false) (.slice none 0 0) (.slice none 0 0)/\Below w.heap.size w wr):=⟨hrow,hM,hR,hB⟩
    have r0:=hR.c0
    have r1:=hR.c1
    have r2:=hR.c2
    have f0:=hR.fr 0
    have f1:=hR.fr 1
    have f2:=hR.fr 2
    clear hrow hM hA hR hB hD hO hDS
    go_wp2_with fail
    have FF:=HQ.2.2.1.set3 (.bool false) (.slice (some ⟨bg,og,none⟩) sz.length gc) (.slice (some ⟨v4.heap.size,0,none⟩) N N)
    have q0:=FF.c0
    have q1:=FF.c1
    have q2:=FF.c2
    refine bodyPost_ret (v:=.tuple #[.agg #[.bool false,.slice (some ⟨bg,og,none⟩) sz.length gc,.slice (some ⟨v4.heap.size,0,none⟩) N N],.nilIface]) (by simp[results,Tryz.results112,go_sem,q0,q1,q2]) rfl ?_
    have hlt4:=HQ.1.lt
    have hY:NewC v4.heap.size wr (some ⟨v4.heap.size,0,none⟩) D N:=⟨.inr ⟨v4.heap.size,0,rfl,Nat.le_refl _,hlt4,fun j hj=>by rw[Nat.zero_add];exact HQ.1.cell (by rw[<-HD.2];exact hj),fun j=>HQ.1.frozen _⟩,by rw[HD.2];exact Nat.le_refl _⟩
    have hU:=ubr_ok (e:=rnE f sz dz x m a b) (w:=w) (mid:=v4.heap.size) HRn.out (S:=S) (D:=D) HS.2 HD.2 ((HQ.2.1.s3 (b:=w.heap.size+1) (.inl (by omega)) (.bool false) (.slice (some ⟨bg,og,none⟩) sz.length gc) (.slice (some ⟨v4.heap.size,0,none⟩) N N)).lo12 (by omega)) (hY.set3 (b:=w.heap.size+1) (by omega) (.bool false) (.slice (some ⟨bg,og,none⟩) sz.length gc) (.slice (some ⟨v4.heap.size,0,none⟩) N N)) ⟨by omega,by rw[size_set3];omega⟩ hgc (bel_set3 HQ.2.2.2 (b:=w.heap.size+1) (by omega) (.bool false) (.slice (some ⟨bg,og,none⟩) sz.length gc) (.slice (some ⟨v4.heap.size,0,none⟩) N N))
    rw[HS.1,HD.1] at hU
    exact hU
  ·have hm1:¬ (m:Int)<1:=by omega
   have hm2:¬ (m:Int)=0:=by omega
   have hoS:=err_xout hxS HE.out (by rw[HNx.out];omega)
   rw[HXo.out] at hoS
   have hP0:=prod_nonneg (errOf_zero.1 hoS).2.1
   obtain⟨P,hP⟩:∃ P:Nat,(P:Int)=prod (xout x sz):=⟨(prod (xout x sz)).toNat,by omega⟩
   have hP4:P<=4096:=by have:=(errOf_zero.1 hoS).2.2;omega
   have HP:Hid ((P:Int)=prod (xout x sz)/\errOf (xout x sz)=0):=⟨hP,hoS⟩
   have hNP:(N:Int)=(m:Int)*(P:Int):=by rw[HN.out,xout_prod hxS,HNx.out,HXo.out,hP]
   have HQ0:Hid (wrap64 ((N:Int)/(m:Int))=(P:Int)):=by show _=_;rw[hNP,Int.mul_ediv_cancel_left _ hm2,wsm (by omega)]
   clear hoS hP0 hP hNP
   go_wp2_with fail
   clear hmk
   rw[HQ0.out]
   go_loopw [50] (fun i wr=>∃ (n:Nat) (D:List Int),n<=P/\i=.int .i64 n/\Dnl S x n 0 (fun t=>fdV f (rnG sz dz x a b t)) D/\Okl S x n 0 (fun t=>fdE f (rnG sz dz x a b t))/\wr.rowIs v4.heap.size 3 N (fun j=>.int .i64 (nth D j))/\MidC (w.heap.size+2) v4.heap.size wr (some ⟨bg,og,none⟩) S gc/\Abx wr w.heap.size (.bool false) (.slice sa sz.length sc) (.slice da dz.length dc)/\Abx wr (w.heap.size+1) (.bool false) (.slice none 0 0) (.slice none 0 0)/\Below w.heap.size w wr) (fun i _=>P-(intOf i).toNat)
   case atStart=>exact⟨0,_,Nat.zero_le _,rfl,HSt.out⟩
   case round=>
    clear HSt
    obtain⟨n,D,hn,rfl,hD,hO,hrow,hM,hA,hR,hB⟩:=hrel
    by_cases hlt:n<P
    ·obtain⟨t0,ht0⟩:∃ t0,t0=cr (xout x sz) n:=⟨_,rfl⟩
     have hcr:=cr_in HP.2 (i:=n) (by have:=HP.1;omega)
     rw[<-ht0] at hcr
     have hlt0:=insB_len hcr.1
     have hxl:=xout_length hx
     have hLn:=((errOf_zero.1 HF.2.1).2.1.nth x)
     obtain⟨L,hL⟩:∃ L:Nat,(L:Int)=nth sz x:=⟨(nth sz x).toNat,by omega⟩
     have hL4:L<=4096:=by omega
     have hAs:(A:Int)=apt x sz:=by rw[HA.out,HS.1,apt_stp,apt_set]
     have hPA:=HP.1
     rw[xout_apt,<-hAs] at hPA
     have hA0:0<A:=by
      rcases Nat.eq_zero_or_pos A with h | h
      ·rw[h] at hPA;simp at hPA;omega
      ·exact h
     have hA4:A<=4096:=by
      have h1:1<=prod (sz.take x):=by
       rcases Int.lt_or_le 0 (prod (sz.take x)) with h | h
       ·omega
       ·have h2:prod (sz.take x)*(A:Int)<=0*(A:Int):=Int.mul_le_mul_of_nonneg_right h (by omega)
        omega
      have h2:1*(A:Int)<=prod (sz.take x)*(A:Int):=Int.mul_le_mul_of_nonneg_right h1 (by omega)
      omega
     have hline:=line12_any x n sa sc sz da dc dz L A hx HF.2.1 hL hAs HF.2.2.1 hA0 hA4 HP.2 (by rw[<-HP.1];omega) wr ((HI.1.below hB).mono hB.size) ((HI.2.below hB).mono hB.size)
     rw[<-ht0] at hline
     have HLl:Hid ((rdL sz dz x t0).length=L/\L64 (rdL sz dz x t0)/\(L:Int)=nth sz x):=⟨by rw[rdL_length];omega,lnL_64 HF.2.2.2.1 _ _ _ _,hL⟩
     have HT:Hid (insB (xout x S) t0=true/\place (xout x S) t0=n/\x<=t0.length):=⟨by rw[HXo.out];exact hcr.1,by rw[HXo.out];exact hcr.2,by omega⟩
     have HPl:Hid (∀ k:Nat,place S (xin x k t0)=((stN n m A+k*A:Nat):Int)):=fun k=>by
      have h:=place_line (s:=S) (t:=t0) (k:Int) hxS HT.1
      have e:apt x S=(A:Int):=by rw[HA.out];rfl
      rw[HT.2.1,HNx.out,e] at h
      rw[h];unfold stN;simp
     have HQ:Hid (Dnl S x n 0 (fun t=>fdV f (rnG sz dz x a b t)) D/\Okl S x n 0 (fun t=>fdE f (rnG sz dz x a b t))/\wr.rowIs v4.heap.size 3 N (fun j=>.int .i64 (nth D j))/\MidC (w.heap.size+2) v4.heap.size wr (some ⟨bg,og,none⟩) S gc/\Abx wr w.heap.size (.bool false) (.slice sa sz.length sc) (.slice da dz.length dc)/\Abx wr (w.heap.size+1) (.bool false) (.slice none 0 0) (.slice none 0 0)/\Below w.heap.size w wr):=⟨hD,hO,hrow,hM,hA,hR,hB⟩
     have p0:=hA.c0
     have p1:=hA.c1
     have p2:=hA.c2
     clear hD hO hrow hM hA hR hB hcr hlt0 hxl hLn hL hAs hPA ht0
     go_wp2_with fail
     refine hline.mono ?_
     rintro e w1 ⟨B,rfl,hBl,hrL,hB1⟩
     have hBv:v4.heap.size<B:=Nat.lt_of_lt_of_le HQ.2.2.1.lt hBl
     go_wp2_with fail
     refine (start_any n m A hA0 (by omega) hm hA4 w1).mono ?_
     rintro e w2 ⟨rfl,hB2⟩
     have hB3:Below wr.heap.size wr w2:=hB1.trans (hB2.mono hB1.size)
     replace HQ:Hid ((Dnl S x n 0 (fun t=>fdV f (rnG sz dz x a b t)) D/\Okl S x n 0 (fun t=>fdE f (rnG sz dz x a b t))/\w2.rowIs v4.heap.size 3 N (fun j=>.int .i64 (nth D j))/\MidC (w.heap.size+2) v4.heap.size w2 (some ⟨bg,og,none⟩) S gc/\Abx w2 w.heap.size (.bool false) (.slice sa sz.length sc) (.slice da dz.length dc)/\Abx w2 (w.heap.size+1) (.bool false) (.slice none 0 0) (.slice none 0 0)/\Below w.heap.size w w2)/\w2.rowIs B 3 L (fun j=>.int .i64 (nth (rdL sz dz x t0) j))):=
      ⟨⟨HQ.1,HQ.2.1,row_go12 HQ.2.2.1 hB3,HQ.2.2.2.1.go (Nat.le_of_lt HQ.2.2.1.lt) hB3,HQ.2.2.2.2.1.go hB3,HQ.2.2.2.2.2.1.go hB3,HQ.2.2.2.2.2.2.trans (hB3.mono HQ.2.2.2.2.2.2.size)⟩,row_go12 hrL hB2⟩
     clear hline hrL hB1 hB2 hB3 p0 p1 p2 hBl
     generalize hln:rdL sz dz x t0=ln at *
     have HLN:Hid (rdL sz dz x t0=ln):=hln
     clear hln
     go_wp2_with fail
     go_loopw [62] (fun i wq=>∃ (k:Nat) (D2:List Int),k<=m/\i=.int .i64 k/\(Dnl S x n k (fun t=>fdV f (rnG sz dz x a b t)) D2/\Okl S x n k (fun t=>fdE f (rnG sz dz x a b t))/\wq.rowIs v4.heap.size 3 N (fun j=>.int .i64 (nth D2 j))/\MidC (w.heap.size+2) v4.heap.size wq (some ⟨bg,og,none⟩) S gc/\Abx wq w.heap.size (.bool false) (.slice sa sz.length sc) (.slice da dz.length dc)/\Abx wq (w.heap.size+1) (.bool false) (.slice none 0 0) (.slice none 0 0)/\Below w.heap.size w wq)/\wq.rowIs B 3 L (fun j=>.int .i64 (nth ln j))) (fun i _=>m-(intOf i).toNat)
     case atStart=>exact⟨0,D,Nat.zero_le _,rfl,HQ.out⟩
     case round=>
      clear HQ
      obtain⟨k,D2,hk,rfl,⟨hD,hO,hrow,hM,hA,hR,hB⟩,hrL⟩:=hrel
      by_cases hltk:k<m
      ·have HC:Hid (Calls Tryz.prog F (.int .i64 (k:Nat)::cs).toArray wr (EnP (a k) (b k) wr)):=HH.out k hltk wr hB
       have hab:=HF.2.2.2.2 k hltk
       have HG:Hid (rnG sz dz x a b (xin x k t0)=run ln (a k) (b k)):=by show _=_;rw[rnG_at HT.2.2,HLN.out]
       rw[<-HLl.2.2] at hab
       obtain⟨ak,hak⟩:∃ ak,ak=a k:=⟨_,rfl⟩
       obtain⟨bk,hbk⟩:∃ bk,bk=b k:=⟨_,rfl⟩
       rw[<-hak,<-hbk] at HC HG hab
       have HAB:Hid ((ak<bk\/(ak=0/\bk=0/\(L:Int)=0))/\(bk:Int)<=L):=hab
       have HQ:Hid ((Dnl S x n k (fun t=>fdV f (rnG sz dz x a b t)) D2/\Okl S x n k (fun t=>fdE f (rnG sz dz x a b t))/\wr.rowIs v4.heap.size 3 N (fun j=>.int .i64 (nth D2 j))/\MidC (w.heap.size+2) v4.heap.size wr (some ⟨bg,og,none⟩) S gc/\Abx wr w.heap.size (.bool false) (.slice sa sz.length sc) (.slice da dz.length dc)/\Abx wr (w.heap.size+1) (.bool false) (.slice none 0 0) (.slice none 0 0)/\Below w.heap.size w wr)/\wr.rowIs B 3 L (fun j=>.int .i64 (nth ln j))):=⟨⟨hD,hO,hrow,hM,hA,hR,hB⟩,hrL⟩
       have h1:ak<=bk:=by omega
       have h2:bk<=L:=by omega
       clear hD hO hrow hM hA hR hB hrL hab hak hbk
       go_wp2_with fail
       refine HC.mono ?_
       rintro e w3 ⟨rfl,hb3⟩
       replace HQ:Hid ((Dnl S x n k (fun t=>fdV f (rnG sz dz x a b t)) D2/\Okl S x n k (fun t=>fdE f (rnG sz dz x a b t))/\w3.rowIs v4.heap.size 3 N (fun j=>.int .i64 (nth D2 j))/\MidC (w.heap.size+2) v4.heap.size w3 (some ⟨bg,og,none⟩) S gc/\Abx w3 w.heap.size (.bool false) (.slice sa sz.length sc) (.slice da dz.length dc)/\Abx w3 (w.heap.size+1) (.bool false) (.slice none 0 0) (.slice none 0 0)/\Below w.heap.size w w3)/\w3.rowIs B 3 L (fun j=>.int .i64 (nth ln j))):=⟨⟨HQ.1.1,HQ.1.2.1,row_go12 HQ.1.2.2.1 hb3,HQ.1.2.2.2.1.go (Nat.le_of_lt HQ.1.2.2.1.lt) hb3,HQ.1.2.2.2.2.1.go hb3,HQ.1.2.2.2.2.2.1.go hb3,HQ.1.2.2.2.2.2.2.trans (hb3.mono HQ.1.2.2.2.2.2.2.size)⟩,row_go12 HQ.2 hb3⟩
       clear hb3
       rcases HAB.1 with h3 | h3
       ·go_wp2_with fail
        refine (ffold_run f B ln L ak bk (bk-ak) (L-ak) HLl.1 hL4 h3 h2 rfl (by omega) w3 (l64n HLl.2.1) HQ.2).mono ?_
        rintro e w4 ⟨v,rfl,hv,hB4⟩
        clear h3
        have HB4:Hid (Below w3.heap.size w3 w4):=hB4
        have hR4:=HQ.1.2.2.2.2.2.1.go hB4
        have hr4:=row_go12 HQ.1.2.2.1 hB4
        by_cases hq:fdE f (run ln ak bk)=0
        ·rw[hq,errV_zero]
         have HV:Hid (v=fdV f (rnG sz dz x a b (xin x k t0))):=by show _=_;rw[HG.out];exact hv hq
         have HO:Hid (fdE f (rnG sz dz x a b (xin x k t0))=0):=by show _=_;rw[HG.out];exact hq
         have hpl:=HPl.out k
         have hpb:=place_bd (ins_xin hxS HT.1 (v:=(k:Int)) ⟨by omega,by rw[HNx.out];omega⟩)
         rw[hpl,<-HN.out] at hpb
         have hp:stN n m A+k*A<N:=by omega
         have hkA:k*A<=4096*4096:=Nat.mul_le_mul (by omega) hA4
         have c2:=hr4.cell hp
         have f2:=hr4.frozen (stN n m A+k*A)
         have HPk:Hid ((place S (xin x k t0)).toNat=stN n m A+k*A):=by show _=_;rw[hpl,Int.toNat_natCast]
         clear hq hv hpl hpb hB4 hR4 hr4
         go_wp2_with fail
         have hst:=HQ.1.1.step hxS HT.1 HT.2.1 (by rw[HNx.out];omega:(k:Int)<nth S x)
         rw[HPk.out] at hst
         refine⟨⟨k+1,D2.set (stN n m A+k*A) v,by omega,by go_num,⟨by rw[HV.out];exact hst,HQ.1.2.1.step hxS HT.1 HT.2.1 HO.out,row_put12 (row_go12 HQ.1.2.2.1 HB4.out) (by rw[HQ.1.1.1];have:=HN.out;omega) hp v,?_,?_,?_,?_⟩,?_⟩,by simp[intOf];omega⟩
         ·exact (HQ.1.2.2.2.1.go (Nat.le_of_lt HQ.1.2.2.1.lt) HB4.out).s1 (p:=⟨v4.heap.size,stN n m A+k*A,none⟩) (.inr (Nat.le_refl _)) _
         ·exact (HQ.1.2.2.2.2.1.go HB4.out).ot (a:=⟨v4.heap.size,stN n m A+k*A,none⟩) (by show w.heap.size≠v4.heap.size;omega) _
         ·exact (HQ.1.2.2.2.2.2.1.go HB4.out).ot (a:=⟨v4.heap.size,stN n m A+k*A,none⟩) (by show w.heap.size+1≠v4.heap.size;omega) _
         ·exact (HQ.1.2.2.2.2.2.2.trans (HB4.mono HQ.1.2.2.2.2.2.2.size)).setCell (p:=⟨v4.heap.size,stN n m A+k*A,none⟩) (by show w.heap.size<=v4.heap.size;omega) _
         ·exact (row_go12 HQ.2 HB4.out).of_block (Below.heap_setCell _ _ _ _ (by show B≠v4.heap.size;omega))
        ·have hsix:=(fdE_cases HF.1 (run ln ak bk)).resolve_left hq
         have HX:Hid (rnE f sz dz x m a b=6):=rnE_six (t:=xin x k t0) (by rw[<-HS.1];exact HE.out) (by rw[<-HS.1];exact ins_xin hxS HT.1 ⟨by omega,by rw[HNx.out];omega⟩) (by rw[HG.out];exact hq)
         have HBw:Hid (Below w.heap.size w w4):=HQ.1.2.2.2.2.2.2.trans (hB4.mono HQ.1.2.2.2.2.2.2.size)
         have HR4:Hid (Abx w4 (w.heap.size+1) (.bool false) (.slice none 0 0) (.slice none 0 0)):=hR4
         rw[hsix,show errV 6=.iface 28 (.int .i64 6) from rfl]
         have r0:=hR4.c0
         have r1:=hR4.c1
         have r2:=hR4.c2
         have f0:=hR4.fr 0
         have f1:=hR4.fr 1
         have f2:=hR4.fr 2
         clear hq hsix hv hB4 hR4 hr4
         go_wp2_with fail
         have FF:=HR4.set3 (.bool false) (.slice none 0 0) (.slice none 0 0)
         have q0:=FF.c0
         have q1:=FF.c1
         have q2:=FF.c2
         exact bodyPost_ret (v:=.tuple #[.agg #[.bool false,.slice none 0 0,.slice none 0 0],.iface 28 (.int .i64 6)]) (by simp[results,Tryz.results112,go_sem,q0,q1,q2]) rfl (ubr_no HX.out (by decide) (bel_set3 HBw.out (by omega) _ _ _))
       ·obtain⟨h3,h4,h5⟩:=h3
        have h6:L=0:=by omega
        subst h3 h4 h6
        go_wp2_with fail
        have hfn:∀ w9 q9,Calls Tryz.prog 183 #[.int .i64 f,.slice (some ⟨B,0,none⟩) 0 q9] w9 (FdP f (run ln 0 0) w9):=fun w9 q9=>ffold_nil f _ _ w9
        refine (hfn _ _).mono ?_
        rintro e w4 ⟨v,rfl,hv,hB4⟩
        clear h5
        have HB4:Hid (Below w3.heap.size w3 w4):=hB4
        have hR4:=HQ.1.2.2.2.2.2.1.go hB4
        have hr4:=row_go12 HQ.1.2.2.1 hB4
        by_cases hq:fdE f (run ln 0 0)=0
        ·rw[hq,errV_zero]
         have HV:Hid (v=fdV f (rnG sz dz x a b (xin x k t0))):=by show _=_;rw[HG.out];exact hv hq
         have HO:Hid (fdE f (rnG sz dz x a b (xin x k t0))=0):=by show _=_;rw[HG.out];exact hq
         have hpl:=HPl.out k
         have hpb:=place_bd (ins_xin hxS HT.1 (v:=(k:Int)) ⟨by omega,by rw[HNx.out];omega⟩)
         rw[hpl,<-HN.out] at hpb
         have hp:stN n m A+k*A<N:=by omega
         have hkA:k*A<=4096*4096:=Nat.mul_le_mul (by omega) hA4
         have c2:=hr4.cell hp
         have f2:=hr4.frozen (stN n m A+k*A)
         have HPk:Hid ((place S (xin x k t0)).toNat=stN n m A+k*A):=by show _=_;rw[hpl,Int.toNat_natCast]
         clear hq hv hpl hpb hB4 hR4 hr4
         go_wp2_with fail
         have hst:=HQ.1.1.step hxS HT.1 HT.2.1 (by rw[HNx.out];omega:(k:Int)<nth S x)
         rw[HPk.out] at hst
         refine⟨⟨k+1,D2.set (stN n m A+k*A) v,by omega,by go_num,⟨by rw[HV.out];exact hst,HQ.1.2.1.step hxS HT.1 HT.2.1 HO.out,row_put12 (row_go12 HQ.1.2.2.1 HB4.out) (by rw[HQ.1.1.1];have:=HN.out;omega) hp v,?_,?_,?_,?_⟩,?_⟩,by simp[intOf];omega⟩
         ·exact (HQ.1.2.2.2.1.go (Nat.le_of_lt HQ.1.2.2.1.lt) HB4.out).s1 (p:=⟨v4.heap.size,stN n m A+k*A,none⟩) (.inr (Nat.le_refl _)) _
         ·exact (HQ.1.2.2.2.2.1.go HB4.out).ot (a:=⟨v4.heap.size,stN n m A+k*A,none⟩) (by show w.heap.size≠v4.heap.size;omega) _
         ·exact (HQ.1.2.2.2.2.2.1.go HB4.out).ot (a:=⟨v4.heap.size,stN n m A+k*A,none⟩) (by show w.heap.size+1≠v4.heap.size;omega) _
         ·exact (HQ.1.2.2.2.2.2.2.trans (HB4.mono HQ.1.2.2.2.2.2.2.size)).setCell (p:=⟨v4.heap.size,stN n m A+k*A,none⟩) (by show w.heap.size<=v4.heap.size;omega) _
         ·exact (row_go12 HQ.2 HB4.out).of_block (Below.heap_setCell _ _ _ _ (by show B≠v4.heap.size;omega))
        ·have hsix:=(fdE_cases HF.1 (run ln 0 0)).resolve_left hq
         have HX:Hid (rnE f sz dz x m a b=6):=rnE_six (t:=xin x k t0) (by rw[<-HS.1];exact HE.out) (by rw[<-HS.1];exact ins_xin hxS HT.1 ⟨by omega,by rw[HNx.out];omega⟩) (by rw[HG.out];exact hq)
         have HBw:Hid (Below w.heap.size w w4):=HQ.1.2.2.2.2.2.2.trans (hB4.mono HQ.1.2.2.2.2.2.2.size)
         have HR4:Hid (Abx w4 (w.heap.size+1) (.bool false) (.slice none 0 0) (.slice none 0 0)):=hR4
         rw[hsix,show errV 6=.iface 28 (.int .i64 6) from rfl]
         have r0:=hR4.c0
         have r1:=hR4.c1
         have r2:=hR4.c2
         have f0:=hR4.fr 0
         have f1:=hR4.fr 1
         have f2:=hR4.fr 2
         clear hq hsix hv hB4 hR4 hr4
         go_wp2_with fail
         have FF:=HR4.set3 (.bool false) (.slice none 0 0) (.slice none 0 0)
         have q0:=FF.c0
         have q1:=FF.c1
         have q2:=FF.c2
         exact bodyPost_ret (v:=.tuple #[.agg #[.bool false,.slice none 0 0,.slice none 0 0],.iface 28 (.int .i64 6)]) (by simp[results,Tryz.results112,go_sem,q0,q1,q2]) rfl (ubr_no HX.out (by decide) (bel_set3 HBw.out (by omega) _ _ _))
      ·obtain rfl:k=m:=by omega
       have HQ:Hid (Dnl S x (n+1) 0 (fun t=>fdV f (rnG sz dz x a b t)) D2/\Okl S x (n+1) 0 (fun t=>fdE f (rnG sz dz x a b t))/\wr.rowIs v4.heap.size 3 N (fun j=>.int .i64 (nth D2 j))/\MidC (w.heap.size+2) v4.heap.size wr (some ⟨bg,og,none⟩) S gc/\Abx wr w.heap.size (.bool false) (.slice sa sz.length sc) (.slice da dz.length dc)/\Abx wr (w.heap.size+1) (.bool false) (.slice none 0 0) (.slice none 0 0)/\Below w.heap.size w wr):=⟨hD.next hxS (by rw[HNx.out];exact Int.le_refl _),hO.next hxS (by rw[HNx.out];exact Int.le_refl _),hrow,hM,hA,hR,hB⟩
       clear hD hO hrow hM hA hR hB hrL
       go_wp2_with fail
       exact⟨⟨n+1,D2,by omega,by go_num,HQ.out⟩,by simp[intOf];omega⟩
    ·obtain rfl:n=P:=by omega
     have hfin:1<=nth S x->prod (xout x S)<=(n:Int):=fun _=>by rw[HXo.out,<-HP.1];exact Int.le_refl _
     have hDS:D=rnD f sz dz x m a b:=by
      have h:=hD.done (by rw[hSl];exact hx) HE.out hfin
      rw[h,HS.1];rfl
     have HRn:Hid (rnE f sz dz x m a b=0):=rnE_zero (by rw[<-HS.1];exact HE.out) (by rw[<-HS.1];exact hO.done (by rw[hSl];exact hx) hfin)
     have HD:Hid (D=rnD f sz dz x m a b/\D.length=N):=⟨hDS,by rw[hD.1];have:=HN.out;omega⟩
     have HQ:Hid (wr.rowIs v4.heap.size 3 N (fun j=>.int .i64 (nth D j))/\MidC (w.heap.size+2) v4.heap.size wr (some ⟨bg,og,none⟩) S gc/\Abx wr (w.heap.size+1) (.bool false) (.slice none 0 0) (.slice none 0 0)/\Below w.heap.size w wr):=⟨hrow,hM,hR,hB⟩
     have r0:=hR.c0
     have r1:=hR.c1
     have r2:=hR.c2
     have f0:=hR.fr 0
     have f1:=hR.fr 1
     have f2:=hR.fr 2
     clear hrow hM hA hR hB hD hO hDS
     go_wp2_with fail
     have FF:=HQ.2.2.1.set3 (.bool false) (.slice (some ⟨bg,og,none⟩) sz.length gc) (.slice (some ⟨v4.heap.size,0,none⟩) N N)
     have q0:=FF.c0
     have q1:=FF.c1
     have q2:=FF.c2
     refine bodyPost_ret (v:=.tuple #[.agg #[.bool false,.slice (some ⟨bg,og,none⟩) sz.length gc,.slice (some ⟨v4.heap.size,0,none⟩) N N],.nilIface]) (by simp[results,Tryz.results112,go_sem,q0,q1,q2]) rfl ?_
     have hlt4:=HQ.1.lt
     have hY:NewC v4.heap.size wr (some ⟨v4.heap.size,0,none⟩) D N:=⟨.inr ⟨v4.heap.size,0,rfl,Nat.le_refl _,hlt4,fun j hj=>by rw[Nat.zero_add];exact HQ.1.cell (by rw[<-HD.2];exact hj),fun j=>HQ.1.frozen _⟩,by rw[HD.2];exact Nat.le_refl _⟩
     have hU:=ubr_ok (e:=rnE f sz dz x m a b) (w:=w) (mid:=v4.heap.size) HRn.out (S:=S) (D:=D) HS.2 HD.2 ((HQ.2.1.s3 (b:=w.heap.size+1) (.inl (by omega)) (.bool false) (.slice (some ⟨bg,og,none⟩) sz.length gc) (.slice (some ⟨v4.heap.size,0,none⟩) N N)).lo12 (by omega)) (hY.set3 (b:=w.heap.size+1) (by omega) (.bool false) (.slice (some ⟨bg,og,none⟩) sz.length gc) (.slice (some ⟨v4.heap.size,0,none⟩) N N)) ⟨by omega,by rw[size_set3];omega⟩ hgc (bel_set3 HQ.2.2.2 (b:=w.heap.size+1) (by omega) (.bool false) (.slice (some ⟨bg,og,none⟩) sz.length gc) (.slice (some ⟨v4.heap.size,0,none⟩) N N))
     rw[HS.1,HD.1] at hU
     exact hU
 ·have hcount:=count_any (some ⟨bg,og,none⟩) gc S (by omega) v2 (HM.is (Nat.le_refl _)).1
  rw[hSl,errV_pos he] at hcount
  have HE:Hid (errOf S≠0):=he
  have HRn:Hid (rnE f sz dz x m a b=errOf S):=by show _=_;unfold rnE;rw[<-HS.1,if_pos he]
  clear he
  refine hcount.mono ?_
  rintro e v3 ⟨rfl,hB⟩
  have HB3:Hid (Below w.heap.size w v3):=HB2.trans (hB.mono HB2.size)
  have HR3:Hid (Abx v3 (w.heap.size+1) (.bool false) (.slice none 0 0) (.slice none 0 0)):=HR2.go hB
  clear hcount hB HP2 HR2 HB2 HM HV2
  have r0:=HR3.c0
  have r1:=HR3.c1
  have r2:=HR3.c2
  have f0:=HR3.fr 0
  have f1:=HR3.fr 1
  have f2:=HR3.fr 2
  go_wp2_with fail
  have FF:=HR3.set3 (.bool false) (.slice none 0 0) (.slice none 0 0)
  have q0:=FF.c0
  have q1:=FF.c1
  have q2:=FF.c2
  exact bodyPost_ret (v:=.tuple #[.agg #[.bool false,.slice none 0 0,.slice none 0 0],.iface 28 (.int .i64 (errOf S))]) (by simp[results,Tryz.results112,go_sem,q0,q1,q2]) rfl (ubr_no HRn.out HE.out (bel_set3 HB3.out (by omega) _ _ _))
end Go.Proofs.YtkmmkcpfhnifhaaGreatDoor
