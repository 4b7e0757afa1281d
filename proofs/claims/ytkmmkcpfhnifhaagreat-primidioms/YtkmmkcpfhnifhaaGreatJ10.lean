/- What the program tells, in part. -/
import Derived.Test.YtkmmkcpfhnifhaaGreatJ04
set_option linter.unusedVariables false
set_option maxHeartbeats 4000000
set_option maxRecDepth 100000
namespace Go.Proofs.YtkmmkcpfhnifhaaGreat
open Go.RowKit
def mvL (f:Nat->Nat)(z:List Int):List Int:=(List.range z.length).map fun p=>nth z (f p)
theorem mvL_length (f:Nat->Nat)(z:List Int):(mvL f z).length=z.length:=by simp[mvL]
theorem mvL_nth {f:Nat->Nat}{z:List Int}{k:Nat}(h:k<z.length):nth (mvL f z) k=nth z (f k):=by
 rw[nth_get _ _ (by rw[mvL_length];exact h)];simp[mvL]
theorem mvL_congr {f g:Nat->Nat}{z:List Int}(h:∀ p,p<z.length->f p=g p):mvL f z=mvL g z:=by
 refine nth_ext (by rw[mvL_length,mvL_length]) fun p hp=>?_
 rw[mvL_length] at hp
 rw[mvL_nth hp,mvL_nth hp,h p hp]
theorem mvL_same {f:Nat->Nat}{z:List Int}(h:∀ p,p<z.length->f p=p):mvL f z=z:=by
 refine nth_ext (by rw[mvL_length]) fun p hp=>?_
 rw[mvL_length] at hp
 rw[mvL_nth hp,h p hp]
theorem mvL_mvL {f g:Nat->Nat}{z:List Int}(h:∀ p,p<z.length->g p<z.length):mvL g (mvL f z)=mvL (fun p=>f (g p)) z:=by
 refine nth_ext (by rw[mvL_length,mvL_length,mvL_length]) fun p hp=>?_
 rw[mvL_length,mvL_length] at hp
 rw[mvL_nth (by rw[mvL_length];exact hp),mvL_nth (h p hp),mvL_nth hp]
def exF (i j p:Nat):Nat:=if p=j then i else if p=i then j else p
theorem set_set10 {z:List Int}{i j:Nat}(hi:i<z.length)(hj:j<z.length):(z.set i (nth z j)).set j (nth z i)=mvL (exF i j) z:=by
 refine nth_ext (by rw[mvL_length];simp) fun p hp=>?_
 simp only[List.length_set] at hp
 rw[mvL_nth hp,nth_set _ _ _ _ (by simpa using hj),nth_set _ _ _ _ hi]
 unfold exF
 by_cases h1:p=j
 ·rw[if_pos h1,if_pos h1]
 ·rw[if_neg h1,if_neg h1]
  by_cases h2:p=i
  ·rw[if_pos h2,if_pos h2]
  ·rw[if_neg h2,if_neg h2]
theorem ex_step {f g:Nat->Nat}{z:List Int}{i j:Nat}(hi:i<z.length)(hj:j<z.length)(h:∀ p,p<z.length->f (exF i j p)=g p):
  ((mvL f z).set i (nth (mvL f z) j)).set j (nth (mvL f z) i)=mvL g z:=by
 rw[set_set10 (by rw[mvL_length];exact hi) (by rw[mvL_length];exact hj),mvL_mvL (fun p hp=>by unfold exF;split;exact hi;split;exact hj;exact hp)]
 exact mvL_congr h
structure Fx (a b:Nat) (f:Nat->Nat):Prop where
 out:∀ k,k<a\/b<=k->f k=k
 ins:∀ k,a<=k->k<b->a<=f k/\f k<b
 inj:∀ i j,f i=f j->i=j
def Mv (a b:Nat)(z z':List Int):Prop:=∃ f,z'=mvL f z/\Fx a b f
theorem Fx.id (a b:Nat):Fx a b (fun p=>p):=⟨fun _ _=>rfl,fun _ h1 h2=>⟨h1,h2⟩,fun _ _ h=>h⟩
theorem Fx.wide {a b a' b':Nat}{f:Nat->Nat}(h:Fx a b f)(ha:a'<=a)(hb:b<=b'):Fx a' b' f:=by
 refine⟨fun k hk=>h.out k (by omega),fun k h1 h2=>?_,h.inj⟩
 by_cases q:a<=k/\k<b
 ·have:=h.ins k q.1 q.2;omega
 ·have:=h.out k (by omega);omega
theorem Mv.refl (a b:Nat)(z:List Int):Mv a b z z:=⟨_,(mvL_same fun _ _=>rfl).symm,Fx.id a b⟩
theorem Mv.len {a b:Nat}{z z':List Int}(h:Mv a b z z'):z'.length=z.length:=by
 obtain⟨f,rfl,_⟩:=h;rw[mvL_length]
theorem Mv.wide {a b a' b':Nat}{z z':List Int}(h:Mv a b z z')(ha:a'<=a)(hb:b<=b'):Mv a' b' z z':=by
 obtain⟨f,e,F⟩:=h;exact⟨f,e,F.wide ha hb⟩
theorem Fx.low {a b n:Nat}{f:Nat->Nat}(F:Fx a b f)(hb:b<=n){p:Nat}(hp:p<n):f p<n:=by
 by_cases q:a<=p/\p<b
 ·have:=F.ins p q.1 q.2;omega
 ·have:=F.out p (by omega);omega
theorem Mv.trans {a b:Nat}{z z' z'':List Int}(h:Mv a b z z')(k:Mv a b z' z'')(hb:b<=z.length):Mv a b z z'':=by
 obtain⟨f,rfl,F⟩:=h
 obtain⟨g,rfl,G⟩:=k
 rw[mvL_mvL fun p hp=>G.low hb hp]
 refine⟨_,rfl,fun k hk=>by rw[G.out k hk,F.out k hk],fun k h1 h2=>?_,fun i j e=>G.inj _ _ (F.inj _ _ e)⟩
 have:=G.ins k h1 h2
 exact F.ins _ this.1 this.2
theorem Mv.ord {a b:Nat}{z z':List Int}(h:Mv a b z z')(hb:b<=z.length)(ho:IsOrd z):IsOrd z':=by
 obtain⟨f,rfl,F⟩:=h
 refine⟨fun j hj=>?_,fun i j hij hj e=>?_⟩
 ·rw[mvL_length] at hj ⊢
  rw[mvL_nth hj]
  exact ho.1 _ (F.low hb hj)
 ·rw[mvL_length] at hj
  rw[mvL_nth hj,mvL_nth (by omega)] at e
  have:=F.inj _ _ (ho.inj (F.low hb (by omega)) (F.low hb hj) e)
  omega
theorem Mv.out {a b:Nat}{z z':List Int}(h:Mv a b z z')(hb:b<=z.length){k:Nat}(hk:k<a\/b<=k):nth z' k=nth z k:=by
 obtain⟨f,rfl,F⟩:=h
 by_cases q:k<z.length
 ·rw[mvL_nth q,F.out k hk]
 ·unfold nth
  rw[List.getD_eq_getElem?_getD,List.getD_eq_getElem?_getD,List.getElem?_eq_none (by rw[mvL_length];omega),List.getElem?_eq_none (by omega)]
theorem Mv.ins {a b:Nat}{z z':List Int}(h:Mv a b z z')(hb:b<=z.length){k:Nat}(h1:a<=k)(h2:k<b):∃ j,a<=j/\j<b/\nth z' k=nth z j:=by
 obtain⟨f,rfl,F⟩:=h
 have:=F.ins k h1 h2
 exact⟨f k,this.1,this.2,mvL_nth (by omega)⟩
def nt (z:List Int)(k:Nat):Nat:=(nth z k).toNat
theorem nt_mv {f:Nat->Nat}{z:List Int}{k:Nat}(h:k<z.length):nt (mvL f z) k=nt z (f k):=by unfold nt;rw[mvL_nth h]
def Ris (lt:Nat->Nat->Bool)(z:List Int)(a b:Nat):Prop:=∀ i j,a<=i->i<j->j<b->lt (nt z i) (nt z j)=true
def Sep (z:List Int)(a m b:Nat):Prop:=∀ i j,a<=i->i<m->m<=j->j<b->nt z i<nt z j
section
variable {lt : Nat → Nat → Bool} {n : Nat} {z : List Int}
theorem tot_not (T:Tot lt n)(ho:IsOrd z)(hl:z.length=n){i j:Nat}(hi:i<n)(hj:j<n)(hne:i≠j):lt (nt z i) (nt z j)=false ↔ lt (nt z j) (nt z i)=true:=by
 subst hl
 have h1:=ord_at ho hi
 have h2:=ord_at ho hj
 have hne':nt z i≠nt z j:=fun e=>hne (ho.inj hi hj (by rw[<-h1.2,<-h2.2];exact congrArg _ e))
 constructor
 ·intro h
  rcases T.tot _ _ h1.1 h2.1 hne' with q | q
  ·rw[show lt (nth z i).toNat (nth z j).toNat=lt (nt z i) (nt z j) from rfl,h] at q;cases q
  ·exact q
 ·intro h
  cases q:lt (nt z i) (nt z j) with
  | false=>rfl
  | true=>
   have:=T.tr _ _ _ h1.1 h2.1 h1.1 q h
   rw[T.irr _ h1.1] at this;cases this
theorem nt_lt (ho:IsOrd z)(hl:z.length=n){i:Nat}(hi:i<n):nt z i<n:=by subst hl;exact (ord_at ho hi).1
theorem lt_tr (T:Tot lt n)(ho:IsOrd z)(hl:z.length=n){i j k:Nat}(hi:i<n)(hj:j<n)(hk:k<n)(h1:lt (nt z i) (nt z j)=true)(h2:lt (nt z j) (nt z k)=true):lt (nt z i) (nt z k)=true:=
 T.tr _ _ _ (nt_lt ho hl hi) (nt_lt ho hl hj) (nt_lt ho hl hk) h1 h2
theorem Ris.one (a b:Nat)(h:b<=a+1):Ris lt z a b:=fun i j h1 h2 h3=>by omega
theorem Ris.part {a b a' b':Nat}(h:Ris lt z a b)(ha:a<=a')(hb:b'<=b):Ris lt z a' b':=fun i j h1 h2 h3=>h i j (by omega) h2 (by omega)
def shR (j i p:Nat):Nat:=if j<p/\p<=i then p-1 else if p=j then i else p
theorem shR_fx {a b j i:Nat}(ha:a<=j)(hj:j<=i)(hb:i<b):Fx a b (shR j i):=by
 refine⟨fun k hk=>?_,fun k h1 h2=>?_,fun p q e=>?_⟩
 ·unfold shR;split<;>(try split)<;>omega
 ·unfold shR;split<;>(try split)<;>omega
 ·unfold shR at e;split at e<;>split at e<;>(try split at e)<;>(try split at e)<;>omega
theorem shR_zero (i:Nat):mvL (shR i i) z=z:=mvL_same fun p _=>by unfold shR;split<;>(try split)<;>omega
theorem shR_step {j i:Nat}(h0:0<j)(hj:j<=i)(hi:i<z.length):
  ((mvL (shR j i) z).set j (nth (mvL (shR j i) z) (j-1))).set (j-1) (nth (mvL (shR j i) z) j)=mvL (shR (j-1) i) z:=by
 refine ex_step (by omega) (by omega) fun p hp=>?_
 unfold exF shR
 split<;>(try split)<;>(try split)<;>(try split)<;>(try split)<;>omega
theorem shR_at {j i:Nat}(hj:j<=i)(hi:i<z.length):nth (mvL (shR j i) z) j=nth z i:=by
 rw[mvL_nth (by omega)];unfold shR;rw[if_neg (by omega),if_pos rfl]
theorem shR_low {j i k:Nat}(hk:k<j)(hj:j<=i)(hi:i<z.length):nth (mvL (shR j i) z) k=nth z k:=by
 rw[mvL_nth (by omega)];unfold shR;rw[if_neg (by omega),if_neg (by omega)]
theorem ris_shR (T:Tot lt n)(ho:IsOrd z)(hl:z.length=n){a j i:Nat}(ha:a<=j)(hj:j<=i)(hi:i<n)(hr:Ris lt z a i)(hg:∀ k,j<=k->k<i->lt (nt z i) (nt z k)=true)(hs:j=a\/lt (nt z (j-1)) (nt z i)=true):
  Ris lt (mvL (shR j i) z) a (i+1):=by
 intro p q h1 h2 h3
 rw[nt_mv (by omega),nt_mv (by omega)]
 have hd:∀ k,a<=k->k<j->lt (nt z k) (nt z i)=true:=fun k k1 k2=>by
  rcases hs with e | e
  ·omega
  ·by_cases q:k=j-1
   ·subst q;exact e
   ·exact lt_tr T ho hl (by omega) (by omega) hi (hr k (j-1) k1 (by omega) (by omega)) e
 unfold shR
 split<;>split<;>(try split)<;>(try split)<;>first | omega | (exact hr _ _ (by omega) (by omega) (by omega)) | (exact hg _ (by omega) (by omega)) | (exact hd _ (by omega) (by omega)) | skip
def shL (a k p:Nat):Nat:=if a<=p/\p<k then p+1 else if p=k then a else p
theorem shL_fx {a b k:Nat}(ha:a<=k)(hb:k<b):Fx a b (shL a k):=by
 refine⟨fun p hp=>?_,fun p h1 h2=>?_,fun p q e=>?_⟩
 ·unfold shL;split<;>(try split)<;>omega
 ·unfold shL;split<;>(try split)<;>omega
 ·unfold shL at e;split at e<;>split at e<;>(try split at e)<;>(try split at e)<;>omega
theorem shL_zero (a:Nat):mvL (shL a a) z=z:=mvL_same fun p _=>by unfold shL;split<;>(try split)<;>omega
theorem shL_step {a k:Nat}(ha:a<=k)(hk:k+1<z.length):
  ((mvL (shL a k) z).set k (nth (mvL (shL a k) z) (k+1))).set (k+1) (nth (mvL (shL a k) z) k)=mvL (shL a (k+1)) z:=by
 refine ex_step (by omega) hk fun p hp=>?_
 unfold exF shL
 split<;>(try split)<;>(try split)<;>(try split)<;>(try split)<;>omega
theorem ris_shL (T:Tot lt n)(ho:IsOrd z)(hl:z.length=n){a i b:Nat}(ha:a+1<=i)(hi:i<=b)(hb:b<=n)(hr:Ris lt z (a+1) b)(hg:∀ k,a+1<=k->k<i->lt (nt z k) (nt z a)=true)(hs:∀ k,i<=k->k<b->lt (nt z k) (nt z a)=false):
  Ris lt (mvL (shL a (i-1)) z) a b:=by
 intro p q h1 h2 h3
 rw[nt_mv (by omega),nt_mv (by omega)]
 have hd:∀ k,i<=k->k<b->lt (nt z a) (nt z k)=true:=fun k k1 k2=>(tot_not T ho hl (by omega) (by omega) (by omega)).1 (hs k k1 k2)
 unfold shL
 split<;>split<;>(try split)<;>(try split)<;>first | omega | (exact hr _ _ (by omega) (by omega) (by omega)) | (exact hg _ (by omega) (by omega)) | (exact hd _ (by omega) (by omega)) | skip
def swF (a b n p:Nat):Nat:=if a<=p/\p<a+n then p+(b-a) else if b<=p/\p<b+n then p-(b-a) else p
theorem swF_zero (a b:Nat):mvL (swF a b 0) z=z:=mvL_same fun p _=>by unfold swF;split<;>(try split)<;>omega
theorem swF_step {a b k:Nat}(h:a+k<b)(hb:b+k<z.length):
  ((mvL (swF a b k) z).set (a+k) (nth (mvL (swF a b k) z) (b+k))).set (b+k) (nth (mvL (swF a b k) z) (a+k))=mvL (swF a b (k+1)) z:=by
 refine ex_step (by omega) hb fun p hp=>?_
 unfold exF swF
 split<;>(try split)<;>(try split)<;>(try split)<;>(try split)<;>(try split)<;>omega
def rtF (m i j p:Nat):Nat:=if p<m-i then p else if p<m-i+j then p+i else if p<m+j then p-j else p
theorem rtF_fx {m i j:Nat}(hi:i<=m):Fx (m-i) (m+j) (rtF m i j):=by
 refine⟨fun p hp=>?_,fun p h1 h2=>?_,fun p q e=>?_⟩
 ·unfold rtF;split<;>(try split)<;>(try split)<;>omega
 ·unfold rtF;split<;>(try split)<;>(try split)<;>omega
 ·unfold rtF at e;split at e<;>(try split at e)<;>(try split at e)<;>(try split at e)<;>(try split at e)<;>(try split at e)<;>omega
theorem rtF_left {m i j:Nat}(hij:j<i)(hi:i<=m)(hb:m+j<=z.length):mvL (rtF m (i-j) j) (mvL (swF (m-i) m j) z)=mvL (rtF m i j) z:=by
 rw[mvL_mvL fun p hp=>(rtF_fx (by omega)).low hb hp]
 refine mvL_congr fun p hp=>?_
 unfold swF rtF
 split<;>(try split)<;>(try split)<;>(try split)<;>(try split)<;>(try split)<;>(try split)<;>omega
theorem rtF_right {m i j:Nat}(hij:i<j)(hi:i<=m)(hb:m+j<=z.length):mvL (rtF m i (j-i)) (mvL (swF (m-i) (m+j-i) i) z)=mvL (rtF m i j) z:=by
 rw[mvL_mvL fun p hp=>(rtF_fx (by omega)).low (by omega) hp]
 refine mvL_congr fun p hp=>?_
 unfold swF rtF
 split<;>(try split)<;>(try split)<;>(try split)<;>(try split)<;>(try split)<;>(try split)<;>omega
theorem rtF_last {m i:Nat}(hi:i<=m)(hb:m+i<=z.length):mvL (swF (m-i) m i) z=mvL (rtF m i i) z:=by
 refine mvL_congr fun p hp=>?_
 unfold swF rtF
 split<;>(try split)<;>(try split)<;>(try split)<;>(try split)<;>(try split)<;>omega
end
structure Bs (P:Nat->Bool) (L R i j:Nat):Prop where
 l:L<=i
 m:i<=j
 r:j<=R
 yes:∀ k,L<=k->k<i->P k=true
 no:∀ k,j<=k->k<R->P k=false
def Fall (P:Nat->Bool)(L R:Nat):Prop:=∀ k h,L<=k->k<=h->h<R->P h=true->P k=true
theorem Bs.zero {P:Nat->Bool}{L R:Nat}(h:L<=R):Bs P L R L R:=⟨Nat.le_refl _,h,Nat.le_refl _,fun k h1 h2=>by omega,fun k h1 h2=>by omega⟩
theorem Bs.up {P:Nat->Bool}{L R i j h:Nat}(B:Bs P L R i j)(F:Fall P L R)(hi:i<=h)(hj:h<j)(e:P h=true):Bs P L R (h+1) j:=
 ⟨by have:=B.l;omega,by omega,B.r,fun k h1 h2=>F k h h1 (by omega) (by have:=B.r;omega) e,B.no⟩
theorem Bs.down {P:Nat->Bool}{L R i j h:Nat}(B:Bs P L R i j)(F:Fall P L R)(hi:i<=h)(hj:h<j)(e:P h=false):Bs P L R i h:=by
 refine⟨B.l,hi,by have:=B.r;omega,B.yes,fun k h1 h2=>?_⟩
 cases q:P k with
 | false=>rfl
 | true=>rw[F h k (by have:=B.l;omega) h1 h2 q] at e;cases e
section
variable {lt : Nat → Nat → Bool} {n : Nat} {z : List Int}
theorem ris_le {a b i j:Nat}(hr:Ris lt z a b)(ha:a<=i)(hij:i<=j)(hb:j<b):nt z i=nt z j\/lt (nt z i) (nt z j)=true:=by
 by_cases e:i=j
 ·exact .inl (by rw[e])
 ·exact .inr (hr i j ha (by omega) hb)
theorem le_lt (T:Tot lt n)(ho:IsOrd z)(hl:z.length=n){i j k:Nat}(hi:i<n)(hj:j<n)(hk:k<n)(h1:nt z i=nt z j\/lt (nt z i) (nt z j)=true)(h2:lt (nt z j) (nt z k)=true):lt (nt z i) (nt z k)=true:=by
 rcases h1 with e | e
 ·rw[e];exact h2
 ·exact lt_tr T ho hl hi hj hk e h2
theorem lt_le (T:Tot lt n)(ho:IsOrd z)(hl:z.length=n){i j k:Nat}(hi:i<n)(hj:j<n)(hk:k<n)(h1:lt (nt z i) (nt z j)=true)(h2:nt z j=nt z k\/lt (nt z j) (nt z k)=true):lt (nt z i) (nt z k)=true:=by
 rcases h2 with e | e
 ·rw[<-e];exact h1
 ·exact lt_tr T ho hl hi hj hk h1 e
def Pa1 (lt:Nat->Nat->Bool)(z:List Int)(a k:Nat):Bool:=lt (nt z k) (nt z a)
def Pa2 (lt:Nat->Nat->Bool)(z:List Int)(m k:Nat):Bool:=!lt (nt z m) (nt z k)
def Pa3 (lt:Nat->Nat->Bool)(z:List Int)(p c:Nat):Bool:=!lt (nt z (p-c)) (nt z c)
theorem Pa1_fall (T:Tot lt n)(ho:IsOrd z)(hl:z.length=n){a m b:Nat}(ha:a<n)(hb:b<=n)(hr:Ris lt z m b):Fall (Pa1 lt z a) m b:=fun k h h1 h2 h3 e=>
 le_lt T ho hl (by omega) (by omega) ha (ris_le hr h1 h2 h3) e
theorem Pa2_fall (T:Tot lt n)(ho:IsOrd z)(hl:z.length=n){a m:Nat}(hm:m<n)(hr:Ris lt z a m):Fall (Pa2 lt z m) a m:=fun k h h1 h2 h3 e=>by
 unfold Pa2 at *
 cases q:lt (nt z m) (nt z k) with
 | false=>rfl
 | true=>rw[lt_le T ho hl hm (by omega) (by omega) q (ris_le hr h1 h2 h3)] at e;exact e
structure Wd (a m b mid L R:Nat):Prop where
 am:a<m
 mb:m<b
 md:2*mid<=a+b/\a+b<=2*mid+1
 al:a<=L
 lr:L<=R
 rm:R<=m
 rd:R<=mid
 lb:mid+m<=L+b
 le:L=a\/L+b=mid+m
 re:R=m\/R=mid
theorem Pa3_fall (T:Tot lt n)(ho:IsOrd z)(hl:z.length=n){a m b mid L R:Nat}(W:Wd a m b mid L R)(hb:b<=n)(r1:Ris lt z a m)(r2:Ris lt z m b):Fall (Pa3 lt z (mid+m-1)) L R:=fun k h h1 h2 h3 e=>by
 unfold Pa3 at *
 have w1:=W.al
 have w2:=W.rm
 have w3:=W.rd
 have w4:=W.lb
 have w5:=W.mb
 cases q:lt (nt z (mid+m-1-k)) (nt z k) with
 | false=>rfl
 | true=>
  have h4:=le_lt T ho hl (i:=mid+m-1-h) (j:=mid+m-1-k) (k:=k) (by omega) (by omega) (by omega) (ris_le r2 (by omega) (by omega) (by omega)) q
  rw[lt_le T ho hl (by omega) (by omega) (by omega) h4 (ris_le r1 (i:=k) (j:=h) (by omega) h2 (by omega))] at e;exact e
theorem rtF_none {m i j:Nat}(h:i=0\/j=0):mvL (rtF m i j) z=z:=mvL_same fun p _=>by
 unfold rtF;split<;>(try split)<;>(try split)<;>omega
structure Hv (lt:Nat->Nat->Bool) (z:List Int) (a s mid e b:Nat):Prop where
 r1:Ris lt z a s
 r2:Ris lt z s mid
 r3:Ris lt z mid e
 r4:Ris lt z e b
 s1:Sep z a s mid
 s2:Sep z mid e b
 x:∀ i j,a<=i->i<mid->mid<=j->j<b->lt (nt z i) (nt z j)=true
theorem halves (T:Tot lt n)(ho:IsOrd z)(hl:z.length=n){a m b mid L R s:Nat}(W:Wd a m b mid L R)(hb:b<=n)(r1:Ris lt z a m)(r2:Ris lt z m b)(hs:Sep z a m b)(B:Bs (Pa3 lt z (mid+m-1)) L R s s):
  a<=s/\s<=m/\s<=mid/\m<=mid+m-s/\mid<=mid+m-s/\mid+m-s<=b/\Hv lt (mvL (rtF m (m-s) (mid-s)) z) a s mid (mid+m-s) b:=by
 have w1:=W.al
 have w2:=W.rm
 have w3:=W.rd
 have w4:=W.lb
 have w5:=W.mb
 have w6:=W.am
 have w7:=W.md
 have w8:=W.le
 have w9:=W.re
 have w0:=W.lr
 have b1:=B.l
 have b2:=B.r
 refine⟨by omega,by omega,by omega,by omega,by omega,by omega,?_⟩
 have x1:∀ i j,a<=i->i<s->mid+m-s<=j->j<b->lt (nt z i) (nt z j)=true:=fun i j h1 h2 h3 h4=>by
  have h5:=B.yes (s-1) (by omega) (by omega)
  unfold Pa3 at h5
  rw[show mid+m-1-(s-1)=mid+m-s by omega,Bool.not_eq_true'] at h5
  have h6:=(tot_not T ho hl (by omega) (by omega) (by omega)).1 h5
  exact le_lt T ho hl (by omega) (by omega) (by omega) (ris_le r1 h1 (by omega) (by omega)) (lt_le T ho hl (by omega) (by omega) (by omega) h6 (ris_le r2 (by omega) h3 h4))
 have x2:∀ i j,m<=i->i<mid+m-s->s<=j->j<m->lt (nt z i) (nt z j)=true:=fun i j h1 h2 h3 h4=>by
  have h5:=B.no s (by omega) (by omega)
  unfold Pa3 at h5
  rw[Bool.not_eq_false'] at h5
  exact le_lt T ho hl (by omega) (by omega) (by omega) (ris_le r2 h1 (by omega) (by omega)) (lt_le T ho hl (by omega) (by omega) (by omega) h5 (ris_le r1 (by omega) h3 h4))
 have q1:∀ k,k<s->nt (mvL (rtF m (m-s) (mid-s)) z) k=nt z k:=fun k hk=>by
  rw[nt_mv (by omega)];unfold rtF;rw[if_pos (by omega)]
 have q2:∀ k,s<=k->k<mid->nt (mvL (rtF m (m-s) (mid-s)) z) k=nt z (k+(m-s)):=fun k h1 h2=>by
  rw[nt_mv (by omega)];unfold rtF;rw[if_neg (by omega),if_pos (by omega)]
 have q3:∀ k,mid<=k->k<mid+m-s->nt (mvL (rtF m (m-s) (mid-s)) z) k=nt z (k-(mid-s)):=fun k h1 h2=>by
  rw[nt_mv (by omega)];unfold rtF;rw[if_neg (by omega),if_neg (by omega),if_pos (by omega)]
 have q4:∀ k,mid+m-s<=k->k<b->nt (mvL (rtF m (m-s) (mid-s)) z) k=nt z k:=fun k h1 h2=>by
  rw[nt_mv (by omega)];unfold rtF;rw[if_neg (by omega),if_neg (by omega),if_neg (by omega)]
 refine⟨fun i j h1 h2 h3=>?_,fun i j h1 h2 h3=>?_,fun i j h1 h2 h3=>?_,fun i j h1 h2 h3=>?_,fun i j h1 h2 h3 h4=>?_,fun i j h1 h2 h3 h4=>?_,fun i j h1 h2 h3 h4=>?_⟩
 ·rw[q1 i (by omega),q1 j h3];exact r1 i j h1 h2 (by omega)
 ·rw[q2 i h1 (by omega),q2 j (by omega) h3];exact r2 _ _ (by omega) (by omega) (by omega)
 ·rw[q3 i h1 (by omega),q3 j (by omega) h3];exact r1 _ _ (by omega) (by omega) (by omega)
 ·rw[q4 i h1 (by omega),q4 j (by omega) h3];exact r2 _ _ (by omega) (by omega) (by omega)
 ·rw[q1 i h2,q2 j h3 h4];exact hs _ _ (by omega) (by omega) (by omega) (by omega)
 ·rw[q3 i h1 h2,q4 j h3 h4];exact hs _ _ (by omega) (by omega) (by omega) (by omega)
 ·by_cases c1:i<s
  ·rw[q1 i c1]
   by_cases c2:j<mid+m-s
   ·rw[q3 j h3 c2];exact r1 _ _ h1 (by omega) (by omega)
   ·rw[q4 j (by omega) h4];exact x1 _ _ h1 c1 (by omega) h4
  ·rw[q2 i (by omega) h2]
   by_cases c2:j<mid+m-s
   ·rw[q3 j h3 c2];exact x2 _ _ (by omega) (by omega) (by omega) (by omega)
   ·rw[q4 j (by omega) h4];exact r2 _ _ (by omega) (by omega) h4
structure Hw (lt:Nat->Nat->Bool) (z:List Int) (a mid e b:Nat):Prop where
 r1:Ris lt z a mid
 r3:Ris lt z mid e
 r4:Ris lt z e b
 s2:Sep z mid e b
 x:∀ i j,a<=i->i<mid->mid<=j->j<b->lt (nt z i) (nt z j)=true
theorem hv_left {z1 z2:List Int}{a s mid e b:Nat}(hm:mid<=z1.length)(hme:mid<=e)(H:Hv lt z1 a s mid e b)(M:Mv a mid z1 z2)(hr:Ris lt z2 a mid):Hw lt z2 a mid e b:=by
 have q:∀ k,mid<=k->nt z2 k=nt z1 k:=fun k hk=>by unfold nt;rw[M.out hm (.inr hk)]
 refine⟨hr,fun i j h1 h2 h3=>?_,fun i j h1 h2 h3=>?_,fun i j h1 h2 h3 h4=>?_,fun i j h1 h2 h3 h4=>?_⟩
 ·rw[q i h1,q j (by omega)];exact H.r3 i j h1 h2 h3
 ·rw[q i (by omega),q j (by omega)];exact H.r4 i j h1 h2 h3
 ·rw[q i h1,q j (by omega)];exact H.s2 i j h1 h2 h3 h4
 ·obtain⟨i',h5,h6,h7⟩:=M.ins hm h1 h2
  rw[q j h3,show nt z2 i=nt z1 i' by unfold nt;rw[h7]]
  exact H.x i' j h5 h6 h3 h4
theorem hv_skip {z1:List Int}{a s mid e b:Nat}(h:s<=a\/mid<=s)(hs:a<=s)(hs2:s<=mid)(H:Hv lt z1 a s mid e b):Hw lt z1 a mid e b:=by
 refine⟨fun i j h1 h2 h3=>?_,H.r3,H.r4,H.s2,H.x⟩
 rcases h with h | h
 ·exact H.r2 i j (by omega) h2 h3
 ·exact H.r1 i j h1 h2 (by omega)
theorem hw_right {z2 z3:List Int}{a mid e b:Nat}(hb:b<=z2.length)(H:Hw lt z2 a mid e b)(M:Mv mid b z2 z3)(hr:Ris lt z3 mid b):Ris lt z3 a b:=by
 have q:∀ k,k<mid->nt z3 k=nt z2 k:=fun k hk=>by unfold nt;rw[M.out hb (.inl hk)]
 intro i j h1 h2 h3
 by_cases c1:mid<=i
 ·exact hr i j c1 h2 h3
 ·by_cases c2:mid<=j
  ·obtain⟨j',h5,h6,h7⟩:=M.ins hb c2 h3
   rw[q i (by omega),show nt z3 j=nt z2 j' by unfold nt;rw[h7]]
   exact H.x i j' h1 (by omega) h5 h6
  ·rw[q i (by omega),q j (by omega)];exact H.r1 i j h1 h2 (by omega)
theorem hw_skip {z2:List Int}{a mid e b:Nat}(h:e<=mid\/b<=e)(he:mid<=e)(he2:e<=b)(H:Hw lt z2 a mid e b):Ris lt z2 a b:=by
 intro i j h1 h2 h3
 by_cases c1:mid<=i
 ·rcases h with h | h
  ·exact H.r4 i j (by omega) h2 h3
  ·exact H.r3 i j c1 h2 (by omega)
 ·by_cases c2:mid<=j
  ·exact H.x i j h1 (by omega) c2 h3
  ·exact H.r1 i j h1 h2 (by omega)
structure Sg (lt:Nat->Nat->Bool) (n:Nat) (Q:Nat->Prop) (z:List Int):Prop where
 len:z.length=n
 ord:IsOrd z
 bd:∀ M,M<n->Q M->∀ k,k<n->(k<M ↔ nt z k<M)
 ris:∀ i j,i<j->j<n->(∀ M,i<M->M<=j->¬ Q M)->lt (nt z i) (nt z j)=true
theorem Sg.congr {Q Q':Nat->Prop}(h:Sg lt n Q z)(e:∀ M,0<M->M<n->(Q M ↔ Q' M)):Sg lt n Q' z:=by
 refine⟨h.len,h.ord,fun M hM hQ k hk=>?_,fun i j h1 h2 h3=>h.ris i j h1 h2 fun M k1 k2 hQ=>h3 M k1 k2 ((e M (by omega) (by omega)).1 hQ)⟩
 by_cases h0:M=0
 ·subst h0;exact⟨fun h=>absurd h (by omega),fun h=>absurd h (by omega)⟩
 ·exact h.bd M hM ((e M (by omega) hM).2 hQ) k hk
theorem idn_nt {k:Nat}(h:k<n):nt (idn n) k=k:=by
 unfold nt;rw[show nth (idn n) k=(k:Int) by rw[nth_get _ _ (by simp[idn];exact h)];simp[idn]];omega
theorem Sg.start (n:Nat):Sg lt n (fun _=>True) (idn n):=
 ⟨by simp[idn],idn_ord n,fun M hM _ k hk=>by rw[idn_nt hk],fun i j h1 h2 h3=>absurd trivial (h3 j h1 (Nat.le_refl _))⟩
theorem Sg.ris_in {Q:Nat->Prop}(h:Sg lt n Q z){a b:Nat}(hb:b<=n)(hq:∀ M,a<M->M<b->¬ Q M):Ris lt z a b:=fun i j h1 h2 h3=>
 h.ris i j h2 (by omega) fun M k1 k2=>hq M (by omega) (by omega)
theorem Sg.sep {Q:Nat->Prop}(h:Sg lt n Q z){a m b:Nat}(hb:b<=n)(hm:Q m)(hmb:m<b):Sep z a m b:=fun i j h1 h2 h3 h4=>by
 have e1:=(h.bd m (by omega) hm i (by omega)).1 h2
 have e2:=(h.bd m (by omega) hm j (by omega))
 omega
theorem Sg.next {Q:Nat->Prop}{z':List Int}(h:Sg lt n Q z){a b:Nat}(hab:a<=b)(hb:b<=n)(qa:a=0\/Q a)(qb:b=n\/Q b)(M:Mv a b z z')(hr:Ris lt z' a b):Sg lt n (fun M=>Q M/\¬ (a<M/\M<b)) z':=by
 have hl:=h.len
 have hbz:b<=z.length:=by omega
 refine⟨by rw[M.len,hl],M.ord hbz h.ord,fun X hX hQ k hk=>?_,fun i j h1 h2 h3=>?_⟩
 ·by_cases c:a<=k/\k<b
  ·obtain⟨k',h5,h6,h7⟩:=M.ins hbz c.1 c.2
   have e:=h.bd X hX hQ.1 k' (by omega)
   rw[show nt z' k=nt z k' by unfold nt;rw[h7],<-e]
   have:=hQ.2
   omega
  ·rw[show nt z' k=nt z k by unfold nt;rw[M.out hbz (by omega)]]
   exact h.bd X hX hQ.1 k hk
 ·by_cases c1:j<a\/b<=i
  ·rw[show nt z' i=nt z i by unfold nt;rw[M.out hbz (by omega)],show nt z' j=nt z j by unfold nt;rw[M.out hbz (by omega)]]
   exact h.ris i j h1 h2 fun X k1 k2 hQ=>h3 X k1 k2 ⟨hQ,by omega⟩
  ·by_cases c2:i<a
   ·rcases qa with e | e
    ·omega
    ·exact absurd ⟨e,by omega⟩ (h3 a c2 (by omega))
   ·by_cases c3:b<=j
    ·rcases qb with e | e
     ·omega
     ·exact absurd ⟨e,by omega⟩ (h3 b (by omega) c3)
    ·exact hr i j (by omega) h1 (by omega)
theorem Sg.done (T:Tot lt n){Q:Nat->Prop}(h:Sg lt n Q z)(hq:∀ M,0<M->M<n->¬ Q M):z=grd lt n:=
 grd_only T h.ord h.len fun i hi=>h.ris i (i+1) (by omega) hi fun M k1 k2=>hq M (by omega) (by omega)
end
def zc (z:List Int):Nat->Value:=fun j=>.int .i64 (nth z j)
def SwP (S n:Nat)(z':List Int)(w:World)(r:Ending)(w':World):Prop:=
 (∃ v,r=.returned v)/\w'.rowIs S 3 n (zc z')/\w.grownBy w' (some S)
theorem zc_put {wr:World}{S:Nat}{n:Nat}{z:List Int}(h:wr.rowIs S 3 n (zc z))(hl:z.length=n){i:Nat}(hi:i<n)(v:Int):(wr.setCell ⟨S,i,none⟩ (.int .i64 v)).rowIs S 3 n (zc (z.set i v)):=by
 refine (h.set i _).congr fun j hj=>?_
 unfold zc
 rw[nth_set _ _ _ _ (by omega)]
 by_cases e:j=i
 ·rw[if_pos e,if_pos e]
 ·rw[if_neg e,if_neg e]
theorem zc_swap {wr:World}{S:Nat}{n:Nat}{z:List Int}(h:wr.rowIs S 3 n (zc z))(hl:z.length=n){i j:Nat}(hi:i<n)(hj:j<n):
  ((wr.setCell ⟨S,i,none⟩ (.int .i64 (nth z j))).setCell ⟨S,j,none⟩ (.int .i64 (nth z i))).rowIs S 3 n (zc ((z.set i (nth z j)).set j (nth z i))):=
 zc_put (zc_put h hl hi _) (by rw[List.length_set];exact hl) hj _
theorem sgrown_t {a w w':World}{row:Option Nat}(h:a.grownBy w row)(k:w.grownBy w' row):a.grownBy w' row:=
 ⟨k.os.trans h.os,k.tape.trans h.tape,k.output.trans h.output,Nat.le_trans h.size k.size,fun i hi hr=>(k.block i (Nat.lt_of_lt_of_le hi h.size) hr).trans (h.block i hi hr)⟩
theorem sgrown_set (w:World)(b i:Nat)(v:Value):w.grownBy (w.setCell ⟨b,i,none⟩ v) (some b):=
 ⟨rfl,rfl,rfl,by simp[World.setCell],fun k _ hk=>Below.heap_setCell _ _ _ _ (fun e=>hk (by simp[e]))⟩
theorem sgrown_set2 {a w:World}{b:Nat}(h:a.grownBy w (some b))(i j:Nat)(u v:Value):a.grownBy ((w.drew.setCell ⟨b,i,none⟩ u).setCell ⟨b,j,none⟩ v) (some b):=
 sgrown_t (sgrown_t (sgrown_t h (w':=w.drew) ⟨rfl,rfl,rfl,Nat.le_refl _,fun _ _ _=>rfl⟩) (sgrown_set _ _ _ _)) (sgrown_set _ _ _ _)
theorem wr_sm {x:Int}(h:-9223372036854775808<=x/\x<=9223372036854775807):IntKind.i64.wrap x=x:=IntWalk.i64_in x h
theorem swr_any (S n sc:Nat)(f:Nat)(cs:List Value)(a b m:Nat)(z:List Int)(hl:z.length=n)(hn:n<=4096)(h1:a+m<=b)(h2:b+m<=n)(w:World)(hrow:w.rowIs S 3 n (zc z)):
  Calls Tryz.prog 200 #[.slice (some ⟨S,0,none⟩) n sc,.int .i64 (a:Nat),.int .i64 (b:Nat),.int .i64 (m:Nat),.func (.func f) #[] cs.toArray] w (SwP S n (mvL (swF a b m) z) w):=by
 have HR:Hid (w.rowIs S 3 n (zc z)):=hrow
 have HL:Hid (z.length=n):=hl
 clear hrow hl
 go_enter Tryz.func200,Tryz.ntmps200
 go_wp2_with fail
 go_loopw [10] (fun i wr=>∃ k:Nat,k<=m/\i=.int .i64 k/\wr.rowIs S 3 n (zc (mvL (swF a b k) z))/\w.grownBy wr (some S)) (fun i _=>m-(intOf i).toNat)
 case atStart=>exact⟨0,Nat.zero_le _,rfl,by rw[swF_zero];exact HR.out,World.grownBy.refl _ _⟩
 case round=>
  obtain⟨k,hk,rfl,hrow,hG⟩:=hrel
  by_cases hlt:k<m
  ·have hL2:(mvL (swF a b k) z).length=n:=by rw[mvL_length];exact HL.out
   obtain⟨A,hA⟩:∃ A,A=a+k:=⟨_,rfl⟩
   obtain⟨B,hB⟩:∃ B,B=b+k:=⟨_,rfl⟩
   have hAn:A<n:=by omega
   have hBn:B<n:=by omega
   have hAB:A≠B:=by omega
   have HS:=swF_step (z:=z) (a:=a) (b:=b) (k:=k) (by omega) (by rw[HL.out];omega)
   rw[<-hA,<-hB] at HS
   have HW:=zc_swap hrow hL2 hAn hBn
   rw[HS] at HW
   have HQ:Hid (w.grownBy wr (some S)):=hG
   have ca:=hrow.cell hAn
   have cb:=hrow.cell hBn
   have fa:=hrow.frozen A
   have fb:=hrow.frozen B
   unfold zc at ca cb
   obtain⟨xa,hxa⟩:∃ xa,xa=nth (mvL (swF a b k) z) A:=⟨_,rfl⟩
   obtain⟨xb,hxb⟩:∃ xb,xb=nth (mvL (swF a b k) z) B:=⟨_,rfl⟩
   rw[<-hxa] at ca HW
   rw[<-hxb] at cb HW
   have HWW:Hid (((wr.setCell ⟨S,A,none⟩ (.int .i64 xb)).setCell ⟨S,B,none⟩ (.int .i64 xa)).rowIs S 3 n (zc (mvL (swF a b (k+1)) z))):=HW
   have w1:IntKind.i64.wrap ((a:Int)+(k:Int))=(A:Int):=by rw[wr_sm (by omega)];omega
   have w2:IntKind.i64.wrap ((b:Int)+(k:Int))=(B:Int):=by rw[wr_sm (by omega)];omega
   have cb2:(wr.drew.setCell ⟨S,A,none⟩ (.int .i64 xb)).cell? ⟨S,B,none⟩=some (.int .i64 xb):=(World.cell?_setCell_other _ _ _ _ (by intro e;simp only[Addr.mk.injEq] at e;omega)).trans cb
   have fb2:(wr.drew.setCell ⟨S,A,none⟩ (.int .i64 xb)).frozen? ⟨S,B,none⟩=false:=by rw[World.frozen?_setCell];exact fb
   clear hrow hG HW HS hxa hxb hL2 hA hB
   go_wp2_with fail
   refine bT 20 (fun w'=>w'.cell? ⟨S,A,none⟩=some (.int .i64 xa)/\w'.cell? ⟨S,B,none⟩=some (.int .i64 xb)) 24 (⟨ca,cb⟩) fun hq0=>?_
   refine pT 0 hq0 ?_;refine pT 1 hq0 ?_;refine pT 2 hq0 ?_;refine pT 3 hq0 ?_;refine pT 4 hq0 ?_;refine pT 5 hq0 ?_;refine pT 6 hq0 ?_;refine pT 7 hq0 ?_;refine pT 8 hq0 ?_
   refine pT 9 hq0 ?_;refine pT 10 hq0 ?_;refine pT 11 hq0 ?_;refine pT 12 hq0 ?_;refine lT 13 hq0 ?_;refine pT 14 hq0 ?_;refine pT 15 hq0 ?_;refine pT 16 hq0 ?_
   refine pT 17 hq0 ?_;refine pT 18 hq0 ?_;refine lT 19 hq0 ?_
   clear hq0
   refine oT 20 fun K hK=>?_
   go_simp
   refine hK.out _ _ (fun h=>absurd h (by decide)) ?_
   clear hK K
   refine oT 21 fun K hK=>?_
   go_simp
   refine hK.out _ _ (fun h=>absurd h (by decide)) ?_
   clear hK K
   refine oT 22 fun K hK=>?_
   go_simp
   refine hK.out _ _ (fun h=>absurd h (by decide)) ?_
   clear hK K
   refine oT 23 fun K hK=>?_
   go_simp
   refine hK.out _ _ (fun h=>absurd h (by decide)) ?_
   clear hK K
   refine dT ?_
   go_wp2_with fail
   exact⟨⟨k+1,by omega,by go_num,HWW.out,sgrown_set2 HQ.out _ _ _ _⟩,by simp[intOf];omega⟩
  ·obtain rfl:k=m:=by omega
   have HQ:Hid (wr.rowIs S 3 n (zc (mvL (swF a b k) z))/\w.grownBy wr (some S)):=⟨hrow,hG⟩
   clear hrow hG
   go_wp2_with fail
   go_end0
   exact⟨⟨_,rfl⟩,HQ.1,HQ.2⟩
def CmpF (f:Nat)(cs:List Value)(n:Nat)(c:Nat->Nat->Int)(S:Nat)(w0:World):Prop:=
 ∀ (x y:Nat) (W:World),x<n->y<n->w0.grownBy W (some S)->Calls Tryz.prog f (.int .i64 (x:Nat)::.int .i64 (y:Nat)::cs).toArray W fun r W'=>r=.returned (.int .i64 (c x y))/\Below W.heap.size W W'
def Sod (S n:Nat)(lt:Nat->Nat->Bool)(a b:Nat)(z:List Int)(w:World)(r:Ending)(w':World):Prop:=
 (∃ v,r=.returned v)/\∃ z',w'.rowIs S 3 n (zc z')/\w.grownBy w' (some S)/\Mv a b z z'/\Ris lt z' a b
theorem sgrown_bel {a w w':World}{row:Option Nat}(h:a.grownBy w row)(k:Below w.heap.size w w'):a.grownBy w' row:=
 sgrown_t h ⟨k.os,k.tape,k.output,k.size,fun i hi _=>k.block i hi⟩
theorem zc_at {W:World}{S n:Nat}{z:List Int}(h:W.rowIs S 3 n (zc z))(ho:IsOrd z)(hl:z.length=n){i:Nat}(hi:i<n):W.cell? ⟨S,i,none⟩=some (.int .i64 ((nt z i:Nat):Int)):=by
 rw[h.cell hi]
 unfold zc nt
 rw[(ord_at ho (i:=i) (by omega)).2]
theorem nt_nth {z:List Int}(ho:IsOrd z){i:Nat}(hi:i<z.length):nth z i=((nt z i:Nat):Int):=((ord_at ho hi).2).symm
theorem zc_swap2 {W:World}{S n:Nat}{q q':List Int}(h:W.rowIs S 3 n (zc q))(hl:q.length=n){i j:Nat}(hi:i<n)(hj:j<n){xi xj:Int}(ei:nth q i=xi)(ej:nth q j=xj)(e:(q.set i (nth q j)).set j (nth q i)=q'):
  ((W.setCell ⟨S,i,none⟩ (.int .i64 xj)).setCell ⟨S,j,none⟩ (.int .i64 xi)).rowIs S 3 n (zc q'):=by
 subst ei ej e
 exact zc_swap h hl hi hj
theorem ins_any (S n sc:Nat)(f:Nat)(cs:List Value)(hE:∀ args w,(callFunc f args).run Tryz.prog w=.ok (.enter f args) w)(lt:Nat->Nat->Bool)(c:Nat->Nat->Int)(T:Tot lt n)(hcl:∀ x y,x<n->y<n->y<x->(c x y<0 ↔ lt x y=true))(w0:World)(hC:CmpF f cs n c S w0)
  (a b:Nat)(z:List Int)(hl:z.length=n)(ho:IsOrd z)(hn:n<=4096)(hab:a<=b)(hb:b<=n)(hup:∀ p q,a<=p->p<q->q<b->nt z p<nt z q)(w:World)(hw:w0.grownBy w (some S))(hrow:w.rowIs S 3 n (zc z)):
  Calls Tryz.prog 187 #[.slice (some ⟨S,0,none⟩) n sc,.int .i64 (a:Nat),.int .i64 (b:Nat),.func (.func f) #[] cs.toArray] w (Sod S n lt a b z w):=by
 have HR:Hid (w.rowIs S 3 n (zc z)):=hrow
 have HL:Hid (z.length=n/\IsOrd z):=⟨hl,ho⟩
 have HT:Hid (Tot lt n/\(∀ x y,x<n->y<n->y<x->(c x y<0 ↔ lt x y=true))):=⟨T,hcl⟩
 have HC:Hid (CmpF f cs n c S w0):=hC
 have HU:Hid (∀ p q,a<=p->p<q->q<b->nt z p<nt z q):=hup
 have HW0:Hid (w0.grownBy w (some S)):=hw
 clear hrow hl ho T hcl hC hup hw
 go_enter Tryz.func187,Tryz.ntmps187
 go_wp2_with fail
 go_loopw [8] (fun vi wr=>∃ (i:Nat) (zr:List Int),a+1<=i/\(i<=b\/i=a+1)/\vi=.int .i64 i/\wr.rowIs S 3 n (zc zr)/\w.grownBy wr (some S)/\Mv a (min i b) z zr/\Ris lt zr a i) (fun vi _=>b-(intOf vi).toNat)
 case atStart=>exact⟨a+1,z,Nat.le_refl _,.inr rfl,by go_num,HR.out,World.grownBy.refl _ _,Mv.refl _ _ _,Ris.one _ _ (Nat.le_refl _)⟩
 case round=>
  obtain⟨i,zr,hi,hi2,rfl,hrow,hG,hM,hr⟩:=hrel
  by_cases hib:i<b
  ·rw[Nat.min_eq_left (by omega)] at hM
   have hLr:zr.length=n:=by rw[hM.len];exact HL.1
   have hOr:IsOrd zr:=hM.ord (by have:=HL.1;omega) HL.2
   have HZ:Hid (zr.length=n/\IsOrd zr/\Mv a i z zr/\Ris lt zr a i):=⟨hLr,hOr,hM,hr⟩
   have HX:Hid (∀ k,a<=k->k<i->nt zr k<nt zr i):=fun k k1 k2=>by
    obtain⟨k',h5,h6,h7⟩:=hM.ins (by have:=HL.1;omega) k1 k2
    rw[show nt zr k=nt z k' by unfold nt;rw[h7],show nt zr i=nt z i by unfold nt;rw[hM.out (by have:=HL.1;omega) (.inr (Nat.le_refl _))]]
    exact HU.out k' i h5 h6 hib
   have HRi:Hid (wr.rowIs S 3 n (zc zr)):=hrow
   have HGi:Hid (w.grownBy wr (some S)):=hG
   clear hrow hG hM hr hLr hOr
   go_wp2_with fail
   go_loopw [9] (fun vj wq=>∃ j:Nat,a<=j/\j<=i/\vj=.int .i64 j/\wq.rowIs S 3 n (zc (mvL (shR j i) zr))/\w.grownBy wq (some S)/\∀ k,j<=k->k<i->lt (nt zr i) (nt zr k)=true) (fun vj _=>(intOf vj).toNat)
   case atStart=>exact⟨i,by omega,Nat.le_refl _,rfl,by rw[shR_zero];exact HRi.out,HGi.out,fun k h1 h2=>by omega⟩
   case round=>
    obtain⟨j,hj1,hj2,rfl,hrow,hG,hlt⟩:=hrel
    have hF:=shR_fx (a:=a) (b:=i+1) (j:=j) (i:=i) hj1 hj2 (Nat.lt_succ_self _)
    have hMq:Mv a (i+1) zr (mvL (shR j i) zr):=⟨_,rfl,hF⟩
    have hLq:(mvL (shR j i) zr).length=n:=by rw[mvL_length];exact HZ.1
    have hOq:IsOrd (mvL (shR j i) zr):=hMq.ord (by rw[HZ.1];omega) HZ.2.1
    have HMq:Hid (Mv a (i+1) zr (mvL (shR j i) zr)):=hMq
    have HLt:Hid (∀ k,j<=k->k<i->lt (nt zr i) (nt zr k)=true):=hlt
    have HGq:Hid (w.grownBy wr (some S)):=hG
    have HRq:Hid (wr.rowIs S 3 n (zc (mvL (shR j i) zr))):=hrow
    have hSz:S<wr.heap.size:=hrow.lt
    clear hF hMq hlt
    by_cases hja:a<j
    ·obtain⟨J,hJ⟩:∃ J,j=J+1:=⟨j-1,by omega⟩
     have hjn:j<n:=by omega
     have hJn:J<n:=by omega
     have cj:=zc_at hrow hOq hLq hjn
     have cJ:=zc_at hrow hOq hLq hJn
     have eX:nt (mvL (shR j i) zr) j=nt zr i:=by unfold nt;rw[shR_at hj2 (by rw[HZ.1];omega)]
     have eY:nt (mvL (shR j i) zr) J=nt zr J:=by unfold nt;rw[shR_low (by omega) hj2 (by rw[HZ.1];omega)]
     rw[eX] at cj
     rw[eY] at cJ
     obtain⟨X,hX⟩:∃ X,X=nt zr i:=⟨_,rfl⟩
     obtain⟨Y,hY⟩:∃ Y,Y=nt zr J:=⟨_,rfl⟩
     rw[<-hX] at cj
     rw[<-hY] at cJ
     have hXn:X<n:=by rw[hX];exact nt_lt HZ.2.1 HZ.1 (by omega)
     have hYn:Y<n:=by rw[hY];exact nt_lt HZ.2.1 HZ.1 (by omega)
     have HCL:Hid (c X Y<0 ↔ lt (nt zr i) (nt zr J)=true):=by
      rw[<-hX,<-hY]
      exact HT.2 X Y hXn hYn (by rw[hX,hY];exact HX.out J (by omega) (by omega))
     have HCC:Hid (Calls Tryz.prog f (.int .i64 (X:Nat)::.int .i64 (Y:Nat)::cs).toArray wr.drew fun r W'=>r=.returned (.int .i64 (c X Y))/\Below wr.drew.heap.size wr.drew W'):=
      HC.out X Y wr.drew hXn hYn (sgrown_t HW0.out (sgrown_t HGq.out ⟨rfl,rfl,rfl,Nat.le_refl _,fun _ _ _=>rfl⟩))
     have w1:IntKind.i64.wrap ((j:Int)-1)=(J:Int):=by rw[wr_sm (by omega)];omega
     have HXY:Hid (X=nt zr i/\Y=nt zr J/\j=J+1):=⟨hX,hY,hJ⟩
     clear hrow hG hOq hLq eX eY hX hY
     by_cases hc:c X Y<0
     ·have HLL:Hid (lt (nt zr i) (nt zr J)=true):=HCL.1 hc
      clear hJ
      go_wp2_with fail
      refine bT 14 (fun w'=>w'.cell? ⟨S,j,none⟩=some (.int .i64 (X:Nat))/\w'.cell? ⟨S,J,none⟩=some (.int .i64 (Y:Nat))) 17 (⟨cj,cJ⟩) fun hq0=>?_
      refine pT 0 hq0 ?_;refine pT 1 hq0 ?_;refine pT 2 hq0 ?_;refine pT 3 hq0 ?_;refine pT 4 hq0 ?_;refine pT 5 hq0 ?_;refine pT 6 hq0 ?_;refine pT 7 hq0 ?_;refine lT 8 hq0 ?_
      refine pT 9 hq0 ?_;refine pT 10 hq0 ?_;refine pT 11 hq0 ?_;refine pT 12 hq0 ?_;refine lT 13 hq0 ?_
      clear hq0
      refine oT 14 fun K hK=>?_
      go_simp
      go_wp2_with fail
      refine HCC.mono ?_
      rintro e v1 ⟨rfl,hB1⟩
      refine hK.out _ _ (fun h=>absurd h (by decide)) ?_
      clear hK K
      refine oT 15 fun K hK=>?_
      go_simp
      refine hK.out _ _ (fun h=>absurd h (by decide)) ?_
      clear hK K
      refine oT 16 fun K hK=>?_
      go_simp
      refine hK.out _ _ (fun h=>absurd h (by decide)) ?_
      clear hK K
      refine dT ?_
      have row1:v1.rowIs S 3 n (zc (mvL (shR j i) zr)):=HRq.of_block (hB1.block S hSz)
      have HG1:Hid (w.grownBy v1 (some S)):=sgrown_bel (w:=wr) HGq.out ((Below.refl _ wr).drew.trans hB1)
      have cj1:v1.cell? ⟨S,j,none⟩=some (.int .i64 (X:Nat)):=(hB1.cell (p:=⟨S,j,none⟩) hSz).trans cj
      have cJ1:v1.cell? ⟨S,J,none⟩=some (.int .i64 (Y:Nat)):=(hB1.cell (p:=⟨S,J,none⟩) hSz).trans cJ
      have fj:=row1.frozen j
      have fJ:=row1.frozen J
      have hLq:(mvL (shR j i) zr).length=n:=by rw[mvL_length];exact HZ.1
      have HR2:Hid (((v1.setCell ⟨S,j,none⟩ (.int .i64 (Y:Nat))).setCell ⟨S,J,none⟩ (.int .i64 (X:Nat))).rowIs S 3 n (zc (mvL (shR J i) zr))):=by
       refine zc_swap2 row1 hLq hjn hJn ?_ ?_ ?_
       ·rw[HXY.1,shR_at hj2 (by rw[HZ.1];omega)];exact nt_nth HZ.2.1 (by rw[HZ.1];omega)
       ·have:=HXY.2.2
        rw[HXY.2.1,shR_low (by omega) hj2 (by rw[HZ.1];omega)];exact nt_nth HZ.2.1 (by rw[HZ.1];omega)
       ·have h:=shR_step (z:=zr) (j:=j) (i:=i) (by omega) hj2 (by rw[HZ.1];omega)
        rw[show j-1=J by have:=HXY.2.2;omega] at h
        exact h
      have hjJn:j≠J:=by have:=HXY.2.2;omega
      clear row1 hB1 cj cJ hLq
      go_wp2_with fail
      refine bT 14 (fun w'=>w'.cell? ⟨S,j,none⟩=some (.int .i64 (X:Nat))/\w'.cell? ⟨S,J,none⟩=some (.int .i64 (Y:Nat))) 18 (⟨cj1,cJ1⟩) fun hq18=>?_
      refine pT 0 hq18 ?_;refine pT 1 hq18 ?_;refine pT 2 hq18 ?_;refine pT 3 hq18 ?_;refine pT 4 hq18 ?_;refine pT 5 hq18 ?_;refine pT 6 hq18 ?_;refine pT 7 hq18 ?_
      refine pT 8 hq18 ?_;refine lT 9 hq18 ?_;refine pT 10 hq18 ?_;refine pT 11 hq18 ?_;refine pT 12 hq18 ?_;refine lT 13 hq18 ?_
      clear hq18
      refine oT 14 fun K hK=>?_
      go_simp
      refine hK.out _ _ (fun h=>absurd h (by decide)) ?_
      clear hK K
      refine oT 15 fun K hK=>?_
      go_simp
      refine hK.out _ _ (fun h=>absurd h (by decide)) ?_
      clear hK K
      refine oT 16 fun K hK=>?_
      go_simp
      refine hK.out _ _ (fun h=>absurd h (by decide)) ?_
      clear hK K
      refine oT 17 fun K hK=>?_
      go_simp
      refine hK.out _ _ (fun h=>absurd h (by decide)) ?_
      clear hK K
      refine dT ?_
      go_wp2_with fail
      have hjJ:=HXY.2.2
      exact⟨⟨J,by omega,by omega,by first | rfl | (congr 1;omega),HR2.out,sgrown_set2 HG1.out _ _ _ _,fun k h1 h2=>by
       by_cases e:k=J
       ·rw[e];exact HLL.out
       ·exact HLt.out k (by omega) h2⟩,by simp[intOf];omega⟩
     ·have HLL:Hid (lt (nt zr J) (nt zr i)=true):=(tot_not HT.1 HZ.2.1 HZ.1 (by omega) (by omega) (by omega)).1 (by
       cases q:lt (nt zr i) (nt zr J) with
       | false=>rfl
       | true=>exact absurd (HCL.2 q) hc)
      clear hJ
      go_wp2_with fail
      refine bT 14 (fun w'=>w'.cell? ⟨S,j,none⟩=some (.int .i64 (X:Nat))/\w'.cell? ⟨S,J,none⟩=some (.int .i64 (Y:Nat))) 17 (⟨cj,cJ⟩) fun hq37=>?_
      refine pT 0 hq37 ?_;refine pT 1 hq37 ?_;refine pT 2 hq37 ?_;refine pT 3 hq37 ?_;refine pT 4 hq37 ?_;refine pT 5 hq37 ?_;refine pT 6 hq37 ?_;refine pT 7 hq37 ?_
      refine lT 8 hq37 ?_;refine pT 9 hq37 ?_;refine pT 10 hq37 ?_;refine pT 11 hq37 ?_;refine pT 12 hq37 ?_;refine lT 13 hq37 ?_
      clear hq37
      refine oT 14 fun K hK=>?_
      go_simp
      go_wp2_with fail
      refine HCC.mono ?_
      rintro e v1 ⟨rfl,hB1⟩
      refine hK.out _ _ (fun h=>absurd h (by decide)) ?_
      clear hK K
      refine oT 15 fun K hK=>?_
      go_simp
      refine hK.out _ _ (fun h=>absurd h (by decide)) ?_
      clear hK K
      refine oT 16 fun K hK=>?_
      go_simp
      refine hK.out _ _ (fun h=>absurd h (by decide)) ?_
      clear hK K
      refine dT ?_
      have HR1:Hid (v1.rowIs S 3 n (zc (mvL (shR j i) zr))):=HRq.of_block (hB1.block S hSz)
      have HG1:Hid (w.grownBy v1 (some S)):=sgrown_bel (w:=wr) HGq.out ((Below.refl _ wr).drew.trans hB1)
      clear hB1 cj cJ
      go_wp2_with fail
      have hjJ:=HXY.2.2
      refine⟨⟨i+1,mvL (shR j i) zr,by omega,by omega,by go_num,HR1.out,HG1.out,?_,?_⟩,by simp[intOf];omega⟩
      ·rw[Nat.min_eq_left (by omega)]
       exact (HZ.2.2.1.wide (Nat.le_refl _) (by omega)).trans HMq.out (by have:=HL.1;omega)
      ·exact ris_shR HT.1 HZ.2.1 HZ.1 hj1 hj2 (by omega) HZ.2.2.2 HLt.out (.inr (by rw[show j-1=J by omega];exact HLL.out))
    ·obtain rfl:j=a:=by omega
     have HR1:Hid (wr.rowIs S 3 n (zc (mvL (shR j i) zr))):=hrow
     clear hrow hG hOq hLq
     go_wp2_with fail
     refine bT 14 (fun w'=>True) 17 (trivial) fun hq55=>?_
     refine pT 0 hq55 ?_;refine pT 1 hq55 ?_;refine pT 2 hq55 ?_;refine pT 3 hq55 ?_;refine pT 4 hq55 ?_;refine pT 5 hq55 ?_;refine pT 6 hq55 ?_;refine pT 7 hq55 ?_
     refine lT 8 hq55 ?_;refine pT 9 hq55 ?_;refine pT 10 hq55 ?_;refine pT 11 hq55 ?_;refine pT 12 hq55 ?_;refine lT 13 hq55 ?_
     clear hq55
     refine oT 14 fun K hK=>?_
     go_simp
     refine hK.out _ _ (fun h=>absurd h (by decide)) ?_
     clear hK K
     refine oT 15 fun K hK=>?_
     go_simp
     refine hK.out _ _ (fun h=>absurd h (by decide)) ?_
     clear hK K
     refine oT 16 fun K hK=>?_
     go_simp
     refine hK.out _ _ (fun h=>absurd h (by decide)) ?_
     clear hK K
     refine dT ?_
     go_wp2_with fail
     refine⟨⟨i+1,mvL (shR j i) zr,by omega,by omega,by go_num,HR1.out,sgrown_bel HGq.out (Below.refl _ wr).drew,?_,?_⟩,by simp[intOf];omega⟩
     ·rw[Nat.min_eq_left (by omega)]
      exact (HZ.2.2.1.wide (Nat.le_refl _) (by omega)).trans HMq.out (by have:=HL.1;omega)
     ·exact ris_shR HT.1 HZ.2.1 HZ.1 hj1 hj2 (by omega) HZ.2.2.2 HLt.out (.inl rfl)
  ·have HRi:Hid (wr.rowIs S 3 n (zc zr)):=hrow
   have HGi:Hid (w.grownBy wr (some S)):=hG
   have HM:Hid (Mv a b z zr):=by rw[Nat.min_eq_right (by omega)] at hM;exact hM
   have HRs:Hid (Ris lt zr a b):=hr.part (Nat.le_refl _) (by omega)
   clear hrow hG hM hr
   go_wp2_with fail
   go_end0
   exact⟨⟨_,rfl⟩,zr,HRi.out,HGi.out,HM.out,HRs.out⟩
end Go.Proofs.YtkmmkcpfhnifhaaGreat
