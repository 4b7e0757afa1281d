/- What the program tells, in part. -/
import Derived.Test.YtkmmkcpfhnifhaaGreatJ01
set_option linter.unusedVariables false
set_option maxRecDepth 100000
namespace Go.Proofs.YtkmmkcpfhnifhaaGreat
theorem ins_cons {x a:Int}{s t:List Int}:insB (x::s) (a::t)=true ↔ (0<=a/\a<x)/\insB s t=true:=by
 simp only[insB,Bool.and_eq_true,decide_eq_true_eq]
def zr (c:List Int)(m:Nat):List Int:=c.take m++List.replicate (c.length-m) 0
def cr (zs:List Int)(i:Nat):List Int:=(crd zs (i:Int)).1
theorem cr_length (zs:List Int)(i:Nat):(cr zs i).length=zs.length:=crd_len zs _
theorem cr_fact {zs:List Int}{i:Nat}(he:errOf zs=0)(hi:(i:Int)<prod zs):insB zs (cr zs i)=true/\place zs (cr zs i)=i:=by
 have ha:atErr zs i=0:=atErr_zero.2 ⟨he,by omega,hi⟩
 have:=at_back ha
 rw[atVal_ok ha] at this
 exact⟨(plErr_zero.1 this.1).2,this.2⟩
def IsOrd (ps:List Int):Prop:=(∀ j,j<ps.length->0<=nth ps j/\nth ps j<ps.length)/\∀ i j,i<j->j<ps.length->nth ps i≠nth ps j
def ordB (ps:List Int):Bool:=(List.range ps.length).all fun j=>decide (0<=nth ps j/\nth ps j<ps.length) && (List.range j).all fun i=>nth ps i != nth ps j
theorem IsOrd.inj {ps:List Int}(h:IsOrd ps){i j:Nat}(hi:i<ps.length)(hj:j<ps.length)(e:nth ps i=nth ps j):i=j:=by
 by_cases h1:i<j
 ·exact absurd e (h.2 i j h1 hj)
 ·by_cases h2:j<i
  ·exact absurd e.symm (h.2 j i h2 hi)
  ·omega
def nats (ps:List Int):List Nat:=ps.map Int.toNat
theorem nats_length (ps:List Int):(nats ps).length=ps.length:=by simp[nats]
theorem nats_get (ps:List Int)(j:Nat)(h:j<ps.length):(nats ps)[j]?=some (nth ps j).toNat:=by
 rw[nth_get ps j h];simp[nats,h]
theorem nats_nodup {ps:List Int}(h:IsOrd ps):(nats ps).Nodup:=by
 rw[List.Nodup,List.pairwise_iff_getElem]
 intro i j hi hj hij e
 rw[nats_length] at hi hj
 have e1:=nats_get ps i hi
 have e2:=nats_get ps j hj
 rw[List.getElem?_eq_getElem (by rw[nats_length];exact hi)] at e1
 rw[List.getElem?_eq_getElem (by rw[nats_length];exact hj)] at e2
 have b1:=h.1 i hi
 have b2:=h.1 j hj
 have e3:(nth ps i).toNat=(nth ps j).toNat:=by
  have:=Option.some.inj e1
  have:=Option.some.inj e2
  omega
 exact h.2 i j hij hj (by omega)
theorem nats_sub {ps:List Int}(h:IsOrd ps):nats ps ⊆ List.range ps.length:=by
 intro x hx
 obtain⟨j,hj,e⟩:=List.getElem_of_mem hx
 rw[nats_length] at hj
 have e1:=nats_get ps j hj
 rw[List.getElem?_eq_getElem (by rw[nats_length];exact hj)] at e1
 have:=Option.some.inj e1
 have b:=h.1 j hj
 rw[List.mem_range]
 omega
theorem IsOrd.surj {ps:List Int}(h:IsOrd ps){j:Nat}(hj:j<ps.length):∃ i,i<ps.length/\nth ps i=j:=by
 by_cases hm:j∈nats ps
 ·obtain⟨i,hi,e⟩:=List.getElem_of_mem hm
  rw[nats_length] at hi
  have e1:=nats_get ps i hi
  rw[List.getElem?_eq_getElem (by rw[nats_length];exact hi)] at e1
  have:=Option.some.inj e1
  have b:=h.1 i hi
  exact⟨i,hi,by omega⟩
 ·have hn:(j::nats ps).Nodup:=List.nodup_cons.2 ⟨hm,nats_nodup h⟩
  have hs:(j::nats ps) ⊆ List.range ps.length:=by
   intro x hx
   rcases List.mem_cons.1 hx with rfl | hx
   ·exact List.mem_range.2 hj
   ·exact nats_sub h hx
  have:=hn.length_le_of_subset hs
  simp only[List.length_cons,nats_length,List.length_range] at this
  omega
theorem nats_perm {ps:List Int}(h:IsOrd ps):(nats ps).Perm (List.range ps.length):=
 (List.perm_ext_iff_of_nodup (nats_nodup h) List.nodup_range).2 fun x=>⟨fun hx=>nats_sub h hx,fun hx=>by
  obtain⟨i,hi,e⟩:=h.surj (List.mem_range.1 hx)
  have e1:=nats_get ps i hi
  rw[e,Int.toNat_natCast] at e1
  exact List.mem_of_getElem? e1⟩
theorem range_nth (t:List Int):(List.range t.length).map (nth t)=t:=by
 apply List.ext_getElem (by simp)
 intro i h1 h2
 simp[nth_get t i h2]
def BkSpec (ps q:List Int):Prop:=q.length=ps.length/\∀ i,i<ps.length->nth q (nth ps i).toNat=i
theorem BkSpec.at {ps q:List Int}(h:BkSpec ps q)(ho:IsOrd ps){j:Nat}(hj:j<ps.length):∃ i,i<ps.length/\nth ps i=j/\nth q j=i:=by
 obtain⟨i,hi,e⟩:=ho.surj hj
 have:=h.2 i hi
 rw[e,Int.toNat_natCast] at this
 exact⟨i,hi,e,this⟩
theorem BkSpec.ord {ps q:List Int}(h:BkSpec ps q)(ho:IsOrd ps):IsOrd q:=by
 refine⟨fun j hj=>?_,fun i j hij hj e=>?_⟩
 ·obtain⟨i,hi,_,e2⟩:=h.at ho (j:=j) (by rw[<-h.1];exact hj)
  rw[e2,h.1];omega
 ·obtain⟨i1,hi1,e1,f1⟩:=h.at ho (j:=i) (by rw[<-h.1];omega)
  obtain⟨i2,hi2,e2,f2⟩:=h.at ho (j:=j) (by rw[<-h.1];exact hj)
  rw[f1,f2] at e
  have:i1=i2:=by omega
  subst this
  rw[e1] at e2
  omega
def axstep (zs ps:List Int)(s:List Int)(x:Ax zs.length):List Int:=s.set (nth ps x.1).toNat (nth zs x.1)
def axl (zs ps:List Int)(pre:List (Ax zs.length)):List Int:=pre.foldl (axstep zs ps) (List.replicate zs.length 0)
def axErr (zs ps:List Int):Int:=if errOf zs≠0 then errOf zs else if ps.length≠zs.length then 4 else if ordB ps=true then 0 else 5
def axVal (zs ps:List Int):List Int:=if axErr zs ps=0 then axl zs ps (dn zs.length zs.length) else []
end Go.Proofs.YtkmmkcpfhnifhaaGreat
namespace Go.Proofs.YtkmmkcpfhnifhaaGreat
open Go.RowKit
def GA (s dz s':List Int)(src:List Int->List Int):List Int:=(List.range (prod s').toNat).map fun i=>nth dz (place s (src (cr s' i))).toNat
section
variable {s s' s'' dz : List Int} {src src' src2 : List Int → List Int}
theorem GA_length:(GA s dz s' src).length=(prod s').toNat:=by simp[GA]
theorem GA_nth {i:Nat}(h:i<(prod s').toNat):nth (GA s dz s' src) i=nth dz (place s (src (cr s' i))).toNat:=by simp[GA,nth,h]
theorem cr_place (he:errOf s'=0){t:List Int}(ht:insB s' t=true):cr s' (place s' t).toNat=t/\(place s' t).toNat<(prod s').toNat:=by
 have hb:=place_bd ht
 have h:=pl_back (plErr_zero.2 ⟨he,ht⟩)
 have e:(((place s' t).toNat:Nat):Int)=place s' t:=by omega
 refine⟨?_,by omega⟩
 unfold cr
 rw[e,<-atVal_ok h.1]
 exact h.2.1
theorem GA_at (he:errOf s'=0){t:List Int}(ht:insB s' t=true):nth (GA s dz s' src) (place s' t).toNat=nth dz (place s (src t)).toNat:=by
 have h:=cr_place he ht
 rw[GA_nth h.2,h.1]
theorem cr_in (he:errOf s'=0){i:Nat}(hi:i<(prod s').toNat):insB s' (cr s' i)=true/\place s' (cr s' i)=i:=cr_fact he (by omega)
theorem GA_ext (he:errOf s'=0){xs:List Int}(hl:xs.length=(prod s').toNat)(h:∀ t,insB s' t=true->nth xs (place s' t).toNat=nth dz (place s (src t)).toNat):xs=GA s dz s' src:=by
 refine nth_ext (by rw[hl,GA_length]) fun i hi=>?_
 rw[hl] at hi
 have hc:=cr_in he hi
 rw[GA_nth hi,<-h _ hc.1,hc.2,Int.toNat_natCast]
theorem GA_comp (he':errOf s'=0)(he'':errOf s''=0)(h:∀ t,insB s'' t=true->insB s' (src2 t)=true):GA s' (GA s dz s' src) s'' src2=GA s dz s'' (fun t=>src (src2 t)):=
 GA_ext he'' GA_length fun t ht=>by rw[GA_at he'' ht,GA_at he' (h t ht)]
theorem GA_id (he:errOf s=0)(hd:(dz.length:Int)=prod s)(h:∀ t,insB s t=true->src t=t):GA s dz s src=dz:=
 (GA_ext he (by omega) fun t ht=>by rw[h t ht]).symm
theorem GA_in (hs:∀ t,insB s' t=true->insB s (src t)=true)(he':errOf s'=0)(hd:(dz.length:Int)=prod s){j:Nat}(hj:j<(prod s').toNat):∃ k,k<dz.length/\nth (GA s dz s' src) j=nth dz k:=by
 have hc:=cr_in he' hj
 have hb:=place_bd (hs _ hc.1)
 exact⟨_,by omega,GA_nth hj⟩
theorem GA_64 (T:∀ j,In64 (nth dz j)):∀ j,In64 (nth (GA s dz s' src) j):=fun j=>by
 by_cases hj:j<(prod s').toNat
 ·rw[GA_nth hj];exact T _
 ·have:nth (GA s dz s' src) j=0:=by simp[nth,List.getElem?_eq_none (show (GA s dz s' src).length<=j by rw[GA_length];omega)]
  rw[this];unfold In64;decide
theorem GA_flaw {c:Bool}(hf:flawE c s dz=0)(he':errOf s'=0)(hs:∀ t,insB s' t=true->insB s (src t)=true):flawE c s' (GA s dz s' src)=0:=by
 obtain⟨h1,h2,h3⟩:=flawE_zero hf
 have hz:=errOf_zero.1 he'
 have hp:=prod_nonneg hz.2.1
 have hl:((GA s dz s' src).length:Int)=prod s':=by rw[GA_length];omega
 cases c
 ·exact flawE_okn he' hl
 ·refine flawE_okc he' hl ?_
  have hc:=h3 rfl
  unfold chAll at *
  rw[List.all_eq_true] at *
  intro x hx
  obtain⟨j,hj,rfl⟩:=List.mem_iff_getElem.1 hx
  rw[GA_length] at hj
  obtain⟨k,hk,e⟩:=GA_in (dz:=dz) hs he' h2 hj
  rw[<-nth_get _ j (by rw[GA_length];exact hj),e]
  exact hc _ (nth_mem dz k hk)
end
def revT (s:List Int)(x:Nat)(t:List Int):List Int:=t.set x (nth s x-1-nth t x)
def rotT (s:List Int)(n:Int)(x:Nat)(t:List Int):List Int:=t.set x ((nth t x+n)%nth s x)
def flpT (p:List Int)(t:List Int):List Int:=p.map fun k=>nth t k.toNat
section
variable {s t : List Int} {x y : Nat} {n m : Int}
theorem ins_at (h:insB s t=true)(hx:x<s.length):0<=nth t x/\nth t x<nth s x:=(insB_iff (insB_len h)).1 h x hx
theorem ins_set {v:Int}(h:insB s t=true)(hx:x<s.length)(hv:0<=v/\v<nth s x):insB s (t.set x v)=true:=by
 have hl:=insB_len h
 rw[insB_iff (by rw[List.length_set];exact hl)]
 intro k hk
 rw[nth_set _ _ _ _ (by omega)]
 split
 ·rename_i e;rw[e];exact hv
 ·exact ins_at h hk
theorem revT_in (h:insB s t=true)(hx:x<s.length):insB s (revT s x t)=true:=ins_set h hx (by have:=ins_at h hx;omega)
theorem revT_nth (h:insB s t=true)(hx:x<s.length)(k:Nat):nth (revT s x t) k=if k=x then nth s x-1-nth t x else nth t k:=nth_set _ _ _ _ (by rw[insB_len h];exact hx)
theorem revT_length:(revT s x t).length=t.length:=by simp[revT]
theorem revT_twice (h:insB s t=true)(hx:x<s.length):revT s x (revT s x t)=t:=by
 refine nth_ext (by rw[revT_length,revT_length]) fun k _=>?_
 rw[revT_nth (revT_in h hx) hx,revT_nth h hx,revT_nth h hx,if_pos rfl]
 split
 ·rename_i e;rw[e];omega
 ·rfl
end
section
variable {s s' p t : List Int}
end
def stp (s:List Int)(x:Nat):Int:=prod (s.drop (x+1))
theorem stp_zero (a:Int)(s:List Int):stp (a::s) 0=prod s:=by simp[stp]
theorem stp_succ (a:Int)(s:List Int)(x:Nat):stp (a::s) (x+1)=stp s x:=by simp[stp]
theorem al_prod {s:List Int}(h:AllPos s):0<prod s:=by
 induction s with
 | nil=>simp[prod]
 | cons x r ih=>exact Int.mul_pos (h x List.mem_cons_self) (ih h.tail)
theorem al_drop {s:List Int}(h:AllPos s)(k:Nat):AllPos (s.drop k):=fun y hy=>h y (List.mem_of_mem_drop hy)
theorem al_take {s:List Int}(h:AllPos s)(k:Nat):AllPos (s.take k):=fun y hy=>h y (List.mem_of_mem_take hy)
theorem stp_pos {s:List Int}(h:AllPos s)(x:Nat):0<stp s x:=al_prod (al_drop h _)
theorem al_pos {s t:List Int}(h:insB s t=true):AllPos s:=fun y hy=>by
 obtain⟨j,hj,rfl⟩:=List.mem_iff_getElem.1 hy
 have:=ins_at h hj
 rw[<-nth_get s j hj]
 omega
theorem al_split (s:List Int){x:Nat}(hx:x<s.length):prod s=prod (s.take x)*(nth s x*stp s x):=by
 have e:=prod_append (s.take x) (s.drop x)
 rw[List.take_append_drop,drop_nth s x hx] at e
 exact e
theorem stp_le {s:List Int}(h:AllPos s){x:Nat}(hx:x<s.length):nth s x*stp s x<=prod s:=by
 have e:=al_split s hx
 have h1:=al_prod (al_take h x)
 have h2:=stp_pos h x
 have h3:=h _ (nth_mem s x hx)
 have h4:0<=nth s x*stp s x:=Int.le_of_lt (Int.mul_pos h3 h2)
 have:1*(nth s x*stp s x)<=prod (s.take x)*(nth s x*stp s x):=Int.mul_le_mul_of_nonneg_right (by omega) h4
 omega
theorem place_set:∀ {s t:List Int} {x:Nat} (v:Int),t.length=s.length->x<s.length->place s (t.set x v)=place s t+(v-nth t x)*stp s x
 | [],_,_,_,_,h=>by simp at h
 | _::_,[],_,_,h,_=>by simp at h
 | b::s,a::t,0,v,hl,_=>by
  simp only[List.set_cons_zero,place,nth_zero,stp_zero,Int.sub_mul]
  omega
 | b::s,a::t,x+1,v,hl,hx=>by
  have ih:=place_set (s:=s) (t:=t) (x:=x) v (by simpa using hl) (by simpa using hx)
  simp only[List.set_cons_succ,place,nth_succ,stp_succ,ih]
  omega
theorem idx_at:∀ {s t:List Int} {x:Nat},insB s t=true->x<s.length->place s t/stp s x%nth s x=nth t x
 | [],_,_,_,h=>by simp at h
 | _::_,[],_,h,_=>by simp[insB] at h
 | b::s,a::t,0,h,_=>by
  have h1:=ins_cons.1 h
  have hb:=place_bd h1.2
  simp only[place,nth_zero,stp_zero]
  have e:(a*prod s+place s t)/prod s=a:=by
   rw[Int.add_comm,Int.add_mul_ediv_right _ _ (by omega),Int.ediv_eq_zero_of_lt hb.1 hb.2];omega
  rw[e,Int.emod_eq_of_lt h1.1.1 h1.1.2]
 | b::s,a::t,x+1,h,hx=>by
  have h1:=ins_cons.1 h
  have hx':x<s.length:=by simpa using hx
  have ih:=idx_at (s:=s) (t:=t) (x:=x) h1.2 hx'
  have hp:=stp_pos (al_pos h1.2) x
  simp only[place,nth_succ,stp_succ]
  have e:a*prod s+place s t=place s t+(a*prod (s.take x)*nth s x)*stp s x:=by
   rw[al_split s hx',Int.add_comm]
   congr 1
   rw[Int.mul_assoc,Int.mul_assoc]
  rw[e,Int.add_mul_ediv_right _ _ (by omega),Int.add_mul_emod_self_right]
  exact ih
def mvP (s:List Int)(x:Nat)(g:Int->Int)(j:Int):Int:=j+(g (j/stp s x%nth s x)-j/stp s x%nth s x)*stp s x
def mvT (x:Nat)(g:Int->Int)(t:List Int):List Int:=t.set x (g (nth t x))
theorem mvP_at {s:List Int}(he:errOf s=0){x:Nat}(hx:x<s.length){j:Nat}(hj:(j:Int)<prod s)(g:Int->Int):(j:Int)/stp s x%nth s x=nth (cr s j) x/\mvP s x g j=place s (mvT x g (cr s j)):=by
 obtain⟨h1,h2⟩:=cr_fact he hj
 have e:(j:Int)/stp s x%nth s x=nth (cr s j) x:=by rw[<-idx_at h1 hx,h2]
 refine⟨e,?_⟩
 unfold mvP mvT
 rw[place_set _ (cr_length s j) hx,h2,e]
theorem mvT_in {s t:List Int}{x:Nat}{g:Int->Int}(h:insB s t=true)(hx:x<s.length)(hg:∀ i,0<=i->i<nth s x->0<=g i/\g i<nth s x):insB s (mvT x g t)=true:=by
 have hb:=ins_at h hx
 exact ins_set h hx (hg _ hb.1 hb.2)
theorem mv_round {s dz:List Int}(he:errOf s=0)(hd:(dz.length:Int)=prod s){x:Nat}(hx:x<s.length){j:Nat}(hj:j<dz.length){g:Int->Int}(hg:∀ i,0<=i->i<nth s x->0<=g i/\g i<nth s x):
  0<stp s x/\stp s x<=4096/\0<nth s x/\nth s x<=4096/\(∃ i:Nat,(j:Int)/stp s x%nth s x=i/\(i:Int)<nth s x/\mvP s x g j=j+(g i-i)*stp s x/\(g i-i)*stp s x<=16777216/\-16777216<=(g i-i)*stp s x/\0<=g i/\g i<nth s x)/\∃ m:Nat,m<dz.length/\mvP s x g j=m/\nth dz m=nth (GA s dz s (mvT x g)) j:=by
 have hz:=errOf_zero.1 he
 have hj':(j:Int)<prod s:=by omega
 obtain⟨h1,h2⟩:=cr_fact he hj'
 obtain⟨e1,e2⟩:=mvP_at he hx hj' g
 have hp:=al_pos h1
 have hb:=ins_at h1 hx
 have hs1:=stp_pos hp x
 have hs2:=stp_le hp hx
 have hn:=hz.2.1.nth x
 have hgb:=hg _ hb.1 hb.2
 have hin:=mvT_in h1 hx hg
 have hpb:=place_bd hin
 have hs3:1*stp s x<=nth s x*stp s x:=Int.mul_le_mul_of_nonneg_right (by omega) (by omega)
 have hs4:stp s x<=4096:=by omega
 refine⟨hs1,hs4,by omega,hn.2,⟨(nth (cr s j) x).toNat,by omega,by omega,?_⟩,(place s (mvT x g (cr s j))).toNat,by omega,by omega,?_⟩
 ·have ei:((nth (cr s j) x).toNat:Int)=nth (cr s j) x:=by omega
  rw[ei]
  have hab:g (nth (cr s j) x)-nth (cr s j) x<=4096/\-4096<=g (nth (cr s j) x)-nth (cr s j) x:=by omega
  refine⟨by unfold mvP;rw[e1],?_,?_,hgb⟩
  ·have:(g (nth (cr s j) x)-nth (cr s j) x)*stp s x<=4096*4096:=Int.le_trans (Int.mul_le_mul_of_nonneg_right hab.1 (by omega)) (Int.mul_le_mul_of_nonneg_left hs4 (by omega))
   omega
  ·have h5:(-4096)*stp s x<=(g (nth (cr s j) x)-nth (cr s j) x)*stp s x:=Int.mul_le_mul_of_nonneg_right hab.2 (by omega)
   omega
 ·rw[GA_nth (by omega)]
def sumI:List Int->Int
 | []=>0
 | x::r=>x+sumI r
theorem prod_le60:∀ {s:List Int} (m:Nat),AllIn s->s.length<=m->prod s<=4096 ^ m
 | [],m,_,_=>by
  have h:(0:Int)<4096 ^ m:=Int.pow_pos (by decide)
  exact Int.add_one_le_of_lt h
 | x::s,0,_,h=>by simp at h
 | x::s,m+1,ha,h=>by
  have hx:=ha x List.mem_cons_self
  have ih:=prod_le60 (s:=s) m ha.tail (by simpa using h)
  have h0:=prod_nonneg ha.tail
  simp only[prod,Int.pow_succ]
  rw[Int.mul_comm]
  exact Int.mul_le_mul ih hx.2 hx.1 (by omega)
theorem prod_60 {s:List Int}(ha:AllIn s)(h:s.length<=5):0<=prod s/\prod s<=1152921504606846976:=⟨prod_nonneg ha,prod_le60 5 ha h⟩
theorem prod_take1 (zs:List Int)(k:Nat)(h:k<zs.length):prod (zs.take (k+1))=prod (zs.take k)*nth zs k:=by
 rw[List.take_succ_eq_append_getElem h,prod_append,nth_get zs k h]
 simp[prod]
def cyA (zs:List Int)(d:Int)(i:Nat):Int:=if zs.length=0 then d else nth zs (i%zs.length)
def cyc (zs:List Int)(n:Nat)(d:Int):List Int:=(List.range n).map (cyA zs d)
theorem cyc_length (zs:List Int)(n:Nat)(d:Int):(cyc zs n d).length=n:=by simp[cyc]
theorem cyc_nth (zs:List Int)(n:Nat)(d:Int){j:Nat}(h:j<n):nth (cyc zs n d) j=cyA zs d j:=by simp[cyc,nth,h]
def fillE (c:Bool):Int:=if c=true then 32 else 0
def upTo (f:Nat->Int)(k j:Nat):Value:=.int .i64 (if j<k then f j else 0)
theorem upTo_set {wr:World}{B:Nat}{t:TypeId}{n:Nat}{f:Nat->Int}{k:Nat}(h:wr.rowIs B t n (upTo f k))(v:Int)(hv:v=f k):(wr.setCell ⟨B,k,none⟩ (.int .i64 v)).rowIs B t n (upTo f (k+1)):=by
 subst hv
 refine (h.set k _).congr fun j hj=>?_
 unfold upTo
 by_cases e:j=k
 ·subst e;rw[if_pos rfl,if_pos (by omega)]
 ·rw[if_neg e]
  by_cases h2:j<k
  ·rw[if_pos h2,if_pos (by omega)]
  ·rw[if_neg h2,if_neg (by omega)]
theorem upTo_new {wr:World}{lo B:Nat}{t:TypeId}{n:Nat}{f:Nat->Int}(h:wr.rowIs B t n (upTo f n))(hlo:lo<=B)(xs:List Int)(hx:xs.length=n)(hf:∀ j,j<n->nth xs j=f j):NewInts lo wr (some ⟨B,0,none⟩) xs:=by
 refine .inr ⟨B,0,rfl,hlo,h.lt,fun j hj=>?_,fun j=>h.frozen _⟩
 rw[hx] at hj
 have:=h.cell hj
 unfold upTo at this
 rw[if_pos hj] at this
 rw[Nat.zero_add,hf j hj]
 exact this
theorem ret_slice' {a:Option Addr}{n m c:Nat}(h:n=m):Ending.returned (.slice a n c)=.returned (.slice a m c):=by rw[h]
end Go.Proofs.YtkmmkcpfhnifhaaGreat
namespace Go.Proofs.YtkmmkcpfhnifhaaGreat
open Go.ChangeShapes Go.WideShapes Go.ChangeAt Go.RowKit Go.Deep
def IsC (n₀:Nat)(W:World)(a:Option Addr)(zs:List Int)(cap:Nat):Prop:=IsInts n₀ W a zs/\zs.length<=cap
def NewC (lo:Nat)(W:World)(a:Option Addr)(zs:List Int)(cap:Nat):Prop:=NewInts lo W a zs/\zs.length<=cap
section
variable {n₀ n₁ lo : Nat} {A B W : World} {a : Option Addr} {zs : List Int} {cap : Nat}
theorem IsC.below (h:Below n₀ A B)(k:IsC n₀ A a zs cap):IsC n₀ B a zs cap:=⟨k.1.below h,k.2⟩
theorem IsC.mono (h:n₀<=n₁)(k:IsC n₀ A a zs cap):IsC n₁ A a zs cap:=⟨k.1.mono h,k.2⟩
theorem NewC.ints (h:NewC lo W a zs cap):IsC W.heap.size W a zs cap:=⟨h.1.ints,h.2⟩
theorem NewC.low {lo':Nat}(h:lo'<=lo)(k:NewC lo W a zs cap):NewC lo' W a zs cap:=⟨k.1.low h,k.2⟩
theorem NewC.go {W':World}(hB:Below W.heap.size W W')(h:NewC lo W a zs cap):NewC lo W' a zs cap:=⟨h.1.go hB,h.2⟩
theorem NewC.set3 {b:Nat}(hb:b<lo)(x y z:Value)(h:NewC lo W a zs cap):NewC lo (((W.setCell ⟨b,0,none⟩ x).setCell ⟨b,1,none⟩ y).setCell ⟨b,2,none⟩ z) a zs cap:=⟨h.1.set3 hb x y z,h.2⟩
theorem NewC.al (h:NewC lo W a zs cap)(o:Obj):NewC lo (W.alloc o) a zs cap:=⟨h.1.al o,h.2⟩
theorem NewC.dr (h:NewC lo W a zs cap):NewC lo W.drew a zs cap:=h
theorem IsInts.c (h:IsInts n₀ W a zs)(k:zs.length<=cap):IsC n₀ W a zs cap:=⟨h,k⟩
end
theorem own_cap {w:World}{base:Nat}{e:TypeId}{v:Value}{n:Nat}{xs:List Int}(h:w.ownsRow base e 1 v n (xs.map (Value.int .i64))):
  ∃ g cap,v=.slice g xs.length cap/\NewC base w g xs cap:=by
 obtain⟨g,cap,rfl,hN⟩:=owns_new h
 refine⟨g,cap,rfl,hN,?_⟩
 rcases h.2 with ⟨e1,_⟩ | ⟨g',cap',cur,e1,_,_,h1,_⟩
 ·simp only[Value.slice.injEq] at e1;omega
 ·simp only[Value.slice.injEq] at e1;have:=h.1;simp only[List.length_map] at this;omega
def IsArrC (W:World)(sa:Option Addr)(sz:List Int)(sc:Nat)(da:Option Addr)(dz:List Int):Prop:=
 sz.length<=9223372036854775807/\dz.length<=9223372036854775807/\IsC W.heap.size W sa sz sc/\IsInts W.heap.size W da dz/\(∀ j,In64 (nth sz j))/\∀ j,In64 (nth dz j)
theorem open_slC {H:Type}{enc:TypeId × Value->H}{W:World}{fuel:Nat}{x:Value}{y:DataW H × List MemPlace}(h:DataW.trod enc Tryz.prog W 0 (fun _=>true) true fuel 22 [x]=some y):
  ∃ (a:Option Addr) (c:Nat) (z:List Int),x=.slice a z.length c/\z.length<=9223372036854775807/\IsInts W.heap.size W a z/\(∀ j,In64 (nth z j))/\z.length<=c:=by
 rcases open_ints Tryz.underlying22 Tryz.underlying3 (by kernel_rfl) h with ⟨hcs,_⟩ | ⟨x',l,c,zs,hcs,_,hl,hm,hz,_,hcell,hwz⟩
 ·obtain rfl:=(List.cons.inj hcs).1
  exact⟨none,0,[],rfl,by simp,.inl rfl,fun j=>by rw[nth_nil];unfold In64;decide,Nat.le_refl _⟩
 ·obtain rfl:=(List.cons.inj hcs).1
  obtain⟨z,hz1,hz2,hz3,hz4⟩:=row_ints (w:=W) (a:=some x') (len:=l) (cap:=c) (z:=zs) (.inr ⟨x',rfl,hl,hm,by simpa using hz,hcell,hwz⟩)
  exact⟨some x',c,z,by rw[hz1],hz2,hz3,hz4,by omega⟩
end Go.Proofs.YtkmmkcpfhnifhaaGreat
namespace Go.Proofs.YtkmmkcpfhnifhaaGreat
open Go.RowKit
def axE (x:Int)(c:Bool)(sz dz:List Int):Int:=if flawE c sz dz≠0 then flawE c sz dz else if x<0\/(sz.length:Int)<=x then 5 else 0
def flE (p:List Int)(c:Bool)(sz dz:List Int):Int:=if flawE c sz dz≠0 then flawE c sz dz else axErr sz p
def onl (e:Int)(xs:List Int):List Int:=if e=0 then xs else []
def onc (e:Int)(c:Bool):Bool:=if e=0 then c else false
theorem onl_ok {e:Int}(h:e=0)(xs:List Int):onl e xs=xs:=if_pos h
theorem onl_no {e:Int}(h:e≠0)(xs:List Int):onl e xs=[]:=if_neg h
theorem onc_no {e:Int}(h:e≠0)(c:Bool):onc e c=false:=if_neg h
theorem axE_zero {x:Int}{c:Bool}{sz dz:List Int}:axE x c sz dz=0 ↔ flawE c sz dz=0/\0<=x/\x.toNat<sz.length:=by
 unfold axE
 by_cases h:flawE c sz dz=0
 ·rw[if_neg (by simpa using h)]
  by_cases h2:x<0\/(sz.length:Int)<=x
  ·rw[if_pos h2];exact⟨fun e=>absurd e (by decide),fun e=>by omega⟩
  ·rw[if_neg h2];exact⟨fun _=>⟨h,by omega,by omega⟩,fun _=>rfl⟩
 ·rw[if_pos h];exact⟨fun e=>absurd e h,fun e=>absurd e.1 h⟩
section
variable (x n : Int) (p : List Int) (c : Bool) (sz dz : List Int)
def rvD5:List Int:=onl (axE x c sz dz) (GA sz dz sz (revT sz x.toNat))
def rtD5:List Int:=onl (axE x c sz dz) (GA sz dz sz (rotT sz n x.toNat))
def axS5:List Int:=onl (axE x c sz dz) sz
def flS5:List Int:=onl (flE p c sz dz) (axVal sz p)
def flD5:List Int:=onl (flE p c sz dz) (GA sz dz (axVal sz p) (flpT p))
end
def UA (e:Int)(c:Bool)(S D:List Int)(w:World)(r:Ending)(w':World):Prop:=
 ∃ xa xc ya yc,r=.returned (.tuple #[.agg #[.bool c,.slice xa S.length xc,.slice ya D.length yc],errV e])/\NewC w.heap.size w' xa S xc/\NewInts w.heap.size w' ya D/\Below w.heap.size w w'
def cel (s dz t:List Int):Int:=nth dz (place s t).toNat
def TA (s:List Int)(f:List Int->Int):List Int:=(List.range (prod s).toNat).map fun i=>f (cr s i)
section
variable {s s' dz xs : List Int} {f g : List Int → Int}
theorem TA_length:(TA s f).length=(prod s).toNat:=by simp[TA]
theorem TA_nth {i:Nat}(h:i<(prod s).toNat):nth (TA s f) i=f (cr s i):=by simp[TA,nth,h]
theorem TA_ext (he:errOf s=0)(hl:xs.length=(prod s).toNat)(h:∀ t,insB s t=true->cel s xs t=f t):xs=TA s f:=by
 refine nth_ext (by rw[hl,TA_length]) fun i hi=>?_
 rw[hl] at hi
 have hc:=cr_in he hi
 have h':=h _ hc.1
 unfold cel at h'
 rw[hc.2,Int.toNat_natCast] at h'
 rw[TA_nth hi,h']
end
def addL (t u:List Int):List Int:=(List.range t.length).map fun k=>nth t k+nth u k
def ptC (c:Bool)(s dz u t:List Int):Int:=if insB s (addL t u)=true then cel s dz (addL t u) else fillE c
def ptD (c:Bool)(s dz s' u:List Int):List Int:=TA s' (ptC c s dz u)
def tks (x:Int):Int:=if 0<=x then x else -x
def tkS (n:List Int):List Int:=n.map tks
def tkU (s n:List Int):List Int:=(List.range n.length).map fun k=>if 0<=nth n k then 0 else nth s k+nth n k
def tkBig (n:List Int):Bool:=n.any fun x=>decide (4096<x) || decide (x < -4096)
def tkE (n:List Int)(c:Bool)(s dz:List Int):Int:=if flawE c s dz≠0 then flawE c s dz else if n.length≠s.length then 4 else if tkBig n=true then 7 else errOf (tkS n)
def tkD (n:List Int)(c:Bool)(s dz:List Int):List Int:=ptD c s dz (tkS n) (tkU s n)
def drs (l x:Int):Int:=if l<=x\/x<=-l then (if x=0 then l else 0) else if 0<=x then l-x else l+x
def dru (l x:Int):Int:=if l<=x\/x<=-l then 0 else if 0<=x then x else 0
def drS (s n:List Int):List Int:=(List.range n.length).map fun k=>drs (nth s k) (nth n k)
def drU (s n:List Int):List Int:=(List.range n.length).map fun k=>dru (nth s k) (nth n k)
def drE (n:List Int)(c:Bool)(s dz:List Int):Int:=if flawE c s dz≠0 then flawE c s dz else if n.length≠s.length then 4 else 0
def drD (n:List Int)(c:Bool)(s dz:List Int):List Int:=ptD c s dz (drS s n) (drU s n)
def othB (x:Nat)(s s':List Int):Bool:=(List.range s.length).all fun k=>decide (k=x) || nth s k == nth s' k
def jnS (x:Nat)(s s':List Int):List Int:=s.set x (nth s x+nth s' x)
def jnC (x:Nat)(s dz s' dz' t:List Int):Int:=if nth t x<nth s x then cel s dz t else cel s' dz' (t.set x (nth t x-nth s x))
def jnD (x:Nat)(s dz s' dz':List Int):List Int:=TA (jnS x s s') (jnC x s dz s' dz')
def jnE (x:Int)(c:Bool)(s dz:List Int)(c':Bool)(s' dz':List Int):Int:=
 if flawE c s dz≠0 then flawE c s dz else if flawE c' s' dz'≠0 then flawE c' s' dz' else if s.length≠s'.length then 3 else if x<0\/(s.length:Int)<=x then 5 else if othB x.toNat s s'=false then 4 else if c≠c' then 6 else errOf (jnS x.toNat s s')
def mskB (m:List Int):Bool:=m.all fun x=>x == 0 || x == 1
def rnk (m:List Int)(i:Nat):Int:=sumI (m.take i)
def pos1:List Int->Nat->Nat
 | [],_=>0
 | x::m,j=>if x=1 then (match j with | 0=>0 | j+1=>pos1 m j+1) else pos1 m j+1
def kpS (m:List Int)(x:Nat)(s:List Int):List Int:=s.set x (sumI m)
def kpT (m:List Int)(x:Nat)(t:List Int):List Int:=t.set x (pos1 m (nth t x).toNat:Nat)
def kpD (m:List Int)(x:Nat)(s dz:List Int):List Int:=TA (kpS m x s) (fun t=>cel s dz (kpT m x t))
def kpE (m:List Int)(x:Int)(c:Bool)(s dz:List Int):Int:=if axE x c s dz≠0 then axE x c s dz else if (m.length:Int)≠nth s x.toNat then 4 else if mskB m=false then 6 else 0
def spS (m:List Int)(x:Nat)(s:List Int):List Int:=s.set x m.length
def spC (m:List Int)(x:Nat)(c:Bool)(s dz t:List Int):Int:=if nth m (nth t x).toNat=0 then fillE c else cel s dz (t.set x (rnk m (nth t x).toNat))
def spD (m:List Int)(x:Nat)(c:Bool)(s dz:List Int):List Int:=TA (spS m x s) (spC m x c s dz)
def spE (m:List Int)(x:Int)(c:Bool)(s dz:List Int):Int:=if axE x c s dz≠0 then axE x c s dz else if mskB m=false then 6 else if sumI m≠nth s x.toNat then 4 else errOf (spS m x.toNat s)
end Go.Proofs.YtkmmkcpfhnifhaaGreat
namespace Go.Proofs.YtkmmkcpfhnifhaaGreat
open Go.RowKit
section
variable {s t : List Int} {x : Nat} {v : Int}
def rest (s:List Int)(x:Nat):Int:=prod (s.take x)*prod (s.drop (x+1))
end
section
variable {c : Bool} {s dz : List Int} {x : Nat} {n : Int}
end
section
variable {c : Bool} {s dz s' dz' : List Int} {x : Nat}
end
end Go.Proofs.YtkmmkcpfhnifhaaGreat
namespace Go.Proofs.YtkmmkcpfhnifhaaGreat
open Go.ChangeShapes Go.WideShapes Go.ChangeAt Go.RowKit Go.Deep
def IsArrD (W:World)(sa:Option Addr)(sz:List Int)(sc:Nat)(da:Option Addr)(dz:List Int)(dc:Nat):Prop:=
 sz.length<=9223372036854775807/\dz.length<=9223372036854775807/\IsC W.heap.size W sa sz sc/\IsC W.heap.size W da dz dc/\(∀ j,In64 (nth sz j))/\∀ j,In64 (nth dz j)
theorem IsArrD.c {W:World}{sa:Option Addr}{sz:List Int}{sc:Nat}{da:Option Addr}{dz:List Int}{dc:Nat}(h:IsArrD W sa sz sc da dz dc):IsArrC W sa sz sc da dz:=⟨h.1,h.2.1,h.2.2.1,h.2.2.2.1.1,h.2.2.2.2⟩
theorem open_arrD {H:Type}{enc:TypeId × Value->H}{W:World}{base:Nat}{v:Value}{d:DataW H}{p:List MemPlace}(hv:Value.okWide Tryz.prog W .any base 24 v)
  (h:DataW.Trod enc Tryz.prog W 0 (fun _=>true) true 24 v d p):
  ∃ (c:Bool) (sa:Option Addr) (sc:Nat) (sz:List Int) (da:Option Addr) (dc:Nat) (dz:List Int),v=.agg #[.bool c,.slice sa sz.length sc,.slice da dz.length dc]/\IsArrD W sa sz sc da dz dc:=by
 obtain⟨cs,rfl,hsz⟩:=okWide_struct Tryz.underlying24 hv
 rw[show Tryz.prog.cellsOf 24=3 by kernel_rfl] at hsz
 obtain⟨x0,x1,x2,rfl⟩:=three hsz
 obtain⟨fuel,hf⟩:=h
 obtain⟨y0,y1,y2,n,_,_,h0,h1,h2⟩:=trod_struct3 Tryz.underlying24 hf
 have e0:DataW.trod enc Tryz.prog W 0 (fun _=>true) true n 4 [x0]=some y0:=by
  have:=h0
  rw[show Tryz.prog.cellsOf 4=1 by kernel_rfl] at this
  exact this
 have e1:DataW.trod enc Tryz.prog W 0 (fun _=>true) true n 22 [x1]=some y1:=by
  have:=h1
  rw[show Tryz.prog.cellsOf 22=1 by kernel_rfl] at this
  exact this
 have e2:DataW.trod enc Tryz.prog W 0 (fun _=>true) true n 22 [x2]=some y2:=by
  have:=h2
  rw[show Tryz.prog.cellsOf 22=1 by kernel_rfl] at this
  exact this
 obtain⟨sa,sc,sz,rfl,s1,s2,s3,s4⟩:=open_slC e1
 obtain⟨da,dc,dz,rfl,d1,d2,d3,d4⟩:=open_slC e2
 obtain⟨c,hc,_⟩:=DataW.trod_bool Tryz.underlying4 e0
 obtain rfl:=(List.cons.inj hc).1
 exact⟨c,sa,sc,sz,da,dc,dz,rfl,s1,d1,⟨s2,s4⟩,⟨d2,d4⟩,s3,d3⟩
def UB (e:Int)(c:Bool)(S D:List Int)(w:World)(r:Ending)(w':World):Prop:=
 ∃ xa xc ya yc,r=.returned (.tuple #[.agg #[.bool c,.slice xa S.length xc,.slice ya D.length yc],errV e])/\NewC w.heap.size w' xa S xc/\NewC w.heap.size w' ya D yc/\Below w.heap.size w w'
theorem UB.ua {e:Int}{c:Bool}{S D:List Int}{w w':World}{r:Ending}:UB e c S D w r w'->UA e c S D w r w'
 | ⟨xa,xc,ya,yc,e,hX,hY,hB⟩=>⟨xa,xc,ya,yc,e,hX,hY.1,hB⟩
section
variable (n m : List Int) (x : Int) (c : Bool) (sz dz : List Int) (c' : Bool) (sz' dz' : List Int)
def tkS6:List Int:=onl (tkE n c sz dz) (tkS n)
def tkD6:List Int:=onl (tkE n c sz dz) (tkD n c sz dz)
def drS6:List Int:=onl (drE n c sz dz) (drS sz n)
def drD6:List Int:=onl (drE n c sz dz) (drD n c sz dz)
def jnS6:List Int:=onl (jnE x c sz dz c' sz' dz') (jnS x.toNat sz sz')
def jnD6:List Int:=onl (jnE x c sz dz c' sz' dz') (jnD x.toNat sz dz sz' dz')
def kpS6:List Int:=onl (kpE m x c sz dz) (kpS m x.toNat sz)
def kpD6:List Int:=onl (kpE m x c sz dz) (kpD m x.toNat sz dz)
def spS6:List Int:=onl (spE m x c sz dz) (spS m x.toNat sz)
def spD6:List Int:=onl (spE m x c sz dz) (spD m x.toNat c sz dz)
end
def CTk:Prop:=∀ (na:Option Addr) (nc:Nat) (n:List Int) (c:Bool) (sa:Option Addr) (sc:Nat) (sz:List Int) (da:Option Addr) (dc:Nat) (dz:List Int) (w:World),n.length<=9223372036854775807->(∀ j,In64 (nth n j))->sz.length<=9223372036854775807->dz.length<=9223372036854775807->IsC w.heap.size w na n nc->IsC w.heap.size w sa sz sc->IsC w.heap.size w da dz dc->(∀ j,In64 (nth dz j)) →
 Calls Tryz.prog 67 #[.slice na n.length nc,.agg #[.bool c,.slice sa sz.length sc,.slice da dz.length dc]] w (UB (tkE n c sz dz) (onc (tkE n c sz dz) c) (tkS6 n c sz dz) (tkD6 n c sz dz) w)
def CDr:Prop:=∀ (na:Option Addr) (nc:Nat) (n:List Int) (c:Bool) (sa:Option Addr) (sc:Nat) (sz:List Int) (da:Option Addr) (dc:Nat) (dz:List Int) (w:World),n.length<=9223372036854775807->(∀ j,In64 (nth n j))->sz.length<=9223372036854775807->dz.length<=9223372036854775807->IsC w.heap.size w na n nc->IsC w.heap.size w sa sz sc->IsC w.heap.size w da dz dc->(∀ j,In64 (nth dz j)) →
 Calls Tryz.prog 68 #[.slice na n.length nc,.agg #[.bool c,.slice sa sz.length sc,.slice da dz.length dc]] w (UB (drE n c sz dz) (onc (drE n c sz dz) c) (drS6 n c sz dz) (drD6 n c sz dz) w)
def CJn:Prop:=∀ (x:Int) (c:Bool) (sa:Option Addr) (sc:Nat) (sz:List Int) (da:Option Addr) (dc:Nat) (dz:List Int) (c':Bool) (sa':Option Addr) (sc':Nat) (sz':List Int) (da':Option Addr) (dc':Nat) (dz':List Int) (w:World),In64 x->sz.length<=9223372036854775807->dz.length<=9223372036854775807->sz'.length<=9223372036854775807->dz'.length<=9223372036854775807->IsC w.heap.size w sa sz sc->IsC w.heap.size w da dz dc->IsC w.heap.size w sa' sz' sc'->IsC w.heap.size w da' dz' dc'->(∀ j,In64 (nth dz j))->(∀ j,In64 (nth dz' j)) →
 Calls Tryz.prog 122 #[.int .i64 x,.agg #[.bool c,.slice sa sz.length sc,.slice da dz.length dc],.agg #[.bool c',.slice sa' sz'.length sc',.slice da' dz'.length dc']] w (UB (jnE x c sz dz c' sz' dz') (onc (jnE x c sz dz c' sz' dz') c) (jnS6 x c sz dz c' sz' dz') (jnD6 x c sz dz c' sz' dz') w)
def CKp:Prop:=∀ (ma:Option Addr) (mc:Nat) (m:List Int) (x:Int) (c:Bool) (sa:Option Addr) (sc:Nat) (sz:List Int) (da:Option Addr) (dc:Nat) (dz:List Int) (w:World),m.length<=9223372036854775807->(∀ j,In64 (nth m j))->In64 x->sz.length<=9223372036854775807->dz.length<=9223372036854775807->IsC w.heap.size w ma m mc->IsC w.heap.size w sa sz sc->IsC w.heap.size w da dz dc->(∀ j,In64 (nth dz j)) →
 Calls Tryz.prog 78 #[.slice ma m.length mc,.int .i64 x,.agg #[.bool c,.slice sa sz.length sc,.slice da dz.length dc]] w (UB (kpE m x c sz dz) (onc (kpE m x c sz dz) c) (kpS6 m x c sz dz) (kpD6 m x c sz dz) w)
def CSp:Prop:=∀ (ma:Option Addr) (mc:Nat) (m:List Int) (x:Int) (c:Bool) (sa:Option Addr) (sc:Nat) (sz:List Int) (da:Option Addr) (dc:Nat) (dz:List Int) (w:World),m.length<=9223372036854775807->(∀ j,In64 (nth m j))->In64 x->sz.length<=9223372036854775807->dz.length<=9223372036854775807->IsC w.heap.size w ma m mc->IsC w.heap.size w sa sz sc->IsC w.heap.size w da dz dc->(∀ j,In64 (nth dz j)) →
 Calls Tryz.prog 79 #[.slice ma m.length mc,.int .i64 x,.agg #[.bool c,.slice sa sz.length sc,.slice da dz.length dc]] w (UB (spE m x c sz dz) (onc (spE m x c sz dz) c) (spS6 m x c sz dz) (spD6 m x c sz dz) w)
section
variable (n m : List Int) (x : Int) (c : Bool) (sz dz : List Int) (c' : Bool) (sz' dz' : List Int)
end
end Go.Proofs.YtkmmkcpfhnifhaaGreat
namespace Go.Proofs.YtkmmkcpfhnifhaaGreat
open Go.RowKit
def neutE (f:Int):Int:=if f<1\/16<f then 1 else if 8<=f/\f<=13 then 6 else 0
def neutV (f:Int):Int:=if f=3\/f=4\/f=16 then 1 else if f=6 then -9223372036854775808 else if f=7 then 9223372036854775807 else if f=14 then -1 else 0
theorem w_bmod (n:Int):wrap64 n=Int.bmod n (2 ^ 64):=by
 unfold wrap64
 rw[Int.bmod_def]
 simp only[Nat.reducePow]
 split<;>omega
theorem w_nat (x:BitVec 64):wrap64 (x.toNat:Int)=x.toInt:=by rw[w_bmod,BitVec.toInt_eq_toNat_bmod]
theorem bv_of {a:Int}(h:In64 a):∃ x:BitVec 64,a=x.toInt:=⟨BitVec.ofInt 64 a,by rw[BitVec.toInt_ofInt,<-w_bmod,h.same]⟩
theorem band_bv (x y:BitVec 64):bandV x.toInt y.toInt=(x &&& y).toInt:=by
 unfold bandV Go.bits
 simp only[IntWalk.i64_left]
 show wrap64 ((BitVec.ofInt 64 x.toInt &&& BitVec.ofInt 64 y.toInt).toNat:Int)=_
 rw[BitVec.ofInt_toInt,BitVec.ofInt_toInt,w_nat]
theorem bor_bv (x y:BitVec 64):borV x.toInt y.toInt=(x ||| y).toInt:=by
 unfold borV Go.bits
 simp only[IntWalk.i64_left]
 show wrap64 ((BitVec.ofInt 64 x.toInt ||| BitVec.ofInt 64 y.toInt).toNat:Int)=_
 rw[BitVec.ofInt_toInt,BitVec.ofInt_toInt,w_nat]
def fd (f:Int):List Int->Int × Int
 | []=>(neutV f,neutE f)
 | [c]=>(c,0)
 | c::d::r=>if (fd f (d::r)).2≠0 then (0,(fd f (d::r)).2) else (twoV f c (fd f (d::r)).1,twoE f c (fd f (d::r)).1)
def fdV (f:Int)(l:List Int):Int:=(fd f l).1
def fdE (f:Int)(l:List Int):Int:=(fd f l).2
theorem fdE_cons (f c:Int){l:List Int}(h:l≠[]):fdE f (c::l)=if fdE f l≠0 then fdE f l else twoE f c (fdV f l):=by
 cases l with
 | nil=>exact absurd rfl h
 | cons d r=>
  unfold fdE fdV
  rw[fd]
  by_cases h1:(fd f (d::r)).2≠0
  ·rw[if_pos h1,if_pos h1]
  ·rw[if_neg h1,if_neg h1]
theorem fdV_cons (f c:Int){l:List Int}(h:l≠[]):fdV f (c::l)=if fdE f l≠0 then 0 else twoV f c (fdV f l):=by
 cases l with
 | nil=>exact absurd rfl h
 | cons d r=>
  unfold fdE fdV
  rw[fd]
  by_cases h1:(fd f (d::r)).2≠0
  ·rw[if_pos h1,if_pos h1]
  ·rw[if_neg h1,if_neg h1]
def Mon (f:Int):Prop:=f=1\/f=3\/f=6\/f=7\/f=14\/f=15
section
variable {f : Int}
theorem Mon.fn (h:Mon f):1<=f/\f<=16:=by unfold Mon at h;omega
theorem Mon.te (h:Mon f)(a b:Int):twoE f a b=0:=by unfold Mon at h;exact te0 (by omega) (by omega) (fun e=>by omega) (fun e=>by omega)
theorem Mon.ne (h:Mon f):neutE f=0:=by unfold Mon at h;unfold neutE;rw[if_neg (by omega),if_neg (by omega)]
theorem Mon.unit (h:Mon f){a:Int}(ha:In64 a):twoV f a (neutV f)=a:=by
 have h2:=ha
 unfold In64 at h2
 rcases h with rfl | rfl | rfl | rfl | rfl | rfl
 ·rw[tv1,show neutV 1=0 from rfl,Int.add_zero,ha.same]
 ·rw[tv3,show neutV 3=1 from rfl,Int.mul_one,ha.same]
 ·rw[tv6,show neutV 6=-9223372036854775808 from rfl];omega
 ·rw[tv7,show neutV 7=9223372036854775807 from rfl];omega
 ·obtain⟨x,rfl⟩:=bv_of ha
  rw[tv14,show neutV 14=(BitVec.allOnes 64).toInt from rfl,band_bv,BitVec.and_allOnes]
 ·obtain⟨x,rfl⟩:=bv_of ha
  rw[tv15,show neutV 15=(0#64).toInt from rfl,bor_bv,BitVec.or_zero]
def L64 (l:List Int):Prop:=∀ x,x∈l->In64 x
theorem L64.tail {x:Int}{l:List Int}(h:L64 (x::l)):L64 l:=fun y hy=>h y (List.mem_cons_of_mem _ hy)
theorem L64.head {x:Int}{l:List Int}(h:L64 (x::l)):In64 x:=h x (by simp)
theorem L64.map {α:Type}{l:List α}{g:α->Int}(h:∀ x,x∈l->In64 (g x)):L64 (l.map g):=fun y hy=>by
 obtain⟨x,hx,rfl⟩:=List.mem_map.1 hy
 exact h x hx
theorem Mon.fold (h:Mon f):∀ {l:List Int},L64 l->fdE f l=0/\fdV f l=l.foldr (twoV f) (neutV f)
 | [],_=>⟨h.ne,rfl⟩
 | [c],hl=>⟨rfl,(h.unit hl.head).symm⟩
 | c::d::r,hl=>by
  have ih:=h.fold hl.tail
  rw[fdE_cons f c (by simp),fdV_cons f c (by simp),if_neg (by simp[ih.1]),if_neg (by simp[ih.1]),ih.2]
  exact⟨h.te _ _,rfl⟩
theorem Mon.ok (h:Mon f){l:List Int}(hl:L64 l):fdE f l=0:=(h.fold hl).1
end
def su (g:Nat->Nat):Nat->Nat
 | 0=>0
 | k+1=>su g k+g k
theorem su_congr {g h:Nat->Nat}:∀ {n:Nat},(∀ i,i<n->g i=h i)->su g n=su h n
 | 0,_=>rfl
 | n+1,e=>by simp only[su];rw[su_congr (fun i hi=>e i (by omega)),e n (by omega)]
theorem su_list (g:Nat->Nat):∀ n,su g n=((List.range n).map g).foldr (· + ·) 0
 | 0=>rfl
 | n+1=>by
  have hf:∀ (l:List Nat) (x:Nat),(l++[x]).foldr (· + ·) 0=l.foldr (· + ·) 0+x:=fun l x=>by
   induction l with
   | nil=>simp
   | cons a l ih=>simp only[List.cons_append,List.foldr_cons,ih];omega
  rw[List.range_succ,List.map_append,List.map_cons,List.map_nil,hf,<-su_list g n];rfl
theorem fold_perm {a b:List Nat}(h:a.Perm b):a.foldr (· + ·) 0=b.foldr (· + ·) 0:=by
 induction h with
 | nil=>rfl
 | cons x _ ih=>simp only[List.foldr_cons,ih]
 | swap x y l=>simp only[List.foldr_cons];omega
 | trans _ _ h1 h2=>exact h1.trans h2
theorem su_perm {g q:Nat->Nat}{n:Nat}(h:((List.range n).map q).Perm (List.range n)):su (fun i=>g (q i)) n=su g n:=by
 rw[su_list,su_list]
 have:=fold_perm (h.map g)
 rw[List.map_map] at this
 exact this
def idn (n:Nat):List Int:=(List.range n).map fun i:Nat=>(i:Int)
def tnd (p:List Int):List Int:=(List.range p.length).map fun k:Nat=>((p.findIdx fun x=>x == (k:Int):Nat):Int)
section
variable {p q r : List Int}
theorem idn_length (n:Nat):(idn n).length=n:=by simp[idn]
theorem idn_nth {n i:Nat}(h:i<n):nth (idn n) i=i:=by
 rw[nth_get _ _ (by rw[idn_length];exact h)];simp[idn]
theorem idn_ord (n:Nat):IsOrd (idn n):=by
 refine⟨fun j hj=>?_,fun i j hij hj=>?_⟩
 ·rw[idn_length] at *;rw[idn_nth hj];omega
 ·rw[idn_length] at hj;rw[idn_nth hj,idn_nth (by omega)];omega
theorem tnd_length:(tnd p).length=p.length:=by simp[tnd]
theorem tnd_nth {k:Nat}(h:k<p.length):nth (tnd p) k=((p.findIdx fun x=>x == (k:Int):Nat):Int):=by
 rw[nth_get _ _ (by rw[tnd_length];exact h)];simp[tnd]
theorem ord_at (hp:IsOrd p){i:Nat}(h:i<p.length):(nth p i).toNat<p.length/\(((nth p i).toNat:Nat):Int)=nth p i:=by
 have:=hp.1 i h;omega
theorem find_ord (hp:IsOrd p){i:Nat}(h:i<p.length){k:Nat}(hk:nth p i=k):(p.findIdx fun x=>x == (k:Int))=i:=by
 have hm:p.findIdx (fun x=>x == (k:Int))<p.length:=List.findIdx_lt_length_of_exists ⟨nth p i,nth_mem p i h,by simp[hk]⟩
 have h1:=List.findIdx_getElem (w:=hm)
 rw[<-nth_get _ _ hm] at h1
 exact hp.inj hm h (by rw[hk];simpa using h1)
theorem tnd_at (hp:IsOrd p){i:Nat}(h:i<p.length):nth (tnd p) (nth p i).toNat=i:=by
 have h1:=ord_at hp h
 rw[tnd_nth h1.1,find_ord hp h h1.2.symm]
theorem at_tnd (hp:IsOrd p){k:Nat}(h:k<p.length):nth p (nth (tnd p) k).toNat=k/\0<=nth (tnd p) k/\nth (tnd p) k<p.length:=by
 obtain⟨i,hi,e⟩:=hp.surj h
 have h1:=tnd_at hp hi
 rw[e,Int.toNat_natCast] at h1
 rw[h1,Int.toNat_natCast]
 exact⟨e,by omega,by omega⟩
theorem tnd_ord (hp:IsOrd p):IsOrd (tnd p):=by
 refine⟨fun j hj=>?_,fun i j hij hj=>?_⟩
 ·rw[tnd_length] at *;exact (at_tnd hp hj).2
 ·rw[tnd_length] at hj
  intro e
  have h1:=(at_tnd hp hj).1
  have h2:=(at_tnd hp (show i<p.length by omega)).1
  rw[e,h1] at h2;omega
end
def cmpL:List Int->List Int->Int
 | x::a,y::b=>if x<y then -1 else if y<x then 1 else cmpL a b
 | _,_=>0
def onL (e:Int)(xs:List Int):List Int:=if e=0 then xs else []
def onZ (e x:Int):Int:=if e=0 then x else 0
section
variable {p q : List Int}
end
theorem onL_ok {e:Int}{xs:List Int}(h:e=0):onL e xs=xs:=by unfold onL;rw[if_pos h]
theorem onL_no {e:Int}{xs:List Int}(h:e≠0):onL e xs=[]:=by unfold onL;rw[if_neg h]
theorem onZ_no {e x:Int}(h:e≠0):onZ e x=0:=by unfold onZ;rw[if_neg h]
def UL (e:Int)(L:List Int)(w:World)(r:Ending)(w':World):Prop:=∃ g gc,r=.returned (.tuple #[.slice g L.length gc,errV e])/\NewC w.heap.size w' g L gc/\Below w.heap.size w w'
def UZ (e x:Int)(w:World)(r:Ending)(w':World):Prop:=r=.returned (.tuple #[.int .i64 x,errV e])/\Below w.heap.size w w'
theorem UL.mkok {e:Int}{L:List Int}{w w':World}{g:Option Addr}{gc:Nat}(h:e=0)(hN:NewC w.heap.size w' g L gc)(hB:Below w.heap.size w w'):UL e (onL e L) w (.returned (.tuple #[.slice g L.length gc,.nilIface])) w':=by
 subst h
 exact⟨g,gc,rfl,hN,hB⟩
theorem UL.mkno {e:Int}{L:List Int}{w w':World}{e':Int}(h:e=e')(h0:e'≠0)(hB:Below w.heap.size w w'):UL e (onL e L) w (.returned (.tuple #[.slice none 0 0,.iface 43 (.int .i64 e')])) w':=by
 subst h
 rw[onL_no h0]
 exact⟨none,0,by rw[errV_pos h0];rfl,⟨.inl rfl,Nat.le_refl _⟩,hB⟩
theorem UZ.mkok {e x:Int}{w w':World}(h:e=0)(hB:Below w.heap.size w w'):UZ e (onZ e x) w (.returned (.tuple #[.int .i64 x,.nilIface])) w':=by
 subst h
 exact⟨rfl,hB⟩
theorem UZ.mkno {e x:Int}{w w':World}{e':Int}(h:e=e')(h0:e'≠0)(hB:Below w.heap.size w w'):UZ e (onZ e x) w (.returned (.tuple #[.int .i64 0,.iface 43 (.int .i64 e')])) w':=by
 subst h
 rw[onZ_no h0]
 exact⟨by rw[errV_pos h0],hB⟩
abbrev RwV:Type:=(Option Addr × Nat) × List Int
def RwV.v (r:RwV):Value:=.slice r.1.1 r.2.length r.1.2
def rwz (rs:List RwV)(j:Nat):RwV:=rs.getD j ((none,0),[])
def IsRs (n:Nat)(W:World)(a:Option Addr)(rs:List RwV):Prop:=
 (rs=[]\/∃ b off,a=some ⟨b,off,none⟩/\b<n/\∀ j,j<rs.length->W.cell? ⟨b,off+j,none⟩=some (rwz rs j).v)/\∀ j,j<rs.length->IsInts n W (rwz rs j).1.1 (rwz rs j).2
section
variable {n n' : Nat} {W W' : World} {a : Option Addr} {rs : List RwV}
theorem IsRs.below (hB:Below n W W')(h:IsRs n W a rs):IsRs n W' a rs:=by
 refine⟨?_,fun j hj=>(h.2 j hj).below hB⟩
 rcases h.1 with e | ⟨b,off,e,hb,hc⟩
 ·exact .inl e
 ·exact .inr ⟨b,off,e,hb,fun j hj=>(hB.cell (p:=⟨b,off+j,none⟩) hb).trans (hc j hj)⟩
theorem IsRs.mono (hn:n<=n')(h:IsRs n W a rs):IsRs n' W a rs:=by
 refine⟨?_,fun j hj=>(h.2 j hj).mono hn⟩
 rcases h.1 with e | ⟨b,off,e,hb,hc⟩
 ·exact .inl e
 ·exact .inr ⟨b,off,e,by omega,hc⟩
theorem IsRs.go (h:IsRs W.heap.size W a rs)(hB:Below W.heap.size W W'):IsRs W'.heap.size W' a rs:=(h.below hB).mono hB.size
theorem IsRs.at (h:IsRs n W a rs){j:Nat}(hj:j<rs.length):∃ b off,a=some ⟨b,off,none⟩/\b<n/\∀ j,j<rs.length->W.cell? ⟨b,off+j,none⟩=some (rwz rs j).v:=by
 rcases h.1 with e | h
 ·subst e;simp at hj
 ·exact h
end
end Go.Proofs.YtkmmkcpfhnifhaaGreat
