/- What the program tells, in part. -/
import Derived.Test.YtkmmkcpfhnifhaaGreatDoorJ01
set_option linter.unusedVariables false
set_option maxRecDepth 100000
namespace Go.Proofs.YtkmmkcpfhnifhaaGreatDoor
theorem ins_cons {x a:Int}{s t:List Int}:insB (x::s) (a::t)=true ↔ (0<=a/\a<x)/\insB s t=true:=by
 simp only[insB,Bool.and_eq_true,decide_eq_true_eq]
def zr (c:List Int)(m:Nat):List Int:=c.take m++List.replicate (c.length-m) 0
def cr (zs:List Int)(i:Nat):List Int:=(crd zs (i:Int)).1
theorem cr_length (zs:List Int)(i:Nat):(cr zs i).length=zs.length:=crd_len zs _
theorem cr_fact {zs:List Int}{i:Nat}(he:errOf zs=0)(hi:(i:Int)<prod zs):insB zs (cr zs i)=true/\place zs (cr zs i)=i:=by
 have ha:atErr zs i=0:=atErr_zero.2 ⟨he,by omega,hi⟩
 have:=at_back ha
 rw[atVal_ok ha] at this
 exact⟨(plErr_zero.1 this.1).2,this.2⟩
def IsOrd (ps:List Int):Prop:=(∀ j,j<ps.length->0<=nth ps j/\nth ps j<ps.length)/\∀ i j,i<j->j<ps.length->nth ps i≠nth ps j
def ordB (ps:List Int):Bool:=(List.range ps.length).all fun j=>decide (0<=nth ps j/\nth ps j<ps.length) && (List.range j).all fun i=>nth ps i != nth ps j
theorem ordB_iff (ps:List Int):ordB ps=true ↔ IsOrd ps:=by
 simp only[ordB,IsOrd,List.all_eq_true,List.mem_range,Bool.and_eq_true,decide_eq_true_eq,bne_iff_ne]
 exact⟨fun h=>⟨fun j hj=>(h j hj).1,fun i j hi hj=>(h j hj).2 i hi⟩,fun h j hj=>⟨h.1 j hj,fun i hi=>h.2 i j hi hj⟩⟩
theorem IsOrd.inj {ps:List Int}(h:IsOrd ps){i j:Nat}(hi:i<ps.length)(hj:j<ps.length)(e:nth ps i=nth ps j):i=j:=by
 by_cases h1:i<j
 ·exact absurd e (h.2 i j h1 hj)
 ·by_cases h2:j<i
  ·exact absurd e.symm (h.2 j i h2 hi)
  ·omega
def nats (ps:List Int):List Nat:=ps.map Int.toNat
theorem nats_length (ps:List Int):(nats ps).length=ps.length:=by simp[nats]
theorem nats_get (ps:List Int)(j:Nat)(h:j<ps.length):(nats ps)[j]?=some (nth ps j).toNat:=by
 rw[nth_get ps j h];simp[nats,h]
theorem nats_nodup {ps:List Int}(h:IsOrd ps):(nats ps).Nodup:=by
 rw[List.Nodup,List.pairwise_iff_getElem]
 intro i j hi hj hij e
 rw[nats_length] at hi hj
 have e1:=nats_get ps i hi
 have e2:=nats_get ps j hj
 rw[List.getElem?_eq_getElem (by rw[nats_length];exact hi)] at e1
 rw[List.getElem?_eq_getElem (by rw[nats_length];exact hj)] at e2
 have b1:=h.1 i hi
 have b2:=h.1 j hj
 have e3:(nth ps i).toNat=(nth ps j).toNat:=by
  have:=Option.some.inj e1
  have:=Option.some.inj e2
  omega
 exact h.2 i j hij hj (by omega)
theorem nats_sub {ps:List Int}(h:IsOrd ps):nats ps ⊆ List.range ps.length:=by
 intro x hx
 obtain⟨j,hj,e⟩:=List.getElem_of_mem hx
 rw[nats_length] at hj
 have e1:=nats_get ps j hj
 rw[List.getElem?_eq_getElem (by rw[nats_length];exact hj)] at e1
 have:=Option.some.inj e1
 have b:=h.1 j hj
 rw[List.mem_range]
 omega
theorem IsOrd.surj {ps:List Int}(h:IsOrd ps){j:Nat}(hj:j<ps.length):∃ i,i<ps.length/\nth ps i=j:=by
 by_cases hm:j∈nats ps
 ·obtain⟨i,hi,e⟩:=List.getElem_of_mem hm
  rw[nats_length] at hi
  have e1:=nats_get ps i hi
  rw[List.getElem?_eq_getElem (by rw[nats_length];exact hi)] at e1
  have:=Option.some.inj e1
  have b:=h.1 i hi
  exact⟨i,hi,by omega⟩
 ·have hn:(j::nats ps).Nodup:=List.nodup_cons.2 ⟨hm,nats_nodup h⟩
  have hs:(j::nats ps) ⊆ List.range ps.length:=by
   intro x hx
   rcases List.mem_cons.1 hx with rfl | hx
   ·exact List.mem_range.2 hj
   ·exact nats_sub h hx
  have:=hn.length_le_of_subset hs
  simp only[List.length_cons,nats_length,List.length_range] at this
  omega
theorem nats_perm {ps:List Int}(h:IsOrd ps):(nats ps).Perm (List.range ps.length):=
 (List.perm_ext_iff_of_nodup (nats_nodup h) List.nodup_range).2 fun x=>⟨fun hx=>nats_sub h hx,fun hx=>by
  obtain⟨i,hi,e⟩:=h.surj (List.mem_range.1 hx)
  have e1:=nats_get ps i hi
  rw[e,Int.toNat_natCast] at e1
  exact List.mem_of_getElem? e1⟩
theorem prod_perm {a b:List Int}(h:a.Perm b):prod a=prod b:=by
 induction h with
 | nil=>rfl
 | cons x _ ih=>simp only[prod,ih]
 | swap x y l=>simp only[prod];rw[<-Int.mul_assoc,<-Int.mul_assoc,Int.mul_comm y x]
 | trans _ _ ih1 ih2=>exact ih1.trans ih2
theorem errOf_perm {a b:List Int}(h:a.Perm b)(he:errOf a=0):errOf b=0:=by
 have:=errOf_zero.1 he
 exact errOf_zero.2 ⟨by rw[<-h.length_eq];exact this.1,fun x hx=>this.2.1 x (h.mem_iff.2 hx),by rw[<-prod_perm h];exact this.2.2⟩
def AxSpec (zs ps t:List Int):Prop:=t.length=zs.length/\∀ k,k<zs.length->nth t (nth ps k).toNat=nth zs k
theorem range_nth (t:List Int):(List.range t.length).map (nth t)=t:=by
 apply List.ext_getElem (by simp)
 intro i h1 h2
 simp[nth_get t i h2]
theorem AxSpec.perm {zs ps t:List Int}(h:AxSpec zs ps t)(ho:IsOrd ps)(hl:ps.length=zs.length):t.Perm zs:=by
 have e1:(nats ps).map (nth t)=zs:=by
  apply List.ext_getElem (by simp[nats_length,hl])
  intro i h1 h2
  rw[List.getElem_map,<-nth_get zs i h2,<-h.2 i h2]
  have:=nats_get ps i (by omega)
  rw[List.getElem?_eq_getElem (by rw[nats_length];omega)] at this
  rw[Option.some.inj this]
 have e2:=(nats_perm ho).map (nth t)
 rw[e1,hl,<-h.1,range_nth] at e2
 exact e2.symm
def BkSpec (ps q:List Int):Prop:=q.length=ps.length/\∀ i,i<ps.length->nth q (nth ps i).toNat=i
theorem BkSpec.at {ps q:List Int}(h:BkSpec ps q)(ho:IsOrd ps){j:Nat}(hj:j<ps.length):∃ i,i<ps.length/\nth ps i=j/\nth q j=i:=by
 obtain⟨i,hi,e⟩:=ho.surj hj
 have:=h.2 i hi
 rw[e,Int.toNat_natCast] at this
 exact⟨i,hi,e,this⟩
theorem BkSpec.ord {ps q:List Int}(h:BkSpec ps q)(ho:IsOrd ps):IsOrd q:=by
 refine⟨fun j hj=>?_,fun i j hij hj e=>?_⟩
 ·obtain⟨i,hi,_,e2⟩:=h.at ho (j:=j) (by rw[<-h.1];exact hj)
  rw[e2,h.1];omega
 ·obtain⟨i1,hi1,e1,f1⟩:=h.at ho (j:=i) (by rw[<-h.1];omega)
  obtain⟨i2,hi2,e2,f2⟩:=h.at ho (j:=j) (by rw[<-h.1];exact hj)
  rw[f1,f2] at e
  have:i1=i2:=by omega
  subst this
  rw[e1] at e2
  omega
def axstep (zs ps:List Int)(s:List Int)(x:Ax zs.length):List Int:=s.set (nth ps x.1).toNat (nth zs x.1)
def axl (zs ps:List Int)(pre:List (Ax zs.length)):List Int:=pre.foldl (axstep zs ps) (List.replicate zs.length 0)
theorem axl_snoc (zs ps:List Int)(pre:List (Ax zs.length))(k:Nat)(hk:k<zs.length):axl zs ps (pre++[⟨k,hk⟩])=(axl zs ps pre).set (nth ps k).toNat (nth zs k):=by
 simp only[axl,List.foldl_append,List.foldl_cons,List.foldl_nil,axstep]
theorem axl_fold_length (zs ps:List Int):∀ (pre:List (Ax zs.length)) (s:List Int),(pre.foldl (axstep zs ps) s).length=s.length
 | [],s=>rfl
 | x::pre,s=>by rw[List.foldl_cons,axl_fold_length zs ps pre];simp[axstep]
theorem axl_length (zs ps:List Int)(pre:List (Ax zs.length)):(axl zs ps pre).length=zs.length:=by unfold axl;rw[axl_fold_length];simp
theorem axl_dn {zs ps:List Int}(ho:IsOrd ps)(hl:ps.length=zs.length):∀ k,k<=zs.length->∀ j,zs.length-k<=j->j<zs.length->nth (axl zs ps (dn zs.length k)) (nth ps j).toNat=nth zs j
 | 0,_,j,h1,h2=>by omega
 | k+1,hk,j,h1,h2=>by
  rw[dn_succ _ k (by omega),axl_snoc]
  have b:=ho.1 (zs.length-1-k) (by omega)
  have bj:=ho.1 j (by omega)
  rw[nth_set _ _ _ _ (by rw[axl_length];omega)]
  by_cases e:j=zs.length-1-k
  ·rw[if_pos (by rw[e]),e]
  ·have hne:(nth ps j).toNat≠(nth ps (zs.length-1-k)).toNat:=fun e2=>e (ho.inj (by omega) (by omega) (by omega))
   rw[if_neg hne]
   exact axl_dn ho hl k (by omega) j (by omega) h2
theorem axl_spec {zs ps:List Int}(ho:IsOrd ps)(hl:ps.length=zs.length):AxSpec zs ps (axl zs ps (dn zs.length zs.length)):=
 ⟨axl_length _ _ _,fun k hk=>axl_dn ho hl _ (Nat.le_refl _) k (by omega) hk⟩
def axErr (zs ps:List Int):Int:=if errOf zs≠0 then errOf zs else if ps.length≠zs.length then 4 else if ordB ps=true then 0 else 5
def axVal (zs ps:List Int):List Int:=if axErr zs ps=0 then axl zs ps (dn zs.length zs.length) else []
theorem axErr_zero {zs ps:List Int}:axErr zs ps=0 ↔ errOf zs=0/\ps.length=zs.length/\IsOrd ps:=by
 unfold axErr
 by_cases h:errOf zs=0
 ·rw[if_neg (by simpa using h)]
  by_cases h1:ps.length=zs.length
  ·rw[if_neg (by simpa using h1),<-ordB_iff]
   by_cases h2:ordB ps=true
   ·rw[if_pos h2];exact⟨fun _=>⟨h,h1,h2⟩,fun _=>rfl⟩
   ·rw[if_neg h2];exact⟨fun e=>absurd e (by decide),fun e=>absurd e.2.2 h2⟩
  ·rw[if_pos h1];exact⟨fun e=>absurd e (by decide),fun e=>absurd e.2.1 h1⟩
 ·rw[if_pos h];exact⟨fun e=>absurd e h,fun e=>absurd e.1 h⟩
theorem axErr_bad {zs ps:List Int}(he:errOf zs≠0):axErr zs ps=errOf zs:=by simp[axErr,he]
theorem axErr_len {zs ps:List Int}(he:errOf zs=0)(hl:ps.length≠zs.length):axErr zs ps=4:=by simp[axErr,he,hl]
theorem axErr_ord {zs ps:List Int}(he:errOf zs=0)(hl:ps.length=zs.length)(ho:¬ IsOrd ps):axErr zs ps=5:=by
 rw[<-ordB_iff] at ho;simp[axErr,he,hl,ho]
theorem axVal_bad {zs ps:List Int}(h:axErr zs ps≠0):axVal zs ps=[]:=by simp[axVal,h]
theorem axVal_ok {zs ps:List Int}(h:axErr zs ps=0):axVal zs ps=axl zs ps (dn zs.length zs.length):=by simp[axVal,h]
theorem axVal_spec {zs ps:List Int}(h:axErr zs ps=0):AxSpec zs ps (axVal zs ps):=by
 have:=axErr_zero.1 h
 rw[axVal_ok h];exact axl_spec this.2.2 this.2.1
end Go.Proofs.YtkmmkcpfhnifhaaGreatDoor
namespace Go.Proofs.YtkmmkcpfhnifhaaGreatDoor
open Go.RowKit
def GA (s dz s':List Int)(src:List Int->List Int):List Int:=(List.range (prod s').toNat).map fun i=>nth dz (place s (src (cr s' i))).toNat
section
variable {s s' s'' dz : List Int} {src src' src2 : List Int → List Int}
theorem GA_length:(GA s dz s' src).length=(prod s').toNat:=by simp[GA]
theorem GA_nth {i:Nat}(h:i<(prod s').toNat):nth (GA s dz s' src) i=nth dz (place s (src (cr s' i))).toNat:=by simp[GA,nth,h]
theorem cr_place (he:errOf s'=0){t:List Int}(ht:insB s' t=true):cr s' (place s' t).toNat=t/\(place s' t).toNat<(prod s').toNat:=by
 have hb:=place_bd ht
 have h:=pl_back (plErr_zero.2 ⟨he,ht⟩)
 have e:(((place s' t).toNat:Nat):Int)=place s' t:=by omega
 refine⟨?_,by omega⟩
 unfold cr
 rw[e,<-atVal_ok h.1]
 exact h.2.1
theorem cr_in (he:errOf s'=0){i:Nat}(hi:i<(prod s').toNat):insB s' (cr s' i)=true/\place s' (cr s' i)=i:=cr_fact he (by omega)
end
def revT (s:List Int)(x:Nat)(t:List Int):List Int:=t.set x (nth s x-1-nth t x)
def rotT (s:List Int)(n:Int)(x:Nat)(t:List Int):List Int:=t.set x ((nth t x+n)%nth s x)
def flpT (p:List Int)(t:List Int):List Int:=p.map fun k=>nth t k.toNat
theorem flpT_nth (p t:List Int){k:Nat}(h:k<p.length):nth (flpT p t) k=nth t (nth p k).toNat:=by simp[flpT,nth,h]
theorem flpT_length (p t:List Int):(flpT p t).length=p.length:=by simp[flpT]
section
variable {s t : List Int} {x y : Nat} {n m : Int}
theorem ins_at (h:insB s t=true)(hx:x<s.length):0<=nth t x/\nth t x<nth s x:=(insB_iff (insB_len h)).1 h x hx
theorem ins_set {v:Int}(h:insB s t=true)(hx:x<s.length)(hv:0<=v/\v<nth s x):insB s (t.set x v)=true:=by
 have hl:=insB_len h
 rw[insB_iff (by rw[List.length_set];exact hl)]
 intro k hk
 rw[nth_set _ _ _ _ (by omega)]
 split
 ·rename_i e;rw[e];exact hv
 ·exact ins_at h hk
end
section
variable {s s' p t : List Int}
theorem flpT_in (ho:IsOrd p)(hl:p.length=s.length)(ha:AxSpec s p s')(h:insB s' t=true):insB s (flpT p t)=true:=by
 have hl':=insB_len h
 rw[insB_iff (by rw[flpT_length];exact hl)]
 intro k hk
 rw[flpT_nth p t (by omega),<-ha.2 k hk]
 have:=ho.1 k (by omega)
 exact ins_at h (by have:=ha.1;omega)
theorem ax_err {s':List Int}(ho:IsOrd p)(hl:p.length=s.length)(ha:AxSpec s p s')(he:errOf s=0):errOf s'=0:=errOf_perm (ha.perm ho hl).symm he
theorem ax_prod {s':List Int}(ho:IsOrd p)(hl:p.length=s.length)(ha:AxSpec s p s'):prod s'=prod s:=prod_perm (ha.perm ho hl)
end
def stp (s:List Int)(x:Nat):Int:=prod (s.drop (x+1))
theorem stp_zero (a:Int)(s:List Int):stp (a::s) 0=prod s:=by simp[stp]
theorem stp_succ (a:Int)(s:List Int)(x:Nat):stp (a::s) (x+1)=stp s x:=by simp[stp]
theorem al_prod {s:List Int}(h:AllPos s):0<prod s:=by
 induction s with
 | nil=>simp[prod]
 | cons x r ih=>exact Int.mul_pos (h x List.mem_cons_self) (ih h.tail)
theorem al_drop {s:List Int}(h:AllPos s)(k:Nat):AllPos (s.drop k):=fun y hy=>h y (List.mem_of_mem_drop hy)
theorem al_take {s:List Int}(h:AllPos s)(k:Nat):AllPos (s.take k):=fun y hy=>h y (List.mem_of_mem_take hy)
theorem stp_pos {s:List Int}(h:AllPos s)(x:Nat):0<stp s x:=al_prod (al_drop h _)
theorem al_pos {s t:List Int}(h:insB s t=true):AllPos s:=fun y hy=>by
 obtain⟨j,hj,rfl⟩:=List.mem_iff_getElem.1 hy
 have:=ins_at h hj
 rw[<-nth_get s j hj]
 omega
theorem al_split (s:List Int){x:Nat}(hx:x<s.length):prod s=prod (s.take x)*(nth s x*stp s x):=by
 have e:=prod_append (s.take x) (s.drop x)
 rw[List.take_append_drop,drop_nth s x hx] at e
 exact e
theorem stp_le {s:List Int}(h:AllPos s){x:Nat}(hx:x<s.length):nth s x*stp s x<=prod s:=by
 have e:=al_split s hx
 have h1:=al_prod (al_take h x)
 have h2:=stp_pos h x
 have h3:=h _ (nth_mem s x hx)
 have h4:0<=nth s x*stp s x:=Int.le_of_lt (Int.mul_pos h3 h2)
 have:1*(nth s x*stp s x)<=prod (s.take x)*(nth s x*stp s x):=Int.mul_le_mul_of_nonneg_right (by omega) h4
 omega
theorem place_set:∀ {s t:List Int} {x:Nat} (v:Int),t.length=s.length->x<s.length->place s (t.set x v)=place s t+(v-nth t x)*stp s x
 | [],_,_,_,_,h=>by simp at h
 | _::_,[],_,_,h,_=>by simp at h
 | b::s,a::t,0,v,hl,_=>by
  simp only[List.set_cons_zero,place,nth_zero,stp_zero,Int.sub_mul]
  omega
 | b::s,a::t,x+1,v,hl,hx=>by
  have ih:=place_set (s:=s) (t:=t) (x:=x) v (by simpa using hl) (by simpa using hx)
  simp only[List.set_cons_succ,place,nth_succ,stp_succ,ih]
  omega
theorem idx_at:∀ {s t:List Int} {x:Nat},insB s t=true->x<s.length->place s t/stp s x%nth s x=nth t x
 | [],_,_,_,h=>by simp at h
 | _::_,[],_,h,_=>by simp[insB] at h
 | b::s,a::t,0,h,_=>by
  have h1:=ins_cons.1 h
  have hb:=place_bd h1.2
  simp only[place,nth_zero,stp_zero]
  have e:(a*prod s+place s t)/prod s=a:=by
   rw[Int.add_comm,Int.add_mul_ediv_right _ _ (by omega),Int.ediv_eq_zero_of_lt hb.1 hb.2];omega
  rw[e,Int.emod_eq_of_lt h1.1.1 h1.1.2]
 | b::s,a::t,x+1,h,hx=>by
  have h1:=ins_cons.1 h
  have hx':x<s.length:=by simpa using hx
  have ih:=idx_at (s:=s) (t:=t) (x:=x) h1.2 hx'
  have hp:=stp_pos (al_pos h1.2) x
  simp only[place,nth_succ,stp_succ]
  have e:a*prod s+place s t=place s t+(a*prod (s.take x)*nth s x)*stp s x:=by
   rw[al_split s hx',Int.add_comm]
   congr 1
   rw[Int.mul_assoc,Int.mul_assoc]
  rw[e,Int.add_mul_ediv_right _ _ (by omega),Int.add_mul_emod_self_right]
  exact ih
def mvP (s:List Int)(x:Nat)(g:Int->Int)(j:Int):Int:=j+(g (j/stp s x%nth s x)-j/stp s x%nth s x)*stp s x
def mvT (x:Nat)(g:Int->Int)(t:List Int):List Int:=t.set x (g (nth t x))
theorem mvP_at {s:List Int}(he:errOf s=0){x:Nat}(hx:x<s.length){j:Nat}(hj:(j:Int)<prod s)(g:Int->Int):(j:Int)/stp s x%nth s x=nth (cr s j) x/\mvP s x g j=place s (mvT x g (cr s j)):=by
 obtain⟨h1,h2⟩:=cr_fact he hj
 have e:(j:Int)/stp s x%nth s x=nth (cr s j) x:=by rw[<-idx_at h1 hx,h2]
 refine⟨e,?_⟩
 unfold mvP mvT
 rw[place_set _ (cr_length s j) hx,h2,e]
theorem mvT_in {s t:List Int}{x:Nat}{g:Int->Int}(h:insB s t=true)(hx:x<s.length)(hg:∀ i,0<=i->i<nth s x->0<=g i/\g i<nth s x):insB s (mvT x g t)=true:=by
 have hb:=ins_at h hx
 exact ins_set h hx (hg _ hb.1 hb.2)
theorem mv_round {s dz:List Int}(he:errOf s=0)(hd:(dz.length:Int)=prod s){x:Nat}(hx:x<s.length){j:Nat}(hj:j<dz.length){g:Int->Int}(hg:∀ i,0<=i->i<nth s x->0<=g i/\g i<nth s x):
  0<stp s x/\stp s x<=4096/\0<nth s x/\nth s x<=4096/\(∃ i:Nat,(j:Int)/stp s x%nth s x=i/\(i:Int)<nth s x/\mvP s x g j=j+(g i-i)*stp s x/\(g i-i)*stp s x<=16777216/\-16777216<=(g i-i)*stp s x/\0<=g i/\g i<nth s x)/\∃ m:Nat,m<dz.length/\mvP s x g j=m/\nth dz m=nth (GA s dz s (mvT x g)) j:=by
 have hz:=errOf_zero.1 he
 have hj':(j:Int)<prod s:=by omega
 obtain⟨h1,h2⟩:=cr_fact he hj'
 obtain⟨e1,e2⟩:=mvP_at he hx hj' g
 have hp:=al_pos h1
 have hb:=ins_at h1 hx
 have hs1:=stp_pos hp x
 have hs2:=stp_le hp hx
 have hn:=hz.2.1.nth x
 have hgb:=hg _ hb.1 hb.2
 have hin:=mvT_in h1 hx hg
 have hpb:=place_bd hin
 have hs3:1*stp s x<=nth s x*stp s x:=Int.mul_le_mul_of_nonneg_right (by omega) (by omega)
 have hs4:stp s x<=4096:=by omega
 refine⟨hs1,hs4,by omega,hn.2,⟨(nth (cr s j) x).toNat,by omega,by omega,?_⟩,(place s (mvT x g (cr s j))).toNat,by omega,by omega,?_⟩
 ·have ei:((nth (cr s j) x).toNat:Int)=nth (cr s j) x:=by omega
  rw[ei]
  have hab:g (nth (cr s j) x)-nth (cr s j) x<=4096/\-4096<=g (nth (cr s j) x)-nth (cr s j) x:=by omega
  refine⟨by unfold mvP;rw[e1],?_,?_,hgb⟩
  ·have:(g (nth (cr s j) x)-nth (cr s j) x)*stp s x<=4096*4096:=Int.le_trans (Int.mul_le_mul_of_nonneg_right hab.1 (by omega)) (Int.mul_le_mul_of_nonneg_left hs4 (by omega))
   omega
  ·have h5:(-4096)*stp s x<=(g (nth (cr s j) x)-nth (cr s j) x)*stp s x:=Int.mul_le_mul_of_nonneg_right hab.2 (by omega)
   omega
 ·rw[GA_nth (by omega)]
def sumI:List Int->Int
 | []=>0
 | x::r=>x+sumI r
theorem sumI_perm {a b:List Int}(h:a.Perm b):sumI a=sumI b:=by
 induction h with
 | nil=>rfl
 | cons x _ ih=>simp only[sumI,ih]
 | swap x y l=>simp only[sumI];omega
 | trans _ _ ih1 ih2=>exact ih1.trans ih2
def sumR (n:Nat)(f:Nat->Int):Int:=sumI ((List.range n).map f)
theorem sumR_succ (n:Nat)(f:Nat->Int):sumR (n+1) f=f 0+sumR n (fun k=>f (k+1)):=by
 unfold sumR
 rw[List.range_succ_eq_map,List.map_cons,List.map_map]
 rfl
theorem sumR_congr {n:Nat}{f g:Nat->Int}(h:∀ k,k<n->f k=g k):sumR n f=sumR n g:=by
 unfold sumR
 rw[List.map_congr_left fun k hk=>h k (List.mem_range.1 hk)]
theorem sumR_ord {p:List Int}(h:IsOrd p)(f:Nat->Int):sumR p.length f=sumR p.length (fun k=>f (nth p k).toNat):=by
 have e:=sumI_perm ((nats_perm h).map f)
 unfold sumR
 rw[<-e]
 congr 1
 apply List.ext_getElem (by simp[nats_length])
 intro i h1 h2
 rw[List.length_map,nats_length] at h1
 rw[List.getElem_map,List.getElem_map,List.getElem_range]
 have:=nats_get p i h1
 rw[List.getElem?_eq_getElem (by rw[nats_length];exact h1)] at this
 rw[Option.some.inj this]
theorem place_sum:∀ {s t:List Int},t.length=s.length->place s t=sumR s.length (fun k=>nth t k*stp s k)
 | [],[],_=>rfl
 | [],_::_,h=>by simp at h
 | _::_,[],h=>by simp at h
 | b::s,a::t,h=>by
  have ih:=place_sum (s:=s) (t:=t) (by simpa using h)
  rw[List.length_cons,sumR_succ]
  simp only[nth_zero,stp_zero,nth_succ,stp_succ,place,ih]
def dotL:List Int->List Int->Int
 | a::t,b::u=>dotL t u+a*b
 | _,_=>0
theorem dotL_sum:∀ {t u:List Int},u.length=t.length->dotL t u=sumR t.length (fun k=>nth t k*nth u k)
 | [],[],_=>rfl
 | [],_::_,h=>by simp at h
 | _::_,[],h=>by simp at h
 | a::t,b::u,h=>by
  have ih:=dotL_sum (t:=t) (u:=u) (by simpa using h)
  rw[List.length_cons,sumR_succ]
  simp only[nth_zero,nth_succ,dotL,ih]
  omega
def StSpec (s p u:List Int):Prop:=u.length=s.length/\∀ k,k<s.length->nth u (nth p k).toNat=stp s k
theorem flp_dot {s p u t:List Int}(ho:IsOrd p)(hl:p.length=s.length)(hu:StSpec s p u)(ht:t.length=s.length):dotL t u=place s (flpT p t):=by
 rw[dotL_sum (by rw[hu.1,ht]),place_sum (by rw[flpT_length,hl]),ht,<-hl,sumR_ord ho]
 refine sumR_congr fun k hk=>?_
 rw[flpT_nth p t hk,hu.2 k (by omega)]
def stk (s p:List Int):Nat->List Int
 | 0=>List.replicate p.length 0
 | k+1=>(stk s p k).set (nth p k).toNat (stp s k)
theorem stk_length (s p:List Int):∀ k,(stk s p k).length=p.length
 | 0=>by simp[stk]
 | k+1=>by simp[stk,stk_length s p k]
theorem stk_at {s p:List Int}(ho:IsOrd p):∀ k,k<=p.length->∀ i,i<k->nth (stk s p k) (nth p i).toNat=stp s i
 | 0,_,i,h=>by omega
 | k+1,hk,i,h=>by
  have b:=ho.1 k (by omega)
  have bi:=ho.1 i (by omega)
  simp only[stk]
  rw[nth_set _ _ _ _ (by rw[stk_length];omega)]
  by_cases e:i=k
  ·rw[if_pos (by rw[e]),e]
  ·have hne:(nth p i).toNat≠(nth p k).toNat:=fun e2=>e (ho.inj (by omega) (by omega) (by omega))
   rw[if_neg hne]
   exact stk_at ho k (by omega) i (by omega)
theorem stk_spec {s p:List Int}(ho:IsOrd p)(hl:p.length=s.length):StSpec s p (stk s p p.length):=
 ⟨by rw[stk_length,hl],fun k hk=>stk_at ho _ (Nat.le_refl _) k (by omega)⟩
def sstep (zs u:List Int)(q:Int × Int)(x:Ax zs.length):Int × Int:=(wrap64 (q.1+wrap64 (q.2.tmod (nth zs x.1)*nth u x.1)),q.2.tdiv (nth zs x.1))
def srV (zs u:List Int)(p:Int)(pre:List (Ax zs.length)):Int:=(pre.foldl (sstep zs u) (0,p)).1
def srQ (zs u:List Int)(p:Int)(pre:List (Ax zs.length)):Int:=(pre.foldl (sstep zs u) (0,p)).2
theorem srV_snoc (zs u:List Int)(p:Int)(pre:List (Ax zs.length))(k:Nat)(hk:k<zs.length):srV zs u p (pre++[⟨k,hk⟩])=wrap64 (srV zs u p pre+wrap64 ((srQ zs u p pre).tmod (nth zs k)*nth u k)):=by
 simp only[srV,srQ,List.foldl_append,List.foldl_cons,List.foldl_nil,sstep]
theorem srQ_snoc (zs u:List Int)(p:Int)(pre:List (Ax zs.length))(k:Nat)(hk:k<zs.length):srQ zs u p (pre++[⟨k,hk⟩])=(srQ zs u p pre).tdiv (nth zs k):=by
 simp only[srQ,List.foldl_append,List.foldl_cons,List.foldl_nil,sstep]
theorem srQ_fold_bd {zs u:List Int}(h:AllPos zs):∀ (pre:List (Ax zs.length)) (s:Int × Int),0<=s.2->0<=(pre.foldl (sstep zs u) s).2/\(pre.foldl (sstep zs u) s).2<=s.2
 | [],s,hs=>⟨hs,Int.le_refl _⟩
 | x::pre,s,hs=>by
  have hx:=h _ (nth_mem zs x.1 x.2)
  have e1:0<=s.2.tdiv (nth zs x.1):=Int.tdiv_nonneg hs (by omega)
  have e2:s.2.tdiv (nth zs x.1)<=s.2:=by
   have ed:=Int.tmod_add_mul_tdiv s.2 (nth zs x.1)
   have em:=Int.tmod_nonneg (nth zs x.1) hs
   have:1*s.2.tdiv (nth zs x.1)<=nth zs x.1*s.2.tdiv (nth zs x.1):=Int.mul_le_mul_of_nonneg_right (by omega) e1
   omega
  have ih:=srQ_fold_bd (u:=u) h pre (sstep zs u s x) e1
  rw[List.foldl_cons]
  have e3:(sstep zs u s x).2=s.2.tdiv (nth zs x.1):=rfl
  omega
theorem srQ_bd {zs u:List Int}(h:AllPos zs){p:Int}(hp:0<=p)(pre:List (Ax zs.length)):0<=srQ zs u p pre/\srQ zs u p pre<=p:=srQ_fold_bd h pre (0,p) hp
theorem dot_wrap {t:List Int}{u:List Int}{x b:Int}:wrap64 (wrap64 (dotL t u)+wrap64 (x*b))=wrap64 (dotL t u+x*b):=by unfold wrap64;omega
theorem srfold (zs u:List Int)(hl:u.length=zs.length)(p:Int):(dn zs.length zs.length).foldl (sstep zs u) (0,p)=(wrap64 (dotL (crd zs p).1 u),(crd zs p).2):=by
 have:=fold_dn zs.length (sstep zs u) (fun k=>(wrap64 (dotL (crd (zs.drop k) p).1 (u.drop k)),(crd (zs.drop k) p).2)) (fun k hk=>by
  simp only[sstep]
  rw[drop_nth zs k hk,drop_nth u k (by omega)]
  simp only[crd,dotL,dot_wrap]) zs.length (Nat.le_refl _)
 have e0:zs.length-zs.length=0:=by omega
 simpa[crd,dotL,e0,show wrap64 0=0 from by unfold wrap64;omega] using this
theorem sr_place {s s' p u:List Int}(ho:IsOrd p)(hl:p.length=s.length)(ha:AxSpec s p s')(he:errOf s=0)(hu:StSpec s p u){j:Nat}(hj:(j:Int)<prod s):
  ∃ m:Nat,(m:Int)<prod s/\srV s' u j (dn s'.length s'.length)=m/\place s (flpT p (cr s' j))=m:=by
 have he':=ax_err ho hl ha he
 have hp':=ax_prod ho hl ha
 obtain⟨h1,h2⟩:=cr_fact (zs:=s') (i:=j) he' (by omega)
 have hin:=flpT_in ho hl ha h1
 have hb:=place_bd hin
 have hz:=errOf_zero.1 he
 refine⟨(place s (flpT p (cr s' j))).toNat,by omega,?_,by omega⟩
 unfold srV
 rw[srfold s' u (by rw[hu.1,ha.1])]
 show wrap64 (dotL (cr s' j) u)=_
 rw[flp_dot ho hl hu (by rw[cr_length,ha.1])]
 unfold wrap64
 omega
theorem prod_le60:∀ {s:List Int} (m:Nat),AllIn s->s.length<=m->prod s<=4096 ^ m
 | [],m,_,_=>by
  have h:(0:Int)<4096 ^ m:=Int.pow_pos (by decide)
  exact Int.add_one_le_of_lt h
 | x::s,0,_,h=>by simp at h
 | x::s,m+1,ha,h=>by
  have hx:=ha x List.mem_cons_self
  have ih:=prod_le60 (s:=s) m ha.tail (by simpa using h)
  have h0:=prod_nonneg ha.tail
  simp only[prod,Int.pow_succ]
  rw[Int.mul_comm]
  exact Int.mul_le_mul ih hx.2 hx.1 (by omega)
theorem prod_60 {s:List Int}(ha:AllIn s)(h:s.length<=5):0<=prod s/\prod s<=1152921504606846976:=⟨prod_nonneg ha,prod_le60 5 ha h⟩
theorem stp_60 {s:List Int}(he:errOf s=0)(x:Nat):0<=stp s x/\stp s x<=1152921504606846976:=by
 have hz:=errOf_zero.1 he
 exact prod_60 (hz.2.1.drop _) (by rw[List.length_drop];omega)
theorem prod_take1 (zs:List Int)(k:Nat)(h:k<zs.length):prod (zs.take (k+1))=prod (zs.take k)*nth zs k:=by
 rw[List.take_succ_eq_append_getElem h,prod_append,nth_get zs k h]
 simp[prod]
def cyA (zs:List Int)(d:Int)(i:Nat):Int:=if zs.length=0 then d else nth zs (i%zs.length)
def cyc (zs:List Int)(n:Nat)(d:Int):List Int:=(List.range n).map (cyA zs d)
theorem cyc_length (zs:List Int)(n:Nat)(d:Int):(cyc zs n d).length=n:=by simp[cyc]
theorem cyc_nth (zs:List Int)(n:Nat)(d:Int){j:Nat}(h:j<n):nth (cyc zs n d) j=cyA zs d j:=by simp[cyc,nth,h]
def fillE (c:Bool):Int:=if c=true then 32 else 0
def upTo (f:Nat->Int)(k j:Nat):Value:=.int .i64 (if j<k then f j else 0)
theorem upTo_set {wr:World}{B:Nat}{t:TypeId}{n:Nat}{f:Nat->Int}{k:Nat}(h:wr.rowIs B t n (upTo f k))(v:Int)(hv:v=f k):(wr.setCell ⟨B,k,none⟩ (.int .i64 v)).rowIs B t n (upTo f (k+1)):=by
 subst hv
 refine (h.set k _).congr fun j hj=>?_
 unfold upTo
 by_cases e:j=k
 ·subst e;rw[if_pos rfl,if_pos (by omega)]
 ·rw[if_neg e]
  by_cases h2:j<k
  ·rw[if_pos h2,if_pos (by omega)]
  ·rw[if_neg h2,if_neg (by omega)]
theorem upTo_new {wr:World}{lo B:Nat}{t:TypeId}{n:Nat}{f:Nat->Int}(h:wr.rowIs B t n (upTo f n))(hlo:lo<=B)(xs:List Int)(hx:xs.length=n)(hf:∀ j,j<n->nth xs j=f j):NewInts lo wr (some ⟨B,0,none⟩) xs:=by
 refine .inr ⟨B,0,rfl,hlo,h.lt,fun j hj=>?_,fun j=>h.frozen _⟩
 rw[hx] at hj
 have:=h.cell hj
 unfold upTo at this
 rw[if_pos hj] at this
 rw[Nat.zero_add,hf j hj]
 exact this
theorem ret_slice' {a:Option Addr}{n m c:Nat}(h:n=m):Ending.returned (.slice a n c)=.returned (.slice a m c):=by rw[h]
end Go.Proofs.YtkmmkcpfhnifhaaGreatDoor
namespace Go.Proofs.YtkmmkcpfhnifhaaGreatDoor
open Go.ChangeShapes Go.WideShapes Go.ChangeAt Go.RowKit Go.Deep
def IsC (n₀:Nat)(W:World)(a:Option Addr)(zs:List Int)(cap:Nat):Prop:=IsInts n₀ W a zs/\zs.length<=cap
def NewC (lo:Nat)(W:World)(a:Option Addr)(zs:List Int)(cap:Nat):Prop:=NewInts lo W a zs/\zs.length<=cap
section
variable {n₀ n₁ lo : Nat} {A B W : World} {a : Option Addr} {zs : List Int} {cap : Nat}
theorem IsC.below (h:Below n₀ A B)(k:IsC n₀ A a zs cap):IsC n₀ B a zs cap:=⟨k.1.below h,k.2⟩
theorem IsC.mono (h:n₀<=n₁)(k:IsC n₀ A a zs cap):IsC n₁ A a zs cap:=⟨k.1.mono h,k.2⟩
theorem NewC.ints (h:NewC lo W a zs cap):IsC W.heap.size W a zs cap:=⟨h.1.ints,h.2⟩
theorem NewC.low {lo':Nat}(h:lo'<=lo)(k:NewC lo W a zs cap):NewC lo' W a zs cap:=⟨k.1.low h,k.2⟩
theorem NewC.go {W':World}(hB:Below W.heap.size W W')(h:NewC lo W a zs cap):NewC lo W' a zs cap:=⟨h.1.go hB,h.2⟩
theorem NewC.set3 {b:Nat}(hb:b<lo)(x y z:Value)(h:NewC lo W a zs cap):NewC lo (((W.setCell ⟨b,0,none⟩ x).setCell ⟨b,1,none⟩ y).setCell ⟨b,2,none⟩ z) a zs cap:=⟨h.1.set3 hb x y z,h.2⟩
theorem NewC.al (h:NewC lo W a zs cap)(o:Obj):NewC lo (W.alloc o) a zs cap:=⟨h.1.al o,h.2⟩
theorem NewC.dr (h:NewC lo W a zs cap):NewC lo W.drew a zs cap:=h
theorem IsInts.c (h:IsInts n₀ W a zs)(k:zs.length<=cap):IsC n₀ W a zs cap:=⟨h,k⟩
end
theorem own_cap {w:World}{base:Nat}{e:TypeId}{v:Value}{n:Nat}{xs:List Int}(h:w.ownsRow base e 1 v n (xs.map (Value.int .i64))):
  ∃ g cap,v=.slice g xs.length cap/\NewC base w g xs cap:=by
 obtain⟨g,cap,rfl,hN⟩:=owns_new h
 refine⟨g,cap,rfl,hN,?_⟩
 rcases h.2 with ⟨e1,_⟩ | ⟨g',cap',cur,e1,_,_,h1,_⟩
 ·simp only[Value.slice.injEq] at e1;omega
 ·simp only[Value.slice.injEq] at e1;have:=h.1;simp only[List.length_map] at this;omega
def IsArrC (W:World)(sa:Option Addr)(sz:List Int)(sc:Nat)(da:Option Addr)(dz:List Int):Prop:=
 sz.length<=9223372036854775807/\dz.length<=9223372036854775807/\IsC W.heap.size W sa sz sc/\IsInts W.heap.size W da dz/\(∀ j,In64 (nth sz j))/\∀ j,In64 (nth dz j)
theorem IsArrC.arr {W:World}{sa:Option Addr}{sz:List Int}{sc:Nat}{da:Option Addr}{dz:List Int}(h:IsArrC W sa sz sc da dz):IsArr W sa sz da dz:=⟨h.1,h.2.1,h.2.2.1.1,h.2.2.2⟩
theorem open_slC {H:Type}{enc:TypeId × Value->H}{W:World}{fuel:Nat}{x:Value}{y:DataW H × List MemPlace}(h:DataW.trod enc Tryz.prog W 0 (fun _=>true) true fuel 25 [x]=some y):
  ∃ (a:Option Addr) (c:Nat) (z:List Int),x=.slice a z.length c/\z.length<=9223372036854775807/\IsInts W.heap.size W a z/\(∀ j,In64 (nth z j))/\z.length<=c:=by
 rcases open_ints Tryz.underlying25 Tryz.underlying3 (by kernel_rfl) h with ⟨hcs,_⟩ | ⟨x',l,c,zs,hcs,_,hl,hm,hz,_,hcell,hwz⟩
 ·obtain rfl:=(List.cons.inj hcs).1
  exact⟨none,0,[],rfl,by simp,.inl rfl,fun j=>by rw[nth_nil];unfold In64;decide,Nat.le_refl _⟩
 ·obtain rfl:=(List.cons.inj hcs).1
  obtain⟨z,hz1,hz2,hz3,hz4⟩:=row_ints (w:=W) (a:=some x') (len:=l) (cap:=c) (z:=zs) (.inr ⟨x',rfl,hl,hm,by simpa using hz,hcell,hwz⟩)
  exact⟨some x',c,z,by rw[hz1],hz2,hz3,hz4,by omega⟩
end Go.Proofs.YtkmmkcpfhnifhaaGreatDoor
namespace Go.Proofs.YtkmmkcpfhnifhaaGreatDoor
open Go.RowKit
def axE (x:Int)(c:Bool)(sz dz:List Int):Int:=if flawE c sz dz≠0 then flawE c sz dz else if x<0\/(sz.length:Int)<=x then 5 else 0
def flE (p:List Int)(c:Bool)(sz dz:List Int):Int:=if flawE c sz dz≠0 then flawE c sz dz else axErr sz p
def onl (e:Int)(xs:List Int):List Int:=if e=0 then xs else []
def onc (e:Int)(c:Bool):Bool:=if e=0 then c else false
theorem onl_ok {e:Int}(h:e=0)(xs:List Int):onl e xs=xs:=if_pos h
theorem onl_no {e:Int}(h:e≠0)(xs:List Int):onl e xs=[]:=if_neg h
theorem onc_no {e:Int}(h:e≠0)(c:Bool):onc e c=false:=if_neg h
theorem axE_zero {x:Int}{c:Bool}{sz dz:List Int}:axE x c sz dz=0 ↔ flawE c sz dz=0/\0<=x/\x.toNat<sz.length:=by
 unfold axE
 by_cases h:flawE c sz dz=0
 ·rw[if_neg (by simpa using h)]
  by_cases h2:x<0\/(sz.length:Int)<=x
  ·rw[if_pos h2];exact⟨fun e=>absurd e (by decide),fun e=>by omega⟩
  ·rw[if_neg h2];exact⟨fun _=>⟨h,by omega,by omega⟩,fun _=>rfl⟩
 ·rw[if_pos h];exact⟨fun e=>absurd e h,fun e=>absurd e.1 h⟩
section
variable (x n : Int) (p : List Int) (c : Bool) (sz dz : List Int)
def rvD5:List Int:=onl (axE x c sz dz) (GA sz dz sz (revT sz x.toNat))
def rtD5:List Int:=onl (axE x c sz dz) (GA sz dz sz (rotT sz n x.toNat))
def axS5:List Int:=onl (axE x c sz dz) sz
def flS5:List Int:=onl (flE p c sz dz) (axVal sz p)
def flD5:List Int:=onl (flE p c sz dz) (GA sz dz (axVal sz p) (flpT p))
end
def UA (e:Int)(c:Bool)(S D:List Int)(w:World)(r:Ending)(w':World):Prop:=
 ∃ xa xc ya yc,r=.returned (.tuple #[.agg #[.bool c,.slice xa S.length xc,.slice ya D.length yc],errV e])/\NewC w.heap.size w' xa S xc/\NewInts w.heap.size w' ya D/\Below w.heap.size w w'
end Go.Proofs.YtkmmkcpfhnifhaaGreatDoor
