/- What the program tells, in part. -/
import Derived.Test.YtkmmkcpfhnifhaaGreatDoorJ02
set_option linter.unusedVariables false
set_option maxRecDepth 100000
namespace Go.Proofs.YtkmmkcpfhnifhaaGreatDoor
open Go.RowKit
def cel (s dz t:List Int):Int:=nth dz (place s t).toNat
def TA (s:List Int)(f:List Int->Int):List Int:=(List.range (prod s).toNat).map fun i=>f (cr s i)
section
variable {s s' dz xs : List Int} {f g : List Int → Int}
theorem TA_length:(TA s f).length=(prod s).toNat:=by simp[TA]
theorem TA_nth {i:Nat}(h:i<(prod s).toNat):nth (TA s f) i=f (cr s i):=by simp[TA,nth,h]
theorem TA_at (he:errOf s=0){t:List Int}(ht:insB s t=true):cel s (TA s f) t=f t:=by
 have h:=cr_place he ht
 unfold cel
 rw[TA_nth h.2,h.1]
theorem TA_ext (he:errOf s=0)(hl:xs.length=(prod s).toNat)(h:∀ t,insB s t=true->cel s xs t=f t):xs=TA s f:=by
 refine nth_ext (by rw[hl,TA_length]) fun i hi=>?_
 rw[hl] at hi
 have hc:=cr_in he hi
 have h':=h _ hc.1
 unfold cel at h'
 rw[hc.2,Int.toNat_natCast] at h'
 rw[TA_nth hi,h']
theorem TA_congr (he:errOf s=0)(h:∀ t,insB s t=true->f t=g t):TA s f=TA s g:=
 TA_ext he TA_length fun t ht=>by rw[TA_at he ht,h t ht]
theorem TA_len (he:errOf s=0):((TA s f).length:Int)=prod s:=by
 have:=prod_nonneg (errOf_zero.1 he).2.1
 rw[TA_length];omega
theorem cel_64 (T:∀ j,In64 (nth dz j))(t:List Int):In64 (cel s dz t):=T _
end
def addL (t u:List Int):List Int:=(List.range t.length).map fun k=>nth t k+nth u k
theorem addL_length (t u:List Int):(addL t u).length=t.length:=by simp[addL]
theorem addL_nth (t u:List Int){k:Nat}(h:k<t.length):nth (addL t u) k=nth t k+nth u k:=by simp[addL,nth,h]
def ptC (c:Bool)(s dz u t:List Int):Int:=if insB s (addL t u)=true then cel s dz (addL t u) else fillE c
def ptD (c:Bool)(s dz s' u:List Int):List Int:=TA s' (ptC c s dz u)
def tks (x:Int):Int:=if 0<=x then x else -x
def tkS (n:List Int):List Int:=n.map tks
def tkU (s n:List Int):List Int:=(List.range n.length).map fun k=>if 0<=nth n k then 0 else nth s k+nth n k
def tkBig (n:List Int):Bool:=n.any fun x=>decide (4096<x) || decide (x < -4096)
def tkE (n:List Int)(c:Bool)(s dz:List Int):Int:=if flawE c s dz≠0 then flawE c s dz else if n.length≠s.length then 4 else if tkBig n=true then 7 else errOf (tkS n)
def tkD (n:List Int)(c:Bool)(s dz:List Int):List Int:=ptD c s dz (tkS n) (tkU s n)
theorem tkS_length (n:List Int):(tkS n).length=n.length:=by simp[tkS]
theorem tkS_nth (n:List Int){k:Nat}(h:k<n.length):nth (tkS n) k=tks (nth n k):=by simp[tkS,nth,h]
theorem tkU_length (s n:List Int):(tkU s n).length=n.length:=by simp[tkU]
theorem tkU_nth (s n:List Int){k:Nat}(h:k<n.length):nth (tkU s n) k=if 0<=nth n k then 0 else nth s k+nth n k:=by simp[tkU,nth,h]
theorem tkE_zero {n:List Int}{c:Bool}{s dz:List Int}:tkE n c s dz=0 ↔ flawE c s dz=0/\n.length=s.length/\tkBig n=false/\errOf (tkS n)=0:=by
 unfold tkE
 by_cases h:flawE c s dz=0
 ·rw[if_neg (by simpa using h)]
  by_cases h1:n.length=s.length
  ·rw[if_neg (by simpa using h1)]
   cases h2:tkBig n
   ·simp[h,h1]
   ·simp
  ·rw[if_pos h1];exact⟨fun e=>absurd e (by decide),fun e=>absurd e.2.1 h1⟩
 ·rw[if_pos h];exact⟨fun e=>absurd e h,fun e=>absurd e.1 h⟩
def drs (l x:Int):Int:=if l<=x\/x<=-l then (if x=0 then l else 0) else if 0<=x then l-x else l+x
def dru (l x:Int):Int:=if l<=x\/x<=-l then 0 else if 0<=x then x else 0
def drS (s n:List Int):List Int:=(List.range n.length).map fun k=>drs (nth s k) (nth n k)
def drU (s n:List Int):List Int:=(List.range n.length).map fun k=>dru (nth s k) (nth n k)
def drE (n:List Int)(c:Bool)(s dz:List Int):Int:=if flawE c s dz≠0 then flawE c s dz else if n.length≠s.length then 4 else 0
def drD (n:List Int)(c:Bool)(s dz:List Int):List Int:=ptD c s dz (drS s n) (drU s n)
theorem drS_length (s n:List Int):(drS s n).length=n.length:=by simp[drS]
theorem drS_nth (s n:List Int){k:Nat}(h:k<n.length):nth (drS s n) k=drs (nth s k) (nth n k):=by simp[drS,nth,h]
theorem drU_length (s n:List Int):(drU s n).length=n.length:=by simp[drU]
theorem drU_nth (s n:List Int){k:Nat}(h:k<n.length):nth (drU s n) k=dru (nth s k) (nth n k):=by simp[drU,nth,h]
theorem drE_zero {n:List Int}{c:Bool}{s dz:List Int}:drE n c s dz=0 ↔ flawE c s dz=0/\n.length=s.length:=by
 unfold drE
 by_cases h:flawE c s dz=0
 ·rw[if_neg (by simpa using h)]
  by_cases h1:n.length=s.length
  ·rw[if_neg (by simpa using h1)];simp[h,h1]
  ·rw[if_pos h1];exact⟨fun e=>absurd e (by decide),fun e=>absurd e.2 h1⟩
 ·rw[if_pos h];exact⟨fun e=>absurd e h,fun e=>absurd e.1 h⟩
theorem drs_bd {l x : Int} (h : 0 ≤ l) : 0 ≤ drs l x ∧ drs l x ≤ l := by unfold drs; repeat' split
                                                                         all_goals omega
theorem prod_mono:∀ {a b:List Int},a.length=b.length->(∀ k,k<a.length->0<=nth a k/\nth a k<=nth b k)->0<=prod a/\prod a<=prod b
 | [],[],_,_=>by simp[prod]
 | [],_::_,h,_=>by simp at h
 | _::_,[],h,_=>by simp at h
 | x::a,y::b,hl,h=>by
  have h0:=h 0 (by simp)
  rw[nth_zero,nth_zero] at h0
  have ih:=prod_mono (a:=a) (b:=b) (by simpa using hl) fun k hk=>by have:=h (k+1) (by simpa using hk);rwa [nth_succ,nth_succ] at this
  simp only[prod]
  exact⟨Int.mul_nonneg h0.1 ih.1,Int.mul_le_mul h0.2 ih.2 ih.1 (by omega)⟩
theorem all_in {s:List Int}(h:∀ k,k<s.length->0<=nth s k/\nth s k<=4096):AllIn s:=fun x hx=>by
 obtain⟨j,hj,rfl⟩:=List.mem_iff_getElem.1 hx
 rw[<-nth_get s j hj];exact h j hj
theorem err_mono {a b:List Int}(hl:a.length=b.length)(h:∀ k,k<a.length->0<=nth a k/\nth a k<=nth b k)(he:errOf b=0):errOf a=0:=by
 have hb:=errOf_zero.1 he
 have hp:=prod_mono hl h
 exact errOf_zero.2 ⟨by omega,all_in fun k hk=>by have:=h k hk;have:=hb.2.1.nth k;omega,by omega⟩
theorem dr_err {n:List Int}{c:Bool}{s dz:List Int}(h:drE n c s dz=0):errOf (drS s n)=0:=by
 obtain⟨h1,h2⟩:=drE_zero.1 h
 have he:=(flawE_zero h1).1
 have hb:=errOf_zero.1 he
 refine err_mono (b:=s) (by rw[drS_length,h2]) (fun k hk=>?_) he
 rw[drS_length] at hk
 rw[drS_nth s n hk]
 exact drs_bd (hb.2.1.nth k).1
def othB (x:Nat)(s s':List Int):Bool:=(List.range s.length).all fun k=>decide (k=x) || nth s k == nth s' k
def jnS (x:Nat)(s s':List Int):List Int:=s.set x (nth s x+nth s' x)
def jnC (x:Nat)(s dz s' dz' t:List Int):Int:=if nth t x<nth s x then cel s dz t else cel s' dz' (t.set x (nth t x-nth s x))
def jnD (x:Nat)(s dz s' dz':List Int):List Int:=TA (jnS x s s') (jnC x s dz s' dz')
def jnE (x:Int)(c:Bool)(s dz:List Int)(c':Bool)(s' dz':List Int):Int:=
 if flawE c s dz≠0 then flawE c s dz else if flawE c' s' dz'≠0 then flawE c' s' dz' else if s.length≠s'.length then 3 else if x<0\/(s.length:Int)<=x then 5 else if othB x.toNat s s'=false then 4 else if c≠c' then 6 else errOf (jnS x.toNat s s')
theorem othB_iff {x:Nat} {s s':List Int}:othB x s s'=true ↔ ∀ k,k<s.length->k≠x->nth s k=nth s' k:=by
  unfold othB
  simp only[List.all_eq_true,List.mem_range,Bool.or_eq_true,decide_eq_true_eq,beq_iff_eq]
  exact ⟨fun h k hk hn => (h k hk).resolve_left hn, fun h k hk => by by_cases e : k = x; · exact .inl e
                                                                     · exact .inr (h k hk e)⟩
theorem jnE_zero {x:Int}{c:Bool}{s dz:List Int}{c':Bool}{s' dz':List Int}:jnE x c s dz c' s' dz'=0 ↔ flawE c s dz=0/\flawE c' s' dz'=0/\s.length=s'.length/\0<=x/\x.toNat<s.length/\othB x.toNat s s'=true/\c=c'/\errOf (jnS x.toNat s s')=0:=by
 unfold jnE
 by_cases h1:flawE c s dz=0
 ·rw[if_neg (by simpa using h1)]
  by_cases h2:flawE c' s' dz'=0
  ·rw[if_neg (by simpa using h2)]
   by_cases h3:s.length=s'.length
   ·rw[if_neg (by simpa using h3)]
    by_cases h4:x<0\/(s.length:Int)<=x
    ·rw[if_pos h4];exact⟨fun e=>absurd e (by decide),fun e=>by omega⟩
    ·rw[if_neg h4]
     cases h5:othB x.toNat s s'
     ·simp
     ·rw[if_neg (by simp)]
      by_cases h6:c=c'
      ·rw[if_neg (by simpa using h6)]
       exact⟨fun e=>⟨h1,h2,h3,by omega,by omega,rfl,h6,e⟩,fun e=>e.2.2.2.2.2.2.2⟩
      ·rw[if_pos h6];exact⟨fun e=>absurd e (by decide),fun e=>absurd e.2.2.2.2.2.2.1 h6⟩
   ·rw[if_pos h3];exact⟨fun e=>absurd e (by decide),fun e=>absurd e.2.2.1 h3⟩
  ·rw[if_pos h2];exact⟨fun e=>absurd e h2,fun e=>absurd e.2.1 h2⟩
 ·rw[if_pos h1];exact⟨fun e=>absurd e h1,fun e=>absurd e.1 h1⟩
def mskB (m:List Int):Bool:=m.all fun x=>x == 0 || x == 1
theorem mskB_nth {m:List Int}(h:mskB m=true){j:Nat}(hj:j<m.length):nth m j=0\/nth m j=1:=by
 unfold mskB at h
 have:=List.all_eq_true.1 h _ (nth_mem m j hj)
 simpa using this
def rnk (m:List Int)(i:Nat):Int:=sumI (m.take i)
theorem sumI_append (a b:List Int):sumI (a++b)=sumI a+sumI b:=by
 induction a with
 | nil=>simp[sumI]
 | cons x r ih=>simp only[List.cons_append,sumI,ih];omega
theorem rnk_zero (m:List Int):rnk m 0=0:=rfl
theorem rnk_succ (m:List Int){i:Nat}(h:i<m.length):rnk m (i+1)=rnk m i+nth m i:=by
 unfold rnk
 rw[List.take_succ_eq_append_getElem h,sumI_append,nth_get m i h]
 simp[sumI]
theorem rnk_all (m:List Int):rnk m m.length=sumI m:=by unfold rnk;rw[List.take_length]
theorem rnk_bd {m:List Int}(h:mskB m=true):∀ i,i<=m.length->0<=rnk m i/\rnk m i<=i
 | 0,_=>by simp[rnk_zero]
 | i+1,hi=>by
  have ih:=rnk_bd h i (by omega)
  have:=mskB_nth h (j:=i) (by omega)
  rw[rnk_succ m (by omega)]
  omega
theorem rnk_mono {m:List Int}(h:mskB m=true){i:Nat}:∀ d,i+d<=m.length->rnk m i<=rnk m (i+d)
 | 0,_=>Int.le_refl _
 | d+1,hd=>by
  have ih:=rnk_mono h (i:=i) d (by omega)
  have:=mskB_nth h (j:=i+d) (by omega)
  rw[<-Nat.add_assoc,rnk_succ m (by omega)]
  omega
theorem rnk_le {m:List Int}(h:mskB m=true){i j:Nat}(hij:i<=j)(hj:j<=m.length):rnk m i<=rnk m j:=by
 have:=rnk_mono h (i:=i) (j-i) (by omega)
 rwa [show i+(j-i)=j by omega] at this
def pos1:List Int->Nat->Nat
 | [],_=>0
 | x::m,j=>if x=1 then (match j with | 0=>0 | j+1=>pos1 m j+1) else pos1 m j+1
theorem pos1_fact:∀ {m:List Int} {j:Nat},mskB m=true->(j:Int)<sumI m->pos1 m j<m.length/\nth m (pos1 m j)=1/\rnk m (pos1 m j)=j
 | [],j,_,h=>by simp[sumI] at h;omega
 | x::m,j,hm,h=>by
  have hx:x=0\/x=1:=mskB_nth hm (j:=0) (by simp)
  have hm':mskB m=true:=by unfold mskB at *;simp only[List.all_cons,Bool.and_eq_true] at hm;exact hm.2
  simp only[sumI] at h
  have rs:∀ i,rnk (x::m) (i+1)=x+rnk m i:=fun i=>by unfold rnk;rw[List.take_succ_cons];rfl
  rcases hx with rfl | rfl
  ·have ih:=pos1_fact (m:=m) (j:=j) hm' (by omega)
   simp only[pos1,Int.reduceEq,if_false] at *
   refine⟨by simp only[List.length_cons];omega,by rw[nth_succ];exact ih.2.1,by rw[rs,ih.2.2];omega⟩
  ·cases j with
   | zero=>simp only[pos1,if_true];exact⟨by simp,rfl,rfl⟩
   | succ j=>
    have ih:=pos1_fact (m:=m) (j:=j) hm' (by omega)
    simp only[pos1,if_true]
    refine⟨by simp only[List.length_cons];omega,by rw[nth_succ];exact ih.2.1,by rw[rs,ih.2.2];omega⟩
theorem rnk_inj {m:List Int}(h:mskB m=true){i j:Nat}(hi:i<m.length)(hj:j<m.length)(ni:nth m i=1)(nj:nth m j=1)(e:rnk m i=rnk m j):i=j:=by
 by_cases h1:i<j
 ·have:=rnk_le h (i:=i+1) (j:=j) h1 (by omega)
  rw[rnk_succ m hi] at this;omega
 ·by_cases h2:j<i
  ·have:=rnk_le h (i:=j+1) (j:=i) h2 (by omega)
   rw[rnk_succ m hj] at this;omega
  ·omega
theorem pos1_rnk {m:List Int}(h:mskB m=true){i:Nat}(hi:i<m.length)(ni:nth m i=1):pos1 m (rnk m i).toNat=i:=by
 have h0:=rnk_bd h i (by omega)
 have h1:=rnk_le h (i:=i+1) (j:=m.length) (by omega) (Nat.le_refl _)
 rw[rnk_succ m hi,rnk_all] at h1
 have hp:=pos1_fact (m:=m) (j:=(rnk m i).toNat) h (by omega)
 exact rnk_inj h hp.1 hi hp.2.1 ni (by omega)
def kpS (m:List Int)(x:Nat)(s:List Int):List Int:=s.set x (sumI m)
def kpT (m:List Int)(x:Nat)(t:List Int):List Int:=t.set x (pos1 m (nth t x).toNat:Nat)
def kpD (m:List Int)(x:Nat)(s dz:List Int):List Int:=TA (kpS m x s) (fun t=>cel s dz (kpT m x t))
def kpE (m:List Int)(x:Int)(c:Bool)(s dz:List Int):Int:=if axE x c s dz≠0 then axE x c s dz else if (m.length:Int)≠nth s x.toNat then 4 else if mskB m=false then 6 else 0
def spS (m:List Int)(x:Nat)(s:List Int):List Int:=s.set x m.length
def spC (m:List Int)(x:Nat)(c:Bool)(s dz t:List Int):Int:=if nth m (nth t x).toNat=0 then fillE c else cel s dz (t.set x (rnk m (nth t x).toNat))
def spD (m:List Int)(x:Nat)(c:Bool)(s dz:List Int):List Int:=TA (spS m x s) (spC m x c s dz)
def spE (m:List Int)(x:Int)(c:Bool)(s dz:List Int):Int:=if axE x c s dz≠0 then axE x c s dz else if mskB m=false then 6 else if sumI m≠nth s x.toNat then 4 else errOf (spS m x.toNat s)
end Go.Proofs.YtkmmkcpfhnifhaaGreatDoor
namespace Go.Proofs.YtkmmkcpfhnifhaaGreatDoor
open Go.RowKit
section
variable {s t : List Int} {x : Nat} {v : Int}
theorem insS (hx:x<s.length):insB (s.set x v) t=true ↔ t.length=s.length/\(∀ k,k<s.length->k≠x->0<=nth t k/\nth t k<nth s k)/\0<=nth t x/\nth t x<v:=by
 constructor
 ·intro h
  have hl:=insB_len h
  rw[List.length_set] at hl
  have h':=(insB_iff (by rw[List.length_set];exact hl)).1 h
  rw[List.length_set] at h'
  refine⟨hl,fun k hk hn=>?_,?_⟩
  ·have:=h' k hk
   rwa [nth_set _ _ _ _ hx,if_neg hn] at this
  ·have:=h' x hx
   rwa [nth_set _ _ _ _ hx,if_pos rfl] at this
 ·rintro ⟨hl,h1,h2⟩
  rw[insB_iff (by rw[List.length_set];exact hl),List.length_set]
  intro k hk
  rw[nth_set _ _ _ _ hx]
  split
  ·rename_i e;subst e;exact h2
  ·rename_i e;exact h1 k hk e
theorem ins_mk (hl:t.length=s.length)(h:∀ k,k<s.length->0<=nth t k/\nth t k<nth s k):insB s t=true:=(insB_iff hl).2 h
theorem set_get (hx:x<s.length)(h:v=nth s x):s.set x v=s:=by
 refine nth_ext (by simp) fun k hk=>?_
 rw[nth_set _ _ _ _ hx]
 split
 ·rename_i e;rw[e,h]
 ·rfl
theorem set_set (u:Int):(s.set x u).set x v=s.set x v:=by simp
theorem nth_set_self (hx:x<s.length):nth (s.set x v) x=v:=by rw[nth_set _ _ _ _ hx,if_pos rfl]
theorem err_set (he:errOf s=0)(hx:x<s.length)(h0:0<=v)(h1:v<=nth s x):errOf (s.set x v)=0:=by
 have hb:=errOf_zero.1 he
 refine err_mono (b:=s) (by simp) (fun k hk=>?_) he
 rw[nth_set _ _ _ _ hx]
 split
 ·rename_i e;subst e;exact⟨h0,h1⟩
 ·have:=hb.2.1.nth k;omega
def rest (s:List Int)(x:Nat):Int:=prod (s.take x)*prod (s.drop (x+1))
theorem prod_set (hx:x<s.length)(v:Int):prod (s.set x v)=v*rest s x:=by
 have e:=al_split (s.set x v) (x:=x) (by rw[List.length_set];exact hx)
 rw[nth_set_self hx] at e
 have e1:(s.set x v).take x=s.take x:=by
  rw[List.take_set]
  exact List.set_eq_of_length_le (by rw[List.length_take];omega)
 have e2:stp (s.set x v) x=prod (s.drop (x+1)):=by
  unfold stp
  rw[List.drop_set]
  simp
 rw[e,e1,e2]
 unfold rest
 rw[<-Int.mul_assoc,Int.mul_comm (prod (s.take x)) v,Int.mul_assoc]
end
section
variable {c : Bool} {s dz : List Int} {x : Nat} {n : Int}
end
section
variable {c : Bool} {s dz s' dz' : List Int} {x : Nat}
end
end Go.Proofs.YtkmmkcpfhnifhaaGreatDoor
namespace Go.Proofs.YtkmmkcpfhnifhaaGreatDoor
open Go.RowKit
theorem jnS_length (x:Nat)(s s':List Int):(jnS x s s').length=s.length:=by simp[jnS]
theorem jnS_at {x:Nat}{s s':List Int}(hx:x<s.length):nth (jnS x s s') x=nth s x+nth s' x:=nth_set_self hx
theorem jnZ {x:Nat}{c:Bool}{s dz:List Int}{c':Bool}{s' dz':List Int}:jnE x c s dz c' s' dz'=0 ↔ flawE c s dz=0/\flawE c' s' dz'=0/\s.length=s'.length/\x<s.length/\othB x s s'=true/\c=c'/\errOf (jnS x s s')=0:=by
 rw[jnE_zero,Int.toNat_natCast]
 exact⟨fun h=>⟨h.1,h.2.1,h.2.2.1,h.2.2.2.2⟩,fun h=>⟨h.1,h.2.1,h.2.2.1,by omega,h.2.2.2⟩⟩
section
variable {x : Nat} {c c1 c2 : Bool} {s dz s' dz' s'' dz'' : List Int}
end
theorem msk_sum {m:List Int}(h:mskB m=true):0<=sumI m/\sumI m<=m.length:=by have:=rnk_bd h m.length (Nat.le_refl _);rwa [rnk_all] at this
theorem kpZ {x:Nat}{m:List Int}{c:Bool}{s dz:List Int}:kpE m x c s dz=0 ↔ flawE c s dz=0/\x<s.length/\(m.length:Int)=nth s x/\mskB m=true:=by
 unfold kpE
 rw[Int.toNat_natCast]
 by_cases h:axE x c s dz=0
 ·have h':=axE_zero.1 h
  rw[Int.toNat_natCast] at h'
  rw[if_neg (by simpa using h)]
  by_cases h1:(m.length:Int)=nth s x
  ·rw[if_neg (by simpa using h1)]
   cases h2:mskB m
   ·simp
   ·simp[h'.1,h'.2.2,h1]
  ·rw[if_pos h1];exact⟨fun e=>absurd e (by decide),fun e=>absurd e.2.2.1 h1⟩
 ·rw[if_pos h];exact⟨fun e=>absurd e h,fun e=>absurd (axE_zero.2 ⟨e.1,by omega,by rw[Int.toNat_natCast];exact e.2.1⟩) h⟩
theorem spZ {x:Nat}{m:List Int}{c:Bool}{s dz:List Int}:spE m x c s dz=0 ↔ flawE c s dz=0/\x<s.length/\mskB m=true/\sumI m=nth s x/\errOf (spS m x s)=0:=by
 unfold spE
 rw[Int.toNat_natCast]
 by_cases h:axE x c s dz=0
 ·have h':=axE_zero.1 h
  rw[Int.toNat_natCast] at h'
  rw[if_neg (by simpa using h)]
  cases h2:mskB m
  ·simp
  ·rw[if_neg (by simp)]
   by_cases h1:sumI m=nth s x
   ·rw[if_neg (by simpa using h1)]
    simp[h'.1,h'.2.2,h1]
   ·rw[if_pos h1];exact⟨fun e=>absurd e (by decide),fun e=>absurd e.2.2.2.1 h1⟩
 ·rw[if_pos h];exact⟨fun e=>absurd e h,fun e=>absurd (axE_zero.2 ⟨e.1,by omega,by rw[Int.toNat_natCast];exact e.2.1⟩) h⟩
section
variable {x : Nat} {m : List Int} {c : Bool} {s dz : List Int}
theorem kp_err (h:kpE m x c s dz=0):errOf (kpS m x s)=0:=by
 obtain⟨h1,h2,h3,h4⟩:=kpZ.1 h
 have:=msk_sum h4
 exact err_set (flawE_zero h1).1 h2 this.1 (by omega)
theorem kp_in (h:kpE m x c s dz=0){t:List Int}(ht:insB (kpS m x s) t=true):insB s (kpT m x t)=true/\nth m (nth (kpT m x t) x).toNat=1/\rnk m (nth (kpT m x t) x).toNat=nth t x:=by
 obtain⟨h1,h2,h3,h4⟩:=kpZ.1 h
 have hi:=(insS h2).1 ht
 have hxt:x<t.length:=by omega
 have hp:=pos1_fact (m:=m) (j:=(nth t x).toNat) h4 (by omega)
 unfold kpT
 rw[nth_set_self hxt,Int.toNat_natCast]
 refine⟨ins_mk (by rw[List.length_set];exact hi.1) fun k hk=>?_,hp.2.1,by rw[hp.2.2];omega⟩
 rw[nth_set _ _ _ _ hxt]
 split
 ·rename_i e;subst e;omega
 ·rename_i e;exact hi.2.1 k hk e
theorem sp_in (h:spE m x c s dz=0){t:List Int}(ht:insB (spS m x s) t=true)(h1:nth m (nth t x).toNat≠0):insB s (t.set x (rnk m (nth t x).toNat))=true:=by
 obtain⟨g1,g2,g3,g4,g5⟩:=spZ.1 h
 have hi:=(insS g2).1 ht
 have hxt:x<t.length:=by omega
 have hm:=(mskB_nth g3 (j:=(nth t x).toNat) (by omega)).resolve_left h1
 have r0:=rnk_bd g3 (nth t x).toNat (by omega)
 have r1:=rnk_le g3 (i:=(nth t x).toNat+1) (j:=m.length) (by omega) (Nat.le_refl _)
 rw[rnk_succ m (by omega),rnk_all,hm] at r1
 refine ins_mk (by rw[List.length_set];exact hi.1) fun k hk=>?_
 rw[nth_set _ _ _ _ hxt]
 split
 ·rename_i e;subst e;omega
 ·rename_i e;exact hi.2.1 k hk e
end
end Go.Proofs.YtkmmkcpfhnifhaaGreatDoor
namespace Go.Proofs.YtkmmkcpfhnifhaaGreatDoor
open Go.ChangeShapes Go.WideShapes Go.ChangeAt Go.RowKit Go.Deep
def IsArrD (W:World)(sa:Option Addr)(sz:List Int)(sc:Nat)(da:Option Addr)(dz:List Int)(dc:Nat):Prop:=
 sz.length<=9223372036854775807/\dz.length<=9223372036854775807/\IsC W.heap.size W sa sz sc/\IsC W.heap.size W da dz dc/\(∀ j,In64 (nth sz j))/\∀ j,In64 (nth dz j)
theorem IsArrD.c {W:World}{sa:Option Addr}{sz:List Int}{sc:Nat}{da:Option Addr}{dz:List Int}{dc:Nat}(h:IsArrD W sa sz sc da dz dc):IsArrC W sa sz sc da dz:=⟨h.1,h.2.1,h.2.2.1,h.2.2.2.1.1,h.2.2.2.2⟩
theorem open_arrD {H:Type}{enc:TypeId × Value->H}{W:World}{base:Nat}{v:Value}{d:DataW H}{p:List MemPlace}(hv:Value.okWide Tryz.prog W .any base 27 v)
  (h:DataW.Trod enc Tryz.prog W 0 (fun _=>true) true 27 v d p):
  ∃ (c:Bool) (sa:Option Addr) (sc:Nat) (sz:List Int) (da:Option Addr) (dc:Nat) (dz:List Int),v=.agg #[.bool c,.slice sa sz.length sc,.slice da dz.length dc]/\IsArrD W sa sz sc da dz dc:=by
 obtain⟨cs,rfl,hsz⟩:=okWide_struct Tryz.underlying27 hv
 rw[show Tryz.prog.cellsOf 27=3 by kernel_rfl] at hsz
 obtain⟨x0,x1,x2,rfl⟩:=three hsz
 obtain⟨fuel,hf⟩:=h
 obtain⟨y0,y1,y2,n,_,_,h0,h1,h2⟩:=trod_struct3 Tryz.underlying27 hf
 have e0:DataW.trod enc Tryz.prog W 0 (fun _=>true) true n 4 [x0]=some y0:=by
  have:=h0
  rw[show Tryz.prog.cellsOf 4=1 by kernel_rfl] at this
  exact this
 have e1:DataW.trod enc Tryz.prog W 0 (fun _=>true) true n 25 [x1]=some y1:=by
  have:=h1
  rw[show Tryz.prog.cellsOf 25=1 by kernel_rfl] at this
  exact this
 have e2:DataW.trod enc Tryz.prog W 0 (fun _=>true) true n 25 [x2]=some y2:=by
  have:=h2
  rw[show Tryz.prog.cellsOf 25=1 by kernel_rfl] at this
  exact this
 obtain⟨sa,sc,sz,rfl,s1,s2,s3,s4⟩:=open_slC e1
 obtain⟨da,dc,dz,rfl,d1,d2,d3,d4⟩:=open_slC e2
 obtain⟨c,hc,_⟩:=DataW.trod_bool Tryz.underlying4 e0
 obtain rfl:=(List.cons.inj hc).1
 exact⟨c,sa,sc,sz,da,dc,dz,rfl,s1,d1,⟨s2,s4⟩,⟨d2,d4⟩,s3,d3⟩
def UB (e:Int)(c:Bool)(S D:List Int)(w:World)(r:Ending)(w':World):Prop:=
 ∃ xa xc ya yc,r=.returned (.tuple #[.agg #[.bool c,.slice xa S.length xc,.slice ya D.length yc],errV e])/\NewC w.heap.size w' xa S xc/\NewC w.heap.size w' ya D yc/\Below w.heap.size w w'
section
variable (n m : List Int) (x : Int) (c : Bool) (sz dz : List Int) (c' : Bool) (sz' dz' : List Int)
def tkS6:List Int:=onl (tkE n c sz dz) (tkS n)
def tkD6:List Int:=onl (tkE n c sz dz) (tkD n c sz dz)
def drS6:List Int:=onl (drE n c sz dz) (drS sz n)
def drD6:List Int:=onl (drE n c sz dz) (drD n c sz dz)
def jnS6:List Int:=onl (jnE x c sz dz c' sz' dz') (jnS x.toNat sz sz')
def jnD6:List Int:=onl (jnE x c sz dz c' sz' dz') (jnD x.toNat sz dz sz' dz')
def kpS6:List Int:=onl (kpE m x c sz dz) (kpS m x.toNat sz)
def kpD6:List Int:=onl (kpE m x c sz dz) (kpD m x.toNat sz dz)
def spS6:List Int:=onl (spE m x c sz dz) (spS m x.toNat sz)
def spD6:List Int:=onl (spE m x c sz dz) (spD m x.toNat c sz dz)
end
def CTk:Prop:=∀ (na:Option Addr) (nc:Nat) (n:List Int) (c:Bool) (sa:Option Addr) (sc:Nat) (sz:List Int) (da:Option Addr) (dc:Nat) (dz:List Int) (w:World),n.length<=9223372036854775807->(∀ j,In64 (nth n j))->sz.length<=9223372036854775807->dz.length<=9223372036854775807->IsC w.heap.size w na n nc->IsC w.heap.size w sa sz sc->IsC w.heap.size w da dz dc->(∀ j,In64 (nth dz j)) →
 Calls Tryz.prog 122 #[.slice na n.length nc,.agg #[.bool c,.slice sa sz.length sc,.slice da dz.length dc]] w (UB (tkE n c sz dz) (onc (tkE n c sz dz) c) (tkS6 n c sz dz) (tkD6 n c sz dz) w)
def CDr:Prop:=∀ (na:Option Addr) (nc:Nat) (n:List Int) (c:Bool) (sa:Option Addr) (sc:Nat) (sz:List Int) (da:Option Addr) (dc:Nat) (dz:List Int) (w:World),n.length<=9223372036854775807->(∀ j,In64 (nth n j))->sz.length<=9223372036854775807->dz.length<=9223372036854775807->IsC w.heap.size w na n nc->IsC w.heap.size w sa sz sc->IsC w.heap.size w da dz dc->(∀ j,In64 (nth dz j)) →
 Calls Tryz.prog 123 #[.slice na n.length nc,.agg #[.bool c,.slice sa sz.length sc,.slice da dz.length dc]] w (UB (drE n c sz dz) (onc (drE n c sz dz) c) (drS6 n c sz dz) (drD6 n c sz dz) w)
def CJn:Prop:=∀ (x:Int) (c:Bool) (sa:Option Addr) (sc:Nat) (sz:List Int) (da:Option Addr) (dc:Nat) (dz:List Int) (c':Bool) (sa':Option Addr) (sc':Nat) (sz':List Int) (da':Option Addr) (dc':Nat) (dz':List Int) (w:World),In64 x->sz.length<=9223372036854775807->dz.length<=9223372036854775807->sz'.length<=9223372036854775807->dz'.length<=9223372036854775807->IsC w.heap.size w sa sz sc->IsC w.heap.size w da dz dc->IsC w.heap.size w sa' sz' sc'->IsC w.heap.size w da' dz' dc'->(∀ j,In64 (nth dz j))->(∀ j,In64 (nth dz' j)) →
 Calls Tryz.prog 189 #[.int .i64 x,.agg #[.bool c,.slice sa sz.length sc,.slice da dz.length dc],.agg #[.bool c',.slice sa' sz'.length sc',.slice da' dz'.length dc']] w (UB (jnE x c sz dz c' sz' dz') (onc (jnE x c sz dz c' sz' dz') c) (jnS6 x c sz dz c' sz' dz') (jnD6 x c sz dz c' sz' dz') w)
def CKp:Prop:=∀ (ma:Option Addr) (mc:Nat) (m:List Int) (x:Int) (c:Bool) (sa:Option Addr) (sc:Nat) (sz:List Int) (da:Option Addr) (dc:Nat) (dz:List Int) (w:World),m.length<=9223372036854775807->(∀ j,In64 (nth m j))->In64 x->sz.length<=9223372036854775807->dz.length<=9223372036854775807->IsC w.heap.size w ma m mc->IsC w.heap.size w sa sz sc->IsC w.heap.size w da dz dc->(∀ j,In64 (nth dz j)) →
 Calls Tryz.prog 133 #[.slice ma m.length mc,.int .i64 x,.agg #[.bool c,.slice sa sz.length sc,.slice da dz.length dc]] w (UB (kpE m x c sz dz) (onc (kpE m x c sz dz) c) (kpS6 m x c sz dz) (kpD6 m x c sz dz) w)
def CSp:Prop:=∀ (ma:Option Addr) (mc:Nat) (m:List Int) (x:Int) (c:Bool) (sa:Option Addr) (sc:Nat) (sz:List Int) (da:Option Addr) (dc:Nat) (dz:List Int) (w:World),m.length<=9223372036854775807->(∀ j,In64 (nth m j))->In64 x->sz.length<=9223372036854775807->dz.length<=9223372036854775807->IsC w.heap.size w ma m mc->IsC w.heap.size w sa sz sc->IsC w.heap.size w da dz dc->(∀ j,In64 (nth dz j)) →
 Calls Tryz.prog 134 #[.slice ma m.length mc,.int .i64 x,.agg #[.bool c,.slice sa sz.length sc,.slice da dz.length dc]] w (UB (spE m x c sz dz) (onc (spE m x c sz dz) c) (spS6 m x c sz dz) (spD6 m x c sz dz) w)
theorem onl_le6 {e:Int}{xs:List Int}{n:Nat}(h:e=0->xs.length<=n):(onl e xs).length<=n:=by
 unfold onl
 split
 ·rename_i q;exact h q
 ·simp
section
variable (n m : List Int) (x : Int) (c : Bool) (sz dz : List Int) (c' : Bool) (sz' dz' : List Int)
theorem errS {s:List Int}(h:errOf s=0):s.length<=4096/\(prod s).toNat<=4096:=by have:=errOf_zero.1 h;omega
theorem tk6_len:(tkS6 n c sz dz).length<=4096/\(tkD6 n c sz dz).length<=4096:=
 ⟨onl_le6 fun h=>(errS (tkE_zero.1 h).2.2.2).1,onl_le6 fun h=>by unfold tkD ptD;rw[TA_length];exact (errS (tkE_zero.1 h).2.2.2).2⟩
theorem dr6_len:(drS6 n c sz dz).length<=4096/\(drD6 n c sz dz).length<=4096:=
 ⟨onl_le6 fun h=>(errS (dr_err h)).1,onl_le6 fun h=>by unfold drD ptD;rw[TA_length];exact (errS (dr_err h)).2⟩
theorem jn6_len:(jnS6 x c sz dz c' sz' dz').length<=4096/\(jnD6 x c sz dz c' sz' dz').length<=4096:=
 ⟨onl_le6 fun h=>(errS (jnE_zero.1 h).2.2.2.2.2.2.2).1,onl_le6 fun h=>by unfold jnD;rw[TA_length];exact (errS (jnE_zero.1 h).2.2.2.2.2.2.2).2⟩
theorem kp_e6 (h:kpE m x c sz dz=0):errOf (kpS m x.toNat sz)=0:=by
 have hx:((x.toNat:Nat):Int)=x:=by
  by_cases ha:axE x c sz dz=0
  ·have:=(axE_zero.1 ha).2.1;omega
  ·unfold kpE at h;rw[if_pos ha] at h;exact absurd h ha
 rw[<-hx] at h
 exact kp_err h
theorem sp_e6 (h:spE m x c sz dz=0):errOf (spS m x.toNat sz)=0:=by
 have hx:((x.toNat:Nat):Int)=x:=by
  by_cases ha:axE x c sz dz=0
  ·have:=(axE_zero.1 ha).2.1;omega
  ·unfold spE at h;rw[if_pos ha] at h;exact absurd h ha
 rw[<-hx] at h
 exact (spZ.1 h).2.2.2.2
theorem kp6_len:(kpS6 m x c sz dz).length<=4096/\(kpD6 m x c sz dz).length<=4096:=
 ⟨onl_le6 fun h=>(errS (kp_e6 m x c sz dz h)).1,onl_le6 fun h=>by unfold kpD;rw[TA_length];exact (errS (kp_e6 m x c sz dz h)).2⟩
theorem sp6_len:(spS6 m x c sz dz).length<=4096/\(spD6 m x c sz dz).length<=4096:=
 ⟨onl_le6 fun h=>(errS (sp_e6 m x c sz dz h)).1,onl_le6 fun h=>by unfold spD;rw[TA_length];exact (errS (sp_e6 m x c sz dz h)).2⟩
end
end Go.Proofs.YtkmmkcpfhnifhaaGreatDoor
namespace Go.Proofs.YtkmmkcpfhnifhaaGreatDoor
open Go.RowKit
def neutE (f:Int):Int:=if f<1\/16<f then 1 else if 8<=f/\f<=13 then 6 else 0
def neutV (f:Int):Int:=if f=3\/f=4\/f=16 then 1 else if f=6 then -9223372036854775808 else if f=7 then 9223372036854775807 else if f=14 then -1 else 0
theorem w_bmod (n:Int):wrap64 n=Int.bmod n (2 ^ 64):=by
 unfold wrap64
 rw[Int.bmod_def]
 simp only[Nat.reducePow]
 split<;>omega
theorem w_nat (x:BitVec 64):wrap64 (x.toNat:Int)=x.toInt:=by rw[w_bmod,BitVec.toInt_eq_toNat_bmod]
theorem bv_of {a:Int}(h:In64 a):∃ x:BitVec 64,a=x.toInt:=⟨BitVec.ofInt 64 a,by rw[BitVec.toInt_ofInt,<-w_bmod,h.same]⟩
theorem band_bv (x y:BitVec 64):bandV x.toInt y.toInt=(x &&& y).toInt:=by
 unfold bandV Go.bits
 simp only[IntWalk.i64_left]
 show wrap64 ((BitVec.ofInt 64 x.toInt &&& BitVec.ofInt 64 y.toInt).toNat:Int)=_
 rw[BitVec.ofInt_toInt,BitVec.ofInt_toInt,w_nat]
theorem bor_bv (x y:BitVec 64):borV x.toInt y.toInt=(x ||| y).toInt:=by
 unfold borV Go.bits
 simp only[IntWalk.i64_left]
 show wrap64 ((BitVec.ofInt 64 x.toInt ||| BitVec.ofInt 64 y.toInt).toNat:Int)=_
 rw[BitVec.ofInt_toInt,BitVec.ofInt_toInt,w_nat]
def fd (f:Int):List Int->Int × Int
 | []=>(neutV f,neutE f)
 | [c]=>(c,0)
 | c::d::r=>if (fd f (d::r)).2≠0 then (0,(fd f (d::r)).2) else (twoV f c (fd f (d::r)).1,twoE f c (fd f (d::r)).1)
def fdV (f:Int)(l:List Int):Int:=(fd f l).1
def fdE (f:Int)(l:List Int):Int:=(fd f l).2
theorem fdE_nil (f:Int):fdE f []=neutE f:=rfl
theorem fdE_cons (f c:Int){l:List Int}(h:l≠[]):fdE f (c::l)=if fdE f l≠0 then fdE f l else twoE f c (fdV f l):=by
 cases l with
 | nil=>exact absurd rfl h
 | cons d r=>
  unfold fdE fdV
  rw[fd]
  by_cases h1:(fd f (d::r)).2≠0
  ·rw[if_pos h1,if_pos h1]
  ·rw[if_neg h1,if_neg h1]
theorem fdV_cons (f c:Int){l:List Int}(h:l≠[]):fdV f (c::l)=if fdE f l≠0 then 0 else twoV f c (fdV f l):=by
 cases l with
 | nil=>exact absurd rfl h
 | cons d r=>
  unfold fdE fdV
  rw[fd]
  by_cases h1:(fd f (d::r)).2≠0
  ·rw[if_pos h1,if_pos h1]
  ·rw[if_neg h1,if_neg h1]
theorem fdE_cases {f:Int}(hf:1<=f/\f<=16):∀ l:List Int,fdE f l=0\/fdE f l=6
 | []=>by
  rw[fdE_nil]
  unfold neutE
  rw[if_neg (by omega)]
  split<;>simp
 | [c]=>.inl rfl
 | c::d::r=>by
  rw[fdE_cons f c (by simp)]
  have ih:=fdE_cases hf (d::r)
  split
  ·exact ih
  ·unfold twoE
   rw[if_neg (by omega)]
   split
   ·simp
   ·split<;>simp
def Mon (f:Int):Prop:=f=1\/f=3\/f=6\/f=7\/f=14\/f=15
section
variable {f : Int}
theorem Mon.fn (h:Mon f):1<=f/\f<=16:=by unfold Mon at h;omega
theorem Mon.te (h:Mon f)(a b:Int):twoE f a b=0:=by unfold Mon at h;exact te0 (by omega) (by omega) (fun e=>by omega) (fun e=>by omega)
theorem Mon.ne (h:Mon f):neutE f=0:=by unfold Mon at h;unfold neutE;rw[if_neg (by omega),if_neg (by omega)]
theorem Mon.unit (h:Mon f){a:Int}(ha:In64 a):twoV f a (neutV f)=a:=by
 have h2:=ha
 unfold In64 at h2
 rcases h with rfl | rfl | rfl | rfl | rfl | rfl
 ·rw[tv1,show neutV 1=0 from rfl,Int.add_zero,ha.same]
 ·rw[tv3,show neutV 3=1 from rfl,Int.mul_one,ha.same]
 ·rw[tv6,show neutV 6=-9223372036854775808 from rfl];omega
 ·rw[tv7,show neutV 7=9223372036854775807 from rfl];omega
 ·obtain⟨x,rfl⟩:=bv_of ha
  rw[tv14,show neutV 14=(BitVec.allOnes 64).toInt from rfl,band_bv,BitVec.and_allOnes]
 ·obtain⟨x,rfl⟩:=bv_of ha
  rw[tv15,show neutV 15=(0#64).toInt from rfl,bor_bv,BitVec.or_zero]
def L64 (l:List Int):Prop:=∀ x,x∈l->In64 x
theorem L64.tail {x:Int}{l:List Int}(h:L64 (x::l)):L64 l:=fun y hy=>h y (List.mem_cons_of_mem _ hy)
theorem L64.head {x:Int}{l:List Int}(h:L64 (x::l)):In64 x:=h x (by simp)
theorem L64.map {α:Type}{l:List α}{g:α->Int}(h:∀ x,x∈l->In64 (g x)):L64 (l.map g):=fun y hy=>by
 obtain⟨x,hx,rfl⟩:=List.mem_map.1 hy
 exact h x hx
theorem Mon.fold (h:Mon f):∀ {l:List Int},L64 l->fdE f l=0/\fdV f l=l.foldr (twoV f) (neutV f)
 | [],_=>⟨h.ne,rfl⟩
 | [c],hl=>⟨rfl,(h.unit hl.head).symm⟩
 | c::d::r,hl=>by
  have ih:=h.fold hl.tail
  rw[fdE_cons f c (by simp),fdV_cons f c (by simp),if_neg (by simp[ih.1]),if_neg (by simp[ih.1]),ih.2]
  exact⟨h.te _ _,rfl⟩
theorem Mon.ok (h:Mon f){l:List Int}(hl:L64 l):fdE f l=0:=(h.fold hl).1
theorem Mon.step (h:Mon f){c:Int}{l:List Int}(hl:L64 (c::l)):fdV f (c::l)=twoV f c (fdV f l):=by
 rw[(h.fold hl).2,(h.fold hl.tail).2];rfl
end
end Go.Proofs.YtkmmkcpfhnifhaaGreatDoor
