/- What the program tells, in part. -/
import Derived.Test.YtkmmkcpfhnifhaaGreatDoorJ03
set_option linter.unusedVariables false
namespace Go.Proofs.YtkmmkcpfhnifhaaGreatDoor
open Go.RowKit
def xout (x:Nat)(s:List Int):List Int:=s.take x++s.drop (x+1)
def xin (x:Nat)(v:Int)(t:List Int):List Int:=t.take x++v::t.drop x
theorem xin_zero (v:Int)(t:List Int):xin 0 v t=v::t:=rfl
theorem xin_succ (x:Nat)(v a:Int)(t:List Int):xin (x+1) v (a::t)=a::xin x v t:=by simp[xin]
theorem xout_zero (a:Int)(s:List Int):xout 0 (a::s)=s:=by simp[xout]
theorem xout_succ (x:Nat)(a:Int)(s:List Int):xout (x+1) (a::s)=a::xout x s:=by simp[xout]
theorem xin_length {x:Nat}{v:Int}{t:List Int}(h:x<=t.length):(xin x v t).length=t.length+1:=by simp[xin];omega
theorem xout_length {x:Nat}{s:List Int}(h:x<s.length):(xout x s).length+1=s.length:=by simp[xout];omega
theorem xin_nth:∀ {x:Nat} {v:Int} {t:List Int} (k:Nat),x<=t.length->nth (xin x v t) k=if k<x then nth t k else if k=x then v else nth t (k-1)
 | 0,v,t,k,_=>by
  rw[xin_zero,if_neg (by omega)]
  cases k with
  | zero=>rw[if_pos rfl];rfl
  | succ k=>rw[if_neg (by omega),nth_succ];rfl
 | x+1,v,[],k,h=>by simp at h
 | x+1,v,a::t,k,h=>by
  rw[xin_succ]
  cases k with
  | zero=>rw[if_pos (by omega)];rfl
  | succ k=>
   rw[nth_succ,xin_nth k (by simpa using h)]
   by_cases h1:k<x
   ·rw[if_pos h1,if_pos (by omega),nth_succ]
   ·rw[if_neg h1,if_neg (show ¬ k+1<x+1 by omega)]
    by_cases h2:k=x
    ·rw[if_pos h2,if_pos (show k+1=x+1 by omega)]
    ·rw[if_neg h2,if_neg (show ¬ k+1=x+1 by omega),Nat.add_sub_cancel]
     obtain⟨m,rfl⟩:∃ m,k=m+1:=⟨k-1,by omega⟩
     rw[nth_succ,Nat.add_sub_cancel]
theorem xin_set:∀ {x:Nat} {v u:Int} {t:List Int},x<=t.length->(xin x v t).set x u=xin x u t
 | 0,v,u,t,_=>by rw[xin_zero,xin_zero];rfl
 | x+1,v,u,[],h=>by simp at h
 | x+1,v,u,a::t,h=>by rw[xin_succ,xin_succ,List.set_cons_succ,xin_set (by simpa using h)]
theorem xin_at {x:Nat}{v:Int}{t:List Int}(h:x<=t.length):nth (xin x v t) x=v:=by rw[xin_nth x h,if_neg (by omega),if_pos rfl]
theorem xin_xout:∀ {x:Nat} {s:List Int} (v:Int),x<s.length->xin x v (xout x s)=s.set x v
 | 0,[],_,h=>by simp at h
 | 0,a::s,v,h=>by rw[xout_zero,xin_zero];rfl
 | x+1,[],_,h=>by simp at h
 | x+1,a::s,v,h=>by rw[xout_succ,xin_succ,List.set_cons_succ,xin_xout v (by simpa using h)]
theorem xout_set:∀ {x:Nat} {s:List Int} (v:Int),xout x (s.set x v)=xout x s
 | 0,[],_=>rfl
 | 0,a::s,v=>by rw[List.set_cons_zero,xout_zero,xout_zero]
 | x+1,[],_=>rfl
 | x+1,a::s,v=>by rw[List.set_cons_succ,xout_succ,xout_succ,xout_set v]
theorem xout_xin:∀ {x:Nat} {v:Int} {t:List Int},x<=t.length->xout x (xin x v t)=t
 | 0,v,t,_=>by rw[xin_zero,xout_zero]
 | x+1,v,[],h=>by simp at h
 | x+1,v,a::t,h=>by rw[xin_succ,xout_succ,xout_xin (by simpa using h)]
theorem xout_prod:∀ {x:Nat} {s:List Int},x<s.length->prod s=nth s x*prod (xout x s)
 | 0,[],h=>by simp at h
 | 0,a::s,h=>by rw[xout_zero];rfl
 | x+1,[],h=>by simp at h
 | x+1,a::s,h=>by
  rw[xout_succ,nth_succ,prod,prod,xout_prod (x:=x) (s:=s) (by simpa using h),<-Int.mul_assoc,Int.mul_comm a,Int.mul_assoc]
theorem xin_ins:∀ {x:Nat} {L v:Int} {s t:List Int},x<=s.length->(insB (xin x L s) (xin x v t)=true ↔ (0<=v/\v<L)/\insB s t=true)\/t.length<x
 | 0,L,v,s,t,_=>.inl (by rw[xin_zero,xin_zero];exact ins_cons)
 | x+1,L,v,[],t,h=>by simp at h
 | x+1,L,v,a::s,[],h=>.inr (by simp)
 | x+1,L,v,a::s,b::t,h=>by
  rcases xin_ins (x:=x) (L:=L) (v:=v) (s:=s) (t:=t) (by simpa using h) with ih | ih
  ·refine .inl ?_
   rw[xin_succ,xin_succ,ins_cons,ins_cons,ih]
   exact⟨fun ⟨h1,h2,h3⟩=>⟨h2,h1,h3⟩,fun ⟨h1,h2,h3⟩=>⟨h2,h1,h3⟩⟩
  ·exact .inr (by simp;omega)
theorem ins_xin {x:Nat}{v:Int}{s t:List Int}(hx:x<s.length)(ht:insB (xout x s) t=true)(hv:0<=v/\v<nth s x):insB s (xin x v t)=true:=by
 have hl:=xout_length hx
 have hl2:=insB_len ht
 rcases xin_ins (x:=x) (L:=nth s x) (v:=v) (s:=xout x s) (t:=t) (by omega) with h | h
 ·have:=h.2 ⟨hv,ht⟩
  rw[xin_xout _ hx] at this
  rwa [show s.set x (nth s x)=s from set_get hx rfl] at this
 ·omega
theorem ins_xout:∀ {x:Nat} {s t:List Int},insB s t=true->insB (xout x s) (xout x t)=true
 | 0,[],[],_=>rfl
 | 0,[],_::_,h=>by simp[insB] at h
 | 0,_::_,[],h=>by simp[insB] at h
 | 0,a::s,b::t,h=>by rw[xout_zero,xout_zero];exact (ins_cons.1 h).2
 | x+1,[],[],_=>rfl
 | x+1,[],_::_,h=>by simp[insB] at h
 | x+1,_::_,[],h=>by simp[insB] at h
 | x+1,a::s,b::t,h=>by rw[xout_succ,xout_succ];exact ins_cons.2 ⟨(ins_cons.1 h).1,ins_xout (ins_cons.1 h).2⟩
theorem xin_self {x:Nat}{t:List Int}(hx:x<t.length):xin x (nth t x) (xout x t)=t:=by rw[xin_xout _ hx,set_get hx rfl]
theorem place_one:∀ {x:Nat} {s t:List Int},x<=s.length->t.length=s.length->place (xin x 1 s) (xin x 0 t)=place s t
 | 0,s,t,_,_=>by rw[xin_zero,xin_zero,place,Int.zero_mul,Int.zero_add]
 | x+1,[],t,h,_=>by simp at h
 | x+1,a::s,[],_,h=>by simp at h
 | x+1,a::s,b::t,h,hl=>by
  have e:prod (xin x 1 s)=prod s:=by
   have:=xout_prod (x:=x) (s:=xin x 1 s) (by rw[xin_length (by simpa using h)];simp at h;omega)
   rw[this,xin_at (by simpa using h),xout_xin (by simpa using h),Int.one_mul]
  rw[xin_succ,xin_succ,place,place,e,place_one (by simpa using h) (by simpa using hl)]
theorem err_xout {x:Nat}{s:List Int}(hx:x<s.length)(he:errOf s=0)(h1:1<=nth s x):errOf (xout x s)=0:=by
 obtain⟨h2,h3,h4⟩:=errOf_zero.1 he
 have hl:=xout_length hx
 have ha:AllIn (xout x s):=fun y hy=>by
  unfold xout at hy
  rcases List.mem_append.1 hy with h | h
  ·exact h3 y (List.mem_of_mem_take h)
  ·exact h3 y (List.mem_of_mem_drop h)
 have hp:=xout_prod hx
 have hn:=prod_nonneg ha
 have:1*prod (xout x s)<=nth s x*prod (xout x s):=Int.mul_le_mul_of_nonneg_right h1 hn
 exact errOf_zero.2 ⟨by omega,ha,by omega⟩
theorem xout_all {x:Nat}{s:List Int}(h3:AllIn s):AllIn (xout x s):=fun y hy=>by
 unfold xout at hy
 rcases List.mem_append.1 hy with h | h
 ·exact h3 y (List.mem_of_mem_take h)
 ·exact h3 y (List.mem_of_mem_drop h)
def lnL (s dz:List Int)(x:Nat)(t:List Int)(a:Int)(n:Nat):List Int:=(List.range n).map fun j:Nat=>cel s dz (t.set x (a+j))
theorem lnL_length (s dz:List Int)(x:Nat)(t:List Int)(a:Int)(n:Nat):(lnL s dz x t a n).length=n:=by simp[lnL]
theorem lnL_nth {s dz:List Int}{x:Nat}{t:List Int}{a:Int}{n j:Nat}(h:j<n):nth (lnL s dz x t a n) j=cel s dz (t.set x (a+j)):=by simp[lnL,nth,h]
theorem lnL_64 {s dz:List Int}(T:∀ j,In64 (nth dz j))(x:Nat)(t:List Int)(a:Int)(n:Nat):L64 (lnL s dz x t a n):=L64.map fun j _=>cel_64 T _
theorem lnL_set (s dz:List Int)(x:Nat)(t:List Int)(v a:Int)(n:Nat):lnL s dz x (t.set x v) a n=lnL s dz x t a n:=by
 unfold lnL
 refine List.map_congr_left fun j _=>?_
 rw[set_set]
def okT (s:List Int)(g:List Int->Int):Bool:=(List.range (prod s).toNat).all fun i=>g (cr s i) == 0
theorem okT_iff {s:List Int}{g:List Int->Int}(he:errOf s=0):okT s g=true ↔ ∀ t,insB s t=true->g t=0:=by
 unfold okT
 rw[List.all_eq_true]
 constructor
 ·intro h t ht
  have hc:=cr_place he ht
  have:=h (place s t).toNat (List.mem_range.2 hc.2)
  rw[hc.1] at this
  exact beq_iff_eq.1 this
 ·intro h i hi
  exact beq_iff_eq.2 (h _ (cr_in he (List.mem_range.1 hi)).1)
def lnE (f x:Int)(c:Bool)(s dz:List Int):Int:=if f<1\/16<f then 1 else if axE x c s dz≠0 then axE x c s dz else if c=true then 6 else 0
theorem lnE_zero {f x:Int}{c:Bool}{s dz:List Int}:lnE f x c s dz=0 ↔ (1<=f/\f<=16)/\flawE c s dz=0/\(0<=x/\x.toNat<s.length)/\c=false:=by
 unfold lnE
 by_cases h:f<1\/16<f
 ·rw[if_pos h];exact⟨fun e=>absurd e (by decide),fun e=>by omega⟩
 ·rw[if_neg h]
  by_cases h1:axE x c s dz=0
  ·rw[if_neg (not_not_intro h1)]
   have h2:=axE_zero.1 h1
   cases c
   ·exact⟨fun _=>⟨by omega,h2.1,h2.2,rfl⟩,fun _=>rfl⟩
   ·exact⟨fun e=>absurd e (by decide),fun e=>absurd e.2.2.2 (by decide)⟩
  ·rw[if_pos h1];exact⟨fun e=>absurd e h1,fun e=>absurd (axE_zero.2 ⟨e.2.1,e.2.2.1⟩) h1⟩
def rdL (s dz:List Int)(x:Nat)(t:List Int):List Int:=lnL s dz x (xin x 0 t) 0 (nth s x).toNat
def scL (s dz:List Int)(x:Nat)(t:List Int):List Int:=lnL s dz x t 0 (nth t x+1).toNat
def wdL (n:Int)(s dz:List Int)(x:Nat)(t:List Int):List Int:=lnL s dz x t (nth t x) n.toNat
def wdS (n:Int)(x:Nat)(s:List Int):List Int:=s.set x (nth s x-n+1)
def rdD (f:Int)(s dz:List Int)(x:Nat):List Int:=TA (xout x s) fun t=>fdV f (rdL s dz x t)
def scD (f:Int)(s dz:List Int)(x:Nat):List Int:=TA s fun t=>fdV f (scL s dz x t)
def wdD (f n:Int)(s dz:List Int)(x:Nat):List Int:=TA (wdS n x s) fun t=>fdV f (wdL n s dz x t)
def rdE (f x:Int)(c:Bool)(s dz:List Int):Int:=
 if lnE f x c s dz≠0 then lnE f x c s dz else if nth s x.toNat=0/\neutE f≠0 then neutE f else if errOf (xout x.toNat s)≠0 then errOf (xout x.toNat s)
 else if okT (xout x.toNat s) (fun t=>fdE f (rdL s dz x.toNat t))=true then 0 else 6
def scE (f x:Int)(c:Bool)(s dz:List Int):Int:=if lnE f x c s dz≠0 then lnE f x c s dz else if okT s (fun t=>fdE f (scL s dz x.toNat t))=true then 0 else 6
def wdE (f n x:Int)(c:Bool)(s dz:List Int):Int:=
 if lnE f x c s dz≠0 then lnE f x c s dz else if n<1\/nth s x.toNat<n then 4 else if okT (wdS n x.toNat s) (fun t=>fdE f (wdL n s dz x.toNat t))=true then 0 else 6
section
variable {f x n : Int} {c : Bool} {s dz : List Int}
theorem wd_err (h:lnE f x c s dz=0)(hn:¬ (n<1\/nth s x.toNat<n)):errOf (wdS n x.toNat s)=0:=by
 obtain⟨_,h1,h2,_⟩:=lnE_zero.1 h
 exact err_set (flawE_zero h1).1 h2.2 (by omega) (by omega)
theorem wdE_zero:wdE f n x c s dz=0 ↔ lnE f x c s dz=0/\(1<=n/\n<=nth s x.toNat)/\∀ t,insB (wdS n x.toNat s) t=true->fdE f (wdL n s dz x.toNat t)=0:=by
 unfold wdE
 by_cases h:lnE f x c s dz=0
 ·rw[if_neg (not_not_intro h)]
  by_cases hn:n<1\/nth s x.toNat<n
  ·rw[if_pos hn];exact⟨fun e=>absurd e (by decide),fun e=>by omega⟩
  ·rw[if_neg hn]
   have he:=wd_err h hn
   by_cases h3:okT (wdS n x.toNat s) (fun t=>fdE f (wdL n s dz x.toNat t))=true
   ·rw[if_pos h3];exact⟨fun _=>⟨h,by omega,(okT_iff he).1 h3⟩,fun _=>rfl⟩
   ·rw[if_neg h3];exact⟨fun e=>absurd e (by decide),fun e=>absurd ((okT_iff he).2 e.2.2) h3⟩
 ·rw[if_pos h];exact⟨fun e=>absurd e h,fun e=>absurd e.1 h⟩
end
theorem TA_one {x:Nat}{s:List Int}{g:List Int->Int}(hx:x<s.length)(he:errOf (s.set x 1)=0)(ho:errOf (xout x s)=0):TA (s.set x 1) g=TA (xout x s) fun t=>g (xin x 0 t):=by
 have hl:=xout_length hx
 have hp:prod (s.set x 1)=prod (xout x s):=by
  have:=xout_prod (x:=x) (s:=s.set x 1) (by rw[List.length_set];exact hx)
  rw[this,xout_set,nth_set_self hx,Int.one_mul]
 refine TA_ext ho (by rw[TA_length,hp]) fun t ht=>?_
 have hlt:=insB_len ht
 have hin:insB (s.set x 1) (xin x 0 t)=true:=by
  refine ins_xin (by rw[List.length_set];exact hx) (by rw[xout_set];exact ht) ?_
  rw[nth_set_self hx];omega
 have h1:=TA_at (f:=g) he hin
 unfold cel at h1 ⊢
 have e:place (s.set x 1) (xin x 0 t)=place (xout x s) t:=by
  rw[<-xin_xout 1 hx];exact place_one (by omega) hlt
 rwa [e] at h1
end Go.Proofs.YtkmmkcpfhnifhaaGreatDoor
namespace Go.Proofs.YtkmmkcpfhnifhaaGreatDoor
open Go.RowKit
section
variable (f n x : Int) (c : Bool) (sz dz : List Int)
def rdS12:List Int:=onl (rdE f x c sz dz) (xout x.toNat sz)
def rdD12:List Int:=onl (rdE f x c sz dz) (rdD f sz dz x.toNat)
def scS12:List Int:=onl (scE f x c sz dz) sz
def scD12:List Int:=onl (scE f x c sz dz) (scD f sz dz x.toNat)
def wdS12:List Int:=onl (wdE f n x c sz dz) (wdS n x.toNat sz)
def wdD12:List Int:=onl (wdE f n x c sz dz) (wdD f n sz dz x.toNat)
theorem wd12_len:(wdS12 f n x c sz dz).length<=4096/\(wdD12 f n x c sz dz).length<=4096:=
 ⟨onl_le6 fun h=>(errS (wd_err (wdE_zero.1 h).1 (by have:=(wdE_zero.1 h).2.1;omega))).1,onl_le6 fun h=>by unfold wdD;rw[TA_length];exact (errS (wd_err (wdE_zero.1 h).1 (by have:=(wdE_zero.1 h).2.1;omega))).2⟩
end
def CRd:Prop:=∀ (f x:Int) (c:Bool) (sa:Option Addr) (sc:Nat) (sz:List Int) (da:Option Addr) (dc:Nat) (dz:List Int) (w:World),In64 f->In64 x->sz.length<=9223372036854775807->dz.length<=9223372036854775807->IsC w.heap.size w sa sz sc->IsInts w.heap.size w da dz->(∀ j,In64 (nth dz j)) →
 Calls Tryz.prog 71 #[.int .i64 f,.int .i64 x,.agg #[.bool c,.slice sa sz.length sc,.slice da dz.length dc]] w (UB (rdE f x c sz dz) false (rdS12 f x c sz dz) (rdD12 f x c sz dz) w)
def CSc:Prop:=∀ (f x:Int) (c:Bool) (sa:Option Addr) (sc:Nat) (sz:List Int) (da:Option Addr) (dc:Nat) (dz:List Int) (w:World),In64 f->In64 x->sz.length<=9223372036854775807->dz.length<=9223372036854775807->IsC w.heap.size w sa sz sc->IsInts w.heap.size w da dz->(∀ j,In64 (nth dz j)) →
 Calls Tryz.prog 72 #[.int .i64 f,.int .i64 x,.agg #[.bool c,.slice sa sz.length sc,.slice da dz.length dc]] w (UB (scE f x c sz dz) false (scS12 f x c sz dz) (scD12 f x c sz dz) w)
def CWd:Prop:=∀ (f n x:Int) (c:Bool) (sa:Option Addr) (sc:Nat) (sz:List Int) (da:Option Addr) (dc:Nat) (dz:List Int) (w:World),In64 f->In64 n->In64 x->sz.length<=9223372036854775807->dz.length<=9223372036854775807->IsC w.heap.size w sa sz sc->IsInts w.heap.size w da dz->(∀ j,In64 (nth dz j)) →
 Calls Tryz.prog 141 #[.int .i64 f,.int .i64 n,.int .i64 x,.agg #[.bool c,.slice sa sz.length sc,.slice da dz.length dc]] w (UB (wdE f n x c sz dz) false (wdS12 f n x c sz dz) (wdD12 f n x c sz dz) w)
end Go.Proofs.YtkmmkcpfhnifhaaGreatDoor
namespace Go.Proofs.YtkmmkcpfhnifhaaGreatDoor
open Go.RowKit
def su (g:Nat->Nat):Nat->Nat
 | 0=>0
 | k+1=>su g k+g k
theorem su_congr {g h:Nat->Nat}:∀ {n:Nat},(∀ i,i<n->g i=h i)->su g n=su h n
 | 0,_=>rfl
 | n+1,e=>by simp only[su];rw[su_congr (fun i hi=>e i (by omega)),e n (by omega)]
theorem su_list (g:Nat->Nat):∀ n,su g n=((List.range n).map g).foldr (· + ·) 0
 | 0=>rfl
 | n+1=>by
  have hf:∀ (l:List Nat) (x:Nat),(l++[x]).foldr (· + ·) 0=l.foldr (· + ·) 0+x:=fun l x=>by
   induction l with
   | nil=>simp
   | cons a l ih=>simp only[List.cons_append,List.foldr_cons,ih];omega
  rw[List.range_succ,List.map_append,List.map_cons,List.map_nil,hf,<-su_list g n];rfl
theorem fold_perm {a b:List Nat}(h:a.Perm b):a.foldr (· + ·) 0=b.foldr (· + ·) 0:=by
 induction h with
 | nil=>rfl
 | cons x _ ih=>simp only[List.foldr_cons,ih]
 | swap x y l=>simp only[List.foldr_cons];omega
 | trans _ _ h1 h2=>exact h1.trans h2
theorem su_perm {g q:Nat->Nat}{n:Nat}(h:((List.range n).map q).Perm (List.range n)):su (fun i=>g (q i)) n=su g n:=by
 rw[su_list,su_list]
 have:=fold_perm (h.map g)
 rw[List.map_map] at this
 exact this
def aft (p q:List Int):List Int:=q.map fun x=>nth p x.toNat
def idn (n:Nat):List Int:=(List.range n).map fun i:Nat=>(i:Int)
def tnd (p:List Int):List Int:=(List.range p.length).map fun k:Nat=>((p.findIdx fun x=>x == (k:Int):Nat):Int)
section
variable {p q r : List Int}
theorem aft_length:(aft p q).length=q.length:=by simp[aft]
theorem aft_nth {i:Nat}(h:i<q.length):nth (aft p q) i=nth p (nth q i).toNat:=by
 rw[nth_get _ _ (by rw[aft_length];exact h),nth_get _ _ h];simp[aft]
theorem idn_length (n:Nat):(idn n).length=n:=by simp[idn]
theorem idn_nth {n i:Nat}(h:i<n):nth (idn n) i=i:=by
 rw[nth_get _ _ (by rw[idn_length];exact h)];simp[idn]
theorem idn_ord (n:Nat):IsOrd (idn n):=by
 refine⟨fun j hj=>?_,fun i j hij hj=>?_⟩
 ·rw[idn_length] at *;rw[idn_nth hj];omega
 ·rw[idn_length] at hj;rw[idn_nth hj,idn_nth (by omega)];omega
theorem tnd_length:(tnd p).length=p.length:=by simp[tnd]
theorem tnd_nth {k:Nat}(h:k<p.length):nth (tnd p) k=((p.findIdx fun x=>x == (k:Int):Nat):Int):=by
 rw[nth_get _ _ (by rw[tnd_length];exact h)];simp[tnd]
theorem ord_at (hp:IsOrd p){i:Nat}(h:i<p.length):(nth p i).toNat<p.length/\(((nth p i).toNat:Nat):Int)=nth p i:=by
 have:=hp.1 i h;omega
theorem find_ord (hp:IsOrd p){i:Nat}(h:i<p.length){k:Nat}(hk:nth p i=k):(p.findIdx fun x=>x == (k:Int))=i:=by
 have hm:p.findIdx (fun x=>x == (k:Int))<p.length:=List.findIdx_lt_length_of_exists ⟨nth p i,nth_mem p i h,by simp[hk]⟩
 have h1:=List.findIdx_getElem (w:=hm)
 rw[<-nth_get _ _ hm] at h1
 exact hp.inj hm h (by rw[hk];simpa using h1)
theorem tnd_at (hp:IsOrd p){i:Nat}(h:i<p.length):nth (tnd p) (nth p i).toNat=i:=by
 have h1:=ord_at hp h
 rw[tnd_nth h1.1,find_ord hp h h1.2.symm]
theorem at_tnd (hp:IsOrd p){k:Nat}(h:k<p.length):nth p (nth (tnd p) k).toNat=k/\0<=nth (tnd p) k/\nth (tnd p) k<p.length:=by
 obtain⟨i,hi,e⟩:=hp.surj h
 have h1:=tnd_at hp hi
 rw[e,Int.toNat_natCast] at h1
 rw[h1,Int.toNat_natCast]
 exact⟨e,by omega,by omega⟩
theorem tnd_ord (hp:IsOrd p):IsOrd (tnd p):=by
 refine⟨fun j hj=>?_,fun i j hij hj=>?_⟩
 ·rw[tnd_length] at *;exact (at_tnd hp hj).2
 ·rw[tnd_length] at hj
  intro e
  have h1:=(at_tnd hp hj).1
  have h2:=(at_tnd hp (show i<p.length by omega)).1
  rw[e,h1] at h2;omega
theorem aft_ord (hp:IsOrd p)(hq:IsOrd q)(hl:p.length=q.length):IsOrd (aft p q):=by
 refine⟨fun j hj=>?_,fun i j hij hj=>?_⟩
 ·rw[aft_length] at *
  have:=ord_at hq hj
  rw[aft_nth hj]
  have:=hp.1 (nth q j).toNat (by omega);omega
 ·rw[aft_length] at hj
  rw[aft_nth hj,aft_nth (show i<q.length by omega)]
  have h1:=ord_at hq hj
  have h2:=ord_at hq (show i<q.length by omega)
  intro e
  have:=hp.inj (i:=(nth q i).toNat) (j:=(nth q j).toNat) (by omega) (by omega) e
  exact hq.2 i j hij hj (by omega)
end
def cmpL:List Int->List Int->Int
 | x::a,y::b=>if x<y then -1 else if y<x then 1 else cmpL a b
 | _,_=>0
theorem ord_perm {p:List Int}(hp:IsOrd p):p.Perm (idn p.length):=by
 have h:=(nats_perm hp).map fun i:Nat=>(i:Int)
 have e:(nats p).map (fun i:Nat=>(i:Int))=p:=by
  unfold nats
  rw[List.map_map]
  refine (List.map_congr_left fun x hx=>?_).trans (List.map_id p)
  obtain⟨j,hj,rfl⟩:=List.mem_iff_getElem.1 hx
  rw[<-nth_get p j hj]
  exact (ord_at hp hj).2
 rw[e] at h
 exact h
def onL (e:Int)(xs:List Int):List Int:=if e=0 then xs else []
def onZ (e x:Int):Int:=if e=0 then x else 0
section
variable {p q : List Int}
end
theorem onL_no {e:Int}{xs:List Int}(h:e≠0):onL e xs=[]:=by unfold onL;rw[if_neg h]
theorem onZ_no {e x:Int}(h:e≠0):onZ e x=0:=by unfold onZ;rw[if_neg h]
def UL (e:Int)(L:List Int)(w:World)(r:Ending)(w':World):Prop:=∃ g gc,r=.returned (.tuple #[.slice g L.length gc,errV e])/\NewC w.heap.size w' g L gc/\Below w.heap.size w w'
def UZ (e x:Int)(w:World)(r:Ending)(w':World):Prop:=r=.returned (.tuple #[.int .i64 x,errV e])/\Below w.heap.size w w'
theorem UL.mkok {e:Int}{L:List Int}{w w':World}{g:Option Addr}{gc:Nat}(h:e=0)(hN:NewC w.heap.size w' g L gc)(hB:Below w.heap.size w w'):UL e (onL e L) w (.returned (.tuple #[.slice g L.length gc,.nilIface])) w':=by
 subst h
 exact⟨g,gc,rfl,hN,hB⟩
theorem UL.mkno {e:Int}{L:List Int}{w w':World}{e':Int}(h:e=e')(h0:e'≠0)(hB:Below w.heap.size w w'):UL e (onL e L) w (.returned (.tuple #[.slice none 0 0,.iface 28 (.int .i64 e')])) w':=by
 subst h
 rw[onL_no h0]
 exact⟨none,0,by rw[errV_pos h0];rfl,⟨.inl rfl,Nat.le_refl _⟩,hB⟩
theorem UZ.mkok {e x:Int}{w w':World}(h:e=0)(hB:Below w.heap.size w w'):UZ e (onZ e x) w (.returned (.tuple #[.int .i64 x,.nilIface])) w':=by
 subst h
 exact⟨rfl,hB⟩
theorem UZ.mkno {e x:Int}{w w':World}{e':Int}(h:e=e')(h0:e'≠0)(hB:Below w.heap.size w w'):UZ e (onZ e x) w (.returned (.tuple #[.int .i64 0,.iface 28 (.int .i64 e')])) w':=by
 subst h
 rw[onZ_no h0]
 exact⟨by rw[errV_pos h0],hB⟩
abbrev RwV:Type:=(Option Addr × Nat) × List Int
def RwV.v (r:RwV):Value:=.slice r.1.1 r.2.length r.1.2
def rwz (rs:List RwV)(j:Nat):RwV:=rs.getD j ((none,0),[])
def IsRs (n:Nat)(W:World)(a:Option Addr)(rs:List RwV):Prop:=
 (rs=[]\/∃ b off,a=some ⟨b,off,none⟩/\b<n/\∀ j,j<rs.length->W.cell? ⟨b,off+j,none⟩=some (rwz rs j).v)/\∀ j,j<rs.length->IsInts n W (rwz rs j).1.1 (rwz rs j).2
section
variable {n n' : Nat} {W W' : World} {a : Option Addr} {rs : List RwV}
theorem IsRs.below (hB:Below n W W')(h:IsRs n W a rs):IsRs n W' a rs:=by
 refine⟨?_,fun j hj=>(h.2 j hj).below hB⟩
 rcases h.1 with e | ⟨b,off,e,hb,hc⟩
 ·exact .inl e
 ·exact .inr ⟨b,off,e,hb,fun j hj=>(hB.cell (p:=⟨b,off+j,none⟩) hb).trans (hc j hj)⟩
theorem IsRs.mono (hn:n<=n')(h:IsRs n W a rs):IsRs n' W a rs:=by
 refine⟨?_,fun j hj=>(h.2 j hj).mono hn⟩
 rcases h.1 with e | ⟨b,off,e,hb,hc⟩
 ·exact .inl e
 ·exact .inr ⟨b,off,e,by omega,hc⟩
theorem IsRs.go (h:IsRs W.heap.size W a rs)(hB:Below W.heap.size W W'):IsRs W'.heap.size W' a rs:=(h.below hB).mono hB.size
theorem IsRs.at (h:IsRs n W a rs){j:Nat}(hj:j<rs.length):∃ b off,a=some ⟨b,off,none⟩/\b<n/\∀ j,j<rs.length->W.cell? ⟨b,off+j,none⟩=some (rwz rs j).v:=by
 rcases h.1 with e | h
 ·subst e;simp at hj
 ·exact h
end
theorem su_le {g h:Nat->Nat}:∀ {n:Nat},(∀ i,i<n->g i<=h i)->su g n<=su h n
 | 0,_=>Nat.le_refl _
 | n+1,e=>by
  have h1:=su_le (g:=g) (h:=h) (n:=n) fun i hi=>e i (by omega)
  have h2:=e n (by omega)
  simp only[su];omega
theorem su_less {g h:Nat->Nat}{k:Nat}(hk:g k<h k):∀ {n:Nat},(∀ i,i<n->g i<=h i)->k<n->su g n<su h n
 | 0,_,h0=>by omega
 | n+1,e,h0=>by
  simp only[su]
  have h2:=e n (by omega)
  by_cases hn:k=n
  ·have h1:=su_le (g:=g) (h:=h) (n:=n) fun i hi=>e i (by omega)
   subst hn;omega
  ·have h1:=su_less hk (n:=n) (fun i hi=>e i (by omega)) (by omega)
   omega
theorem su_one:∀ n,su (fun _=>1) n=n
 | 0=>rfl
 | n+1=>by simp only[su];rw[su_one n]
theorem su_below {a:Nat}:∀ n,su (fun i=>if i<a then 1 else 0) n=min n a
 | 0=>by simp[su]
 | n+1=>by
  simp only[su]
  rw[su_below n]
  by_cases h:n<a
  ·rw[if_pos h];omega
  ·rw[if_neg h];omega
structure Tot (lt:Nat->Nat->Bool) (n:Nat):Prop where
 irr:∀ i,i<n->lt i i=false
 tr:∀ i j k,i<n->j<n->k<n->lt i j=true->lt j k=true->lt i k=true
 tot:∀ i j,i<n->j<n->i≠j->lt i j=true\/lt j i=true
def ahd (lt:Nat->Nat->Bool)(n i:Nat):Nat:=su (fun j=>if lt j i=true then 1 else 0) n
def ahL (lt:Nat->Nat->Bool)(n:Nat):List Int:=(List.range n).map fun i=>(ahd lt n i:Int)
def grd (lt:Nat->Nat->Bool)(n:Nat):List Int:=tnd (ahL lt n)
section
variable {lt : Nat → Nat → Bool} {n : Nat}
theorem ahd_less (T:Tot lt n){i k:Nat}(hi:i<n)(hk:k<n)(h:lt i k=true):ahd lt n i<ahd lt n k:=by
 refine su_less (k:=i) ?_ (fun j hj=>?_) hi
 ·rw[if_neg (by rw[T.irr i hi];decide),if_pos h];omega
 ·by_cases e:lt j i=true
  ·rw[if_pos e,if_pos (T.tr j i k hj hi hk e h)];exact Nat.le_refl _
  ·rw[if_neg e];exact Nat.zero_le _
theorem ahd_lt (T:Tot lt n){i:Nat}(hi:i<n):ahd lt n i<n:=by
 have h:=su_less (g:=fun j=>if lt j i=true then 1 else 0) (h:=fun _=>1) (k:=i) (n:=n) (by show (if lt i i=true then 1 else 0)<1;rw[if_neg (by rw[T.irr i hi];decide)];omega) (fun j _=>by show (if lt j i=true then 1 else 0)<=1;split<;>omega) hi
 rw[su_one] at h
 exact h
theorem ahd_iff (T:Tot lt n){i k:Nat}(hi:i<n)(hk:k<n):ahd lt n i<ahd lt n k ↔ lt i k=true:=by
 refine⟨fun h=>?_,ahd_less T hi hk⟩
 by_cases e:i=k
 ·subst e;omega
 ·rcases T.tot i k hi hk e with q | q
  ·exact q
  ·have:=ahd_less T hk hi q;omega
theorem ahL_length:(ahL lt n).length=n:=by simp[ahL]
theorem ahL_nth {i:Nat}(h:i<n):nth (ahL lt n) i=(ahd lt n i:Int):=by
 rw[nth_get _ _ (by rw[ahL_length];exact h)];simp[ahL]
theorem ahL_ord (T:Tot lt n):IsOrd (ahL lt n):=by
 refine⟨fun j hj=>?_,fun i j hij hj e=>?_⟩
 ·rw[ahL_length] at *
  have:=ahd_lt T hj
  rw[ahL_nth hj];omega
 ·rw[ahL_length] at hj
  rw[ahL_nth hj,ahL_nth (by omega)] at e
  rcases T.tot i j (by omega) hj (by omega) with q | q
  ·have:=ahd_less T (by omega) hj q;omega
  ·have:=ahd_less T hj (by omega) q;omega
theorem grd_length:(grd lt n).length=n:=by unfold grd;rw[tnd_length,ahL_length]
theorem grd_ord (T:Tot lt n):IsOrd (grd lt n):=tnd_ord (ahL_ord T)
theorem grd_at (T:Tot lt n){i:Nat}(h:i<n):nth (grd lt n) (ahd lt n i)=i:=by
 have:=tnd_at (ahL_ord T) (i:=i) (by rw[ahL_length];exact h)
 rw[ahL_nth h,Int.toNat_natCast] at this
 exact this
theorem at_grd (T:Tot lt n){k:Nat}(h:k<n):∃ i,i<n/\nth (grd lt n) k=i/\ahd lt n i=k:=by
 have h1:=ord_at (grd_ord T) (i:=k) (by rw[grd_length];exact h)
 rw[grd_length] at h1
 refine⟨(nth (grd lt n) k).toNat,h1.1,h1.2.symm,?_⟩
 have h2:=(at_tnd (ahL_ord T) (k:=k) (by rw[ahL_length];exact h)).1
 change nth (ahL lt n) (nth (grd lt n) k).toNat=k at h2
 rw[ahL_nth h1.1] at h2
 omega
theorem grd_rises (T:Tot lt n){a b:Nat}(hab:a<b)(hb:b<n):lt (nth (grd lt n) a).toNat (nth (grd lt n) b).toNat=true:=by
 obtain⟨i,hi,e1,e2⟩:=at_grd T (show a<n by omega)
 obtain⟨j,hj,e3,e4⟩:=at_grd T hb
 rw[e1,e3,Int.toNat_natCast,Int.toNat_natCast]
 exact (ahd_iff T hi hj).1 (by omega)
theorem grd_only (T:Tot lt n){p:List Int}(hp:IsOrd p)(hl:p.length=n)(hr:∀ i,i+1<n->lt (nth p i).toNat (nth p (i+1)).toNat=true):p=grd lt n:=by
 subst hl
 have hat:∀ i,i<p.length->(nth p i).toNat<p.length:=fun i hi=>(ord_at hp hi).1
 have hall:∀ d a,a+d+1<p.length->lt (nth p a).toNat (nth p (a+d+1)).toNat=true:=by
  intro d
  induction d with
  | zero=>exact fun a h=>hr a h
  | succ d ih=>exact fun a h=>T.tr _ _ _ (hat a (by omega)) (hat (a+d+1) (by omega)) (hat (a+(d+1)+1) (by omega)) (ih a (by omega)) (hr (a+d+1) (by omega))
 have hlt:∀ a b,a<b->b<p.length->lt (nth p a).toNat (nth p b).toNat=true:=fun a b h1 h2=>by
  have:=hall (b-a-1) a (by omega)
  rwa [show a+(b-a-1)+1=b by omega] at this
 have hn:(List.range p.length).map (fun i=>(nth p i).toNat)=nats p:=by
  unfold nats
  rw[<-range_nth p,List.map_map,List.length_map,List.length_range,range_nth];rfl
 have hP:((List.range p.length).map (fun i=>(nth p i).toNat)).Perm (List.range p.length):=by rw[hn];exact nats_perm hp
 have hah:∀ a,a<p.length->ahd lt p.length (nth p a).toNat=a:=fun a ha=>by
  unfold ahd
  rw[<-su_perm (g:=fun j=>if lt j (nth p a).toNat=true then 1 else 0) hP]
  rw[su_congr (h:=fun b=>if b<a then 1 else 0) (fun b hb=>?_),su_below]
  ·omega
  ·by_cases h1:b<a
   ·rw[if_pos h1,if_pos (hlt b a h1 ha)]
   ·rw[if_neg h1,if_neg]
    intro hc
    by_cases h2:a=b
    ·subst h2;rw[T.irr _ (hat a ha)] at hc;cases hc
    ·have h3:=T.tr _ _ _ (hat a ha) (hat b hb) (hat a ha) (hlt a b (by omega) hb) hc
     rw[T.irr _ (hat a ha)] at h3;cases h3
 refine nth_ext (by rw[grd_length]) fun a ha=>?_
 have h1:=grd_at T (hat a ha)
 rw[hah a ha] at h1
 rw[h1];exact (ord_at hp ha).2.symm
end
end Go.Proofs.YtkmmkcpfhnifhaaGreatDoor
