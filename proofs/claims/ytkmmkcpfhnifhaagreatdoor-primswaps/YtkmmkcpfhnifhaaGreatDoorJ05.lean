/- What the program tells, in part. -/
import Derived.Test.YtkmmkcpfhnifhaaGreatDoorJ04
set_option linter.unusedVariables false
namespace Go.Proofs.YtkmmkcpfhnifhaaGreatDoor
open Go.RowKit
theorem cmpL_self:∀ a:List Int,cmpL a a=0
 | []=>rfl
 | x::a=>by
  show (if x<x then (-1:Int) else if x<x then 1 else cmpL a a)=0
  rw[if_neg (by omega),if_neg (by omega),cmpL_self a]
theorem cmpL_swap:∀ a b:List Int,cmpL b a=- cmpL a b
 | [],[]=>rfl
 | [],_::_=>rfl
 | _::_,[]=>rfl
 | x::a,y::b=>by
  show (if y<x then (-1:Int) else if x<y then 1 else cmpL b a)=- (if x<y then (-1:Int) else if y<x then 1 else cmpL a b)
  by_cases h1:x<y
  ·rw[if_neg (by omega),if_pos h1,if_pos h1];rfl
  ·by_cases h2:y<x
   ·rw[if_pos h2,if_neg h1,if_pos h2]
   ·rw[if_neg h2,if_neg h1,if_neg h1,if_neg h2,cmpL_swap a b]
theorem cmpL_zero:∀ {a b:List Int},a.length=b.length->cmpL a b=0->a=b
 | [],[],_,_=>rfl
 | [],_::_,h,_=>by simp at h
 | _::_,[],h,_=>by simp at h
 | x::a,y::b,h,e=>by
  change (if x<y then (-1:Int) else if y<x then 1 else cmpL a b)=0 at e
  by_cases h1:x<y
  ·rw[if_pos h1] at e;exact absurd e (by decide)
  ·by_cases h2:y<x
   ·rw[if_neg h1,if_pos h2] at e;exact absurd e (by decide)
   ·rw[if_neg h1,if_neg h2] at e
    rw[cmpL_zero (by simpa using h) e,show x=y by omega]
theorem cmpL_trans:∀ {a b c:List Int},a.length=b.length->b.length=c.length->cmpL a b<=0->cmpL b c<=0->cmpL a c<=0/\(cmpL a b<0\/cmpL b c<0->cmpL a c<0)
 | [],[],[],_,_,_,_=>⟨by decide,fun h=>by rcases h with h | h<;>exact absurd h (by decide)⟩
 | [],_::_,_,h,_,_,_=>by simp at h
 | _::_,[],_,h,_,_,_=>by simp at h
 | _,[],_::_,_,h,_,_=>by simp at h
 | _,_::_,[],_,h,_,_=>by simp at h
 | x::a,y::b,z::c,h1,h2,e1,e2=>by
  change (if x<y then (-1:Int) else if y<x then 1 else cmpL a b)<=0 at e1
  change (if y<z then (-1:Int) else if z<y then 1 else cmpL b c)<=0 at e2
  show (if x<z then (-1:Int) else if z<x then 1 else cmpL a c)<=0/\((if x<y then (-1:Int) else if y<x then 1 else cmpL a b)<0\/(if y<z then (-1:Int) else if z<y then 1 else cmpL b c)<0->(if x<z then (-1:Int) else if z<x then 1 else cmpL a c)<0)
  have hxy:x<=y:=by
   by_cases q:y<x
   ·rw[if_neg (by omega),if_pos q] at e1;exact absurd e1 (by decide)
   ·omega
  have hyz:y<=z:=by
   by_cases q:z<y
   ·rw[if_neg (by omega),if_pos q] at e2;exact absurd e2 (by decide)
   ·omega
  by_cases q1:x<z
  ·rw[if_pos q1];exact⟨by decide,fun _=>by decide⟩
  ·rw[if_neg q1,if_neg (by omega)]
   rw[if_neg (by omega),if_neg (by omega)] at e1 e2
   rw[if_neg (by omega),if_neg (by omega),if_neg (by omega),if_neg (by omega)]
   exact cmpL_trans (by simpa using h1) (by simpa using h2) e1 e2
def rwL (dz:List Int)(long i:Nat):List Int:=(dz.drop (i*long)).take long
theorem rwL_length {dz:List Int}{n long i:Nat}(h:n*long<=dz.length)(hi:i<n):(rwL dz long i).length=long:=by
 unfold rwL
 have h1:i*long+long<=n*long:=by
  have:=Nat.mul_le_mul_right long (show i+1<=n by omega)
  rw[Nat.add_mul,Nat.one_mul] at this;exact this
 rw[List.length_take,List.length_drop];omega
theorem rwL_nth {dz:List Int}{long i j:Nat}(hj:j<long):nth (rwL dz long i) j=nth dz (i*long+j):=by
 unfold rwL nth
 rw[List.getD_eq_getElem?_getD,List.getD_eq_getElem?_getD,List.getElem?_take,if_pos hj,List.getElem?_drop]
def cmR (dn:Bool)(dz:List Int)(long i j:Nat):Int:=if dn=true then-cmpL (rwL dz long i) (rwL dz long j) else cmpL (rwL dz long i) (rwL dz long j)
def ltR (dn:Bool)(dz:List Int)(long i j:Nat):Bool:=decide (cmR dn dz long i j<0) || (decide (cmR dn dz long i j=0) && decide (i<j))
theorem ltR_iff {dn:Bool}{dz:List Int}{long i j:Nat}:ltR dn dz long i j=true ↔ cmR dn dz long i j<0\/(cmR dn dz long i j=0/\i<j):=by unfold ltR;simp
theorem cmR_swap (dn:Bool)(dz:List Int)(long i j:Nat):cmR dn dz long j i=- cmR dn dz long i j:=by
 unfold cmR
 rw[cmpL_swap (rwL dz long i)]
 split<;>rfl
theorem cmR_trans {dn:Bool}{dz:List Int}{n long i j k:Nat}(h:n*long<=dz.length)(hi:i<n)(hj:j<n)(hk:k<n)(e1:cmR dn dz long i j<=0)(e2:cmR dn dz long j k<=0):cmR dn dz long i k<=0/\(cmR dn dz long i j<0\/cmR dn dz long j k<0->cmR dn dz long i k<0):=by
 have l1:=rwL_length h hi
 have l2:=rwL_length h hj
 have l3:=rwL_length h hk
 cases dn with
 | false=>
  simp only[cmR,Bool.false_eq_true,if_false] at *
  exact cmpL_trans (by omega) (by omega) e1 e2
 | true=>
  simp only[cmR,if_true] at *
  have s1:=cmpL_swap (rwL dz long i) (rwL dz long j)
  have s2:=cmpL_swap (rwL dz long j) (rwL dz long k)
  have s3:=cmpL_swap (rwL dz long i) (rwL dz long k)
  have:=cmpL_trans (a:=rwL dz long k) (b:=rwL dz long j) (c:=rwL dz long i) (by omega) (by omega) (by omega) (by omega)
  exact⟨by omega,fun q=>by have:=this.2 (by omega);omega⟩
theorem ltR_tot {dn:Bool}{dz:List Int}{n long:Nat}(h:n*long<=dz.length):Tot (ltR dn dz long) n:=by
 refine⟨fun i hi=>?_,fun i j k hi hj hk h1 h2=>?_,fun i j hi hj hne=>?_⟩
 ·rw[<-Bool.not_eq_true,ltR_iff]
  have:cmR dn dz long i i=0:=by unfold cmR;rw[cmpL_self];split<;>rfl
  omega
 ·rw[ltR_iff] at *
  have:=cmR_trans h hi hj hk (dn:=dn) (by omega) (by omega)
  by_cases q:cmR dn dz long i j<0\/cmR dn dz long j k<0
  ·exact .inl (this.2 q)
  ·have:=this.1;omega
 ·rw[ltR_iff,ltR_iff,cmR_swap dn dz long i j];omega
def grO (dn:Bool)(dz:List Int)(n long:Nat):List Int:=grd (ltR dn dz long) n
theorem grO_length {dn:Bool}{dz:List Int}{n long:Nat}:(grO dn dz n long).length=n:=grd_length
theorem grO_ord {dn:Bool}{dz:List Int}{n long:Nat}(h:n*long<=dz.length):IsOrd (grO dn dz n long):=grd_ord (ltR_tot h)
def nR (sz:List Int):Nat:=(nth sz 0).toNat
def lR (sz dz:List Int):Nat:=if nR sz=0 then 0 else dz.length/nR sz
theorem lR_le (sz dz:List Int):nR sz*lR sz dz<=dz.length:=by
 unfold lR
 split
 ·rw[Nat.mul_zero];exact Nat.zero_le _
 ·exact Nat.mul_div_le _ _
def srD (dz:List Int)(long:Nat)(p:List Int):List Int:=(p.map fun x=>rwL dz long x.toNat).flatten
theorem flat_length {L:List (List Int)}{long:Nat}(h:∀ r∈L,r.length=long):L.flatten.length=L.length*long:=by
 induction L with
 | nil=>simp
 | cons r t ih=>
  rw[List.flatten_cons,List.length_append,h r List.mem_cons_self,ih (fun q hq=>h q (List.mem_cons_of_mem _ hq)),List.length_cons,Nat.add_mul,Nat.one_mul,Nat.add_comm]
theorem flat_row {long:Nat}:∀ {L:List (List Int)},(∀ r∈L,r.length=long)->∀ {i:Nat} (hi:i<L.length),rwL L.flatten long i=L[i]
 | [],_,i,hi=>by simp at hi
 | r::t,h,0,_=>by
  unfold rwL
  rw[Nat.zero_mul,List.drop_zero,List.flatten_cons,List.take_append_of_le_length (by rw[h r List.mem_cons_self];exact Nat.le_refl _),List.take_of_length_le (by rw[h r List.mem_cons_self];exact Nat.le_refl _)];rfl
 | r::t,h,i+1,hi=>by
  have ih:=flat_row (L:=t) (fun q hq=>h q (List.mem_cons_of_mem _ hq)) (i:=i) (by simpa using hi)
  unfold rwL at ih ⊢
  rw[List.flatten_cons,Nat.add_mul,Nat.one_mul,List.drop_append,h r List.mem_cons_self,show i*long+long-long=i*long by omega,List.drop_eq_nil_of_le (by rw[h r List.mem_cons_self];omega),List.nil_append,ih];rfl
section
variable {dz : List Int} {n long : Nat} {p : List Int}
theorem srD_rows (h:n*long<=dz.length)(hp:IsOrd p)(hl:p.length=n):∀ r∈p.map (fun x=>rwL dz long x.toNat),r.length=long:=by
 intro r hr
 obtain⟨x,hx,rfl⟩:=List.mem_map.1 hr
 obtain⟨j,hj,rfl⟩:=List.mem_iff_getElem.1 hx
 have:=ord_at hp hj
 rw[<-nth_get p j hj]
 exact rwL_length h (by omega)
theorem srD_length (h:n*long<=dz.length)(hp:IsOrd p)(hl:p.length=n):(srD dz long p).length=n*long:=by
 unfold srD
 rw[flat_length (srD_rows h hp hl),List.length_map,hl]
theorem srD_row (h:n*long<=dz.length)(hp:IsOrd p)(hl:p.length=n){i:Nat}(hi:i<n):rwL (srD dz long p) long i=rwL dz long (nth p i).toNat:=by
 unfold srD
 rw[flat_row (srD_rows h hp hl) (i:=i) (by rw[List.length_map,hl];exact hi),List.getElem_map,nth_get p i (by omega)]
theorem perm_sorted {le:List Int->List Int->Prop}:∀ {A B:List (List Int)},A.Perm B->A.Pairwise le->B.Pairwise le->(∀ a b,a∈A->b∈A->le a b->le b a->a=b)->A=B
 | [],B,h,_,_,_=>(List.eq_nil_of_length_eq_zero (by simpa using h.length_eq.symm)).symm
 | a::A,[],h,_,_,_=>by have:=h.length_eq;simp at this
 | a::A,b::B,h,hA,hB,hs=>by
  have hA':=List.pairwise_cons.1 hA
  have hB':=List.pairwise_cons.1 hB
  have e:a=b:=by
   by_cases e:a=b
   ·exact e
   ·have m1:a∈B:=by
     rcases List.mem_cons.1 (h.mem_iff.1 (List.mem_cons_self (a:=a) (l:=A))) with q | q
     ·exact absurd q e
     ·exact q
    have m2:b∈A:=by
     rcases List.mem_cons.1 (h.mem_iff.2 (List.mem_cons_self (a:=b) (l:=B))) with q | q
     ·exact absurd q.symm e
     ·exact q
    exact hs a b List.mem_cons_self (List.mem_cons_of_mem _ m2) (hA'.1 b m2) (hB'.1 a m1)
  subst e
  rw[perm_sorted ((List.perm_cons a).1 h) hA'.2 hB'.2 fun x y hx hy=>hs x y (List.mem_cons_of_mem _ hx) (List.mem_cons_of_mem _ hy)]
theorem map_rows (p:List Int)(f:Nat->List Int):(p.map fun x=>f x.toNat)=(List.range p.length).map fun i=>f (nth p i).toNat:=by
 refine List.ext_getElem (by simp) fun i h1 h2=>?_
 simp only[List.getElem_map,List.getElem_range]
 rw[nth_get p i (by simpa using h1)]
def RisR (dz:List Int)(long n:Nat)(p:List Int):Prop:=∀ a b,a<b->b<n->cmpL (rwL dz long (nth p a).toNat) (rwL dz long (nth p b).toNat)<=0
theorem grO_ris (h:n*long<=dz.length):RisR dz long n (grO false dz n long):=fun a b hab hb=>by
 have:=grd_rises (ltR_tot (dn:=false) h) hab hb
 rw[ltR_iff] at this
 simp only[cmR,Bool.false_eq_true,if_false] at this
 unfold grO
 omega
theorem ris_only {q:List Int}(h:n*long<=dz.length)(hp:IsOrd p)(hl:p.length=n)(hq:IsOrd q)(hl':q.length=n)(r1:RisR dz long n p)(r2:RisR dz long n q):srD dz long p=srD dz long q:=by
 unfold srD
 congr 1
 have P1:(p.map fun x=>rwL dz long x.toNat).Perm (q.map fun x=>rwL dz long x.toNat):=((ord_perm hp).trans (by rw[hl,<-hl'];exact (ord_perm hq).symm)).map _
 have hpw:∀ {p:List Int},p.length=n->RisR dz long n p->(p.map fun x=>rwL dz long x.toNat).Pairwise (fun a b=>cmpL a b<=0):=fun {p} hl r=>by
  rw[map_rows,List.pairwise_map]
  refine List.Pairwise.imp_of_mem (fun {a b} ha hb hab=>?_) (List.pairwise_lt_range (n:=p.length))
  exact r a b hab (by have:=List.mem_range.1 hb;omega)
 refine perm_sorted P1 (hpw hl r1) (hpw hl' r2) fun a b ha hb h1 h2=>?_
 have l1:=srD_rows h hp hl a ha
 have l2:=srD_rows h hp hl b hb
 have:=cmpL_swap a b
 exact cmpL_zero (by omega) (by omega)
theorem srD_aft {q:List Int}(h:n*long<=dz.length)(hp:IsOrd p)(hl:p.length=n)(hq:IsOrd q)(hl':q.length=n):srD (srD dz long p) long q=srD dz long (aft p q):=by
 unfold srD
 congr 1
 unfold aft
 rw[List.map_map]
 refine List.map_congr_left fun x hx=>?_
 obtain⟨j,hj,rfl⟩:=List.mem_iff_getElem.1 hx
 have o:=ord_at hq hj
 rw[<-nth_get q j hj]
 have:=srD_row h hp hl (i:=(nth q j).toNat) (by omega)
 unfold srD at this
 rw[this];rfl
theorem mixed (h:dz.length=n*long)(hp:IsOrd p)(hl:p.length=n):srD (srD dz long p) long (grO false (srD dz long p) n long)=srD dz long (grO false dz n long):=by
 have h0:n*long<=dz.length:=by omega
 have hz:n*long<=(srD dz long p).length:=by rw[srD_length h0 hp hl];exact Nat.le_refl _
 have hg:=grO_ord (dn:=false) hz
 rw[srD_aft h0 hp hl hg grO_length]
 refine ris_only h0 (aft_ord hp hg (by rw[hl,grO_length])) (by rw[aft_length,grO_length]) (grO_ord h0) grO_length (fun a b hab hb=>?_) (grO_ris h0)
 have r:=grO_ris hz a b hab hb
 have o1:=ord_at hg (i:=a) (by rw[grO_length];omega)
 have o2:=ord_at hg (i:=b) (by rw[grO_length];exact hb)
 rw[grO_length] at o1 o2
 rw[srD_row h0 hp hl o1.1,srD_row h0 hp hl o2.1] at r
 rw[aft_nth (by rw[grO_length];omega),aft_nth (by rw[grO_length];exact hb)]
 exact r
end
def gdE (c:Bool)(sz dz:List Int):Int:=if flawE c sz dz≠0 then flawE c sz dz else if sz.length=0 then 3 else 0
section
variable {c : Bool} {sz dz : List Int}
theorem gdE_zero:gdE c sz dz=0 ↔ flawE c sz dz=0/\0<sz.length:=by
 unfold gdE
 by_cases h:flawE c sz dz=0
 ·rw[if_neg (by simpa using h)]
  by_cases h2:sz.length=0
  ·rw[if_pos h2];exact⟨fun e=>absurd e (by decide),fun e=>by omega⟩
  ·rw[if_neg h2];exact⟨fun _=>⟨h,by omega⟩,fun _=>rfl⟩
 ·rw[if_pos h];exact⟨fun e=>absurd e h,fun e=>absurd e.1 h⟩
theorem gdE_flaw (h:flawE c sz dz≠0):gdE c sz dz=flawE c sz dz:=by unfold gdE;rw[if_pos h]
theorem gdE_rank (h:flawE c sz dz=0)(h2:sz.length=0):gdE c sz dz=3:=by unfold gdE;rw[if_neg (by simpa using h),if_pos h2]
theorem nR_is (h:gdE c sz dz=0):nth sz 0=((nR sz:Nat):Int)/\nR sz<=4096:=by
 have h1:=gdE_zero.1 h
 have h2:=(errOf_zero.1 (flawE_zero h1.1).1).2.1 (nth sz 0) (nth_mem sz 0 h1.2)
 unfold nR
 omega
theorem lR_is (sz dz:List Int):lR sz dz=dz.length/nR sz:=by
 unfold lR
 split
 ·rename_i h;rw[h,Nat.div_zero]
 ·rfl
end
def gdO (dn:Bool)(sz dz:List Int):List Int:=grO dn dz (nR sz) (lR sz dz)
def CUp:Prop:=∀ (c:Bool) (sa:Option Addr) (sc:Nat) (sz:List Int) (da:Option Addr) (dc:Nat) (dz:List Int) (w:World),sz.length<=9223372036854775807->dz.length<=9223372036854775807->IsC w.heap.size w sa sz sc->IsC w.heap.size w da dz dc →
 Calls Tryz.prog 105 #[.agg #[.bool c,.slice sa sz.length sc,.slice da dz.length dc]] w (UL (gdE c sz dz) (onL (gdE c sz dz) (gdO false sz dz)) w)
def CDn:Prop:=∀ (c:Bool) (sa:Option Addr) (sc:Nat) (sz:List Int) (da:Option Addr) (dc:Nat) (dz:List Int) (w:World),sz.length<=9223372036854775807->dz.length<=9223372036854775807->IsC w.heap.size w sa sz sc->IsC w.heap.size w da dz dc →
 Calls Tryz.prog 106 #[.agg #[.bool c,.slice sa sz.length sc,.slice da dz.length dc]] w (UL (gdE c sz dz) (onL (gdE c sz dz) (gdO true sz dz)) w)
def flawsE (c:Bool)(sz dz:List Int)(c':Bool)(sz' dz':List Int):Int:=if flawE c sz dz=0 then flawE c' sz' dz' else flawE c sz dz
def arrB (c:Bool)(sz dz:List Int)(c':Bool)(sz' dz':List Int):Bool:=(c == c') && (eqB sz sz' && eqB dz dz')
def mtB (c:Bool)(sz dz:List Int)(c':Bool)(sz' dz':List Int):Bool:=decide (flawsE c sz dz c' sz' dz'=0) && arrB c sz dz c' sz' dz'
theorem flawsE_zero {c c':Bool}{sz dz sz' dz':List Int}:flawsE c sz dz c' sz' dz'=0 ↔ flawE c sz dz=0/\flawE c' sz' dz'=0:=by
 unfold flawsE
 split
 ·rename_i h;exact⟨fun h'=>⟨h,h'⟩,fun h'=>h'.2⟩
 ·rename_i h;exact⟨fun h'=>absurd h' h,fun h'=>absurd h'.1 h⟩
theorem mtB_ok {c c':Bool}{sz dz sz' dz':List Int}(h:flawE c sz dz=0)(h':flawE c' sz' dz'=0):mtB c sz dz c' sz' dz'=arrB c sz dz c' sz' dz':=by
 unfold mtB;rw[flawsE_zero.2 ⟨h,h'⟩];rfl
theorem arrB_iff {c c':Bool}{sz dz sz' dz':List Int}:arrB c sz dz c' sz' dz'=true ↔ c=c'/\sz=sz'/\dz=dz':=by
 unfold arrB eqB
 simp
theorem arrB_self (c:Bool)(sz dz:List Int):arrB c sz dz c sz dz=true:=arrB_iff.2 ⟨rfl,rfl,rfl⟩
def hsB (c:Bool)(dz:List Int)(ch:Bool)(v:Int):Bool:=decide (c=ch/\v∈dz)
theorem hsB_iff {c:Bool}{dz:List Int}{ch:Bool}{v:Int}:hsB c dz ch v=true ↔ c=ch/\v∈dz:=by unfold hsB;exact decide_eq_true_iff
theorem hsB_no {c:Bool}{dz:List Int}{ch:Bool}{v:Int}:hsB c dz ch v=false ↔ ¬ (c=ch/\v∈dz):=by unfold hsB;exact decide_eq_false_iff_not
theorem mem_nth {dz:List Int}{v:Int}(h:v∈dz):∃ j,j<dz.length/\nth dz j=v:=by
 obtain⟨j,hj,e⟩:=List.mem_iff_getElem.1 h
 exact⟨j,hj,by rw[nth_get _ _ hj];exact e⟩
def fdN (c ch:Bool)(v:Int):List Int->Nat
 | []=>0
 | x::r=>if c=ch/\x=v then 0 else fdN c ch v r+1
theorem nth_cons7 (x:Int)(r:List Int)(j:Nat):nth (x::r) (j+1)=nth r j:=by simp[nth]
section
variable {c ch : Bool} {v : Int}
theorem fdN_le:∀ dz:List Int,fdN c ch v dz<=dz.length
 | []=>Nat.le_refl _
 | x::r=>by
  have:=fdN_le r
  simp only[fdN,List.length_cons]
  split<;>omega
theorem fdN_at:∀ dz:List Int,fdN c ch v dz<dz.length->c=ch/\nth dz (fdN c ch v dz)=v
 | [],h=>by simp at h
 | x::r,h=>by
  simp only[fdN] at h ⊢
  by_cases e:c=ch/\x=v
  ·rw[if_pos e];exact⟨e.1,e.2⟩
  ·rw[if_neg e] at h ⊢
   rw[nth_cons7]
   exact fdN_at r (by simp only[List.length_cons] at h;omega)
theorem fdN_before:∀ (dz:List Int) (j:Nat),j<fdN c ch v dz->¬ (c=ch/\nth dz j=v)
 | [],j,h=>by simp[fdN] at h
 | x::r,j,h=>by
  simp only[fdN] at h
  by_cases e:c=ch/\x=v
  ·rw[if_pos e] at h;omega
  ·rw[if_neg e] at h
   cases j with
   | zero=>exact fun q=>e ⟨q.1,q.2⟩
   | succ j=>rw[nth_cons7];exact fdN_before r j (by omega)
theorem fdN_is {dz:List Int}{k:Nat}(hk:k<=dz.length)(hb:∀ j,j<k->¬ (c=ch/\nth dz j=v))(ha:k<dz.length->c=ch/\nth dz k=v):fdN c ch v dz=k:=by
 have h1:=fdN_le (c:=c) (ch:=ch) (v:=v) dz
 by_cases h2:fdN c ch v dz<k
 ·exact absurd (fdN_at dz (by omega)) (hb _ h2)
 ·by_cases h3:k<fdN c ch v dz
  ·exact absurd (ha (by omega)) (fdN_before dz k h3)
  ·omega
theorem fdN_lt {dz:List Int}:fdN c ch v dz<dz.length ↔ hsB c dz ch v=true:=by
 rw[hsB_iff]
 constructor
 ·intro h
  obtain⟨h1,h2⟩:=fdN_at dz h
  exact⟨h1,by rw[<-h2];exact nth_mem _ _ h⟩
 ·rintro ⟨h1,h2⟩
  obtain⟨j,hj,e⟩:=mem_nth h2
  have:=fdN_le (c:=c) (ch:=ch) (v:=v) dz
  by_cases h3:fdN c ch v dz<dz.length
  ·exact h3
  ·exact absurd ⟨h1,e⟩ (fdN_before dz j (by omega))
end
section
variable (c : Bool) (sz dz : List Int) (c' : Bool) (sz' dz' : List Int)
def ixE:Int:=if flawsE c sz dz c' sz' dz'≠0 then flawsE c sz dz c' sz' dz' else if sz.length≠1 then 3 else 0
def nbE:Int:=if flawE c sz dz≠0 then flawE c sz dz else if sz.length≠1 then 3 else 0
def lsE:Int:=if flawsE c sz dz c' sz' dz'≠0 then flawsE c sz dz c' sz' dz' else if sz.length≠1\/sz'.length≠1 then 3 else 0
def ixD:List Int:=dz'.map fun y=>(fdN c c' y dz:Int)
def inD:List Int:=dz.map fun x=>if hsB c' dz' c x=true then 1 else 0
def nbK:Nat->List Int
 | 0=>[]
 | k+1=>if nth dz k∈nbK k then nbK k else nbK k++[nth dz k]
def nbL:List Int:=nbK dz dz.length
def shD (has:Bool):List Int:=dz.filter fun x=>hsB c' dz' c x == has
def unD:List Int:=dz++shD c' dz' c dz false
def unE:Int:=if lsE c sz dz c' sz' dz'≠0 then lsE c sz dz c' sz' dz' else if c≠c' then 6 else if 4096<(unD c dz c' dz').length then 7 else 0
end
section
variable {c : Bool} {sz dz : List Int} {c' : Bool} {sz' dz' : List Int}
theorem ixE_zero:ixE c sz dz c' sz' dz'=0 ↔ flawE c sz dz=0/\flawE c' sz' dz'=0/\sz.length=1:=by
 unfold ixE
 by_cases h:flawsE c sz dz c' sz' dz'=0
 ·rw[if_neg (not_not_intro h)]
  have:=flawsE_zero.1 h
  by_cases h1:sz.length=1
  ·rw[if_neg (not_not_intro h1)];exact⟨fun _=>⟨this.1,this.2,h1⟩,fun _=>rfl⟩
  ·rw[if_pos h1];exact⟨fun e=>absurd e (by decide),fun e=>absurd e.2.2 h1⟩
 ·rw[if_pos h];exact⟨fun e=>absurd e h,fun e=>absurd (flawsE_zero.2 ⟨e.1,e.2.1⟩) h⟩
theorem nbE_zero:nbE c sz dz=0 ↔ flawE c sz dz=0/\sz.length=1:=by
 unfold nbE
 by_cases h:flawE c sz dz=0
 ·rw[if_neg (not_not_intro h)]
  by_cases h1:sz.length=1
  ·rw[if_neg (not_not_intro h1)];exact⟨fun _=>⟨h,h1⟩,fun _=>rfl⟩
  ·rw[if_pos h1];exact⟨fun e=>absurd e (by decide),fun e=>absurd e.2 h1⟩
 ·rw[if_pos h];exact⟨fun e=>absurd e h,fun e=>absurd e.1 h⟩
theorem lsE_zero:lsE c sz dz c' sz' dz'=0 ↔ flawE c sz dz=0/\flawE c' sz' dz'=0/\sz.length=1/\sz'.length=1:=by
 unfold lsE
 by_cases h:flawsE c sz dz c' sz' dz'=0
 ·rw[if_neg (not_not_intro h)]
  have:=flawsE_zero.1 h
  by_cases h1:sz.length≠1\/sz'.length≠1
  ·rw[if_pos h1];exact⟨fun e=>absurd e (by decide),fun e=>by omega⟩
  ·rw[if_neg h1];exact⟨fun _=>⟨this.1,this.2,by omega,by omega⟩,fun _=>rfl⟩
 ·rw[if_pos h];exact⟨fun e=>absurd e h,fun e=>absurd (flawsE_zero.2 ⟨e.1,e.2.1⟩) h⟩
theorem unE_zero:unE c sz dz c' sz' dz'=0 ↔ lsE c sz dz c' sz' dz'=0/\c=c'/\(unD c dz c' dz').length<=4096:=by
 unfold unE
 by_cases h:lsE c sz dz c' sz' dz'=0
 ·rw[if_neg (not_not_intro h)]
  by_cases h1:c=c'
  ·rw[if_neg (not_not_intro h1)]
   by_cases h2:4096<(unD c dz c' dz').length
   ·rw[if_pos h2];exact⟨fun e=>absurd e (by decide),fun e=>by omega⟩
   ·rw[if_neg h2];exact⟨fun _=>⟨h,h1,by omega⟩,fun _=>rfl⟩
  ·rw[if_pos h1];exact⟨fun e=>absurd e (by decide),fun e=>absurd e.2.1 h1⟩
 ·rw[if_pos h];exact⟨fun e=>absurd e h,fun e=>absurd e.1 h⟩
theorem ixD_length:(ixD c dz c' dz').length=dz'.length:=by simp[ixD]
theorem ixD_nth {i:Nat}(h:i<dz'.length):nth (ixD c dz c' dz') i=(fdN c c' (nth dz' i) dz:Int):=by
 rw[nth_get _ _ (by rw[ixD_length];exact h),nth_get _ _ h]
 simp[ixD]
theorem inD_length:(inD c dz c' dz').length=dz.length:=by simp[inD]
theorem inD_nth {i:Nat}(h:i<dz.length):nth (inD c dz c' dz') i=if hsB c' dz' c (nth dz i)=true then 1 else 0:=by
 rw[nth_get _ _ (by rw[inD_length];exact h),nth_get _ _ h]
 simp[inD]
theorem shD_le {has:Bool}:(shD c dz c' dz' has).length<=dz.length:=List.length_filter_le _ _
theorem shD_next {has:Bool}{k:Nat}(hk:k<dz.length):shD c (dz.take (k+1)) c' dz' has=if (hsB c' dz' c (nth dz k) == has)=true then shD c (dz.take k) c' dz' has++[nth dz k] else shD c (dz.take k) c' dz' has:=by
 unfold shD
 rw[List.take_succ_eq_append_getElem hk,List.filter_append,<-nth_get dz k hk]
 by_cases h:(hsB c' dz' c (nth dz k) == has)=true
 ·rw[if_pos h,List.filter_cons_of_pos (p:=fun x=>hsB c' dz' c x == has) h];rfl
 ·rw[if_neg h,List.filter_cons_of_neg (p:=fun x=>hsB c' dz' c x == has) h];simp
theorem nbK_sub:∀ k,k<=dz.length->∀ x,x∈nbK dz k ↔ ∃ j,j<k/\nth dz j=x
 | 0,_,x=>by simp[nbK]
 | k+1,hk,x=>by
  have ih:=nbK_sub k (by omega)
  simp only[nbK]
  by_cases h:nth dz k∈nbK dz k
  ·rw[if_pos h,ih]
   constructor
   ·rintro ⟨j,hj,e⟩;exact⟨j,by omega,e⟩
   ·rintro ⟨j,hj,e⟩
    by_cases e2:j=k
    ·subst e2;rw[<-e];exact (ih _).1 h
    ·exact⟨j,by omega,e⟩
  ·rw[if_neg h,List.mem_append,List.mem_singleton,ih]
   constructor
   ·rintro (⟨j,hj,e⟩ | e)
    ·exact⟨j,by omega,e⟩
    ·exact⟨k,by omega,e.symm⟩
   ·rintro ⟨j,hj,e⟩
    by_cases e2:j=k
    ·subst e2;exact .inr e.symm
    ·exact .inl ⟨j,by omega,e⟩
end
def hv (b d:List Int):Nat->Int
 | 0=>0
 | k+1=>hv b d k*nth b k+nth d k
def pk (b:List Int):Nat->Int
 | 0=>1
 | k+1=>pk b k*nth b k
theorem hv_step (b d:List Int)(k:Nat):wrap64 (wrap64 (wrap64 (hv b d k)*nth b k)+nth d k)=wrap64 (hv b d (k+1)):=by
 rw[w_addl,<-w_addl,w_mull,w_addl];rfl
theorem hv_congr {b c d e:List Int}:∀ {k:Nat},(∀ i,i<k->nth b i=nth c i/\nth d i=nth e i)->hv b d k=hv c e k
 | 0,_=>rfl
 | k+1,h=>by simp only[hv];rw[hv_congr fun i hi=>h i (by omega),(h k (by omega)).1,(h k (by omega)).2]
theorem nth_app_r (a b:List Int)(j:Nat):nth (a++b) (a.length+j)=nth b j:=by
 unfold nth;rw[List.getD_eq_getElem?_getD,List.getD_eq_getElem?_getD,List.getElem?_append_right (by omega),Nat.add_sub_cancel_left]
def qt (b n:Int):Int:=if b=0 then 0 else divV n b
def dd (b n:Int):Int:=if b=0 then n else n.fmod b
theorem qt_zero (n:Int):qt 0 n=0:=by simp[qt]
theorem dd_zero (n:Int):dd 0 n=n:=by simp[dd]
theorem qt_else {b:Int}(h:b≠0)(n:Int):qt b n=divV n b:=by simp[qt,h]
theorem dd_else {b:Int}(h:b≠0)(n:Int):dd b n=n.fmod b:=by simp[dd,h]
theorem qt_in (b n:Int):In64 (qt b n):=by
 unfold qt;split
 ·unfold In64;omega
 ·exact In64.w _
theorem qd (b n:Int):wrap64 (b*qt b n+dd b n)=wrap64 n:=by
 by_cases h:b=0
 ·subst h;simp[qt,dd]
 ·rw[qt_else h,dd_else h]
  unfold divV
  rw[<-w_addl,w_mulr,w_addl]
  congr 1
  have:=fmod_is n b
  omega
def dgL (b:List Int):Nat->Int->List Int
 | 0,_=>[]
 | N+1,n=>dgL b N (qt (nth b N) n)++[dd (nth b N) n]
def rs (b:List Int)(N:Nat)(n:Int):Nat->Int
 | 0=>n
 | j+1=>qt (nth b (N-1-j)) (rs b N n j)
theorem rs_in {b:List Int}{N:Nat}{n:Int}(hn:In64 n):∀ j,In64 (rs b N n j)
 | 0=>hn
 | j+1=>qt_in _ _
theorem rs_next (b:List Int)(N:Nat)(n:Int):∀ j,rs b (N+1) n (j+1)=rs b N (qt (nth b N) n) j
 | 0=>by simp[rs]
 | j+1=>by
  have h:=rs_next b N n j
  rw[rs,h,rs]
  have:N+1-1-(j+1)=N-1-j:=by omega
  rw[this]
theorem dgL_length (b:List Int):∀ (N:Nat) (n:Int),(dgL b N n).length=N
 | 0,_=>rfl
 | N+1,n=>by simp[dgL,dgL_length b N]
theorem dgL_nth (b:List Int):∀ (N:Nat) (n:Int) (i:Nat),i<N->nth (dgL b N n) i=dd (nth b i) (rs b N n (N-1-i))
 | 0,_,_,h=>by omega
 | N+1,n,i,h=>by
  simp only[dgL]
  by_cases hi:i<N
  ·rw[nth_append_left _ _ _ (by rw[dgL_length];exact hi),dgL_nth b N _ i hi]
   have:N+1-1-i=(N-1-i)+1:=by omega
   rw[this,rs_next]
  ·have:i=N:=by omega
   subst this
   have h1:=nth_app_r (dgL b i (qt (nth b i) n)) [dd (nth b i) n] 0
   rw[dgL_length,Nat.add_zero] at h1
   rw[h1]
   have:i+1-1-i=0:=by omega
   rw[this]
   rfl
theorem whole (b:List Int):∀ (N:Nat) (n:Int),wrap64 (hv b (dgL b N n) N+pk b N*rs b N n N)=wrap64 n
 | 0,n=>by simp[hv,pk,rs]
 | N+1,n=>by
  have ih:=whole b N (qt (nth b N) n)
  have e:hv b (dgL b (N+1) n) N=hv b (dgL b N (qt (nth b N) n)) N:=
   hv_congr fun i hi=>⟨rfl,by simp only[dgL];exact nth_append_left _ _ _ (by rw[dgL_length];exact hi)⟩
  have e2:nth (dgL b (N+1) n) N=dd (nth b N) n:=by
   rw[dgL_nth b (N+1) n N (by omega)]
   have:N+1-1-N=0:=by omega
   rw[this];rfl
  simp only[hv,pk]
  rw[e,e2,rs_next,<-qd (nth b N) n,<-w_addl (nth b N*qt (nth b N) n),<-w_mulr,<-ih,w_mulr,w_addl]
  congr 1
  grind
def Prp (b d:List Int)(k:Nat):Prop:=∀ i,i<k->1<=nth b i/\0<=nth d i/\nth d i<nth b i
theorem Prp.less {b d:List Int}{k j:Nat}(h:Prp b d k)(hj:j<=k):Prp b d j:=fun i hi=>h i (by omega)
theorem Prp.pos {b d:List Int}:∀ {k:Nat},Prp b d k->1<=pk b k
 | 0,_=>by simp[pk]
 | k+1,h=>by
  have ih:=Prp.pos (h.less (Nat.le_succ k))
  have h1:=(h k (by omega)).1
  have:1*1<=pk b k*nth b k:=Int.mul_le_mul ih h1 (by omega) (by omega)
  simp only[pk];omega
theorem Prp.bd {b d:List Int}:∀ {k:Nat},Prp b d k->0<=hv b d k/\hv b d k<pk b k
 | 0,_=>by simp[hv,pk]
 | k+1,h=>by
  have ih:=Prp.bd (h.less (Nat.le_succ k))
  obtain⟨h1,h2,h3⟩:=h k (by omega)
  simp only[hv,pk]
  have a1:0<=hv b d k*nth b k:=Int.mul_nonneg ih.1 (by omega)
  have a2:(hv b d k+1)*nth b k<=pk b k*nth b k:=Int.mul_le_mul_of_nonneg_right (by omega) (by omega)
  rw[Int.add_mul] at a2
  omega
theorem Prp.ins {b d:List Int}(h:Prp b d b.length)(hl:d.length=b.length):insB b d=true:=(insB_iff hl).mpr fun k hk=>⟨(h k hk).2.1,(h k hk).2.2⟩
def MidC (lo hi:Nat)(W:World)(a:Option Addr)(zs:List Int)(cap:Nat):Prop:=MidInts lo hi W a zs/\zs.length<=cap
section
variable {lo hi : Nat} {W W' : World} {a : Option Addr} {zs : List Int} {cap : Nat}
theorem NewC.midc (h:NewC lo W a zs cap):MidC lo W.heap.size W a zs cap:=⟨h.1.mid,h.2⟩
theorem MidC.go (h:MidC lo hi W a zs cap)(hh:hi<=W.heap.size)(hB:Below W.heap.size W W'):MidC lo hi W' a zs cap:=⟨h.1.bel (hB.mono hh),h.2⟩
theorem MidC.al (h:MidC lo hi W a zs cap)(hh:hi<=W.heap.size)(o:Obj):MidC lo hi (W.alloc o) a zs cap:=⟨h.1.al hh o,h.2⟩
theorem MidC.s1 (h:MidC lo hi W a zs cap){p:Addr}(hp:p.block<lo\/hi<=p.block)(v:Value):MidC lo hi (W.setCell p v) a zs cap:=by
 rcases hp with hp | hp
 ·exact⟨h.1.set hp v,h.2⟩
 ·exact⟨h.1.off hp v,h.2⟩
theorem MidC.s3 (h:MidC lo hi W a zs cap){b:Nat}(hb:b<lo\/hi<=b)(x y z:Value):MidC lo hi (((W.setCell ⟨b,0,none⟩ x).setCell ⟨b,1,none⟩ y).setCell ⟨b,2,none⟩ z) a zs cap:=
 ((h.s1 (p:=⟨b,0,none⟩) hb x).s1 (p:=⟨b,1,none⟩) hb y).s1 (p:=⟨b,2,none⟩) hb z
theorem MidC.is (h:MidC lo hi W a zs cap)(hh:hi<=W.heap.size):IsC W.heap.size W a zs cap:=⟨(h.1.ints).mono hh,h.2⟩
theorem MidC.put {b off:Nat}(h:MidC lo hi W (some ⟨b,off,none⟩) zs cap){i:Nat}(hi':i<zs.length)(x:Int):MidC lo hi (W.setCell ⟨b,off+i,none⟩ (.int .i64 x)) (some ⟨b,off,none⟩) (zs.set i x) cap:=⟨h.1.put hi' x,by rw[List.length_set];exact h.2⟩
theorem MidC.at (h:MidC lo hi W a zs cap){i:Nat}(hi':i<zs.length):∃ b off,a=some ⟨b,off,none⟩/\lo<=b/\b<hi/\W.cell? ⟨b,off+i,none⟩=some (.int .i64 (nth zs i))/\W.frozen? ⟨b,off+i,none⟩=false:=by
 rcases h.1 with e | ⟨b,off,e,h0,hb,hc,hz⟩
 ·rw[e] at hi';cases hi'
 ·exact⟨b,off,e,h0,hb,hc i hi',hz i⟩
theorem lit_mid (w:World)(t:TypeId)(xs:List Int)(n:Nat)(h:xs.length=n):MidC w.heap.size (w.heap.size+1) (w.alloc (.cells (xs.map (Value.int .i64)).toArray t)) (some ⟨w.heap.size,0,none⟩) xs n:=by
 have h0:=(new_lit w t xs).mid
 rw[World.size_alloc] at h0
 exact⟨h0,by omega⟩
end
theorem abx_o3 {w:World}{b:Nat}{x y z:Value}(h:Abx w b x y z){B:Nat}(hb:b≠B)(x' y' z':Value):Abx (((w.setCell ⟨B,0,none⟩ x').setCell ⟨B,1,none⟩ y').setCell ⟨B,2,none⟩ z') b x y z:=
 ((h.ot (a:=⟨B,0,none⟩) hb x').ot (a:=⟨B,1,none⟩) hb y').ot (a:=⟨B,2,none⟩) hb z'
def OkL (L:List Int)(w:World)(r:Ending)(w':World):Prop:=∃ g gc,r=.returned (.tuple #[.slice g L.length gc,.nilIface])/\NewC w.heap.size w' g L gc/\Below w.heap.size w w'
def NoL (e:Int)(w:World)(r:Ending)(w':World):Prop:=∃ g gc,r=.returned (.tuple #[.slice g 0 gc,.iface 28 (.int .i64 e)])/\NewC w.heap.size w' g [] gc/\Below w.heap.size w w'
def OkZ (x:Int)(w:World)(r:Ending)(w':World):Prop:=r=.returned (.tuple #[.int .i64 x,.nilIface])/\Below w.heap.size w w'
def NoZ (e:Int)(w:World)(r:Ending)(w':World):Prop:=r=.returned (.tuple #[.int .i64 0,.iface 28 (.int .i64 e)])/\Below w.heap.size w w'
theorem UL.ok {e:Int}{L M:List Int}{w w':World}{r:Ending}(h:e=0/\L=M)(H:UL e (onL e L) w r w'):OkL M w r w':=by
 obtain⟨h0,h1⟩:=h
 subst h0 h1
 exact H
theorem UL.no {e:Int}{L:List Int}{w w':World}{r:Ending}(h:e≠0)(H:UL e (onL e L) w r w'):NoL e w r w':=by
 rw[onL_no h] at H
 obtain⟨g,gc,hr,hN,hB⟩:=H
 exact⟨g,gc,by rw[hr,errV_pos h];rfl,hN,hB⟩
theorem UZ.ok {e x y:Int}{w w':World}{r:Ending}(h:e=0/\x=y)(H:UZ e (onZ e x) w r w'):OkZ y w r w':=by
 obtain⟨h0,h1⟩:=h
 subst h0 h1
 exact H
theorem UZ.no {e x:Int}{w w':World}{r:Ending}(h:e≠0)(H:UZ e (onZ e x) w r w'):NoZ e w r w':=by
 rw[onZ_no h] at H
 exact⟨by rw[H.1,errV_pos h],H.2⟩
def vaE (b d:List Int):Int:=if 4096<b.length then 7 else if d.length≠b.length then 4 else 0
def dgE (b:List Int):Int:=if 4096<b.length then 7 else 0
theorem vaE_zero {b d:List Int}:vaE b d=0 ↔ b.length<=4096/\d.length=b.length:=by
 unfold vaE
 by_cases h:4096<b.length
 ·rw[if_pos h];exact⟨fun e=>absurd e (by decide),fun e=>by omega⟩
 ·rw[if_neg h]
  by_cases h1:d.length=b.length
  ·rw[if_neg (not_not_intro h1)];exact⟨fun _=>⟨by omega,h1⟩,fun _=>rfl⟩
  ·rw[if_pos h1];exact⟨fun e=>absurd e (by decide),fun e=>absurd e.2 h1⟩
theorem dgE_zero {b:List Int}:dgE b=0 ↔ b.length<=4096:=by
 unfold dgE
 by_cases h:4096<b.length
 ·rw[if_pos h];exact⟨fun e=>absurd e (by decide),fun e=>by omega⟩
 ·rw[if_neg h];exact⟨fun _=>by omega,fun _=>rfl⟩
def vaV (b d:List Int):Int:=wrap64 (hv b d b.length)
def dgV (b:List Int)(n:Int):List Int:=dgL b b.length n
theorem dgV_length (b:List Int)(n:Int):(dgV b n).length=b.length:=dgL_length b b.length n
def CVa:Prop:=∀ (a:Option Addr) (cap:Nat) (b:List Int) (a':Option Addr) (cap':Nat) (d:List Int) (w:World),b.length<=9223372036854775807->d.length<=9223372036854775807->IsInts w.heap.size w a b->IsInts w.heap.size w a' d →
 Calls Tryz.prog 203 #[.slice a b.length cap,.slice a' d.length cap'] w (UZ (vaE b d) (onZ (vaE b d) (vaV b d)) w)
def CDg:Prop:=∀ (a:Option Addr) (cap:Nat) (b:List Int) (n:Int) (w:World),b.length<=9223372036854775807->IsInts w.heap.size w a b->(∀ j,In64 (nth b j))->In64 n →
 Calls Tryz.prog 205 #[.slice a b.length cap,.int .i64 n] w (UL (dgE b) (onL (dgE b) (dgV b n)) w)
def oneE (f a:Int):Int:=if f=1\/f=2\/f=3\/f=5 then 0 else if f=17 then (if a=0\/a=1 then 0 else 6) else 1
def oneV (f a:Int):Int:=if f=1 then a else if f=2 then wrap64 (-a) else if f=3 then (if a=0 then 0 else if 0<a then 1 else -1)
 else if f=5 then (if 0<=a then a else wrap64 (-a)) else if f=17 then (if a=0 then 1 else 0) else 0
end Go.Proofs.YtkmmkcpfhnifhaaGreatDoor
