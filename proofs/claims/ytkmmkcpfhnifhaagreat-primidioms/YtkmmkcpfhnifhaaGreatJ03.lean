/- What the program tells, in part. -/
import Derived.Test.YtkmmkcpfhnifhaaGreatJ02
import Derived.OneCell
set_option linter.unusedVariables false
namespace Go.Proofs.YtkmmkcpfhnifhaaGreat
open Go.RowKit
theorem su_le {g h:Nat->Nat}:∀ {n:Nat},(∀ i,i<n->g i<=h i)->su g n<=su h n
 | 0,_=>Nat.le_refl _
 | n+1,e=>by
  have h1:=su_le (g:=g) (h:=h) (n:=n) fun i hi=>e i (by omega)
  have h2:=e n (by omega)
  simp only[su];omega
theorem su_less {g h:Nat->Nat}{k:Nat}(hk:g k<h k):∀ {n:Nat},(∀ i,i<n->g i<=h i)->k<n->su g n<su h n
 | 0,_,h0=>by omega
 | n+1,e,h0=>by
  simp only[su]
  have h2:=e n (by omega)
  by_cases hn:k=n
  ·have h1:=su_le (g:=g) (h:=h) (n:=n) fun i hi=>e i (by omega)
   subst hn;omega
  ·have h1:=su_less hk (n:=n) (fun i hi=>e i (by omega)) (by omega)
   omega
theorem su_one:∀ n,su (fun _=>1) n=n
 | 0=>rfl
 | n+1=>by simp only[su];rw[su_one n]
theorem su_below {a:Nat}:∀ n,su (fun i=>if i<a then 1 else 0) n=min n a
 | 0=>by simp[su]
 | n+1=>by
  simp only[su]
  rw[su_below n]
  by_cases h:n<a
  ·rw[if_pos h];omega
  ·rw[if_neg h];omega
structure Tot (lt:Nat->Nat->Bool) (n:Nat):Prop where
 irr:∀ i,i<n->lt i i=false
 tr:∀ i j k,i<n->j<n->k<n->lt i j=true->lt j k=true->lt i k=true
 tot:∀ i j,i<n->j<n->i≠j->lt i j=true\/lt j i=true
def ahd (lt:Nat->Nat->Bool)(n i:Nat):Nat:=su (fun j=>if lt j i=true then 1 else 0) n
def ahL (lt:Nat->Nat->Bool)(n:Nat):List Int:=(List.range n).map fun i=>(ahd lt n i:Int)
def grd (lt:Nat->Nat->Bool)(n:Nat):List Int:=tnd (ahL lt n)
section
variable {lt : Nat → Nat → Bool} {n : Nat}
theorem ahd_less (T:Tot lt n){i k:Nat}(hi:i<n)(hk:k<n)(h:lt i k=true):ahd lt n i<ahd lt n k:=by
 refine su_less (k:=i) ?_ (fun j hj=>?_) hi
 ·rw[if_neg (by rw[T.irr i hi];decide),if_pos h];omega
 ·by_cases e:lt j i=true
  ·rw[if_pos e,if_pos (T.tr j i k hj hi hk e h)];exact Nat.le_refl _
  ·rw[if_neg e];exact Nat.zero_le _
theorem ahd_lt (T:Tot lt n){i:Nat}(hi:i<n):ahd lt n i<n:=by
 have h:=su_less (g:=fun j=>if lt j i=true then 1 else 0) (h:=fun _=>1) (k:=i) (n:=n) (by show (if lt i i=true then 1 else 0)<1;rw[if_neg (by rw[T.irr i hi];decide)];omega) (fun j _=>by show (if lt j i=true then 1 else 0)<=1;split<;>omega) hi
 rw[su_one] at h
 exact h
theorem ahL_length:(ahL lt n).length=n:=by simp[ahL]
theorem ahL_nth {i:Nat}(h:i<n):nth (ahL lt n) i=(ahd lt n i:Int):=by
 rw[nth_get _ _ (by rw[ahL_length];exact h)];simp[ahL]
theorem ahL_ord (T:Tot lt n):IsOrd (ahL lt n):=by
 refine⟨fun j hj=>?_,fun i j hij hj e=>?_⟩
 ·rw[ahL_length] at *
  have:=ahd_lt T hj
  rw[ahL_nth hj];omega
 ·rw[ahL_length] at hj
  rw[ahL_nth hj,ahL_nth (by omega)] at e
  rcases T.tot i j (by omega) hj (by omega) with q | q
  ·have:=ahd_less T (by omega) hj q;omega
  ·have:=ahd_less T hj (by omega) q;omega
theorem grd_length:(grd lt n).length=n:=by unfold grd;rw[tnd_length,ahL_length]
theorem grd_ord (T:Tot lt n):IsOrd (grd lt n):=tnd_ord (ahL_ord T)
theorem grd_at (T:Tot lt n){i:Nat}(h:i<n):nth (grd lt n) (ahd lt n i)=i:=by
 have:=tnd_at (ahL_ord T) (i:=i) (by rw[ahL_length];exact h)
 rw[ahL_nth h,Int.toNat_natCast] at this
 exact this
theorem grd_only (T:Tot lt n){p:List Int}(hp:IsOrd p)(hl:p.length=n)(hr:∀ i,i+1<n->lt (nth p i).toNat (nth p (i+1)).toNat=true):p=grd lt n:=by
 subst hl
 have hat:∀ i,i<p.length->(nth p i).toNat<p.length:=fun i hi=>(ord_at hp hi).1
 have hall:∀ d a,a+d+1<p.length->lt (nth p a).toNat (nth p (a+d+1)).toNat=true:=by
  intro d
  induction d with
  | zero=>exact fun a h=>hr a h
  | succ d ih=>exact fun a h=>T.tr _ _ _ (hat a (by omega)) (hat (a+d+1) (by omega)) (hat (a+(d+1)+1) (by omega)) (ih a (by omega)) (hr (a+d+1) (by omega))
 have hlt:∀ a b,a<b->b<p.length->lt (nth p a).toNat (nth p b).toNat=true:=fun a b h1 h2=>by
  have:=hall (b-a-1) a (by omega)
  rwa [show a+(b-a-1)+1=b by omega] at this
 have hn:(List.range p.length).map (fun i=>(nth p i).toNat)=nats p:=by
  unfold nats
  rw[<-range_nth p,List.map_map,List.length_map,List.length_range,range_nth];rfl
 have hP:((List.range p.length).map (fun i=>(nth p i).toNat)).Perm (List.range p.length):=by rw[hn];exact nats_perm hp
 have hah:∀ a,a<p.length->ahd lt p.length (nth p a).toNat=a:=fun a ha=>by
  unfold ahd
  rw[<-su_perm (g:=fun j=>if lt j (nth p a).toNat=true then 1 else 0) hP]
  rw[su_congr (h:=fun b=>if b<a then 1 else 0) (fun b hb=>?_),su_below]
  ·omega
  ·by_cases h1:b<a
   ·rw[if_pos h1,if_pos (hlt b a h1 ha)]
   ·rw[if_neg h1,if_neg]
    intro hc
    by_cases h2:a=b
    ·subst h2;rw[T.irr _ (hat a ha)] at hc;cases hc
    ·have h3:=T.tr _ _ _ (hat a ha) (hat b hb) (hat a ha) (hlt a b (by omega) hb) hc
     rw[T.irr _ (hat a ha)] at h3;cases h3
 refine nth_ext (by rw[grd_length]) fun a ha=>?_
 have h1:=grd_at T (hat a ha)
 rw[hah a ha] at h1
 rw[h1];exact (ord_at hp ha).2.symm
end
theorem cmpL_self:∀ a:List Int,cmpL a a=0
 | []=>rfl
 | x::a=>by
  show (if x<x then (-1:Int) else if x<x then 1 else cmpL a a)=0
  rw[if_neg (by omega),if_neg (by omega),cmpL_self a]
theorem cmpL_swap:∀ a b:List Int,cmpL b a=- cmpL a b
 | [],[]=>rfl
 | [],_::_=>rfl
 | _::_,[]=>rfl
 | x::a,y::b=>by
  show (if y<x then (-1:Int) else if x<y then 1 else cmpL b a)=- (if x<y then (-1:Int) else if y<x then 1 else cmpL a b)
  by_cases h1:x<y
  ·rw[if_neg (by omega),if_pos h1,if_pos h1];rfl
  ·by_cases h2:y<x
   ·rw[if_pos h2,if_neg h1,if_pos h2]
   ·rw[if_neg h2,if_neg h1,if_neg h1,if_neg h2,cmpL_swap a b]
theorem cmpL_trans:∀ {a b c:List Int},a.length=b.length->b.length=c.length->cmpL a b<=0->cmpL b c<=0->cmpL a c<=0/\(cmpL a b<0\/cmpL b c<0->cmpL a c<0)
 | [],[],[],_,_,_,_=>⟨by decide,fun h=>by rcases h with h | h<;>exact absurd h (by decide)⟩
 | [],_::_,_,h,_,_,_=>by simp at h
 | _::_,[],_,h,_,_,_=>by simp at h
 | _,[],_::_,_,h,_,_=>by simp at h
 | _,_::_,[],_,h,_,_=>by simp at h
 | x::a,y::b,z::c,h1,h2,e1,e2=>by
  change (if x<y then (-1:Int) else if y<x then 1 else cmpL a b)<=0 at e1
  change (if y<z then (-1:Int) else if z<y then 1 else cmpL b c)<=0 at e2
  show (if x<z then (-1:Int) else if z<x then 1 else cmpL a c)<=0/\((if x<y then (-1:Int) else if y<x then 1 else cmpL a b)<0\/(if y<z then (-1:Int) else if z<y then 1 else cmpL b c)<0->(if x<z then (-1:Int) else if z<x then 1 else cmpL a c)<0)
  have hxy:x<=y:=by
   by_cases q:y<x
   ·rw[if_neg (by omega),if_pos q] at e1;exact absurd e1 (by decide)
   ·omega
  have hyz:y<=z:=by
   by_cases q:z<y
   ·rw[if_neg (by omega),if_pos q] at e2;exact absurd e2 (by decide)
   ·omega
  by_cases q1:x<z
  ·rw[if_pos q1];exact⟨by decide,fun _=>by decide⟩
  ·rw[if_neg q1,if_neg (by omega)]
   rw[if_neg (by omega),if_neg (by omega)] at e1 e2
   rw[if_neg (by omega),if_neg (by omega),if_neg (by omega),if_neg (by omega)]
   exact cmpL_trans (by simpa using h1) (by simpa using h2) e1 e2
def rwL (dz:List Int)(long i:Nat):List Int:=(dz.drop (i*long)).take long
theorem rwL_length {dz:List Int}{n long i:Nat}(h:n*long<=dz.length)(hi:i<n):(rwL dz long i).length=long:=by
 unfold rwL
 have h1:i*long+long<=n*long:=by
  have:=Nat.mul_le_mul_right long (show i+1<=n by omega)
  rw[Nat.add_mul,Nat.one_mul] at this;exact this
 rw[List.length_take,List.length_drop];omega
theorem rwL_nth {dz:List Int}{long i j:Nat}(hj:j<long):nth (rwL dz long i) j=nth dz (i*long+j):=by
 unfold rwL nth
 rw[List.getD_eq_getElem?_getD,List.getD_eq_getElem?_getD,List.getElem?_take,if_pos hj,List.getElem?_drop]
def cmR (dn:Bool)(dz:List Int)(long i j:Nat):Int:=if dn=true then-cmpL (rwL dz long i) (rwL dz long j) else cmpL (rwL dz long i) (rwL dz long j)
def ltR (dn:Bool)(dz:List Int)(long i j:Nat):Bool:=decide (cmR dn dz long i j<0) || (decide (cmR dn dz long i j=0) && decide (i<j))
theorem ltR_iff {dn:Bool}{dz:List Int}{long i j:Nat}:ltR dn dz long i j=true ↔ cmR dn dz long i j<0\/(cmR dn dz long i j=0/\i<j):=by unfold ltR;simp
theorem cmR_swap (dn:Bool)(dz:List Int)(long i j:Nat):cmR dn dz long j i=- cmR dn dz long i j:=by
 unfold cmR
 rw[cmpL_swap (rwL dz long i)]
 split<;>rfl
theorem cmR_trans {dn:Bool}{dz:List Int}{n long i j k:Nat}(h:n*long<=dz.length)(hi:i<n)(hj:j<n)(hk:k<n)(e1:cmR dn dz long i j<=0)(e2:cmR dn dz long j k<=0):cmR dn dz long i k<=0/\(cmR dn dz long i j<0\/cmR dn dz long j k<0->cmR dn dz long i k<0):=by
 have l1:=rwL_length h hi
 have l2:=rwL_length h hj
 have l3:=rwL_length h hk
 cases dn with
 | false=>
  simp only[cmR,Bool.false_eq_true,if_false] at *
  exact cmpL_trans (by omega) (by omega) e1 e2
 | true=>
  simp only[cmR,if_true] at *
  have s1:=cmpL_swap (rwL dz long i) (rwL dz long j)
  have s2:=cmpL_swap (rwL dz long j) (rwL dz long k)
  have s3:=cmpL_swap (rwL dz long i) (rwL dz long k)
  have:=cmpL_trans (a:=rwL dz long k) (b:=rwL dz long j) (c:=rwL dz long i) (by omega) (by omega) (by omega) (by omega)
  exact⟨by omega,fun q=>by have:=this.2 (by omega);omega⟩
theorem ltR_tot {dn:Bool}{dz:List Int}{n long:Nat}(h:n*long<=dz.length):Tot (ltR dn dz long) n:=by
 refine⟨fun i hi=>?_,fun i j k hi hj hk h1 h2=>?_,fun i j hi hj hne=>?_⟩
 ·rw[<-Bool.not_eq_true,ltR_iff]
  have:cmR dn dz long i i=0:=by unfold cmR;rw[cmpL_self];split<;>rfl
  omega
 ·rw[ltR_iff] at *
  have:=cmR_trans h hi hj hk (dn:=dn) (by omega) (by omega)
  by_cases q:cmR dn dz long i j<0\/cmR dn dz long j k<0
  ·exact .inl (this.2 q)
  ·have:=this.1;omega
 ·rw[ltR_iff,ltR_iff,cmR_swap dn dz long i j];omega
def grO (dn:Bool)(dz:List Int)(n long:Nat):List Int:=grd (ltR dn dz long) n
theorem grO_length {dn:Bool}{dz:List Int}{n long:Nat}:(grO dn dz n long).length=n:=grd_length
theorem grO_ord {dn:Bool}{dz:List Int}{n long:Nat}(h:n*long<=dz.length):IsOrd (grO dn dz n long):=grd_ord (ltR_tot h)
def nR (sz:List Int):Nat:=(nth sz 0).toNat
def lR (sz dz:List Int):Nat:=if nR sz=0 then 0 else dz.length/nR sz
theorem lR_le (sz dz:List Int):nR sz*lR sz dz<=dz.length:=by
 unfold lR
 split
 ·rw[Nat.mul_zero];exact Nat.zero_le _
 ·exact Nat.mul_div_le _ _
def srD (dz:List Int)(long:Nat)(p:List Int):List Int:=(p.map fun x=>rwL dz long x.toNat).flatten
theorem flat_length {L:List (List Int)}{long:Nat}(h:∀ r∈L,r.length=long):L.flatten.length=L.length*long:=by
 induction L with
 | nil=>simp
 | cons r t ih=>
  rw[List.flatten_cons,List.length_append,h r List.mem_cons_self,ih (fun q hq=>h q (List.mem_cons_of_mem _ hq)),List.length_cons,Nat.add_mul,Nat.one_mul,Nat.add_comm]
theorem flat_row {long:Nat}:∀ {L:List (List Int)},(∀ r∈L,r.length=long)->∀ {i:Nat} (hi:i<L.length),rwL L.flatten long i=L[i]
 | [],_,i,hi=>by simp at hi
 | r::t,h,0,_=>by
  unfold rwL
  rw[Nat.zero_mul,List.drop_zero,List.flatten_cons,List.take_append_of_le_length (by rw[h r List.mem_cons_self];exact Nat.le_refl _),List.take_of_length_le (by rw[h r List.mem_cons_self];exact Nat.le_refl _)];rfl
 | r::t,h,i+1,hi=>by
  have ih:=flat_row (L:=t) (fun q hq=>h q (List.mem_cons_of_mem _ hq)) (i:=i) (by simpa using hi)
  unfold rwL at ih ⊢
  rw[List.flatten_cons,Nat.add_mul,Nat.one_mul,List.drop_append,h r List.mem_cons_self,show i*long+long-long=i*long by omega,List.drop_eq_nil_of_le (by rw[h r List.mem_cons_self];omega),List.nil_append,ih];rfl
section
variable {dz : List Int} {n long : Nat} {p : List Int}
theorem srD_rows (h:n*long<=dz.length)(hp:IsOrd p)(hl:p.length=n):∀ r∈p.map (fun x=>rwL dz long x.toNat),r.length=long:=by
 intro r hr
 obtain⟨x,hx,rfl⟩:=List.mem_map.1 hr
 obtain⟨j,hj,rfl⟩:=List.mem_iff_getElem.1 hx
 have:=ord_at hp hj
 rw[<-nth_get p j hj]
 exact rwL_length h (by omega)
theorem srD_length (h:n*long<=dz.length)(hp:IsOrd p)(hl:p.length=n):(srD dz long p).length=n*long:=by
 unfold srD
 rw[flat_length (srD_rows h hp hl),List.length_map,hl]
theorem srD_row (h:n*long<=dz.length)(hp:IsOrd p)(hl:p.length=n){i:Nat}(hi:i<n):rwL (srD dz long p) long i=rwL dz long (nth p i).toNat:=by
 unfold srD
 rw[flat_row (srD_rows h hp hl) (i:=i) (by rw[List.length_map,hl];exact hi),List.getElem_map,nth_get p i (by omega)]
end
def gdE (c:Bool)(sz dz:List Int):Int:=if flawE c sz dz≠0 then flawE c sz dz else if sz.length=0 then 3 else 0
section
variable {c : Bool} {sz dz : List Int}
theorem gdE_zero:gdE c sz dz=0 ↔ flawE c sz dz=0/\0<sz.length:=by
 unfold gdE
 by_cases h:flawE c sz dz=0
 ·rw[if_neg (by simpa using h)]
  by_cases h2:sz.length=0
  ·rw[if_pos h2];exact⟨fun e=>absurd e (by decide),fun e=>by omega⟩
  ·rw[if_neg h2];exact⟨fun _=>⟨h,by omega⟩,fun _=>rfl⟩
 ·rw[if_pos h];exact⟨fun e=>absurd e h,fun e=>absurd e.1 h⟩
theorem gdE_flaw (h:flawE c sz dz≠0):gdE c sz dz=flawE c sz dz:=by unfold gdE;rw[if_pos h]
theorem gdE_rank (h:flawE c sz dz=0)(h2:sz.length=0):gdE c sz dz=3:=by unfold gdE;rw[if_neg (by simpa using h),if_pos h2]
theorem nR_is (h:gdE c sz dz=0):nth sz 0=((nR sz:Nat):Int)/\nR sz<=4096:=by
 have h1:=gdE_zero.1 h
 have h2:=(errOf_zero.1 (flawE_zero h1.1).1).2.1 (nth sz 0) (nth_mem sz 0 h1.2)
 unfold nR
 omega
theorem lR_is (sz dz:List Int):lR sz dz=dz.length/nR sz:=by
 unfold lR
 split
 ·rename_i h;rw[h,Nat.div_zero]
 ·rfl
end
def gdO (dn:Bool)(sz dz:List Int):List Int:=grO dn dz (nR sz) (lR sz dz)
def gdD (sz dz:List Int):List Int:=srD dz (lR sz dz) (gdO false sz dz)
theorem gdO_length {dn:Bool}{sz dz:List Int}:(gdO dn sz dz).length=nR sz:=grO_length
theorem gdO_ord (dn:Bool)(sz dz:List Int):IsOrd (gdO dn sz dz):=grO_ord (lR_le sz dz)
def CUp:Prop:=∀ (c:Bool) (sa:Option Addr) (sc:Nat) (sz:List Int) (da:Option Addr) (dc:Nat) (dz:List Int) (w:World),sz.length<=9223372036854775807->dz.length<=9223372036854775807->IsC w.heap.size w sa sz sc->IsC w.heap.size w da dz dc →
 Calls Tryz.prog 20 #[.agg #[.bool c,.slice sa sz.length sc,.slice da dz.length dc]] w (UL (gdE c sz dz) (onL (gdE c sz dz) (gdO false sz dz)) w)
def CDn:Prop:=∀ (c:Bool) (sa:Option Addr) (sc:Nat) (sz:List Int) (da:Option Addr) (dc:Nat) (dz:List Int) (w:World),sz.length<=9223372036854775807->dz.length<=9223372036854775807->IsC w.heap.size w sa sz sc->IsC w.heap.size w da dz dc →
 Calls Tryz.prog 51 #[.agg #[.bool c,.slice sa sz.length sc,.slice da dz.length dc]] w (UL (gdE c sz dz) (onL (gdE c sz dz) (gdO true sz dz)) w)
def CSo:Prop:=∀ (c:Bool) (sa:Option Addr) (sc:Nat) (sz:List Int) (da:Option Addr) (dc:Nat) (dz:List Int) (w:World),sz.length<=9223372036854775807->dz.length<=9223372036854775807->IsC w.heap.size w sa sz sc->IsC w.heap.size w da dz dc →
 Calls Tryz.prog 11 #[.agg #[.bool c,.slice sa sz.length sc,.slice da dz.length dc]] w (UB (gdE c sz dz) (onc (gdE c sz dz) c) (onl (gdE c sz dz) sz) (onl (gdE c sz dz) (gdD sz dz)) w)
def flawsE (c:Bool)(sz dz:List Int)(c':Bool)(sz' dz':List Int):Int:=if flawE c sz dz=0 then flawE c' sz' dz' else flawE c sz dz
def arrB (c:Bool)(sz dz:List Int)(c':Bool)(sz' dz':List Int):Bool:=(c == c') && (eqB sz sz' && eqB dz dz')
def mtB (c:Bool)(sz dz:List Int)(c':Bool)(sz' dz':List Int):Bool:=decide (flawsE c sz dz c' sz' dz'=0) && arrB c sz dz c' sz' dz'
theorem flawsE_zero {c c':Bool}{sz dz sz' dz':List Int}:flawsE c sz dz c' sz' dz'=0 ↔ flawE c sz dz=0/\flawE c' sz' dz'=0:=by
 unfold flawsE
 split
 ·rename_i h;exact⟨fun h'=>⟨h,h'⟩,fun h'=>h'.2⟩
 ·rename_i h;exact⟨fun h'=>absurd h' h,fun h'=>absurd h'.1 h⟩
theorem mtB_ok {c c':Bool}{sz dz sz' dz':List Int}(h:flawE c sz dz=0)(h':flawE c' sz' dz'=0):mtB c sz dz c' sz' dz'=arrB c sz dz c' sz' dz':=by
 unfold mtB;rw[flawsE_zero.2 ⟨h,h'⟩];rfl
theorem arrB_iff {c c':Bool}{sz dz sz' dz':List Int}:arrB c sz dz c' sz' dz'=true ↔ c=c'/\sz=sz'/\dz=dz':=by
 unfold arrB eqB
 simp
theorem arrB_self (c:Bool)(sz dz:List Int):arrB c sz dz c sz dz=true:=arrB_iff.2 ⟨rfl,rfl,rfl⟩
def hsB (c:Bool)(dz:List Int)(ch:Bool)(v:Int):Bool:=decide (c=ch/\v∈dz)
def fdN (c ch:Bool)(v:Int):List Int->Nat
 | []=>0
 | x::r=>if c=ch/\x=v then 0 else fdN c ch v r+1
section
variable {c ch : Bool} {v : Int}
end
section
variable (c : Bool) (sz dz : List Int) (c' : Bool) (sz' dz' : List Int)
def ixE:Int:=if flawsE c sz dz c' sz' dz'≠0 then flawsE c sz dz c' sz' dz' else if sz.length≠1 then 3 else 0
def nbE:Int:=if flawE c sz dz≠0 then flawE c sz dz else if sz.length≠1 then 3 else 0
def lsE:Int:=if flawsE c sz dz c' sz' dz'≠0 then flawsE c sz dz c' sz' dz' else if sz.length≠1\/sz'.length≠1 then 3 else 0
def ixD:List Int:=dz'.map fun y=>(fdN c c' y dz:Int)
def inD:List Int:=dz.map fun x=>if hsB c' dz' c x=true then 1 else 0
def nbK:Nat->List Int
 | 0=>[]
 | k+1=>if nth dz k∈nbK k then nbK k else nbK k++[nth dz k]
def nbL:List Int:=nbK dz dz.length
def shD (has:Bool):List Int:=dz.filter fun x=>hsB c' dz' c x == has
def unD:List Int:=dz++shD c' dz' c dz false
def unE:Int:=if lsE c sz dz c' sz' dz'≠0 then lsE c sz dz c' sz' dz' else if c≠c' then 6 else if 4096<(unD c dz c' dz').length then 7 else 0
end
section
variable {c : Bool} {sz dz : List Int} {c' : Bool} {sz' dz' : List Int}
end
def hv (b d:List Int):Nat->Int
 | 0=>0
 | k+1=>hv b d k*nth b k+nth d k
def pk (b:List Int):Nat->Int
 | 0=>1
 | k+1=>pk b k*nth b k
theorem hv_congr {b c d e:List Int}:∀ {k:Nat},(∀ i,i<k->nth b i=nth c i/\nth d i=nth e i)->hv b d k=hv c e k
 | 0,_=>rfl
 | k+1,h=>by simp only[hv];rw[hv_congr fun i hi=>h i (by omega),(h k (by omega)).1,(h k (by omega)).2]
theorem nth_app_r (a b:List Int)(j:Nat):nth (a++b) (a.length+j)=nth b j:=by
 unfold nth;rw[List.getD_eq_getElem?_getD,List.getD_eq_getElem?_getD,List.getElem?_append_right (by omega),Nat.add_sub_cancel_left]
def qt (b n:Int):Int:=if b=0 then 0 else divV n b
def dd (b n:Int):Int:=if b=0 then n else n.fmod b
theorem qt_else {b:Int}(h:b≠0)(n:Int):qt b n=divV n b:=by simp[qt,h]
theorem dd_else {b:Int}(h:b≠0)(n:Int):dd b n=n.fmod b:=by simp[dd,h]
theorem qd (b n:Int):wrap64 (b*qt b n+dd b n)=wrap64 n:=by
 by_cases h:b=0
 ·subst h;simp[qt,dd]
 ·rw[qt_else h,dd_else h]
  unfold divV
  rw[<-w_addl,w_mulr,w_addl]
  congr 1
  have:=fmod_is n b
  omega
def dgL (b:List Int):Nat->Int->List Int
 | 0,_=>[]
 | N+1,n=>dgL b N (qt (nth b N) n)++[dd (nth b N) n]
def rs (b:List Int)(N:Nat)(n:Int):Nat->Int
 | 0=>n
 | j+1=>qt (nth b (N-1-j)) (rs b N n j)
theorem rs_next (b:List Int)(N:Nat)(n:Int):∀ j,rs b (N+1) n (j+1)=rs b N (qt (nth b N) n) j
 | 0=>by simp[rs]
 | j+1=>by
  have h:=rs_next b N n j
  rw[rs,h,rs]
  have:N+1-1-(j+1)=N-1-j:=by omega
  rw[this]
theorem dgL_length (b:List Int):∀ (N:Nat) (n:Int),(dgL b N n).length=N
 | 0,_=>rfl
 | N+1,n=>by simp[dgL,dgL_length b N]
theorem dgL_nth (b:List Int):∀ (N:Nat) (n:Int) (i:Nat),i<N->nth (dgL b N n) i=dd (nth b i) (rs b N n (N-1-i))
 | 0,_,_,h=>by omega
 | N+1,n,i,h=>by
  simp only[dgL]
  by_cases hi:i<N
  ·rw[nth_append_left _ _ _ (by rw[dgL_length];exact hi),dgL_nth b N _ i hi]
   have:N+1-1-i=(N-1-i)+1:=by omega
   rw[this,rs_next]
  ·have:i=N:=by omega
   subst this
   have h1:=nth_app_r (dgL b i (qt (nth b i) n)) [dd (nth b i) n] 0
   rw[dgL_length,Nat.add_zero] at h1
   rw[h1]
   have:i+1-1-i=0:=by omega
   rw[this]
   rfl
theorem whole (b:List Int):∀ (N:Nat) (n:Int),wrap64 (hv b (dgL b N n) N+pk b N*rs b N n N)=wrap64 n
 | 0,n=>by simp[hv,pk,rs]
 | N+1,n=>by
  have ih:=whole b N (qt (nth b N) n)
  have e:hv b (dgL b (N+1) n) N=hv b (dgL b N (qt (nth b N) n)) N:=
   hv_congr fun i hi=>⟨rfl,by simp only[dgL];exact nth_append_left _ _ _ (by rw[dgL_length];exact hi)⟩
  have e2:nth (dgL b (N+1) n) N=dd (nth b N) n:=by
   rw[dgL_nth b (N+1) n N (by omega)]
   have:N+1-1-N=0:=by omega
   rw[this];rfl
  simp only[hv,pk]
  rw[e,e2,rs_next,<-qd (nth b N) n,<-w_addl (nth b N*qt (nth b N) n),<-w_mulr,<-ih,w_mulr,w_addl]
  congr 1
  grind
def Prp (b d:List Int)(k:Nat):Prop:=∀ i,i<k->1<=nth b i/\0<=nth d i/\nth d i<nth b i
theorem Prp.less {b d:List Int}{k j:Nat}(h:Prp b d k)(hj:j<=k):Prp b d j:=fun i hi=>h i (by omega)
theorem Prp.bd {b d:List Int}:∀ {k:Nat},Prp b d k->0<=hv b d k/\hv b d k<pk b k
 | 0,_=>by simp[hv,pk]
 | k+1,h=>by
  have ih:=Prp.bd (h.less (Nat.le_succ k))
  obtain⟨h1,h2,h3⟩:=h k (by omega)
  simp only[hv,pk]
  have a1:0<=hv b d k*nth b k:=Int.mul_nonneg ih.1 (by omega)
  have a2:(hv b d k+1)*nth b k<=pk b k*nth b k:=Int.mul_le_mul_of_nonneg_right (by omega) (by omega)
  rw[Int.add_mul] at a2
  omega
theorem Prp.ins {b d:List Int}(h:Prp b d b.length)(hl:d.length=b.length):insB b d=true:=(insB_iff hl).mpr fun k hk=>⟨(h k hk).2.1,(h k hk).2.2⟩
def MidC (lo hi:Nat)(W:World)(a:Option Addr)(zs:List Int)(cap:Nat):Prop:=MidInts lo hi W a zs/\zs.length<=cap
section
variable {lo hi : Nat} {W W' : World} {a : Option Addr} {zs : List Int} {cap : Nat}
theorem NewC.midc (h:NewC lo W a zs cap):MidC lo W.heap.size W a zs cap:=⟨h.1.mid,h.2⟩
theorem MidC.go (h:MidC lo hi W a zs cap)(hh:hi<=W.heap.size)(hB:Below W.heap.size W W'):MidC lo hi W' a zs cap:=⟨h.1.bel (hB.mono hh),h.2⟩
theorem MidC.al (h:MidC lo hi W a zs cap)(hh:hi<=W.heap.size)(o:Obj):MidC lo hi (W.alloc o) a zs cap:=⟨h.1.al hh o,h.2⟩
theorem MidC.s1 (h:MidC lo hi W a zs cap){p:Addr}(hp:p.block<lo\/hi<=p.block)(v:Value):MidC lo hi (W.setCell p v) a zs cap:=by
 rcases hp with hp | hp
 ·exact⟨h.1.set hp v,h.2⟩
 ·exact⟨h.1.off hp v,h.2⟩
theorem MidC.s3 (h:MidC lo hi W a zs cap){b:Nat}(hb:b<lo\/hi<=b)(x y z:Value):MidC lo hi (((W.setCell ⟨b,0,none⟩ x).setCell ⟨b,1,none⟩ y).setCell ⟨b,2,none⟩ z) a zs cap:=
 ((h.s1 (p:=⟨b,0,none⟩) hb x).s1 (p:=⟨b,1,none⟩) hb y).s1 (p:=⟨b,2,none⟩) hb z
theorem MidC.is (h:MidC lo hi W a zs cap)(hh:hi<=W.heap.size):IsC W.heap.size W a zs cap:=⟨(h.1.ints).mono hh,h.2⟩
theorem MidC.put {b off:Nat}(h:MidC lo hi W (some ⟨b,off,none⟩) zs cap){i:Nat}(hi':i<zs.length)(x:Int):MidC lo hi (W.setCell ⟨b,off+i,none⟩ (.int .i64 x)) (some ⟨b,off,none⟩) (zs.set i x) cap:=⟨h.1.put hi' x,by rw[List.length_set];exact h.2⟩
theorem MidC.at (h:MidC lo hi W a zs cap){i:Nat}(hi':i<zs.length):∃ b off,a=some ⟨b,off,none⟩/\lo<=b/\b<hi/\W.cell? ⟨b,off+i,none⟩=some (.int .i64 (nth zs i))/\W.frozen? ⟨b,off+i,none⟩=false:=by
 rcases h.1 with e | ⟨b,off,e,h0,hb,hc,hz⟩
 ·rw[e] at hi';cases hi'
 ·exact⟨b,off,e,h0,hb,hc i hi',hz i⟩
theorem lit_mid (w:World)(t:TypeId)(xs:List Int)(n:Nat)(h:xs.length=n):MidC w.heap.size (w.heap.size+1) (w.alloc (.cells (xs.map (Value.int .i64)).toArray t)) (some ⟨w.heap.size,0,none⟩) xs n:=by
 have h0:=(new_lit w t xs).mid
 rw[World.size_alloc] at h0
 exact⟨h0,by omega⟩
end
theorem abx_o3 {w:World}{b:Nat}{x y z:Value}(h:Abx w b x y z){B:Nat}(hb:b≠B)(x' y' z':Value):Abx (((w.setCell ⟨B,0,none⟩ x').setCell ⟨B,1,none⟩ y').setCell ⟨B,2,none⟩ z') b x y z:=
 ((h.ot (a:=⟨B,0,none⟩) hb x').ot (a:=⟨B,1,none⟩) hb y').ot (a:=⟨B,2,none⟩) hb z'
theorem bel_s3 {n:Nat}{w w':World}(h:Below n w w'){B:Nat}(hb:n<=B)(x y z:Value):Below n w (((w'.setCell ⟨B,0,none⟩ x).setCell ⟨B,1,none⟩ y).setCell ⟨B,2,none⟩ z):=
 ((h.setCell (p:=⟨B,0,none⟩) hb x).setCell (p:=⟨B,1,none⟩) hb y).setCell (p:=⟨B,2,none⟩) hb z
def OkL (L:List Int)(w:World)(r:Ending)(w':World):Prop:=∃ g gc,r=.returned (.tuple #[.slice g L.length gc,.nilIface])/\NewC w.heap.size w' g L gc/\Below w.heap.size w w'
def NoL (e:Int)(w:World)(r:Ending)(w':World):Prop:=∃ g gc,r=.returned (.tuple #[.slice g 0 gc,.iface 43 (.int .i64 e)])/\NewC w.heap.size w' g [] gc/\Below w.heap.size w w'
def OkZ (x:Int)(w:World)(r:Ending)(w':World):Prop:=r=.returned (.tuple #[.int .i64 x,.nilIface])/\Below w.heap.size w w'
def NoZ (e:Int)(w:World)(r:Ending)(w':World):Prop:=r=.returned (.tuple #[.int .i64 0,.iface 43 (.int .i64 e)])/\Below w.heap.size w w'
theorem UL.ok {e:Int}{L M:List Int}{w w':World}{r:Ending}(h:e=0/\L=M)(H:UL e (onL e L) w r w'):OkL M w r w':=by
 obtain⟨h0,h1⟩:=h
 subst h0 h1
 exact H
theorem UL.no {e:Int}{L:List Int}{w w':World}{r:Ending}(h:e≠0)(H:UL e (onL e L) w r w'):NoL e w r w':=by
 rw[onL_no h] at H
 obtain⟨g,gc,hr,hN,hB⟩:=H
 exact⟨g,gc,by rw[hr,errV_pos h];rfl,hN,hB⟩
theorem UZ.ok {e x y:Int}{w w':World}{r:Ending}(h:e=0/\x=y)(H:UZ e (onZ e x) w r w'):OkZ y w r w':=by
 obtain⟨h0,h1⟩:=h
 subst h0 h1
 exact H
theorem UZ.no {e x:Int}{w w':World}{r:Ending}(h:e≠0)(H:UZ e (onZ e x) w r w'):NoZ e w r w':=by
 rw[onZ_no h] at H
 exact⟨by rw[H.1,errV_pos h],H.2⟩
def vaE (b d:List Int):Int:=if 4096<b.length then 7 else if d.length≠b.length then 4 else 0
def dgE (b:List Int):Int:=if 4096<b.length then 7 else 0
def vaV (b d:List Int):Int:=wrap64 (hv b d b.length)
def dgV (b:List Int)(n:Int):List Int:=dgL b b.length n
def CVa:Prop:=∀ (a:Option Addr) (cap:Nat) (b:List Int) (a':Option Addr) (cap':Nat) (d:List Int) (w:World),b.length<=9223372036854775807->d.length<=9223372036854775807->IsInts w.heap.size w a b->IsInts w.heap.size w a' d →
 Calls Tryz.prog 136 #[.slice a b.length cap,.slice a' d.length cap'] w (UZ (vaE b d) (onZ (vaE b d) (vaV b d)) w)
def CDg:Prop:=∀ (a:Option Addr) (cap:Nat) (b:List Int) (n:Int) (w:World),b.length<=9223372036854775807->IsInts w.heap.size w a b->(∀ j,In64 (nth b j))->In64 n →
 Calls Tryz.prog 138 #[.slice a b.length cap,.int .i64 n] w (UL (dgE b) (onL (dgE b) (dgV b n)) w)
def oneE (f a:Int):Int:=if f=1\/f=2\/f=3\/f=5 then 0 else if f=17 then (if a=0\/a=1 then 0 else 6) else 1
def oneV (f a:Int):Int:=if f=1 then a else if f=2 then wrap64 (-a) else if f=3 then (if a=0 then 0 else if 0<a then 1 else -1)
 else if f=5 then (if 0<=a then a else wrap64 (-a)) else if f=17 then (if a=0 then 1 else 0) else 0
theorem cyc_self (zs:List Int)(d:Int):cyc zs zs.length d=zs:=by
 refine nth_ext (cyc_length _ _ _) fun j hj=>?_
 rw[cyc_length] at hj
 rw[cyc_nth _ _ _ hj]
 unfold cyA
 rw[if_neg (by omega),Nat.mod_eq_of_lt hj]
theorem errOf_line {n:Nat}(h:n<=4096):errOf [(n:Int)]=0:=by
 refine errOf_zero.2 ⟨by simp,?_,by simp[prod];omega⟩
 intro x hx
 rw[List.mem_singleton] at hx
 omega
theorem prod_line (n:Int):prod [n]=n:=by simp[prod]
theorem flaw_line {c:Bool}{sz dz:List Int}(h:flawE c sz dz=0):flawE c [(dz.length:Int)] dz=0:=by
 have h4:=(flawE_short h).2
 obtain⟨_,_,hc⟩:=flawE_zero h
 have e:=errOf_line h4
 have p:=prod_line (dz.length:Int)
 cases c
 ·exact flawE_okn e p.symm
 ·exact flawE_okc e p.symm (hc rfl)
def e1E (f:Int)(c:Bool)(sz dz:List Int):Int:=if oneE f 0≠0 then oneE f 0 else if flawE c sz dz≠0 then flawE c sz dz else if c=true then 6 else if dz.all (fun x=>oneE f x == 0)=true then 0 else 6
def e1V (f:Int)(dz:List Int):List Int:=dz.map (oneV f)
def tcE (f:Int)(alike:Bool)(a b:Int):Int:=if alike=true then twoE f a b else 0
def tcV (f:Int)(alike:Bool)(a b:Int):Int:=if alike=true then twoV f a b else ifV (decide (f=9))
def shp (sz sz':List Int):List Int:=if sz.length=0 then sz' else sz
def e2F (f:Int)(c:Bool)(sz dz:List Int)(c':Bool)(sz' dz':List Int):Int:=
 if f<1\/16<f then 1 else if flawsE c sz dz c' sz' dz'≠0 then flawsE c sz dz c' sz' dz' else if sz.length≠0/\sz'.length≠0/\sz.length≠sz'.length then 3 else if sz.length≠0/\sz'.length≠0/\sz≠sz' then 4
 else if (c=true\/c'=true)/\f≠8/\f≠9 then 6 else 0
def e2N (sz sz':List Int):Nat:=(prod (shp sz sz')).toNat
def e2C (dz:List Int)(i:Nat):Int:=cyA dz 0 i
def e2O (f:Int)(c:Bool)(sz dz:List Int)(c':Bool)(sz' dz':List Int):Bool:=(List.range (e2N sz sz')).all fun i=>tcE f (c == c') (e2C dz i) (e2C dz' i) == 0
def e2E (f:Int)(c:Bool)(sz dz:List Int)(c':Bool)(sz' dz':List Int):Int:=if e2F f c sz dz c' sz' dz'≠0 then e2F f c sz dz c' sz' dz' else if e2O f c sz dz c' sz' dz'=true then 0 else 6
def e2V (f:Int)(c:Bool)(sz dz:List Int)(c':Bool)(sz' dz':List Int):List Int:=(List.range (e2N sz sz')).map fun i=>tcV f (c == c') (e2C dz i) (e2C dz' i)
structure An where
 e:Int
 c:Bool
 s:List Int
 d:List Int
def anN (e:Int):An:=⟨e,false,[],[]⟩
def anA (c:Bool)(S D:List Int):An:=⟨0,c,S,D⟩
def anE (e:Int)(c:Bool)(S D:List Int):An:=⟨e,onc e c,onl e S,onl e D⟩
theorem anE_no {e:Int}{c:Bool}{S D:List Int}(h:e≠0):anE e c S D=anN e:=by unfold anE;rw[onc_no h,onl_no h,onl_no h];rfl
theorem anE_ok {e:Int}{c:Bool}{S D:List Int}(h:e=0):anE e c S D=anA c S D:=by subst h;rfl
def AnP (A:An)(w:World)(r:Ending)(w':World):Prop:=UB A.e A.c A.s A.d w r w'
abbrev A1:Type:=Bool->List Int->List Int->An
abbrev A2:Type:=Bool->List Int->List Int->Bool->List Int->List Int->An
def six (f:Int):Bool:=decide (1<=f/\f<=16)
def numE (c:Bool)(sz:List Int):Int:=if sz.length=0 then (if c=true then 6 else 0) else 3
def lstE (c:Bool)(sz:List Int):Int:=if sz.length<=1 then (if c=true then 6 else 0) else 3
def lastA (B:Int->A1):A1:=fun c sz dz=>if sz.length=0 then anA c [] dz else B ((sz.length:Int)-1) c sz dz
def byN (B:Int->A1):A2:=fun c sz dz c' sz' dz'=>if numE c sz=0 then B (nth dz 0) c' sz' dz' else anN (numE c sz)
def byL (B:List Int->A1):A2:=fun c sz dz c' sz' dz'=>if lstE c sz=0 then B dz c' sz' dz' else anN (lstE c sz)
def byM (B:List Int->Int->A1):A2:=byL fun m c sz dz=>if sz.length=0 then anN 3 else B m ((sz.length:Int)-1) c sz dz
def axS (sz:List Int):List Int:=if sz.length=0 then [1] else sz
def rvl (n:Nat):List Int:=(List.range n).map fun k:Nat=>(n:Int)-1-(k:Int)
def fiA:A1:=fun c sz dz=>if numE c sz=0 then (if nth dz 0<0 then anN 6 else if 4096<nth dz 0 then anN 7 else anA false [nth dz 0] ((List.range (nth dz 0).toNat).map Int.ofNat)) else anN (numE c sz)
def rvA (x:Int):A1:=fun c sz dz=>anE (axE x c sz dz) c sz (GA sz dz sz (revT sz x.toNat))
def flA:A1:=fun c sz dz=>anE (flE (rvl sz.length) c sz dz) c (axVal sz (rvl sz.length)) (GA sz dz (axVal sz (rvl sz.length)) (flpT (rvl sz.length)))
def liA (L:List Int->List Int->List Int):A1:=fun c sz dz=>anE (gdE c sz dz) false [((L sz dz).length:Int)] (L sz dz)
def p1A (f:Int):A1:=match f.toNat with
 | 18=>fun c sz dz=>anA false [(sz.length:Int)] sz
 | 19=>fun c sz dz=>anA c [(dz.length:Int)] dz
 | 20=>lastA rvA
 | 21=>flA
 | 24=>fiA
 | 26=>liA (gdO false)
 | 27=>liA (gdO true)
 | 28=>fun c sz dz=>anE (nbE c sz dz) c [((nbL dz).length:Int)] (nbL dz)
 | _=>fun c sz dz=>anE (e1E f c sz dz) false sz (e1V f dz)
def joA:A2:=fun c sz dz c' sz' dz'=>anE (jnE ((axS sz).length-1:Nat) c (axS sz) dz c' (axS sz') dz') c (jnS ((axS sz).length-1) (axS sz) (axS sz')) (jnD ((axS sz).length-1) (axS sz) dz (axS sz') dz')
def baB (sz dz dz':List Int):List Int:=if sz.length=0 then List.replicate dz'.length (nth dz 0) else dz
def baA:A2:=fun c sz dz c' sz' dz'=>if lstE c sz=0 then (if lstE c' sz'=0 then anE (vaE (baB sz dz dz') dz') false [] [vaV (baB sz dz dz') dz'] else anN (lstE c' sz')) else anN (lstE c sz)
def diA:A2:=fun c sz dz c' sz' dz'=>if lstE c sz=0 then (if numE c' sz'=0 then anE (dgE dz) false [((dgV dz (nth dz' 0)).length:Int)] (dgV dz (nth dz' 0)) else anN (numE c' sz')) else anN (lstE c sz)
def p2A (f:Int):A2:=match f.toNat with
 | 17=>fun c sz dz c' sz' dz'=>anE (lsE c sz dz c' sz' dz') c [((shD c dz c' dz' false).length:Int)] (shD c dz c' dz' false)
 | 18=>byL fun l c sz dz=>anE (errOf l) c l (cyc dz (prod l).toNat (fillE c))
 | 19=>joA
 | 20=>byN fun n=>lastA fun x c sz dz=>anE (axE x c sz dz) c sz (GA sz dz sz (rotT sz n x.toNat))
 | 22=>byL fun l c sz dz=>anE (tkE l c sz dz) c (tkS l) (tkD l c sz dz)
 | 23=>byL fun l c sz dz=>anE (drE l c sz dz) c (drS sz l) (drD l c sz dz)
 | 24=>fun c sz dz c' sz' dz'=>anE (ixE c sz dz c' sz' dz') false sz' (ixD c dz c' dz')
 | 25=>fun c sz dz c' sz' dz'=>anE (flawsE c sz dz c' sz' dz') false sz (inD c dz c' dz')
 | 28=>fun c sz dz c' sz' dz'=>anE (unE c sz dz c' sz' dz') c [((unD c dz c' dz').length:Int)] (unD c dz c' dz')
 | 29=>fun c sz dz c' sz' dz'=>anE (lsE c sz dz c' sz' dz') c [((shD c dz c' dz' true).length:Int)] (shD c dz c' dz' true)
 | 30=>baA
 | 31=>diA
 | 32=>fun c sz dz c' sz' dz'=>anA false [] [if mtB c sz dz c' sz' dz'=true then 1 else 0]
 | 33=>byM fun m x c sz dz=>anE (kpE m x c sz dz) c (kpS m x.toNat sz) (kpD m x.toNat sz dz)
 | 34=>byM fun m x c sz dz=>anE (spE m x c sz dz) c (spS m x.toNat sz) (spD m x.toNat c sz dz)
 | _=>fun c sz dz c' sz' dz'=>anE (e2E f c sz dz c' sz' dz') false (shp sz sz') (e2V f c sz dz c' sz' dz')
def ArF (W:World)(c:Bool)(sa:Option Addr)(sc:Nat)(sz:List Int)(da:Option Addr)(dc:Nat)(dz:List Int):Prop:=IsC W.heap.size W sa sz sc/\IsC W.heap.size W da dz dc/\(∀ j,In64 (nth dz j))/\flawE c sz dz=0
section
variable {W W' : World} {c : Bool} {sa : Option Addr} {sc : Nat} {sz : List Int} {da : Option Addr} {dc : Nat} {dz : List Int}
theorem ArF.go (h:ArF W c sa sc sz da dc dz)(hB:Below W.heap.size W W'):ArF W' c sa sc sz da dc dz:=⟨(h.1.below hB).mono hB.size,(h.2.1.below hB).mono hB.size,h.2.2⟩
theorem ArF.s6 (h:ArF W c sa sc sz da dc dz):sz.length<=6/\dz.length<=4096:=flawE_short h.2.2.2
theorem ArF.h1 (h:ArF W c sa sc sz da dc dz):sz.length<=9223372036854775807:=by have:=h.s6.1;omega
theorem ArF.h2 (h:ArF W c sa sc sz da dc dz):dz.length<=9223372036854775807:=by have:=h.s6.2;omega
end
theorem cell_lt16 {w:World}{p:Addr}{v:Value}(h:w.cell? p=some v):p.block<w.heap.size:=by
 refine Classical.byContradiction fun hn=>?_
 have e:w.heap[p.block]?=none:=Array.getElem?_eq_none (by omega)
 rw[show w.cell? p=none by simp[World.cell?,e]] at h
 cases h
theorem cell_to16 {w w':World}{p:Addr}{v:Value}(hB:Below w.heap.size w w')(h:w.cell? p=some v):w'.cell? p=some v:=(hB.cell (cell_lt16 h)).trans h
theorem box16 (w:World)(v:Value)(t:TypeId):(w.alloc (.cells #[v] t)).cell? ⟨w.heap.size,0,none⟩=some v:=cell_of_one (MapKept.heap_alloc w _).1
def En (F:Nat):Prop:=∀ args w,(callFunc F args).run Tryz.prog w=.ok (.enter F args) w
def Fu1C (F:Nat)(cs:List Value)(W:World)(A:A1):Prop:=∀ (c:Bool) (sa:Option Addr) (sc:Nat) (sz:List Int) (da:Option Addr) (dc:Nat) (dz:List Int) (w:World),Below W.heap.size W w->ArF w c sa sc sz da dc dz->Calls Tryz.prog F (.agg #[.bool c,.slice sa sz.length sc,.slice da dz.length dc]::cs).toArray w (AnP (A c sz dz) w)
def Fu1 (v:Value)(W:World)(A:A1):Prop:=∃ (F:Nat) (cs:List Value),v=.func (.func F) #[] cs.toArray/\En F/\Fu1C F cs W A
theorem Fu1.go {v:Value}{W W':World}{A:A1}(h:Fu1 v W A)(hB:Below W.heap.size W W'):Fu1 v W' A:=by
 obtain⟨F,cs,e,hE,H⟩:=h
 exact⟨F,cs,e,hE,fun _ _ _ _ _ _ _ w h'=>H _ _ _ _ _ _ _ w (hB.trans (h'.mono hB.size))⟩
def Fu2C (F:Nat)(cs:List Value)(W:World)(A:A2):Prop:=∀ (c:Bool) (sa:Option Addr) (sc:Nat) (sz:List Int) (da:Option Addr) (dc:Nat) (dz:List Int) (c':Bool) (sa':Option Addr) (sc':Nat) (sz':List Int) (da':Option Addr) (dc':Nat) (dz':List Int) (w:World),Below W.heap.size W w->ArF w c sa sc sz da dc dz->ArF w c' sa' sc' sz' da' dc' dz'->Calls Tryz.prog F (.agg #[.bool c,.slice sa sz.length sc,.slice da dz.length dc]::.agg #[.bool c',.slice sa' sz'.length sc',.slice da' dz'.length dc']::cs).toArray w (AnP (A c sz dz c' sz' dz') w)
def Fu2 (v:Value)(W:World)(A:A2):Prop:=∃ (F:Nat) (cs:List Value),v=.func (.func F) #[] cs.toArray/\En F/\Fu2C F cs W A
theorem Fu2.go {v:Value}{W W':World}{A:A2}(h:Fu2 v W A)(hB:Below W.heap.size W W'):Fu2 v W' A:=by
 obtain⟨F,cs,e,hE,H⟩:=h
 exact⟨F,cs,e,hE,fun _ _ _ _ _ _ _ _ _ _ _ _ _ _ w h'=>H _ _ _ _ _ _ _ _ _ _ _ _ _ _ w (hB.trans (h'.mono hB.size))⟩
def FuXC (F:Nat)(cs:List Value)(W:World)(A:Int->A1):Prop:=∀ (x:Int) (c:Bool) (sa:Option Addr) (sc:Nat) (sz:List Int) (da:Option Addr) (dc:Nat) (dz:List Int) (w:World),Below W.heap.size W w->x=(sz.length:Int)-1->sz.length≠0->ArF w c sa sc sz da dc dz->Calls Tryz.prog F (.int .i64 x::.agg #[.bool c,.slice sa sz.length sc,.slice da dz.length dc]::cs).toArray w (AnP (A x c sz dz) w)
def FuX (v:Value)(W:World)(A:Int->A1):Prop:=∃ (F:Nat) (cs:List Value),v=.func (.func F) #[] cs.toArray/\En F/\FuXC F cs W A
theorem FuX.go {v:Value}{W W':World}{A:Int->A1}(h:FuX v W A)(hB:Below W.heap.size W W'):FuX v W' A:=by
 obtain⟨F,cs,e,hE,H⟩:=h
 exact⟨F,cs,e,hE,fun _ _ _ _ _ _ _ _ w h'=>H _ _ _ _ _ _ _ _ w (hB.trans (h'.mono hB.size))⟩
def FuNC (F:Nat)(cs:List Value)(W:World)(A:Int->Int->A1):Prop:=∀ (n x:Int) (c:Bool) (sa:Option Addr) (sc:Nat) (sz:List Int) (da:Option Addr) (dc:Nat) (dz:List Int) (w:World),Below W.heap.size W w->In64 n->x=(sz.length:Int)-1->sz.length≠0->ArF w c sa sc sz da dc dz->Calls Tryz.prog F (.int .i64 n::.int .i64 x::.agg #[.bool c,.slice sa sz.length sc,.slice da dz.length dc]::cs).toArray w (AnP (A n x c sz dz) w)
def FuN (v:Value)(W:World)(A:Int->Int->A1):Prop:=∃ (F:Nat) (cs:List Value),v=.func (.func F) #[] cs.toArray/\En F/\FuNC F cs W A
theorem FuN.go {v:Value}{W W':World}{A:Int->Int->A1}(h:FuN v W A)(hB:Below W.heap.size W W'):FuN v W' A:=by
 obtain⟨F,cs,e,hE,H⟩:=h
 exact⟨F,cs,e,hE,fun _ _ _ _ _ _ _ _ _ w h'=>H _ _ _ _ _ _ _ _ _ w (hB.trans (h'.mono hB.size))⟩
def FuLC (F:Nat)(cs:List Value)(W:World)(A:List Int->A1):Prop:=∀ (la:Option Addr) (lc:Nat) (l:List Int) (c:Bool) (sa:Option Addr) (sc:Nat) (sz:List Int) (da:Option Addr) (dc:Nat) (dz:List Int) (w:World),Below W.heap.size W w->IsC w.heap.size w la l lc->(∀ j,In64 (nth l j))->l.length<=4096->ArF w c sa sc sz da dc dz->Calls Tryz.prog F (.slice la l.length lc::.agg #[.bool c,.slice sa sz.length sc,.slice da dz.length dc]::cs).toArray w (AnP (A l c sz dz) w)
def FuL (v:Value)(W:World)(A:List Int->A1):Prop:=∃ (F:Nat) (cs:List Value),v=.func (.func F) #[] cs.toArray/\En F/\FuLC F cs W A
theorem FuL.go {v:Value}{W W':World}{A:List Int->A1}(h:FuL v W A)(hB:Below W.heap.size W W'):FuL v W' A:=by
 obtain⟨F,cs,e,hE,H⟩:=h
 exact⟨F,cs,e,hE,fun _ _ _ _ _ _ _ _ _ _ w h'=>H _ _ _ _ _ _ _ _ _ _ w (hB.trans (h'.mono hB.size))⟩
def FuMC (F:Nat)(cs:List Value)(W:World)(A:List Int->Int->A1):Prop:=∀ (la:Option Addr) (lc:Nat) (l:List Int) (x:Int) (c:Bool) (sa:Option Addr) (sc:Nat) (sz:List Int) (da:Option Addr) (dc:Nat) (dz:List Int) (w:World),Below W.heap.size W w->IsC w.heap.size w la l lc->(∀ j,In64 (nth l j))->l.length<=4096->x=(sz.length:Int)-1->sz.length≠0->ArF w c sa sc sz da dc dz->Calls Tryz.prog F (.slice la l.length lc::.int .i64 x::.agg #[.bool c,.slice sa sz.length sc,.slice da dz.length dc]::cs).toArray w (AnP (A l x c sz dz) w)
def FuM (v:Value)(W:World)(A:List Int->Int->A1):Prop:=∃ (F:Nat) (cs:List Value),v=.func (.func F) #[] cs.toArray/\En F/\FuMC F cs W A
theorem FuM.go {v:Value}{W W':World}{A:List Int->Int->A1}(h:FuM v W A)(hB:Below W.heap.size W W'):FuM v W' A:=by
 obtain⟨F,cs,e,hE,H⟩:=h
 exact⟨F,cs,e,hE,fun _ _ _ _ _ _ _ _ _ _ _ w h'=>H _ _ _ _ _ _ _ _ _ _ _ w (hB.trans (h'.mono hB.size))⟩
def Mk1 (A:A1)(w:World)(r:Ending)(w':World):Prop:=∃ v,r=.returned v/\Fu1 v w' A/\Below w.heap.size w w'
def Mk2 (A:A2)(w:World)(r:Ending)(w':World):Prop:=∃ v,r=.returned v/\Fu2 v w' A/\Below w.heap.size w w'
theorem ent1 (w:World)(x y z:Value):Hid (Below w.heap.size w ((w.alloc (.cells #[x,y,z] 24)).alloc (.cells #[.bool false,.slice none 0 0,.slice none 0 0] 24)))/\Hid (Abx ((w.alloc (.cells #[x,y,z] 24)).alloc (.cells #[.bool false,.slice none 0 0,.slice none 0 0] 24)) w.heap.size x y z)/\Hid (Abx ((w.alloc (.cells #[x,y,z] 24)).alloc (.cells #[.bool false,.slice none 0 0,.slice none 0 0] 24)) (w.heap.size+1) (.bool false) (.slice none 0 0) (.slice none 0 0)):=
 ⟨((Below.refl _ w).alloc (Nat.le_refl _) _).alloc (by simp) _,(Abx.new w x y z).al _,Abx.new1 w _ _ _ _⟩
theorem ent2 (w:World)(x y z x' y' z':Value):Hid (Below w.heap.size w (((w.alloc (.cells #[x,y,z] 24)).alloc (.cells #[x',y',z'] 24)).alloc (.cells #[.bool false,.slice none 0 0,.slice none 0 0] 24)))/\Hid (Abx (((w.alloc (.cells #[x,y,z] 24)).alloc (.cells #[x',y',z'] 24)).alloc (.cells #[.bool false,.slice none 0 0,.slice none 0 0] 24)) w.heap.size x y z) ∧
  Hid (Abx (((w.alloc (.cells #[x,y,z] 24)).alloc (.cells #[x',y',z'] 24)).alloc (.cells #[.bool false,.slice none 0 0,.slice none 0 0] 24)) (w.heap.size+1) x' y' z')/\Hid (Abx (((w.alloc (.cells #[x,y,z] 24)).alloc (.cells #[x',y',z'] 24)).alloc (.cells #[.bool false,.slice none 0 0,.slice none 0 0] 24)) (w.heap.size+1+1) (.bool false) (.slice none 0 0) (.slice none 0 0)):=by
 refine⟨(((Below.refl _ w).alloc (Nat.le_refl _) _).alloc (by simp) _).alloc (by simp;omega) _,((Abx.new w x y z).al _).al _,(Abx.new1 w _ _ _ _).al _,?_⟩
 have:=Abx.new1 (w.alloc (.cells #[x,y,z] 24)) (.cells #[x',y',z'] 24) (.bool false) (.slice none 0 0) (.slice none 0 0)
 rwa [World.size_alloc] at this
theorem ret16 {A:An}{w w0 v:World}{b:Nat}{xa:Option Addr}{xc:Nat}{ya:Option Addr}{yc:Nat}{E:Value}(h1:w.heap.size<=b)(h2:b<w0.heap.size)(hb:Below w.heap.size w w0)(hX:NewC w0.heap.size v xa A.s xc)(hY:NewC w0.heap.size v ya A.d yc)(hB:Below w0.heap.size w0 v)(hE:errV A.e=E)(x y z:Value):
  AnP A w (.returned (.tuple #[.agg #[.bool A.c,.slice xa A.s.length xc,.slice ya A.d.length yc],E])) (((v.setCell ⟨b,0,none⟩ x).setCell ⟨b,1,none⟩ y).setCell ⟨b,2,none⟩ z):=by
 subst hE
 have hs:=hb.size
 exact⟨xa,xc,ya,yc,rfl,(hX.set3 h2 x y z).low hs,(hY.set3 h2 x y z).low hs,bel_set3 (hb.trans (hB.mono hs)) h1 x y z⟩
theorem err16 {A:An}{w v:World}{b:Nat}{e:Int}(hA:A=anN e)(he:e≠0)(h1:w.heap.size<=b)(hb:Below w.heap.size w v)(x y z:Value):
  AnP A w (.returned (.tuple #[.agg #[.bool false,.slice none 0 0,.slice none 0 0],.iface 43 (.int .i64 e)])) (((v.setCell ⟨b,0,none⟩ x).setCell ⟨b,1,none⟩ y).setCell ⟨b,2,none⟩ z):=by
 subst hA
 refine⟨none,0,none,0,?_,⟨.inl rfl,Nat.le_refl _⟩,⟨.inl rfl,Nat.le_refl _⟩,bel_set3 hb h1 x y z⟩
 show _=Ending.returned (.tuple #[.agg #[.bool false,.slice none 0 0,.slice none 0 0],errV e])
 rw[errV_pos he]
theorem eqi_fun {P:Program}(d:Nat){t:TypeId}{a b:Array TypeId}{c:Bool}(h:P.underlying t=some (.func a b c))(F:Fn)(x y:Array Value)(w:World):(Op.equalIn (d+1) t (.func F x y) .nilFunc).run P w=.ok false w:=by
 simp[Op.equalIn,run_underlying h]
theorem eqo_fun {P:Program}{t:TypeId}{a b:Array TypeId}{c:Bool}(h:P.underlying t=some (.func a b c))(F:Fn)(x y:Array Value)(w:World):(Op.equal t (.func F x y) .nilFunc).run P w=.ok false w:=eqi_fun 9999 h F x y w
theorem eqn_fun {P:Program}{t:TypeId}{a b:Array TypeId}{c:Bool}(h:P.underlying t=some (.func a b c))(F:Fn)(x y:Array Value)(w:World):(binOp .eql t (.func F x y) .nilFunc).run P w=.ok (.bool false) w:=by
 simp only[binOp]
 simp[eqo_fun h F x y w]
end Go.Proofs.YtkmmkcpfhnifhaaGreat
