/- What the program tells, in part. -/
import Derived.WalkKit
import Derived.OpenShut
import Derived.Test.YtkmmkcpfhnifhaaGreatChecked
import Derived.RangeFuncNested
import Derived.RangeFuncBound
import Derived.Shelf.RegionOpen
import Derived.OwnWalkIn
import Derived.LoopNIn
import Derived.LoopIn
import Derived.Deep.OwnRows
import Derived.Deep.Strs
import Derived.ProofKit
import Derived.ShutString
import Derived.OrdersHeld
import Derived.Deep.RegionWith
import Derived.Maps.AppendAt
set_option linter.unusedVariables false
set_option maxHeartbeats 2000000
set_option maxRecDepth 100000
namespace Go.Proofs.YtkmmkcpfhnifhaaGreat
open Go.RowKit
theorem w_small {n:Int}(h1:-9223372036854775808<=n)(h2:n<=9223372036854775807):wrap64 n=n:=by unfold wrap64;omega
theorem w_ex (n:Int):∃ k,wrap64 n=n+18446744073709551616*k:=⟨-((n+9223372036854775808)/18446744073709551616),by unfold wrap64;omega⟩
theorem w_cg {a b:Int}(k:Int)(h:a-b=18446744073709551616*k):wrap64 a=wrap64 b:=by unfold wrap64;omega
theorem w_addl (a b:Int):wrap64 (wrap64 a+b)=wrap64 (a+b):=by unfold wrap64;omega
theorem w_addr (a b:Int):wrap64 (a+wrap64 b)=wrap64 (a+b):=by unfold wrap64;omega
theorem w_mull (a b:Int):wrap64 (wrap64 a*b)=wrap64 (a*b):=by
 obtain⟨k,hk⟩:=w_ex a
 rw[hk]
 exact w_cg (k*b) (by grind)
theorem w_mulr (a b:Int):wrap64 (a*wrap64 b)=wrap64 (a*b):=by rw[Int.mul_comm,w_mull,Int.mul_comm]
theorem fmod_is (a b:Int):a-b*a.fdiv b=a.fmod b:=by have:=Int.fmod_add_mul_fdiv a b;omega
theorem fmod_pos {a b:Int}(hb:0<b):0<=a.fmod b/\a.fmod b<b:=⟨Int.fmod_nonneg_of_pos a hb,Int.fmod_lt_of_pos a hb⟩
theorem fmod_neg {a b:Int}(hb:b<0):a.fmod b<=0/\b<a.fmod b:=by
 have h:=fmod_pos (a:=-a) (b:=-b) (by omega)
 rw[Int.neg_fmod_neg] at h
 omega
def bandV (a b:Int):Int:=Go.bits .and .i64 a b
def borV (a b:Int):Int:=Go.bits .or .i64 a b
def ifV (t:Bool):Int:=if t then 1 else 0
def powV (a b:Int):Int:=wrap64 (a ^ b.toNat)
def divV (a b:Int):Int:=wrap64 (a.fdiv b)
def twoE (f a b:Int):Int:=if f<1\/16<f then 1 else if f=4/\b=0 then 6 else if f=16/\b<0 then 6 else 0
def twoV (f a b:Int):Int:=
 if f=1 then wrap64 (a+b) else if f=2 then wrap64 (a-b) else if f=3 then wrap64 (a*b)
 else if f=4 then (if b=0 then 0 else divV a b) else if f=5 then b.fmod a
 else if f=6 then max a b else if f=7 then min a b
 else if f=8 then ifV (a == b) else if f=9 then ifV (a != b) else if f=10 then ifV (decide (a<b)) else if f=11 then ifV (decide (a<=b))
 else if f=12 then ifV (decide (b<=a)) else if f=13 then ifV (decide (b<a)) else if f=14 then bandV a b else if f=15 then borV a b
 else if f=16 then (if b<0 then 0 else powV a b) else 0
def In64 (a:Int):Prop:=-9223372036854775808<=a/\a<=9223372036854775807
theorem In64.wf {a:Int}(h:(Lit.int .i64 a).wf=true):In64 a:=bounds_i64 h
theorem In64.same {n:Int}(h:In64 n):wrap64 n=n:=w_small h.1 h.2
theorem In64.fmod {a b:Int}(ha:In64 a)(hb:In64 b):In64 (b.fmod a):=by
 unfold In64 at *
 by_cases h0:a=0
 ·subst h0;rw[Int.fmod_zero];exact hb
 ·by_cases h1:0<a
  ·have:=fmod_pos (a:=b) h1;omega
  ·have:=fmod_neg (a:=b) (b:=a) (by omega);omega
theorem tv1 (a b:Int):twoV 1 a b=wrap64 (a+b):=by simp[twoV]
theorem tv3 (a b:Int):twoV 3 a b=wrap64 (a*b):=by simp[twoV]
theorem tv6 (a b:Int):twoV 6 a b=max a b:=by simp[twoV]
theorem tv7 (a b:Int):twoV 7 a b=min a b:=by simp[twoV]
theorem tv14 (a b:Int):twoV 14 a b=bandV a b:=by simp[twoV]
theorem tv15 (a b:Int):twoV 15 a b=borV a b:=by simp[twoV]
theorem te0 {f a b:Int}(h1:1<=f)(h2:f<=16)(h3:f=4->b≠0)(h4:f=16->¬ b<0):twoE f a b=0:=by
 unfold twoE
 rw[if_neg (by omega),if_neg (fun h=>h3 h.1 h.2),if_neg (fun h=>h4 h.1 h.2)]
open Go.RowKit
def errV (e:Int):Value:=if e=0 then .nilIface else .iface 43 (.int .i64 e)
theorem errV_zero:errV 0=.nilIface:=rfl
theorem errV_pos {e:Int}(h:e≠0):errV e=.iface 43 (.int .i64 e):=by simp[errV,h]
theorem ret2 {a b:Int}{v u:Value}(h:a=b)(h2:v=u):Ending.returned (.tuple #[.int .i64 a,v])=.returned (.tuple #[.int .i64 b,u]):=by rw[h,h2]
theorem ret_bool {a b:Bool}(h:a=b):Ending.returned (.bool a)=.returned (.bool b):=by rw[h]
theorem bel_drewN {B:Nat}{a w:World}(h:Below B a w)(n:Nat):Below B a (w.drewN n):=⟨h.os,h.tape,h.output,h.size,h.block⟩
open Go.RowKit
def nth (zs:List Int)(j:Nat):Int:=zs.getD j 0
theorem nth_zero (x:Int)(r:List Int):nth (x::r) 0=x:=rfl
theorem nth_succ (x:Int)(r:List Int)(j:Nat):nth (x::r) (j+1)=nth r j:=by simp[nth]
theorem nth_nil (j:Nat):nth [] j=0:=by simp[nth]
theorem nth_get (zs:List Int)(j:Nat)(h:j<zs.length):nth zs j=zs[j]:=by simp[nth,h]
theorem nth_mem (zs:List Int)(j:Nat)(h:j<zs.length):nth zs j∈zs:=by rw[nth_get zs j h];exact List.getElem_mem h
theorem drop_nth (zs:List Int)(j:Nat)(h:j<zs.length):zs.drop j=nth zs j::zs.drop (j+1):=by
 rw[nth_get zs j h];exact List.drop_eq_getElem_cons h
theorem nth_ext {a b:List Int}(hl:a.length=b.length)(h:∀ j,j<a.length->nth a j=nth b j):a=b:=by
 apply List.ext_getElem hl
 intro i h1 h2
 have:=h i h1
 rwa [nth_get a i h1,nth_get b i h2] at this
theorem nth_set (zs:List Int)(i j:Nat)(v:Int)(h:i<zs.length):nth (zs.set i v) j=if j=i then v else nth zs j:=by
 by_cases e:j=i
 ·subst e;simp[nth,h]
 ·simp[nth,e,Ne.symm e]
theorem nth_append_left (a b:List Int)(j:Nat)(h:j<a.length):nth (a++b) j=nth a j:=by simp[nth,List.getElem?_append,h]
theorem nth_take (zs:List Int)(n j:Nat)(h:j<n):nth (zs.take n) j=nth zs j:=by simp[nth,h]
def bad:List Int->Int
 | []=>0
 | x::r=>if x<0 then 4 else if 4096<x then 7 else bad r
def prod:List Int->Int
 | []=>1
 | x::r=>x*prod r
def clp:List Int->Int
 | []=>1
 | x::r=>min (clp r*x) 4097
def errOf (s:List Int):Int:=if 6<s.length then 3 else if bad s≠0 then bad s else if 4096<prod s then 7 else 0
def cntOf (s:List Int):Int:=if errOf s=0 then prod s else 0
def AllIn (s:List Int):Prop:=∀ x∈s,0<=x/\x<=4096
theorem AllIn.nth {s:List Int}(h:AllIn s)(j:Nat):0<=nth s j/\nth s j<=4096:=by
 by_cases hj:j<s.length
 ·exact h _ (nth_mem s j hj)
 ·have:Go.Proofs.YtkmmkcpfhnifhaaGreat.nth s j=0:=by simp[Go.Proofs.YtkmmkcpfhnifhaaGreat.nth,Nat.le_of_not_lt hj]
  omega
theorem bad_iff (s:List Int):bad s=0 ↔ AllIn s:=by
 induction s with
 | nil=>simp[bad,AllIn]
 | cons x r ih=>
  simp only[bad,AllIn,List.mem_cons,forall_eq_or_imp]
  by_cases h1:x<0
  ·simp[h1];omega
  ·by_cases h2:4096<x
   ·simp[h1,h2];omega
   ·simp only[h1,h2,if_false,ih]
    exact⟨fun h=>⟨⟨by omega,by omega⟩,h⟩,fun h=>h.2⟩
theorem AllIn.tail {x:Int}{r:List Int}(h:AllIn (x::r)):AllIn r:=fun y hy=>h y (List.mem_cons_of_mem _ hy)
theorem AllIn.drop {s:List Int}(h:AllIn s)(j:Nat):AllIn (s.drop j):=fun y hy=>h y (List.mem_of_mem_drop hy)
theorem prod_nonneg {s:List Int}(h:AllIn s):0<=prod s:=by
 induction s with
 | nil=>simp[prod]
 | cons x r ih=>exact Int.mul_nonneg (h x List.mem_cons_self).1 (ih h.tail)
theorem clp_eq {s:List Int}(h:AllIn s):clp s=min (prod s) 4097:=by
 induction s with
 | nil=>simp only[clp,prod];omega
 | cons x r ih=>
  have hx:=h x List.mem_cons_self
  have hp:=prod_nonneg h.tail
  simp only[clp,prod,ih h.tail]
  by_cases hc:prod r<=4097
  ·rw[Int.min_eq_left hc,Int.mul_comm]
  ·rw[show min (prod r) 4097=4097 from by omega]
   by_cases h0:x=0
   ·subst h0;simp only[Int.mul_zero,Int.zero_mul]
   ·have e1:4097*1<=4097*x:=Int.mul_le_mul_of_nonneg_left (by omega) (by omega)
    have e2:4097*1<=prod r*x:=Int.mul_le_mul (by omega) (by omega) (by omega) (by omega)
    have e3:4097<=x*prod r:=by rw[Int.mul_comm];omega
    omega
theorem clp_bd {s:List Int}(h:AllIn s):0<=clp s/\clp s<=4097:=by
 rw[clp_eq h];have:=prod_nonneg h;omega
theorem errOf_zero {s:List Int}:errOf s=0 ↔ s.length<=6/\AllIn s/\prod s<=4096:=by
 unfold errOf
 by_cases h1:6<s.length
 ·rw[if_pos h1];exact⟨fun h=>absurd h (by decide),fun h=>by omega⟩
 ·rw[if_neg h1]
  by_cases h2:bad s=0
  ·rw[if_neg (by simpa using h2)]
   have:=(bad_iff s).1 h2
   by_cases h3:4096<prod s
   ·rw[if_pos h3];exact⟨fun h=>absurd h (by decide),fun h=>by omega⟩
   ·rw[if_neg h3];exact⟨fun _=>⟨by omega,this,by omega⟩,fun _=>rfl⟩
  ·rw[if_pos h2]
   exact⟨fun h=>absurd h h2,fun h=>absurd ((bad_iff s).2 h.2.1) h2⟩
theorem cntOf_ok {s:List Int}(h:errOf s=0):cntOf s=prod s:=by simp[cntOf,h]
def place:List Int->List Int->Int
 | _::s,a::t=>a*prod s+place s t
 | _,_=>0
def insB:List Int->List Int->Bool
 | x::s,a::t=>decide (0<=a/\a<x) && insB s t
 | [],[]=>true
 | _,_=>false
def plErr (s t:List Int):Int:=if errOf s≠0 then errOf s else if t.length≠s.length then 3 else if insB s t=true then 0 else 5
theorem insB_len:∀ {s t:List Int},insB s t=true->t.length=s.length
 | [],[],_=>rfl
 | [],_::_,h=>by simp[insB] at h
 | _::_,[],h=>by simp[insB] at h
 | _::s,_::t,h=>by simp only[insB,Bool.and_eq_true] at h;simp[insB_len h.2]
theorem insB_iff:∀ {s t:List Int},t.length=s.length->(insB s t=true ↔ ∀ k,k<s.length->0<=nth t k/\nth t k<nth s k)
 | [],[],_=>by simp[insB]
 | [],_::_,h=>by simp at h
 | _::_,[],h=>by simp at h
 | x::s,a::t,h=>by
  simp only[insB,Bool.and_eq_true,decide_eq_true_eq]
  rw[insB_iff (s:=s) (t:=t) (by simpa using h)]
  constructor
  ·rintro ⟨h1,h2⟩ k hk
   cases k with
   | zero=>exact h1
   | succ k=>rw[nth_succ,nth_succ];exact h2 k (by simpa using hk)
  ·intro h3
   exact⟨h3 0 (by simp),fun k hk=>by have:=h3 (k+1) (by simpa using hk);rwa [nth_succ,nth_succ] at this⟩
theorem place_bd:∀ {s t:List Int},insB s t=true->0<=place s t/\place s t<prod s
 | [],[],_=>by simp[place,prod]
 | [],_::_,h=>by simp[insB] at h
 | _::_,[],h=>by simp[insB] at h
 | x::s,a::t,h=>by
  simp only[insB,Bool.and_eq_true,decide_eq_true_eq] at h
  have ih:=place_bd h.2
  simp only[place,prod]
  have h1:0<=a*prod s:=Int.mul_nonneg h.1.1 (by omega)
  have h2:(a+1)*prod s<=x*prod s:=Int.mul_le_mul_of_nonneg_right (by omega) (by omega)
  rw[Int.add_mul] at h2
  omega
def crd:List Int->Int->List Int × Int
 | [],p=>([],p)
 | x::s,p=>(((crd s p).2.tmod x)::(crd s p).1,(crd s p).2.tdiv x)
theorem crd_len:∀ (s:List Int) (p:Int),(crd s p).1.length=s.length
 | [],_=>rfl
 | _::s,p=>by simp[crd,crd_len s p]
def AllPos (s:List Int):Prop:=∀ x∈s,0<x
theorem AllPos.tail {x:Int}{r:List Int}(h:AllPos (x::r)):AllPos r:=fun y hy=>h y (List.mem_cons_of_mem _ hy)
theorem crd_fact:∀ {s:List Int} {p:Int},AllPos s->0<=p->0<=(crd s p).2/\(crd s p).2<=p/\insB s (crd s p).1=true/\p=(crd s p).2*prod s+place s (crd s p).1
 | [],p,_,h=>by simp[crd,insB,prod,place];omega
 | x::s,p,hs,h=>by
  obtain⟨h1,h2,h3,h4⟩:=crd_fact hs.tail h
  have hx:=hs x List.mem_cons_self
  simp only[crd,insB,prod,place,Bool.and_eq_true,decide_eq_true_eq]
  have em:=Int.tmod_nonneg x h1
  have el:=Int.tmod_lt_of_pos (crd s p).2 hx
  have ed:=Int.tmod_add_mul_tdiv (crd s p).2 x
  have eq:0<=(crd s p).2.tdiv x:=Int.tdiv_nonneg h1 (by omega)
  refine⟨eq,?_,⟨⟨em,el⟩,h3⟩,?_⟩
  ·have:1*(crd s p).2.tdiv x<=x*(crd s p).2.tdiv x:=Int.mul_le_mul_of_nonneg_right (by omega) eq
   omega
  ·have e5:(crd s p).2.tdiv x*(x*prod s)+(crd s p).2.tmod x*prod s=(crd s p).2*prod s:=by
    rw[<-Int.mul_assoc,<-Int.add_mul,Int.mul_comm ((crd s p).2.tdiv x) x,Int.add_comm,ed]
   rw[<-Int.add_assoc,e5];exact h4
theorem allPos_of_prod {s:List Int}(h:AllIn s)(hp:0<prod s):AllPos s:=by
 induction s with
 | nil=>intro x hx;cases hx
 | cons x r ih=>
  have hx:=h x List.mem_cons_self
  have hr:=prod_nonneg h.tail
  simp only[prod] at hp
  have h0:x≠0:=by rintro rfl;simp at hp
  have h1:prod r≠0:=by intro e;rw[e] at hp;simp at hp
  intro y hy
  rcases List.mem_cons.1 hy with rfl | hy
  ·omega
  ·exact ih h.tail (by omega) y hy
def atErr (s:List Int)(p:Int):Int:=if errOf s≠0 then errOf s else if p<0\/prod s<=p then 5 else 0
def atVal (s:List Int)(p:Int):List Int:=if atErr s p=0 then (crd s p).1 else []
theorem atErr_zero {s:List Int}{p:Int}:atErr s p=0 ↔ errOf s=0/\0<=p/\p<prod s:=by
 unfold atErr
 by_cases h:errOf s=0
 ·rw[if_neg (by simpa using h)]
  by_cases h2:p<0\/prod s<=p
  ·rw[if_pos h2];exact⟨fun h=>absurd h (by decide),fun h=>by omega⟩
  ·rw[if_neg h2];exact⟨fun _=>⟨h,by omega,by omega⟩,fun _=>rfl⟩
 ·rw[if_pos h];exact⟨fun e=>absurd e h,fun e=>absurd e.1 h⟩
theorem plErr_zero {s t:List Int}:plErr s t=0 ↔ errOf s=0/\insB s t=true:=by
 unfold plErr
 by_cases h:errOf s=0
 ·rw[if_neg (by simpa using h)]
  by_cases h1:t.length=s.length
  ·rw[if_neg (by simpa using h1)]
   cases h2:insB s t<;>simp[h]
  ·rw[if_pos h1];exact⟨fun e=>absurd e (by decide),fun e=>absurd (insB_len e.2) h1⟩
 ·rw[if_pos h];exact⟨fun e=>absurd e h,fun e=>absurd e.1 h⟩
theorem atVal_ok {s:List Int}{p:Int}(h:atErr s p=0):atVal s p=(crd s p).1:=by simp[atVal,h]
theorem at_back {s:List Int}{p:Int}(h:atErr s p=0):plErr s (atVal s p)=0/\place s (atVal s p)=p:=by
 have h':=atErr_zero.1 h
 have he:=errOf_zero.1 h'.1
 obtain⟨h1,h2,h3,h4⟩:=crd_fact (allPos_of_prod he.2.1 (by omega)) h'.2.1
 rw[atVal_ok h]
 refine⟨plErr_zero.2 ⟨h'.1,h3⟩,?_⟩
 have hb:=place_bd h3
 by_cases e:(crd s p).2=0
 ·rw[e] at h4;omega
 ·have:1*prod s<=(crd s p).2*prod s:=Int.mul_le_mul_of_nonneg_right (by omega) (by omega)
  omega
theorem place_inj:∀ {s t u:List Int},insB s t=true->insB s u=true->place s t=place s u->t=u
 | [],[],[],_,_,_=>rfl
 | [],_::_,_,h,_,_=>by simp[insB] at h
 | [],_,_::_,_,h,_=>by simp[insB] at h
 | _::_,[],_,h,_,_=>by simp[insB] at h
 | _::_,_,[],_,h,_=>by simp[insB] at h
 | x::s,a::t,b::u,h1,h2,h3=>by
  simp only[insB,Bool.and_eq_true,decide_eq_true_eq] at h1 h2
  have e1:=place_bd h1.2
  have e2:=place_bd h2.2
  simp only[place] at h3
  have hab:a=b:=by
   by_cases hl:a<b
   ·have:(a+1)*prod s<=b*prod s:=Int.mul_le_mul_of_nonneg_right (by omega) (by omega)
    rw[Int.add_mul] at this;omega
   ·by_cases hg:b<a
    ·have:(b+1)*prod s<=a*prod s:=Int.mul_le_mul_of_nonneg_right (by omega) (by omega)
     rw[Int.add_mul] at this;omega
    ·omega
  subst hab
  rw[place_inj h1.2 h2.2 (by omega)]
theorem pl_back {s t:List Int}(h:plErr s t=0):atErr s (place s t)=0/\atVal s (place s t)=t/\0<=place s t/\place s t<prod s:=by
 have h':=plErr_zero.1 h
 have hb:=place_bd h'.2
 have ha:atErr s (place s t)=0:=atErr_zero.2 ⟨h'.1,hb.1,hb.2⟩
 refine⟨ha,?_,hb⟩
 have hk:=at_back ha
 exact place_inj (plErr_zero.1 hk.1).2 h'.2 hk.2
theorem prod_append (s t:List Int):prod (s++t)=prod s*prod t:=by
 induction s with
 | nil=>simp[prod]
 | cons x r ih=>simp[prod,ih,Int.mul_assoc]
theorem insB_append:∀ {s a:List Int} {t b:List Int},a.length=s.length->insB (s++t) (a++b)=true->insB s a=true/\insB t b=true
 | [],[],_,_,_,h=>⟨by simp[insB],by simpa using h⟩
 | [],_::_,_,_,h,_=>by simp at h
 | _::_,[],_,_,h,_=>by simp at h
 | x::s,y::a,t,b,h,h2=>by
  simp only[List.cons_append,insB,Bool.and_eq_true,decide_eq_true_eq] at h2 ⊢
  have ih:=insB_append (s:=s) (a:=a) (by simpa using h) h2.2
  exact⟨⟨h2.1,ih.1⟩,ih.2⟩
theorem place_append:∀ {s a:List Int} (t b:List Int),a.length=s.length->place (s++t) (a++b)=place s a*prod t+place t b
 | [],[],_,_,_=>by simp[place]
 | [],_::_,_,_,h=>by simp at h
 | _::_,[],_,_,h=>by simp at h
 | x::s,y::a,t,b,h=>by
  simp only[List.cons_append,place,prod_append,place_append (s:=s) (a:=a) t b (by simpa using h),Int.add_mul,Int.mul_assoc,Int.add_assoc]
abbrev Ax (len:Nat):Type:={ j:Nat // j<len }
def dn (len:Nat):Nat->List (Ax len)
 | 0=>[]
 | k+1=>if h:len-1-k<len then dn len k++[⟨len-1-k,h⟩] else dn len k
theorem dn_succ (len k:Nat)(h:k<len):dn len (k+1)=dn len k++[⟨len-1-k,by omega⟩]:=by
 have:len-1-k<len:=by omega
 simp[dn,this]
theorem dn_length (len:Nat):∀ k,k<=len->(dn len k).length=k
 | 0,_=>rfl
 | k+1,h=>by rw[dn_succ len k (by omega),List.length_append,dn_length len k (by omega)];rfl
theorem fold_dn {σ:Type}(len:Nat)(step:σ->Ax len->σ)(G:Nat->σ)(h:∀ k (hk:k<len),step (G (k+1)) ⟨k,hk⟩=G k):
  ∀ k,k<=len->(dn len k).foldl step (G len)=G (len-k)
 | 0,_=>by simp[dn]
 | k+1,hk=>by
  rw[dn_succ len k (by omega),List.foldl_append,fold_dn len step G h k (by omega)]
  simp only[List.foldl_cons,List.foldl_nil]
  have e:len-k=(len-1-k)+1:=by omega
  rw[e,h (len-1-k) (by omega)]
  congr 1
  omega
open Go.RowKit
def IsInts (n₀:Nat)(W:World)(a:Option Addr)(zs:List Int):Prop:=
 zs=[]\/∃ b off,a=some ⟨b,off,none⟩/\b<n₀/\∀ j,j<zs.length->W.cell? ⟨b,off+j,none⟩=some (.int .i64 (nth zs j))
theorem IsInts.below {n₀:Nat}{A B:World}(h:Below n₀ A B){a:Option Addr}{zs:List Int}:IsInts n₀ A a zs->IsInts n₀ B a zs
 | .inl e=>.inl e
 | .inr ⟨b,off,e,hb,hc⟩=>.inr ⟨b,off,e,hb,fun j hj=>(h.cell (p:=⟨b,off+j,none⟩) hb).trans (hc j hj)⟩
theorem IsInts.mono {n₀ n₁:Nat}{A:World}(h:n₀<=n₁){a:Option Addr}{zs:List Int}:IsInts n₀ A a zs->IsInts n₁ A a zs
 | .inl e=>.inl e
 | .inr ⟨b,off,e,hb,hc⟩=>.inr ⟨b,off,e,by omega,hc⟩
theorem IsInts.at {n₀:Nat}{A:World}{a:Option Addr}{zs:List Int}{q:Nat}(h:IsInts n₀ A a zs)(hq:q<zs.length):
  ∃ b off,a=some ⟨b,off,none⟩/\b<n₀/\∀ j,j<zs.length->A.cell? ⟨b,off+j,none⟩=some (.int .i64 (nth zs j)):=by
 rcases h with e | h
 ·rw[e] at hq;cases hq
 ·exact h
theorem int_eq {k:IntKind}{a b:Int}(h:a=b):Value.int k a=.int k b:=by rw[h]
theorem ret_int {k:IntKind}{a b:Int}(h:a=b):Ending.returned (.int k a)=.returned (.int k b):=by rw[h]
open Go.RowKit Go.Shelf
attribute [local go_sem] Oper.semAt_some
def Kpt (n₀ Bs:Nat)(W W':World):Prop:=∀ k,k<n₀\/k=Bs->W'.heap[k]?=W.heap[k]?
theorem Kpt.refl (n₀ Bs:Nat)(W:World):Kpt n₀ Bs W W:=fun _ _=>rfl
theorem Kpt.trans {n₀ Bs:Nat}{A B C:World}(h:Kpt n₀ Bs A B)(k:Kpt n₀ Bs B C):Kpt n₀ Bs A C:=fun i hi=>(k i hi).trans (h i hi)
theorem kpt_b {n₀ Bs:Nat}{w:World}(hn:n₀<=w.heap.size)(hB:Bs<w.heap.size)(W:World)(l:Nat)(o o':Obj)(hl:w.heap.size<=l)(_:W.heap[l]?=some o)(_:o.isCells=false)(_:o.isWalk=false):Kpt n₀ Bs W (W.putObj l o'):=
 fun k hk=>World.putObj_heap_other (by omega)
theorem Kpt.setCell {n₀ Bs b:Nat}(W:World)(o:Nat)(v:Value)(h:n₀<=b)(hB:b≠Bs):Kpt n₀ Bs W (W.setCell ⟨b,o,none⟩ v):=
 fun k hk=>Below.heap_setCell W _ v k (by simp only;omega)
theorem Kpt.drew {n₀ Bs:Nat}{A B:World}(h:Kpt n₀ Bs A B):Kpt n₀ Bs A B.drew:=h
theorem Kpt.set {n₀ Bs b:Nat}{A B:World}(k:Kpt n₀ Bs A B)(o:Nat)(v:Value)(h:n₀<=b)(hB:b≠Bs):Kpt n₀ Bs A (B.setCell ⟨b,o,none⟩ v):=k.trans (Kpt.setCell B o v h hB)
theorem IsInts.kept {n₀ Bs:Nat}{A B:World}(h:Kpt n₀ Bs A B){a:Option Addr}{zs:List Int}:IsInts n₀ A a zs->IsInts n₀ B a zs
 | .inl e=>.inl e
 | .inr ⟨b,off,e,hb,hc⟩=>.inr ⟨b,off,e,hb,fun j hj=>(World.cell?_of_block (w:=A) (h b (.inl hb))).trans (hc j hj)⟩
theorem dn_next (len q:Nat)(h:q<len):dn len (len-q)=dn len (len-1-q)++[⟨q,h⟩]:=by
 have e:len-q=(len-1-q)+1:=by omega
 rw[e,dn_succ len _ (by omega)]
 have:len-1-(len-1-q)=q:=by omega
 simp only[this]
theorem fl1_in (F:Fence)(n:Nat)(hf1:F.fn 147)(hro:F.round=none)(hn:1<=n)(l Bs n₀:Nat)(a:Option Addr)(cap:Nat)(zs:List Int)(hreach:zs.length<=9223372036854775807)(J Jx:List (Ax zs.length)->World->Prop)
  (hY:∀ pre x W,J pre W->pre.length<zs.length->YieldAt F (n-1) Tryz.prog l #[.int .i64 (x.1:Int),.int .i64 (nth zs x.1)] W fun e W'=>
   (e=.returned (.bool true)/\J (pre++[x]) W'/\Kpt n₀ Bs W W')\/(e=.returned (.bool false)/\Jx (pre++[x]) W'))
  (W:World)(hBs:W.cell? ⟨Bs,0,none⟩=some (.slice a zs.length cap))(hI:IsInts n₀ W a zs)(h0:J [] W):
  CallsIn F n Tryz.prog 147 #[.func (.yield l) #[] #[],.pointer (some ⟨Bs,0,none⟩)] W fun e W'=>(∃ v,e=.returned v) ∧
   ((∃ ys,ys=dn zs.length zs.length/\J ys W')\/(∃ pre,(∃ k,k<=zs.length/\pre=dn zs.length k)/\Jx pre W')):=by
 refine callsIn_of_wp Tryz.func147 rfl hf1 ?_ hro
 simp only[Tryz.ntmps147,List.size_toArray,List.length_cons,List.length_nil,Nat.reduceAdd,Nat.reduceSub,Array.replicate_succ,Array.replicate_zero,List.push_toArray,List.append_toArray,List.nil_append,List.cons_append]
 gi_wp2
 gi_loopw [3] (fun i wr=>((∃ q:Nat,q<zs.length/\i=.int .i64 q/\J (dn zs.length (zs.length-1-q)) wr)\/(i=.int .i64 (-1)/\J (dn zs.length zs.length) wr))/\Kpt n₀ Bs W wr)
  (fun i _=>(intOf i+1).toNat)
 case atStart=>
  refine⟨?_,Kpt.refl _ _ _⟩
  by_cases hz:zs.length=0
  ·right
   refine⟨int_eq (by omega),?_⟩
   have:dn zs.length zs.length=[]:=by rw[hz];rfl
   rw[this];exact h0
  ·left
   refine⟨zs.length-1,by omega,int_eq (by omega),?_⟩
   have:zs.length-1-(zs.length-1)=0:=by omega
   rw[this];exact h0
 case round=>
  obtain⟨hc,hkp⟩:=hrel
  have hBs':wr.cell? ⟨Bs,0,none⟩=some (.slice a zs.length cap):=(World.cell?_of_block (w:=W) (hkp Bs (.inr rfl))).trans hBs
  rcases hc with ⟨q,hq,rfl,hJs⟩ | ⟨rfl,hJs⟩
  ·obtain⟨b,off,rfl,hb,hcell⟩:=(hI.kept hkp).at hq
   have hcq:=hcell q hq
   obtain⟨fn,tmps,assign,body,hy,hR⟩:=hY _ ⟨q,hq⟩ wr hJs (by rw[dn_length _ _ (by omega)];omega)
   dsimp only at hy
   clear hcell hY
   gi_wp2
   refine hR.mono ?_
   rintro e W3 (⟨rfl,hJ3,hk3⟩ | ⟨rfl,hJx3⟩)
   ·gi_wp2
    go_roundw
    case rel=>
     refine⟨?_,hkp.trans hk3⟩
     rw[<-dn_next] at hJ3
     by_cases h1:q=0
     ·right
      subst h1
      exact⟨int_eq (by omega),hJ3⟩
     ·left
      refine⟨q-1,by omega,int_eq (by omega),?_⟩
      have:zs.length-1-(q-1)=zs.length-q:=by omega
      rw[this];exact hJ3
    case measure=>simp[intOf]
   ·gi_wp2
    refine bodyPost_ret (results_none rfl _ _ _) rfl ?_
    exact⟨⟨_,rfl⟩,.inr ⟨_,⟨zs.length-q,by omega,(dn_next _ _ _).symm⟩,hJx3⟩⟩
  ·gi_wp2
   go_end0
   exact⟨⟨_,rfl⟩,.inl ⟨_,rfl,hJs⟩⟩
theorem fl_in (F:Fence)(n:Nat)(hf:F.fn 81)(hro:F.round=none)(a:Option Addr)(len cap:Nat)(w:World):
  CallsIn F n Tryz.prog 81 #[.slice a len cap] w fun e w'=>e=.returned (.func (.func 147) #[] #[.pointer (some ⟨w.heap.size,0,none⟩)])/\w'=w.alloc (.cells #[.slice a len cap] 22):=by
 refine callsIn_of_wp Tryz.func81 rfl hf ?_ hro
 simp only[Tryz.ntmps81,List.size_toArray,List.length_cons,List.length_nil,Nat.reduceAdd,Nat.reduceSub,Array.replicate_succ,Array.replicate_zero,List.push_toArray,List.append_toArray,List.nil_append,List.cons_append]
 gi_wp2
 go_ret
 exact⟨rfl,rfl⟩
theorem fl_stops (F:Fence)(n:Nat)(hf1:F.fn 147)(hro:F.round=none)(hn:1<=n)(Bs n₀:Nat)(a:Option Addr)(cap:Nat)(zs:List Int)(hreach:zs.length<=9223372036854775807)(w:World)(hBs:Bs<w.heap.size)(hn₀:n₀<=w.heap.size)
  (hc:w.cell? ⟨Bs,0,none⟩=some (.slice a zs.length cap))(hI:IsInts n₀ w a zs):
  SeqStopsK F n Tryz.prog 147 #[.pointer (some ⟨Bs,0,none⟩)] (fun x:Ax zs.length=>#[Value.int .i64 (x.1:Int),Value.int .i64 (nth zs x.1)]) (Kpt n₀ Bs) (fun ys=>ys=dn zs.length zs.length)
   (fun pre=>∃ k,k<=zs.length/\pre=dn zs.length k) zs.length w:=fun l J Jx W hW _ _ hY h0=>
 fl1_in F n hf1 hro hn l Bs n₀ a cap zs hreach J Jx hY W ((hW.cell (p:=⟨Bs,0,none⟩) hBs).trans hc) (hI.below (hW.mono hn₀)) h0
open Go.RowKit
theorem row_ints {w:World}{a:Option Addr}{len cap:Nat}{z:List Int}
  (h:(a=none/\len=0/\cap=0/\z=[])\/∃ x,a=some x/\len<=cap/\cap<=maxLen/\z.length=cap/\(∀ i,i<z.length->w.cell? (x.add i)=some (.int .i64 (z.getD i 0)))/\∀ n∈z,(Lit.int .i64 n).wf=true):
  ∃ zs:List Int,zs.length=len/\zs.length<=9223372036854775807/\IsInts w.heap.size w a zs/\∀ j,-9223372036854775808<=nth zs j/\nth zs j<=9223372036854775807:=by
 rcases h with ⟨rfl,rfl,rfl,rfl⟩ | ⟨x,rfl,hl,hm,hz,hc,hw⟩
 ·exact⟨[],rfl,by simp,.inl rfl,fun j=>by rw[nth_nil];omega⟩
 ·refine⟨z.take len,by simp;omega,by simp only[List.length_take];unfold maxLen at hm;omega,?_,fun j=>?_⟩
  ·by_cases h0:len=0
   ·left;rw[h0];simp
   ·right
    obtain⟨b,off,rfl,hc'⟩:=ints_at hc (by omega)
    refine⟨b,off,rfl,?_,fun j hj=>?_⟩
    ·exact World.block_lt_of_cell? w _ (hc' 0 (by omega))
    ·simp only[List.length_take] at hj
     rw[nth_take z len j (by omega)]
     exact hc' j (by omega)
  ·by_cases hj:j<len
   ·rw[nth_take z len j hj]
    have:=range_i64 hw j
    simpa[nth] using this
   ·have:nth (z.take len) j=0:=by simp[nth,List.getElem?_take,hj]
    rw[this];omega
open Go.RowKit Go.Shelf
attribute [local go_sem] Oper.semAt_some
def pstep (zs:List Int)(c:Int)(x:Ax zs.length):Int:=min (wrap64 (c*nth zs x.1)) 4097
theorem wrap64_small {n:Int}(h1:-9223372036854775808<=n)(h2:n<=9223372036854775807):wrap64 n=n:=by unfold wrap64;omega
theorem pfold (zs:List Int)(h:AllIn zs):(dn zs.length zs.length).foldl (pstep zs) 1=clp zs:=by
 have:=fold_dn zs.length (pstep zs) (fun k=>clp (zs.drop k)) (fun k hk=>by
  have hb:=clp_bd (h.drop (k+1))
  have hx:=h.nth k
  simp only[pstep]
  rw[drop_nth zs k hk]
  simp only[clp]
  have h1:0<=clp (zs.drop (k+1))*nth zs k:=Int.mul_nonneg hb.1 hx.1
  have h2:clp (zs.drop (k+1))*nth zs k<=4097*4096:=Int.mul_le_mul hb.2 hx.2 hx.1 (by omega)
  rw[wrap64_small (by omega) (by omega)]) zs.length (Nat.le_refl _)
 simpa[clp] using this
theorem prod_in (F:Fence)(n:Nat)(hp:F.fn 29)(hf:F.fn 81)(hf1:F.fn 147)(hro:F.round=none)(hn:3<=n)(a:Option Addr)(cap:Nat)(zs:List Int)(hreach:zs.length<=9223372036854775807)(w:World)(hI:IsInts w.heap.size w a zs)(hA:AllIn zs):
  CallsIn F n Tryz.prog 29 #[.slice a zs.length cap] w fun e W'=>e=.returned (.int .i64 (clp zs))/\Below w.heap.size w W':=by
 have h1:1<=n:=by omega
 refine callsIn_of_wp_marks Tryz.func29 rfl hp ?_ hro
 simp only[Tryz.ntmps29,List.size_toArray,List.length_cons,List.length_nil,Nat.reduceAdd,Nat.reduceSub,Array.replicate_succ,Array.replicate_zero,List.push_toArray,List.append_toArray,List.nil_append,List.cons_append]
 gi_wp2_with (gi_at_call 81;refine (fl_in F (n-1) hf hro _ _ _ _).mono ?_;rintro e w' ⟨rfl,rfl⟩)
 have bS:=Boxed.new w 3 (.int .i64 1)
 have bN:=Boxed.new (w.alloc (.cells #[.int .i64 1] 3)) 22 (.slice a zs.length cap)
 rw[World.size_alloc] at bN
 have hB0:Below w.heap.size w ((w.alloc (.cells #[.int .i64 1] 3)).alloc (.cells #[.slice a zs.length cap] 22)):=((Below.refl _ w).alloc (Nat.le_refl _) _).alloc (by simp) _
 refine wpIn_rangeFunc_ownG hro h1 (gf:=147) (lb:=#[.pointer (some ⟨w.heap.size+1,0,none⟩)]) rfl hf1 (enters_of Tryz.func147 (by kernel_rfl) rfl)
  (fl_stops F (n-1) hf1 hro (by omega) (w.heap.size+1) w.heap.size a cap zs hreach _ (by simp) (by simp;omega) bN.cell (hI.below hB0)) (fun h k=>h.trans k) (kpt_b (by simp;omega) (by simp)) (Below.refl _ _) (fun _=>rfl)
  (fun pre W=>(W.cell? ⟨w.heap.size,0,none⟩=some (.int .i64 (pre.foldl (pstep zs) 1))/\W.frozen? ⟨w.heap.size,0,none⟩=false)/\Below w.heap.size w W)
  (fun _ _ _=>False)
  (OwnFrom.and (Own.from (fun s A B row hs hg hr=>⟨cell_kept hs.1 hg hr,(frozen_kept hs.1 hg hr).trans hs.2⟩) _) (ownFrom_below (Nat.le_refl _) (by simp;omega)))
  (fun _ _ _ _ _ hs _ _=>hs)
  ⟨⟨(bS.alloc _).cell,(bS.alloc _).frozen⟩,hB0⟩
  (fun x=>{ tmps:=#[.slice a zs.length cap,undef,.int .i64 0,.pointer (some ⟨w.heap.size,0,none⟩),undef,.int .i64 (nth zs x.1),.slice a zs.length cap,.func (.func 147) #[] #[.pointer (some ⟨w.heap.size+1,0,none⟩)],.int .i64 (x.1:Int),.int .i64 (nth zs x.1),undef,undef,undef,undef,undef],defers:=[] }) ?assign ?body ?done ?stop
 case assign=>
  intro l x W K hK
  gi_wp2
  exact hK
 case body=>
  rintro l pre x W ⟨⟨hc,hz⟩,hB⟩ _
  gi_wp2
  all_goals
   refine⟨(KeepsOthers.setCell _ _ _).from _,Kpt.setCell W 0 _ (Nat.le_refl _) (by omega),⟨?_,by rw[World.frozen?_setCell];exact hz⟩,hB.setCell (p:=⟨w.heap.size,0,none⟩) (Nat.le_refl _) _⟩
   rw[List.foldl_append]
   simp only[List.foldl_cons,List.foldl_nil]
   refine (World.cell?_setCell_same' _ _ _ (by rw[hc];rfl)).trans (congrArg some (int_eq ?_))
   show _=min (wrap64 (pre.foldl (pstep zs) 1*nth zs x.1)) 4097
   omega
 case done=>
  rintro D ys W hD rfl ⟨⟨hc,_⟩,hB⟩ hK
  gi_wp2
  refine⟨by simp,.inl ⟨_,_,rfl,run_takeDeferred hK,?_⟩⟩
  exact⟨_,results_tmp rfl _ _ _,by rw[<-pfold zs hA];rfl,hB.trans (belowK_b (w:=w) (Nat.le_refl _) W D _ _ (by simp at hD;omega) hK rfl rfl)⟩
 case stop=>
  rintro D c pre W _ _ h _
  exact h.elim
theorem prod_any (a:Option Addr)(cap:Nat)(zs:List Int)(hreach:zs.length<=9223372036854775807)(w:World)(hI:IsInts w.heap.size w a zs)(hA:AllIn zs):
  Calls Tryz.prog 29 #[.slice a zs.length cap] w fun e W'=>e=.returned (.int .i64 (clp zs))/\Below w.heap.size w W':=
 (callsIn_wide (n:=3)).1 (prod_in Fence.wide 3 trivial trivial trivial rfl (by omega) a cap zs hreach w hI hA)
open Go.RowKit
theorem bad_take (zs:List Int)(k:Nat)(h:AllIn (zs.take k)):bad zs=bad (zs.drop k):=by
 induction k generalizing zs with
 | zero=>simp
 | succ k ih=>
  cases zs with
  | nil=>simp
  | cons x r=>
   simp only[List.take_succ_cons] at h
   have hx:=h x List.mem_cons_self
   simp only[bad,List.drop_succ_cons]
   rw[if_neg (by omega),if_neg (by omega)]
   exact ih r h.tail
theorem bad_low {zs:List Int}{k:Nat}(hk:k<zs.length)(h:AllIn (zs.take k))(hx:nth zs k<0):bad zs=4:=by
 rw[bad_take zs k h,drop_nth zs k hk];simp only[bad];rw[if_pos hx]
theorem bad_high {zs:List Int}{k:Nat}(hk:k<zs.length)(h:AllIn (zs.take k))(hx:4096<nth zs k):bad zs=7:=by
 rw[bad_take zs k h,drop_nth zs k hk];simp only[bad];rw[if_neg (by omega),if_pos hx]
theorem allIn_step {zs:List Int}{k:Nat}(hk:k<zs.length)(h:AllIn (zs.take k))(h1:¬ nth zs k<0)(h2:¬ 4096<nth zs k):AllIn (zs.take (k+1)):=by
 rw[List.take_succ_eq_append_getElem hk,<-nth_get zs k hk]
 intro x hx
 rcases List.mem_append.1 hx with hx | hx
 ·exact h x hx
 ·rw[List.mem_singleton] at hx;subst hx;omega
theorem errOf_rank {zs:List Int}(h:6<zs.length):errOf zs=3:=by simp[errOf,h]
theorem errOf_bad {zs:List Int}(h:¬ 6<zs.length){e:Int}(hb:bad zs=e)(he:e≠0):errOf zs=e:=by subst hb;simp[errOf,h,he]
theorem errOf_full {zs:List Int}(h:¬ 6<zs.length)(hb:AllIn zs)(hp:4096<clp zs):errOf zs=7:=by
 have:4096<prod zs:=by rw[clp_eq hb] at hp;omega
 simp[errOf,h,(bad_iff zs).2 hb,this]
theorem errOf_ok {zs:List Int}(h:¬ 6<zs.length)(hb:AllIn zs)(hp:¬ 4096<clp zs):errOf zs=0/\clp zs=prod zs:=by
 rw[clp_eq hb] at hp ⊢
 exact⟨errOf_zero.2 ⟨by omega,hb,by omega⟩,by omega⟩
theorem cntOf_bad {zs:List Int}(h:errOf zs≠0):cntOf zs=0:=by simp[cntOf,h]
theorem count_any (a:Option Addr)(cap:Nat)(zs:List Int)(hreach:zs.length<=9223372036854775807)(w:World)(hI:IsInts w.heap.size w a zs):
  Calls Tryz.prog 14 #[.slice a zs.length cap] w fun e w'=>e=.returned (.tuple #[.int .i64 (cntOf zs),errV (errOf zs)])/\Below w.heap.size w w':=by
 by_cases hlen:6<zs.length
 ·have e3:Hid (errOf zs=3):=errOf_rank hlen
  go_enter Tryz.func14,Tryz.ntmps14
  go_wp2_with fail
  go_ret2
  refine⟨ret2 ?_ ?_,Below.refl _ _⟩
  ·rw[cntOf_bad (by rw[e3.out];decide)]
  ·rw[e3.out];rfl
 ·go_enter Tryz.func14,Tryz.ntmps14
  go_wp2_with fail
  go_loop [13] (fun i=>∃ k:Nat,k<=zs.length/\i=.int .i64 k/\AllIn (zs.take k)) (fun i=>zs.length-(intOf i).toNat)
  case atStart=>exact⟨0,Nat.zero_le _,rfl,by intro x hx;simp at hx⟩
  case round=>
   obtain⟨k,hk,rfl,hall⟩:=hrel
   by_cases hlt:k<zs.length
   ·obtain⟨b,off,rfl,hb,hcell⟩:=hI.at hlt
    have hc:=hcell k hlt
    clear hcell
    by_cases h1:nth zs k<0
    ·have e4:Hid (errOf zs=4):=errOf_bad hlen (bad_low hlt hall h1) (by decide)
     go_wp2_with fail
     go_ret2
     refine⟨ret2 ?_ ?_,Below.refl _ _⟩
     ·rw[cntOf_bad (by rw[e4.out];decide)]
     ·rw[e4.out];rfl
    ·by_cases h2:4096<nth zs k
     ·have e7:Hid (errOf zs=7):=errOf_bad hlen (bad_high hlt hall h2) (by decide)
      go_wp2_with fail
      go_ret2
      refine⟨ret2 ?_ ?_,Below.refl _ _⟩
      ·rw[cntOf_bad (by rw[e7.out];decide)]
      ·rw[e7.out];rfl
     ·have hst:=allIn_step hlt hall h1 h2
      go_wp2_with fail
      go_round
      case rel=>exact⟨k+1,by omega,by go_num,hst⟩
      case measure=>simp[intOf];omega
   ·obtain rfl:k=zs.length:=by omega
    rw[List.take_length] at hall
    go_wp2_with fail
    refine (prod_any a cap zs hreach _ hI hall).mono ?_
    rintro e w' ⟨rfl,hb⟩
    by_cases h7:4096<clp zs
    ·have e7:Hid (errOf zs=7):=errOf_full hlen hall h7
     go_wp2_with fail
     go_ret2
     refine⟨ret2 ?_ ?_,hb⟩
     ·rw[cntOf_bad (by rw[e7.out];decide)]
     ·rw[e7.out];rfl
    ·have e0:Hid (errOf zs=0/\clp zs=prod zs):=errOf_ok hlen hall h7
     go_wp2_with fail
     go_ret2
     refine⟨ret2 ?_ ?_,hb⟩
     ·rw[cntOf_ok e0.1,e0.2]
     ·rw[e0.1];rfl
open Go.RowKit
def eqB (a b:List Int):Bool:=decide (a=b)
theorem eqB_true {a b:List Int}(h:a=b):eqB a b=true:=decide_eq_true h
theorem eqB_false {a b:List Int}(h:a≠b):eqB a b=false:=decide_eq_false h
theorem ints_any (a:Option Addr) (cap:Nat) (zs:List Int) (a':Option Addr) (cap':Nat) (us:List Int) (hreach:zs.length<=9223372036854775807) (n₀:Nat) (w:World) (hI:IsInts n₀ w a zs) (hI':IsInts n₀ w a' us) :
    Calls Tryz.prog 6 #[.slice a zs.length cap,.slice a' us.length cap'] w fun e w'=>e=.returned (.bool (eqB zs us))/\Below w.heap.size w w':=by
  by_cases hlen:zs.length=us.length
  · have hl:((zs.length:Int) != (us.length:Int))=false:=by simp[hlen]
    have H:Hid (zs.length=us.length):=hlen
    clear hlen
    go_enter Tryz.func6,Tryz.ntmps6
    go_wp2_with fail
    go_loopw [5] (fun i wr=>∃ k:Nat,k<=zs.length/\i=.int .i64 k/\(∀ j,j<k->nth zs j=nth us j)/\∃ m,wr=w.drewN m) (fun i _=>zs.length-(intOf i).toNat)
    case atStart=>exact⟨0,Nat.zero_le _,rfl,fun j hj=>by omega,0,rfl⟩
    case round=>
      obtain⟨k,hk,rfl,hsame,m,rfl⟩:=hrel
      have HS:Hid (∀ j,j<k->nth zs j=nth us j):=hsame
      clear hsame
      by_cases hlt:k<zs.length
      · obtain⟨b,off,rfl,hb,hcell⟩:=hI.at hlt
        obtain⟨b',off',rfl,hb',hcell'⟩:=hI'.at (q:=k) (by rw[<-H.out];exact hlt)
        have hlt':k<us.length:=by rw[<-H.out];exact hlt
        have hc:=hcell k hlt
        have hc':=hcell' k hlt'
        clear hcell hcell'
        by_cases he:nth zs k=nth us k
        · have hne:(nth zs k != nth us k)=false:=by simp[he]
          have HE:Hid (nth zs k=nth us k):=he
          clear he
          go_wp2_with fail
          go_quiet (fail)
          go_wp2
          go_roundw
          case rel => exact ⟨k + 1, by omega, by go_num, fun j hj => by by_cases e : j = k; · rw [e]; exact HE.out
                                                                        · exact HS.out j (by omega),_,rfl⟩
          case measure=>simp[intOf];omega
        · have hne:(nth zs k != nth us k)=true:=by simp[he]
          have hfin:Hid (eqB zs us=false):=eqB_false (fun e=>he (by rw[e]))
          go_wp2_with fail
          go_quiet (fail)
          go_wp2
          go_ret
          exact⟨ret_bool hfin.symm,bel_drewN (bel_drewN (Below.refl _ _) _) _⟩
      · obtain rfl:k=zs.length:=by omega
        have hfin:Hid (eqB zs us=true):=eqB_true (nth_ext H.out HS.out)
        go_wp2_with fail
        go_ret
        exact⟨ret_bool hfin.symm,bel_drewN (Below.refl _ _) _⟩
  · have hl:((zs.length:Int) != (us.length:Int))=true:=by simp;omega
    have hfin:Hid (eqB zs us=false):=eqB_false (fun e=>hlen (by rw[e]))
    go_enter Tryz.func6,Tryz.ntmps6
    go_wp2_with fail
    go_ret
    exact⟨ret_bool hfin.symm,Below.refl _ _⟩
open Go.RowKit Go.Shelf
theorem count_ok (a:Option Addr)(cap:Nat)(zs:List Int)(hreach:zs.length<=9223372036854775807)(w:World)(hI:IsInts w.heap.size w a zs)(he:errOf zs=0):
  Calls Tryz.prog 14 #[.slice a zs.length cap] w fun e w'=>e=.returned (.tuple #[.int .i64 (prod zs),.nilIface])/\Below w.heap.size w w':=
 (count_any a cap zs hreach w hI).mono fun e w' ⟨h1,h2⟩=>⟨by rw[h1,cntOf_ok he,he];rfl,h2⟩
theorem count_no (a:Option Addr)(cap:Nat)(zs:List Int)(hreach:zs.length<=9223372036854775807)(w:World)(hI:IsInts w.heap.size w a zs)(he:errOf zs≠0):
  Calls Tryz.prog 14 #[.slice a zs.length cap] w fun e w'=>e=.returned (.tuple #[.int .i64 0,.iface 43 (.int .i64 (errOf zs))])/\Below w.heap.size w w':=
 (count_any a cap zs hreach w hI).mono fun e w' ⟨h1,h2⟩=>⟨by rw[h1,cntOf_bad he,errV_pos he],h2⟩
theorem Tryz.infoInt:(Tryz.prog.info? 3).map (fun i=>(i.zero,i.size,i.bytes))=some (some (.int .i64 0),1,8):=by kernel_rfl
open Go.ChangeShapes Go.WideShapes Go.ChangeAt Go.RowKit Go.Deep
theorem three {cs:Array Value}(h:cs.size=3):∃ x y z,cs=#[x,y,z]:=by
 refine⟨cs[0],cs[1],cs[2],?_⟩
 apply Array.ext
 ·simp[h]
 ·intro i h1 h2
  rcases (by omega:i=0\/i=1\/i=2) with rfl | rfl | rfl<;>rfl
open Go.RowKit
def chOk (x:Int):Bool:=decide (0<=x/\x<55296) || decide (57343<x/\x<=1114111)
def chAll (ds:List Int):Bool:=ds.all chOk
def flawE (c:Bool)(zs ds:List Int):Int:=if errOf zs≠0 then errOf zs else if (ds.length:Int)≠prod zs then 4 else if c=true/\chAll ds=false then 6 else 0
theorem chAll_snoc {ds:List Int}{k:Nat}(hk:k<ds.length)(h:chAll (ds.take k)=true)(hx:chOk (nth ds k)=true):chAll (ds.take (k+1))=true:=by
 unfold chAll at *
 rw[List.take_succ_eq_append_getElem hk,<-nth_get ds k hk,List.all_append,h]
 simp[hx]
theorem chAll_bad {ds:List Int}{k:Nat}(hk:k<ds.length)(hx:chOk (nth ds k)=false):chAll ds=false:=by
 unfold chAll
 rw[List.all_eq_false]
 exact⟨nth ds k,nth_mem ds k hk,by simp[hx]⟩
section
variable {P : Program} {ops : Array Oper} {Q : Exit → Act → World → Prop} {md : Region.Mode} {s : Nat} {C : World → Prop}
def Till (s:Nat)(C:World->Prop)(l:Array Bool)(w:World):Prop:=l.getD s true=false->C w
def anyT (P:Program)(md:Region.Mode)(ops:Array Oper)(Q:Exit->Act->World->Prop)(s:Nat)(C:World->Prop):Nat->Array Bool->Act->World->Prop
 | 0,l,a,w=>Region.ready md ops l=[]/\Q .normal a w
 | n+1,l,a,w=>(Region.ready md ops l=[]->Q .normal a w)/\∀ i,i∈Region.ready md ops l →
  wpOp P ops Q i (fun a' w'=>Till s C (l.setIfInBounds i true) w'/\anyT P md ops Q s C n (l.setIfInBounds i true) a' w') a w
theorem anyT.plain {n:Nat}:∀ {l:Array Bool} {a:Act} {w:World},anyT P md ops Q s C n l a w->wpAny P md ops Q n l a w:=by
 induction n with
 | zero=>exact fun h=>h
 | succ n ih=>exact fun h=>⟨h.1,fun i hi=>wpOp_mono (fun _ _ k=>ih k.2) (h.2 i hi)⟩
theorem till_back {l:Array Bool}{i j:Nat}{w:World}(hi:i≠s)(h:Till s C ((l.setIfInBounds i true).setIfInBounds j true) w):Till s C (l.setIfInBounds j true) w:=by
 intro h0
 refine h ?_
 by_cases hj:j=s
 ·subst hj
  rw[Array.setIfInBounds_comm _ _ hi,getD_set_ne true hi]
  exact h0
 ·rw[getD_set_ne true hj,getD_set_ne true hi]
  rwa [getD_set_ne true hj] at h0
def Waits (md:Region.Mode)(ops:Array Oper)(s i:Nat):Prop:=∃ os,ops[s]?=some os/\∃ e∈os.after,Region.binds md e=true/\e.on=i
theorem Waits.not_ready {i:Nat}(h:Waits md ops s i){l:Array Bool}(hl:l.getD i true=false):s∉Region.ready md ops l:=by
 obtain⟨os,ho,e,he,hb,rfl⟩:=h
 intro hr
 obtain⟨_,o,ho',hall⟩:=mem_ready.1 hr
 rw[ho] at ho'
 obtain rfl:=Option.some.inj ho'
 have h1:=hall e he hb
 simp only[Array.getD_eq_getD_getElem?] at h1 hl
 cases hx:l[e.on]? with
 | none=>simp[hx] at h1
 | some b=>simp only[hx,Option.getD_some] at h1 hl;rw[h1] at hl;cases hl
def waitsB (md:Region.Mode)(ops:Array Oper)(s i:Nat):Bool:=match ops[s]? with
 | some os=>os.after.any fun e=>Region.binds md e && e.on == i
 | none=>false
theorem Waits.of {i:Nat}(h:waitsB md ops s i=true):Waits md ops s i:=by
 unfold waitsB at h
 split at h
 ·rename_i os ho
  obtain⟨k,hk,hx⟩:=Array.any_eq_true.1 h
  rw[Bool.and_eq_true,beq_iff_eq] at hx
  exact⟨os,ho,os.after[k],Array.getElem_mem hk,hx.1,hx.2⟩
 ·cases h
theorem anyT_load {i:Nat}{oi:Oper}{v:Value}(hi:ops[i]?=some oi)(hsel:∀ (j:Nat) (o:Oper) cs b,ops[j]?=some o->o.op≠.select cs b)
  (hQ:∀ c a w,Q (.panic c) (a.put oi.dst v) w->Q (.panic c) a w)(hw:Waits md ops s i)(his:i≠s)(n:Nat):
  ∀ (l:Array Bool) (a:Act) (w:World),
   (∀ j oj,ops[j]?=some oj->j≠i->l.getD j true=false->(∀ e∈oj.after,Region.binds md e=true->e.on≠i)->oi.apart ops oj=true) →
   i∈Region.ready md ops l->YieldsIf P ops C oi v a->l.getD s true=false->C w →
   anyT P md ops Q s C n (l.setIfInBounds i true) (a.put oi.dst v) w->anyT P md ops Q s C (n+1) l a w:=by
 induction n with
 | zero=>
  intro l a w _ hr hy hl hC H
  refine⟨fun h=>absurd hr (by rw[h];simp),fun j hj=>?_⟩
  by_cases hji:j=i
  ·subst hji;exact hy.wpOp hi hC ⟨fun _=>hC,H⟩
  ·exact absurd (ready_mono hj hji) (by rw[H.1];simp)
 | succ n ih=>
  intro l a w hfree hr hy hl hC H
  refine⟨fun h=>absurd hr (by rw[h];simp),fun j hj=>?_⟩
  by_cases hji:j=i
  ·subst hji;exact hy.wpOp hi hC ⟨fun _=>hC,H⟩
  ·have hli:=(mem_ready.1 hr).1
   have hjs:j≠s:=fun e=>hw.not_ready hli (e ▸ hj)
   obtain⟨hjl,oj,hoj,hall⟩:=mem_ready.1 hj
   have hnot:∀ e∈oj.after,Region.binds md e=true->e.on≠i:=fun e he hb heq=>(Waits.not_ready ⟨oj,hoj,e,he,hb,heq⟩ hli) hj
   refine wpOp_mono (fun a' w' k=>?_) (wpOp_putIf hoj (hfree j oj hoj hji hjl hnot) (fun cs b=>hsel i oi cs b hi) (fun cs b=>hsel j oj cs b hoj) hQ hy (H.2 j (ready_mono hj hji)))
   obtain⟨hy',hT,hrest⟩:=k
   have hT':=till_back his hT
   have hl':(l.setIfInBounds j true).getD s true=false:=by rw[getD_set_ne true hjs];exact hl
   refine⟨hT',ih (l.setIfInBounds j true) a' w' ?_ (ready_mono hr (Ne.symm hji)) hy' hl' (hT' hl') ?_⟩
   ·intro k ok hk hki hun hno
    refine hfree k ok hk hki ?_ hno
    by_cases hjk:j=k
    ·subst hjk;exact hjl
    ·rwa [getD_set_ne true hjk] at hun
   ·rw[Array.setIfInBounds_comm _ _ hji];exact hrest
theorem anyT_take (i d:Nat)(v:Value)(l':Array Bool){oi:Oper}{n:Nat}{l:Array Bool}{a:Act}{w:World}(hi:ops[i]?=some oi)(hd:oi.dst=some d)(hl':l.setIfInBounds i true=l')
  (hs:Region.noSelect ops=true)(hf:Region.free md ops l i=true)(hr:(Region.ready md ops l).contains i=true)
  (hQ:∀ c a w,Q (.panic c) (a.put oi.dst v) w->Q (.panic c) a w)(hw:waitsB md ops s i=true)(his:i≠s)(hl:l.getD s true=false)(hy:YieldsIf P ops C oi v a)(hC:C w)
  (h:anyT P md ops Q s C n l' (a.put (some d) v) w):anyT P md ops Q s C (n+1) l a w:=
 anyT_load hi (Region.noSelect_spec hs) hQ (Waits.of hw) his n l a w (Region.free_spec hi hf) (by simpa using hr) hy hl hC (by rw[hd,hl'];exact h)
theorem anyT_all {rs:List Nat}{n:Nat}{l:Array Bool}{a:Act}{w:World}(hr:Region.ready md ops l=rs)(hne:rs≠[])
  (h:∀ i∈rs,wpOp P ops Q i (fun a' w'=>Till s C (l.setIfInBounds i true) w'/\anyT P md ops Q s C n (l.setIfInBounds i true) a' w') a w):anyT P md ops Q s C (n+1) l a w:=
 ⟨fun h0=>absurd (hr ▸ h0) hne,hr ▸ h⟩
theorem anyT_begin (s:Nat)(C:World->Prop)(n:Nat)(l:Array Bool){id:Nat}{a:Act}{w:World}(hm:P.follows .mixedOrders=true)(hn:ops.size=n)(hl:Array.replicate ops.size false=l)
 (h:anyT P .any ops Q s C n l a w.drew):(Code.region id ops true).wp P Q a w:=wp_region_any hm (by rw[hl,hn];exact h.plain)
theorem anyT_pure {i:Nat}{oi:Oper}{v:Value}(hi:ops[i]?=some oi)(hsel:∀ (j:Nat) (o:Oper) cs b,ops[j]?=some o->o.op≠.select cs b)
  (hQ:∀ c a w,Q (.panic c) (a.put oi.dst v) w->Q (.panic c) a w)(his:i≠s)(n:Nat):
  ∀ (l:Array Bool) (a:Act) (w:World),
   (∀ j oj,ops[j]?=some oj->j≠i->l.getD j true=false->(∀ e∈oj.after,Region.binds md e=true->e.on≠i)->oi.apart ops oj=true) →
   i∈Region.ready md ops l->Yields P ops oi v a->Till s C l w →
   anyT P md ops Q s C n (l.setIfInBounds i true) (a.put oi.dst v) w->anyT P md ops Q s C (n+1) l a w:=by
 have up:∀ {l:Array Bool} {w:World},Till s C l w->Till s C (l.setIfInBounds i true) w:=fun h h0=>h (by rwa [getD_set_ne true his] at h0)
 induction n with
 | zero=>
  intro l a w _ hr hy hC H
  refine⟨fun h=>absurd hr (by rw[h];simp),fun j hj=>?_⟩
  by_cases hji:j=i
  ·subst hji;exact hy.wpOp hi ⟨up hC,H⟩
  ·exact absurd (ready_mono hj hji) (by rw[H.1];simp)
 | succ n ih=>
  intro l a w hfree hr hy hC H
  refine⟨fun h=>absurd hr (by rw[h];simp),fun j hj=>?_⟩
  by_cases hji:j=i
  ·subst hji;exact hy.wpOp hi ⟨up hC,H⟩
  ·have hli:=(mem_ready.1 hr).1
   obtain⟨hjl,oj,hoj,hall⟩:=mem_ready.1 hj
   have hnot:∀ e∈oj.after,Region.binds md e=true->e.on≠i:=fun e he hb heq=>(Waits.not_ready ⟨oj,hoj,e,he,hb,heq⟩ hli) hj
   refine wpOp_mono (fun a' w' k=>?_) (wpOp_put hoj (hfree j oj hoj hji hjl hnot) (fun cs b=>hsel i oi cs b hi) (fun cs b=>hsel j oj cs b hoj) hQ hy (H.2 j (ready_mono hj hji)))
   obtain⟨hy',hT,hrest⟩:=k
   have hT':=till_back his hT
   refine⟨hT',ih (l.setIfInBounds j true) a' w' ?_ (ready_mono hr (Ne.symm hji)) hy' hT' ?_⟩
   ·intro k ok hk hki hun hno
    refine hfree k ok hk hki ?_ hno
    by_cases hjk:j=k
    ·subst hjk;exact hjl
    ·rwa [getD_set_ne true hjk] at hun
   ·rw[Array.setIfInBounds_comm _ _ hji];exact hrest
theorem anyT_put (i d:Nat)(v:Value)(l':Array Bool){oi:Oper}{n:Nat}{l:Array Bool}{a:Act}{w:World}(hi:ops[i]?=some oi)(hd:oi.dst=some d)(hl':l.setIfInBounds i true=l')
  (hs:Region.noSelect ops=true)(hf:Region.free md ops l i=true)(hr:(Region.ready md ops l).contains i=true)
  (hQ:∀ c a w,Q (.panic c) (a.put oi.dst v) w->Q (.panic c) a w)(his:i≠s)(hy:Yields P ops oi v a)(hC:Till s C l w)
  (h:anyT P md ops Q s C n l' (a.put (some d) v) w):anyT P md ops Q s C (n+1) l a w:=
 anyT_pure hi (Region.noSelect_spec hs) hQ his n l a w (Region.free_spec hi hf) (by simpa using hr) hy hC (by rw[hd,hl'];exact h)
theorem anyT_one (i:Nat)(l':Array Bool){o:Oper}{n:Nat}{l:Array Bool}{a:Act}{w:World}(hr:Region.ready md ops l=[i])(ho:ops[i]?=some o)(hl':l.setIfInBounds i true=l')
  (h:∀ K:Act->World->Prop,RowKit.Hid (∀ a w,Till s C l' w->anyT P md ops Q s C n l' a w->K a w)->if Region.wanted o (yielded ops a.tmps)=true then Oper.wp P o a w K Q else K (a.put o.dst undef) w):anyT P md ops Q s C (n+1) l a w:=by
 refine anyT_all hr (by simp) fun j hj=>?_
 obtain rfl:=List.mem_singleton.1 hj
 exact wpOp_step ho fun K hK=>h K fun a w h1 h2=>hK a w (by rw[hl'];exact⟨h1,h2⟩)
theorem anyT_done {l:Array Bool}{a:Act}{w:World}(hr:Region.ready md ops l=[])(h:Q .normal a w):anyT P md ops Q s C 0 l a w:=⟨hr,h⟩
end
open Go.RowKit
def cellsA (x y z:Value):Array Value:=#[x,y,z]
def Abx (w:World)(b:Nat)(x y z:Value):Prop:=w.heap[b]?=some (.cells (cellsA x y z) 24 (0,0))
section
variable {w : World} {b : Nat} {x y z : Value}
theorem Abx.c0 (h:Abx w b x y z):w.cell? ⟨b,0,none⟩=some x:=by unfold Abx at h;simp[World.cell?,h,cellsA]
theorem Abx.c1 (h:Abx w b x y z):w.cell? ⟨b,1,none⟩=some y:=by unfold Abx at h;simp[World.cell?,h,cellsA]
theorem Abx.c2 (h:Abx w b x y z):w.cell? ⟨b,2,none⟩=some z:=by unfold Abx at h;simp[World.cell?,h,cellsA]
theorem Abx.fr (h:Abx w b x y z)(i:Nat):w.frozen? ⟨b,i,none⟩=false:=by unfold Abx at h;simp[World.frozen?,h]
theorem Abx.lt (h:Abx w b x y z):b<w.heap.size:=by
 obtain⟨hlt,_⟩:=Array.getElem?_eq_some_iff.1 h
 exact hlt
theorem Abx.of {w':World}(h:Abx w b x y z)(e:w'.heap[b]?=w.heap[b]?):Abx w' b x y z:=e.trans h
theorem Abx.bel {w':World}{B:Nat}(h:Abx w b x y z)(hB:Below B w w')(hb:b<B):Abx w' b x y z:=h.of (hB.block b hb)
theorem Abx.go {w':World}(h:Abx w b x y z)(hB:Below w.heap.size w w'):Abx w' b x y z:=h.bel hB h.lt
theorem Abx.s0 (h:Abx w b x y z)(v:Value):Abx (w.setCell ⟨b,0,none⟩ v) b v y z:=by unfold Abx at *;simp[World.setCell,Array.getElem?_modify,h,cellsA]
theorem Abx.s1 (h:Abx w b x y z)(v:Value):Abx (w.setCell ⟨b,1,none⟩ v) b x v z:=by unfold Abx at *;simp[World.setCell,Array.getElem?_modify,h,cellsA]
theorem Abx.s2 (h:Abx w b x y z)(v:Value):Abx (w.setCell ⟨b,2,none⟩ v) b x y v:=by unfold Abx at *;simp[World.setCell,Array.getElem?_modify,h,cellsA]
theorem Abx.ot (h:Abx w b x y z){a:Addr}(ha:b≠a.block)(v:Value):Abx (w.setCell a v) b x y z:=h.of (Below.heap_setCell w a v b ha)
theorem Abx.al (h:Abx w b x y z)(o:Obj):Abx (w.alloc o) b x y z:=h.of (Below.heap_alloc w o b h.lt)
theorem Abx.new (w:World)(x y z:Value):Abx (w.alloc (.cells #[x,y,z] 24)) w.heap.size x y z:=(MapKept.heap_alloc w _).1
theorem Abx.new1 (w:World)(o:Obj)(x y z:Value):Abx ((w.alloc o).alloc (.cells #[x,y,z] 24)) (w.heap.size+1) x y z:=by
 have:=Abx.new (w.alloc o) x y z
 rwa [World.size_alloc] at this
theorem Abx.dr (h:Abx w b x y z):Abx w.drew b x y z:=h
theorem Abx.set3 (h:Abx w b x y z)(x' y' z':Value):Abx (((w.setCell ⟨b,0,none⟩ x').setCell ⟨b,1,none⟩ y').setCell ⟨b,2,none⟩ z') b x' y' z':=((h.s0 x').s1 y').s2 z'
end
theorem bel_set3 {B b:Nat}{a w:World}(h:Below B a w)(hb:B<=b)(x y z:Value):Below B a (((w.setCell ⟨b,0,none⟩ x).setCell ⟨b,1,none⟩ y).setCell ⟨b,2,none⟩ z):=
 ((h.setCell (p:=⟨b,0,none⟩) hb _).setCell (p:=⟨b,1,none⟩) hb _).setCell (p:=⟨b,2,none⟩) hb _
open Go.RowKit
theorem take_snoc (zs:List Int)(k:Nat)(h:k<zs.length):zs.take (k+1)=zs.take k++[nth zs k]:=by
 rw[List.take_succ_eq_append_getElem h,nth_get zs k h]
theorem own_ge {w:World}{base:Nat}{e:TypeId}{size:Nat}{v:Value}{n:Nat}{xs:List Value}(h:w.ownsRow base e size v n xs)(j:Nat)(hj:v.ownBlock=some j):base<=j:=by
 rcases h.2 with ⟨rfl,_⟩ | ⟨g,cap,cur,rfl,hg,_⟩
 ·simp[Value.ownBlock] at hj
 ·simp[Value.ownBlock] at hj;omega
open Go.RowKit
theorem frozen_row {W:World}{b:Nat}{c:Array Value}{t:TypeId}(h:W.heap[b]?=some (.cells c t (0,0)))(j:Nat):W.frozen? ⟨b,j,none⟩=false:=by simp[World.frozen?,h]
def NewInts (lo:Nat)(W:World)(a:Option Addr)(zs:List Int):Prop:=
 zs=[]\/∃ b off,a=some ⟨b,off,none⟩/\lo<=b/\b<W.heap.size/\(∀ j,j<zs.length->W.cell? ⟨b,off+j,none⟩=some (.int .i64 (nth zs j)))/\∀ j,W.frozen? ⟨b,off+j,none⟩=false
section
variable {lo : Nat} {W : World} {a : Option Addr} {zs : List Int}
theorem NewInts.ints:NewInts lo W a zs->IsInts W.heap.size W a zs
 | .inl e=>.inl e
 | .inr ⟨b,off,e,_,hb,hc,_⟩=>.inr ⟨b,off,e,hb,hc⟩
theorem NewInts.low {lo':Nat}(h:lo'<=lo):NewInts lo W a zs->NewInts lo' W a zs
 | .inl e=>.inl e
 | .inr ⟨b,off,e,h0,hb,hc,hz⟩=>.inr ⟨b,off,e,by omega,hb,hc,hz⟩
theorem NewInts.bel {n:Nat}{W':World}(hB:Below n W W')(hn:W.heap.size<=n):NewInts lo W a zs->NewInts lo W' a zs
 | .inl e=>.inl e
 | .inr ⟨b,off,e,h0,hb,hc,hz⟩=>.inr ⟨b,off,e,h0,by have:=hB.size;omega,fun j hj=>(hB.cell (p:=⟨b,off+j,none⟩) (by show b<n;omega)).trans (hc j hj),fun j=>(hB.frozen (p:=⟨b,off+j,none⟩) (by show b<n;omega)).trans (hz j)⟩
theorem NewInts.go {W':World}(hB:Below W.heap.size W W')(h:NewInts lo W a zs):NewInts lo W' a zs:=h.bel hB (Nat.le_refl _)
theorem NewInts.set {p:Addr}(hp:p.block<lo)(v:Value):NewInts lo W a zs->NewInts lo (W.setCell p v) a zs
 | .inl e=>.inl e
 | .inr ⟨b,off,e,h0,hb,hc,hz⟩=>.inr ⟨b,off,e,h0,by simpa[World.setCell] using hb,fun j hj=>(World.cell?_of_block (Below.heap_setCell W p v b (by omega))).trans (hc j hj),fun j=>by rw[World.frozen?_setCell];exact hz j⟩
theorem NewInts.set3 {b:Nat}(hb:b<lo)(x y z:Value)(h:NewInts lo W a zs):NewInts lo (((W.setCell ⟨b,0,none⟩ x).setCell ⟨b,1,none⟩ y).setCell ⟨b,2,none⟩ z) a zs:=
 ((h.set (p:=⟨b,0,none⟩) hb x).set (p:=⟨b,1,none⟩) hb y).set (p:=⟨b,2,none⟩) hb z
theorem NewInts.al (h:NewInts lo W a zs)(o:Obj):NewInts lo (W.alloc o) a zs:=h.go ((Below.refl _ W).alloc (Nat.le_refl _) o)
theorem NewInts.dr (h:NewInts lo W a zs):NewInts lo W.drew a zs:=h
end
theorem owns_new {w:World}{base:Nat}{e:TypeId}{v:Value}{n:Nat}{xs:List Int}(h:w.ownsRow base e 1 v n (xs.map (Value.int .i64))):
  ∃ g cap,v=.slice g xs.length cap/\NewInts base w g xs:=by
 obtain⟨hl,hc⟩:=h
 simp only[List.length_map,Nat.mul_one] at hl
 subst hl
 rcases hc with ⟨rfl,h0⟩ | ⟨g,cap,cur,rfl,h9,hg,h1,_,h2,h3⟩
 ·have:xs=[]:=List.eq_nil_of_length_eq_zero h0
  subst this
  exact⟨none,0,rfl,.inl rfl⟩
 ·refine⟨_,cap,rfl,.inr ⟨g,0,rfl,h9,(Array.getElem?_eq_some_iff.1 hg).1,fun j hj=>?_,fun j=>frozen_row hg _⟩⟩
  have e1:(cur.toList.take (xs.length*1))[j]?=(xs.map (Value.int .i64))[j]?:=by rw[h3]
  rw[List.getElem?_take,if_pos (by omega),Array.getElem?_toList,List.getElem?_map] at e1
  simp only[World.cell?,hg,Nat.zero_add]
  rw[e1,nth_get xs j hj]
  simp[hj]
theorem new_ints1 (w:World)(t:TypeId)(x:Int):NewInts w.heap.size (w.alloc (.cells #[.int .i64 x] t)) (some ⟨w.heap.size,0,none⟩) [x]:=by
 have hb:(w.alloc (.cells #[.int .i64 x] t)).heap[w.heap.size]?=some (.cells #[.int .i64 x] t (0,0)):=World.alloc_heap_new w _
 refine .inr ⟨w.heap.size,0,rfl,Nat.le_refl _,by simp,fun j hj=>?_,fun j=>frozen_row hb _⟩
 simp only[List.length_cons,List.length_nil] at hj
 obtain rfl:j=0:=by omega
 simp only[World.cell?,hb];rfl
theorem new_lit (w:World)(t:TypeId)(xs:List Int):NewInts w.heap.size (w.alloc (.cells (xs.map (Value.int .i64)).toArray t)) (some ⟨w.heap.size,0,none⟩) xs:=by
 have hb:(w.alloc (.cells (xs.map (Value.int .i64)).toArray t)).heap[w.heap.size]?=some (.cells (xs.map (Value.int .i64)).toArray t (0,0)):=World.alloc_heap_new w _
 refine .inr ⟨w.heap.size,0,rfl,Nat.le_refl _,by simp,fun j hj=>?_,fun j=>frozen_row hb _⟩
 simp only[World.cell?,hb,Nat.zero_add]
 rw[nth_get xs j hj]
 simp[hj]
def MidInts (lo hi:Nat)(W:World)(a:Option Addr)(zs:List Int):Prop:=
 zs=[]\/∃ b off,a=some ⟨b,off,none⟩/\lo<=b/\b<hi/\(∀ j,j<zs.length->W.cell? ⟨b,off+j,none⟩=some (.int .i64 (nth zs j)))/\∀ j,W.frozen? ⟨b,off+j,none⟩=false
section
variable {lo hi : Nat} {W : World} {a : Option Addr} {zs : List Int}
theorem NewInts.mid:NewInts lo W a zs->MidInts lo W.heap.size W a zs
 | .inl e=>.inl e
 | .inr ⟨b,off,e,h0,hb,hc,hz⟩=>.inr ⟨b,off,e,h0,hb,hc,hz⟩
theorem MidInts.new (h:hi<=W.heap.size):MidInts lo hi W a zs->NewInts lo W a zs
 | .inl e=>.inl e
 | .inr ⟨b,off,e,h0,hb,hc,hz⟩=>.inr ⟨b,off,e,h0,by omega,hc,hz⟩
theorem MidInts.bel {W':World}(hB:Below hi W W'):MidInts lo hi W a zs->MidInts lo hi W' a zs
 | .inl e=>.inl e
 | .inr ⟨b,off,e,h0,hb,hc,hz⟩=>.inr ⟨b,off,e,h0,hb,fun j hj=>(hB.cell (p:=⟨b,off+j,none⟩) hb).trans (hc j hj),fun j=>(hB.frozen (p:=⟨b,off+j,none⟩) hb).trans (hz j)⟩
theorem MidInts.set {p:Addr}(hp:p.block<lo)(v:Value):MidInts lo hi W a zs->MidInts lo hi (W.setCell p v) a zs
 | .inl e=>.inl e
 | .inr ⟨b,off,e,h0,hb,hc,hz⟩=>.inr ⟨b,off,e,h0,hb,fun j hj=>(World.cell?_of_block (Below.heap_setCell W p v b (by omega))).trans (hc j hj),fun j=>by rw[World.frozen?_setCell];exact hz j⟩
theorem MidInts.off {p:Addr}(hp:hi<=p.block)(v:Value):MidInts lo hi W a zs->MidInts lo hi (W.setCell p v) a zs
 | .inl e=>.inl e
 | .inr ⟨b,off,e,h0,hb,hc,hz⟩=>.inr ⟨b,off,e,h0,hb,fun j hj=>(World.cell?_of_block (Below.heap_setCell W p v b (by omega))).trans (hc j hj),fun j=>by rw[World.frozen?_setCell];exact hz j⟩
theorem MidInts.al (h:MidInts lo hi W a zs)(hh:hi<=W.heap.size)(o:Obj):MidInts lo hi (W.alloc o) a zs:=h.bel ((Below.refl _ W).alloc hh o)
theorem MidInts.dr (h:MidInts lo hi W a zs):MidInts lo hi W.drew a zs:=h
theorem MidInts.low {lo':Nat}(h:lo'<=lo):MidInts lo hi W a zs->MidInts lo' hi W a zs
 | .inl e=>.inl e
 | .inr ⟨b,off,e,h0,hb,hc,hz⟩=>.inr ⟨b,off,e,by omega,hb,hc,hz⟩
theorem MidInts.set3 {b:Nat}(hb:b<lo)(x y z:Value)(h:MidInts lo hi W a zs):MidInts lo hi (((W.setCell ⟨b,0,none⟩ x).setCell ⟨b,1,none⟩ y).setCell ⟨b,2,none⟩ z) a zs:=
 ((h.set (p:=⟨b,0,none⟩) hb x).set (p:=⟨b,1,none⟩) hb y).set (p:=⟨b,2,none⟩) hb z
theorem MidInts.ints:MidInts lo hi W a zs->IsInts hi W a zs
 | .inl e=>.inl e
 | .inr ⟨b,off,e,_,hb,hc,_⟩=>.inr ⟨b,off,e,hb,hc⟩
end
theorem MidInts.put {lo hi:Nat}{W:World}{b off:Nat}{zs:List Int}(h:MidInts lo hi W (some ⟨b,off,none⟩) zs){i:Nat}(hi':i<zs.length)(x:Int):MidInts lo hi (W.setCell ⟨b,off+i,none⟩ (.int .i64 x)) (some ⟨b,off,none⟩) (zs.set i x):=by
 rcases h with e | ⟨b',off',e,h0,hb,hc,hz⟩
 ·rw[e] at hi';cases hi'
 ·cases e
  refine .inr ⟨b,off,rfl,h0,hb,fun j hj=>?_,fun j=>by rw[World.frozen?_setCell];exact hz j⟩
  rw[List.length_set] at hj
  rw[nth_set _ _ _ _ hi']
  by_cases e:j=i
  ·subst e
   rw[if_pos rfl]
   exact World.cell?_setCell_same' _ _ _ (by rw[hc j hj];rfl)
  ·rw[if_neg e,World.cell?_setCell_other _ _ _ _ (by intro h;have:=congrArg Addr.off h;simp only at this;omega)]
   exact hc j hj
open Go.RowKit
theorem chOk_mk {x:Int}{b:Bool}(h:(b=true/\((0<=x/\x<55296)\/(57343<x/\x<=1114111)))\/(b=false/\(x<0\/(55296<=x/\x<=57343)\/1114111<x))):chOk x=b:=by
 unfold chOk
 rcases h with ⟨rfl,h⟩ | ⟨rfl,h⟩
 ·rw[Bool.or_eq_true,decide_eq_true_iff,decide_eq_true_iff];omega
 ·rw[Bool.or_eq_false_iff,decide_eq_false_iff_not,decide_eq_false_iff_not];omega
theorem chars_any (a:Option Addr)(cap:Nat)(zs:List Int)(hreach:zs.length<=9223372036854775807)(n₀:Nat)(w:World)(hI:IsInts n₀ w a zs):
  Calls Tryz.prog 15 #[.slice a zs.length cap] w fun e w'=>e=.returned (.bool (chAll zs))/\w'=w:=by
 go_enter Tryz.func15,Tryz.ntmps15
 go_wp2_with fail
 go_loop [7] (fun i=>∃ k:Nat,k<=zs.length/\i=.int .i64 k/\Hid (chAll (zs.take k)=true)) (fun i=>zs.length-(intOf i).toNat)
 case atStart=>exact⟨0,Nat.zero_le _,rfl,rfl⟩
 case round=>
  obtain⟨k,hk,rfl,HA⟩:=hrel
  by_cases hlt:k<zs.length
  ·obtain⟨b,off,rfl,hb,hcell⟩:=hI.at hlt
   have hc:=hcell k hlt
   clear hcell
   rcases (by omega:(nth zs k<0\/(55296<=nth zs k/\nth zs k<=57343)\/1114111<nth zs k)\/((0<=nth zs k/\nth zs k<55296)\/(57343<nth zs k/\nth zs k<=1114111))) with hx | hx
   ·have hfin:Hid (chAll zs=false):=chAll_bad hlt (chOk_mk (.inr ⟨rfl,hx⟩))
    rcases hx with hx | hx | hx
    all_goals
     go_wp2_with fail
     go_ret
     exact⟨ret_bool hfin.symm,rfl⟩
   ·have hst:Hid (chAll (zs.take (k+1))=true):=chAll_snoc hlt HA.out (chOk_mk (.inl ⟨rfl,hx⟩))
    rcases hx with hx | hx
    all_goals
     go_wp2_with fail
     go_round
     case rel=>exact⟨k+1,by omega,by go_num,hst⟩
     case measure=>simp[intOf];omega
  ·obtain rfl:k=zs.length:=by omega
   have hfin:Hid (chAll zs=true):=by have:=HA.out;rwa [List.take_length] at this
   go_wp2_with fail
   go_ret
   exact⟨ret_bool hfin.symm,rfl⟩
open Go.RowKit
theorem flawE_shape {c:Bool}{sz dz:List Int}(h:errOf sz≠0):flawE c sz dz=errOf sz:=by simp[flawE,h]
theorem flawE_len {c:Bool}{sz dz:List Int}(h:errOf sz=0)(hl:(dz.length:Int)≠prod sz):flawE c sz dz=4:=by simp[flawE,h,hl]
theorem flawE_char {sz dz:List Int}(h:errOf sz=0)(hl:(dz.length:Int)=prod sz)(hc:chAll dz=false):flawE true sz dz=6:=by simp[flawE,h,hl,hc]
theorem flawE_okc {sz dz:List Int}(h:errOf sz=0)(hl:(dz.length:Int)=prod sz)(hc:chAll dz=true):flawE true sz dz=0:=by simp[flawE,h,hl,hc]
theorem flawE_okn {sz dz:List Int}(h:errOf sz=0)(hl:(dz.length:Int)=prod sz):flawE false sz dz=0:=by simp[flawE,h,hl]
theorem flawE_zero {c:Bool}{sz dz:List Int}(h:flawE c sz dz=0):errOf sz=0/\(dz.length:Int)=prod sz/\(c=true->chAll dz=true):=by
 unfold flawE at h
 split at h
 ·rename_i h1;exact absurd h h1
 ·rename_i h1
  split at h
  ·cases h
  ·rename_i h2
   split at h
   ·cases h
   ·rename_i h3
    refine⟨by omega,by omega,fun hc=>?_⟩
    cases hx:chAll dz
    ·exact absurd ⟨hc,hx⟩ h3
    ·rfl
theorem flawE_short {c:Bool}{sz dz:List Int}(h:flawE c sz dz=0):sz.length<=6/\dz.length<=4096:=by
 obtain⟨h1,h2,_⟩:=flawE_zero h
 have:=errOf_zero.1 h1
 omega
theorem ret_err {e:Int}{v:Value}(h:errV e=v):Ending.returned v=.returned (errV e):=by rw[h]
theorem check_any (c:Bool)(sa:Option Addr)(sc:Nat)(sz:List Int)(da:Option Addr)(dc:Nat)(dz:List Int)(h1:sz.length<=9223372036854775807)(h2:dz.length<=9223372036854775807)(w:World)(hs:IsInts w.heap.size w sa sz)(hd:IsInts w.heap.size w da dz):
  Calls Tryz.prog 7 #[.agg #[.bool c,.slice sa sz.length sc,.slice da dz.length dc]] w fun e w'=>e=.returned (errV (flawE c sz dz))/\Below w.heap.size w w':=by
 have HB0:Hid (Below w.heap.size w (w.alloc (.cells #[.bool c,.slice sa sz.length sc,.slice da dz.length dc] 24))):=(Below.refl _ w).alloc (Nat.le_refl _) _
 have HI:Hid (IsInts w.heap.size w sa sz/\IsInts w.heap.size w da dz):=⟨hs,hd⟩
 clear hs hd
 by_cases he:errOf sz=0
 ·have HE:Hid (errOf sz=0):=he
  clear he
  by_cases hl:(dz.length:Int)=prod sz
  ·have tl:((dz.length:Int) != prod sz)=false:=by simp[hl]
   have HL:Hid ((dz.length:Int)=prod sz):=hl
   clear hl
   cases c
   ·have HV:Hid (errV (flawE false sz dz)=.nilIface):=by show _=_;rw[flawE_okn HE.out HL.out];rfl
    go_enter Tryz.func7,Tryz.ntmps7
    go_wp2_with fail
    refine (count_ok sa sc sz h1 _ ((HI.1.below HB0.out).mono HB0.size) HE.out).mono ?_
    rintro e w1 ⟨rfl,hC1⟩
    have hB1:Below w.heap.size w w1:=HB0.trans (hC1.mono HB0.size)
    have c0:w1.cell? ⟨w.heap.size,0,none⟩=some (.bool false):=(hC1.cell (p:=⟨w.heap.size,0,none⟩) (by simp)).trans (by simp)
    have c2:w1.cell? ⟨w.heap.size,2,none⟩=some (.slice da dz.length dc):=(hC1.cell (p:=⟨w.heap.size,2,none⟩) (by simp)).trans (by simp)
    have HB1:Hid (Below w.heap.size w w1):=hB1
    clear hB1 hC1
    go_wp2_with fail
    go_ret
    exact⟨ret_err HV.out,HB1.out⟩
   ·go_enter Tryz.func7,Tryz.ntmps7
    go_wp2_with fail
    refine (count_ok sa sc sz h1 _ ((HI.1.below HB0.out).mono HB0.size) HE.out).mono ?_
    rintro e w1 ⟨rfl,hC1⟩
    have hB1:Below w.heap.size w w1:=HB0.trans (hC1.mono HB0.size)
    have c0:w1.cell? ⟨w.heap.size,0,none⟩=some (.bool true):=(hC1.cell (p:=⟨w.heap.size,0,none⟩) (by simp)).trans (by simp)
    have c2:w1.cell? ⟨w.heap.size,2,none⟩=some (.slice da dz.length dc):=(hC1.cell (p:=⟨w.heap.size,2,none⟩) (by simp)).trans (by simp)
    have HB1:Hid (Below w.heap.size w w1):=hB1
    clear hB1 hC1
    go_wp2_with fail
    refine (chars_any da dc dz h2 w.heap.size _ (HI.2.below HB1.out)).mono ?_
    rintro e w2 ⟨rfl,rfl⟩
    cases hx:chAll dz
    ·have HV:Hid (errV (flawE true sz dz)=.iface 43 (.int .i64 6)):=by show _=_;rw[flawE_char HE.out HL.out hx];rfl
     go_wp2_with fail
     go_ret
     exact⟨ret_err HV.out,HB1.out⟩
    ·have HV:Hid (errV (flawE true sz dz)=.nilIface):=by show _=_;rw[flawE_okc HE.out HL.out hx];rfl
     go_wp2_with fail
     go_ret
     exact⟨ret_err HV.out,HB1.out⟩
  ·have tl:((dz.length:Int) != prod sz)=true:=by simp[hl]
   have HV:Hid (errV (flawE c sz dz)=.iface 43 (.int .i64 4)):=by show _=_;rw[flawE_len HE.out hl];rfl
   clear hl
   go_enter Tryz.func7,Tryz.ntmps7
   go_wp2_with fail
   refine (count_ok sa sc sz h1 _ ((HI.1.below HB0.out).mono HB0.size) HE.out).mono ?_
   rintro e w1 ⟨rfl,hC1⟩
   have hB1:Below w.heap.size w w1:=HB0.trans (hC1.mono HB0.size)
   have c2:w1.cell? ⟨w.heap.size,2,none⟩=some (.slice da dz.length dc):=(hC1.cell (p:=⟨w.heap.size,2,none⟩) (by simp)).trans (by simp)
   have HB1:Hid (Below w.heap.size w w1):=hB1
   clear hB1 hC1
   go_wp2_with fail
   go_ret
   exact⟨ret_err HV.out,HB1.out⟩
 ·have HE:Hid (errOf sz≠0):=he
  have HV:Hid (errV (flawE c sz dz)=.iface 43 (.int .i64 (errOf sz))):=by show _=_;rw[flawE_shape he,errV_pos he]
  clear he
  go_enter Tryz.func7,Tryz.ntmps7
  go_wp2_with fail
  refine (count_no sa sc sz h1 _ ((HI.1.below HB0.out).mono HB0.size) HE.out).mono ?_
  rintro e w1 ⟨rfl,hC1⟩
  have HB1:Hid (Below w.heap.size w w1):=HB0.trans (hC1.mono HB0.size)
  clear hC1
  go_wp2_with fail
  go_ret
  exact⟨ret_err HV.out,HB1.out⟩
theorem check_ok (c:Bool)(sa:Option Addr)(sc:Nat)(sz:List Int)(da:Option Addr)(dc:Nat)(dz:List Int)(h1:sz.length<=9223372036854775807)(h2:dz.length<=9223372036854775807)(w:World)(hs:IsInts w.heap.size w sa sz)(hd:IsInts w.heap.size w da dz)(h:flawE c sz dz=0):
  Calls Tryz.prog 7 #[.agg #[.bool c,.slice sa sz.length sc,.slice da dz.length dc]] w fun e w'=>e=.returned .nilIface/\Below w.heap.size w w':=
 (check_any c sa sc sz da dc dz h1 h2 w hs hd).mono fun e w' ⟨e1,e2⟩=>⟨by rw[e1,h];rfl,e2⟩
theorem check_no (c:Bool)(sa:Option Addr)(sc:Nat)(sz:List Int)(da:Option Addr)(dc:Nat)(dz:List Int)(h1:sz.length<=9223372036854775807)(h2:dz.length<=9223372036854775807)(w:World)(hs:IsInts w.heap.size w sa sz)(hd:IsInts w.heap.size w da dz)(h:flawE c sz dz≠0):
  Calls Tryz.prog 7 #[.agg #[.bool c,.slice sa sz.length sc,.slice da dz.length dc]] w fun e w'=>e=.returned (.iface 43 (.int .i64 (flawE c sz dz)))/\Below w.heap.size w w':=
 (check_any c sa sc sz da dc dz h1 h2 w hs hd).mono fun e w' ⟨e1,e2⟩=>⟨by rw[e1,errV_pos h],e2⟩
end Go.Proofs.YtkmmkcpfhnifhaaGreat
