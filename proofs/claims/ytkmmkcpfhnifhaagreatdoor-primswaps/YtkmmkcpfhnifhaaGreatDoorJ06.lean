/- What the program tells, in part. -/
import Derived.Test.YtkmmkcpfhnifhaaGreatDoorJ05
import Derived.OneCell
set_option linter.unusedVariables false
namespace Go.Proofs.YtkmmkcpfhnifhaaGreatDoor
open Go.RowKit
theorem allN {p:Nat->Prop}{k:Nat}(h:∀ j,j<k->p j)(hk:p k):∀ j,j<k+1->p j:=fun j hj=>by
 by_cases e:j=k
 ·rw[e];exact hk
 ·exact h j (by omega)
def e1E (f:Int)(c:Bool)(sz dz:List Int):Int:=if oneE f 0≠0 then oneE f 0 else if flawE c sz dz≠0 then flawE c sz dz else if c=true then 6 else if dz.all (fun x=>oneE f x == 0)=true then 0 else 6
def e1V (f:Int)(dz:List Int):List Int:=dz.map (oneV f)
theorem e1V_length (f:Int)(dz:List Int):(e1V f dz).length=dz.length:=by simp[e1V]
theorem e1V_nth (f:Int)(dz:List Int){j:Nat}(h:j<dz.length):nth (e1V f dz) j=oneV f (nth dz j):=by simp[e1V,nth,h]
theorem oneE_cell {f:Int}(h:oneE f 0=0)(x:Int):oneE f x=0\/oneE f x=6:=by
 unfold oneE at *
 split
 ·simp
 ·split
  ·split<;>simp
  ·rename_i h1 h2;rw[if_neg h1,if_neg h2] at h;cases h
def tcE (f:Int)(alike:Bool)(a b:Int):Int:=if alike=true then twoE f a b else 0
def tcV (f:Int)(alike:Bool)(a b:Int):Int:=if alike=true then twoV f a b else ifV (decide (f=9))
def shp (sz sz':List Int):List Int:=if sz.length=0 then sz' else sz
def e2F (f:Int)(c:Bool)(sz dz:List Int)(c':Bool)(sz' dz':List Int):Int:=
 if f<1\/16<f then 1 else if flawsE c sz dz c' sz' dz'≠0 then flawsE c sz dz c' sz' dz' else if sz.length≠0/\sz'.length≠0/\sz.length≠sz'.length then 3 else if sz.length≠0/\sz'.length≠0/\sz≠sz' then 4
 else if (c=true\/c'=true)/\f≠8/\f≠9 then 6 else 0
def e2N (sz sz':List Int):Nat:=(prod (shp sz sz')).toNat
def e2C (dz:List Int)(i:Nat):Int:=cyA dz 0 i
def e2O (f:Int)(c:Bool)(sz dz:List Int)(c':Bool)(sz' dz':List Int):Bool:=(List.range (e2N sz sz')).all fun i=>tcE f (c == c') (e2C dz i) (e2C dz' i) == 0
def e2E (f:Int)(c:Bool)(sz dz:List Int)(c':Bool)(sz' dz':List Int):Int:=if e2F f c sz dz c' sz' dz'≠0 then e2F f c sz dz c' sz' dz' else if e2O f c sz dz c' sz' dz'=true then 0 else 6
def e2V (f:Int)(c:Bool)(sz dz:List Int)(c':Bool)(sz' dz':List Int):List Int:=(List.range (e2N sz sz')).map fun i=>tcV f (c == c') (e2C dz i) (e2C dz' i)
theorem e2V_length (f:Int)(c:Bool)(sz dz:List Int)(c':Bool)(sz' dz':List Int):(e2V f c sz dz c' sz' dz').length=e2N sz sz':=by simp[e2V]
theorem e2V_nth (f:Int)(c:Bool)(sz dz:List Int)(c':Bool)(sz' dz':List Int){i:Nat}(h:i<e2N sz sz'):nth (e2V f c sz dz c' sz' dz') i=tcV f (c == c') (e2C dz i) (e2C dz' i):=by simp[e2V,nth,h]
theorem twoE_cell {f:Int}(h:¬ (f<1\/16<f))(a b:Int):twoE f a b=0\/twoE f a b=6:=by
 unfold twoE
 rw[if_neg h]
 split
 ·simp
 ·split<;>simp
theorem tcE_cell {f:Int}(h:¬ (f<1\/16<f))(t:Bool)(a b:Int):tcE f t a b=0\/tcE f t a b=6:=by
 unfold tcE
 split
 ·exact twoE_cell h a b
 ·simp
theorem e2F_zero {f:Int}{c:Bool}{sz dz:List Int}{c':Bool}{sz' dz':List Int}:e2F f c sz dz c' sz' dz'=0 ↔ ¬ (f<1\/16<f)/\flawE c sz dz=0/\flawE c' sz' dz'=0/\(sz.length=0\/sz'.length=0\/sz=sz')/\¬ ((c=true\/c'=true)/\f≠8/\f≠9):=by
 unfold e2F
 by_cases h1:f<1\/16<f
 ·rw[if_pos h1];exact⟨(fun h=>absurd h (by decide)),fun h=>absurd h1 h.1⟩
 ·rw[if_neg h1]
  by_cases h2:flawsE c sz dz c' sz' dz'=0
  ·rw[if_neg (by simpa using h2)]
   have h2':=flawsE_zero.1 h2
   by_cases h3:sz.length≠0/\sz'.length≠0/\sz.length≠sz'.length
   ·rw[if_pos h3];exact⟨(fun h=>absurd h (by decide)),fun h=>by
     rcases h.2.2.2.1 with e | e | e
     ·exact absurd e h3.1
     ·exact absurd e h3.2.1
     ·exact absurd (by rw[e]) h3.2.2⟩
   ·rw[if_neg h3]
    by_cases h4:sz.length≠0/\sz'.length≠0/\sz≠sz'
    ·rw[if_pos h4];exact⟨(fun h=>absurd h (by decide)),fun h=>by
      rcases h.2.2.2.1 with e | e | e
      ·exact absurd e h4.1
      ·exact absurd e h4.2.1
      ·exact absurd e h4.2.2⟩
    ·rw[if_neg h4]
     have h4':sz.length=0\/sz'.length=0\/sz=sz':=by
      by_cases a:sz.length=0
      ·exact .inl a
      ·by_cases b:sz'.length=0
       ·exact .inr (.inl b)
       ·by_cases d:sz=sz'
        ·exact .inr (.inr d)
        ·exact absurd ⟨a,b,d⟩ h4
     by_cases h5:(c=true\/c'=true)/\f≠8/\f≠9
     ·rw[if_pos h5];exact⟨(fun h=>absurd h (by decide)),fun h=>absurd h5 h.2.2.2.2⟩
     ·rw[if_neg h5];exact⟨fun _=>⟨h1,h2'.1,h2'.2,h4',h5⟩,fun _=>rfl⟩
  ·rw[if_pos h2];exact⟨fun h=>absurd h h2,fun h=>absurd (flawsE_zero.2 ⟨h.2.1,h.2.2.1⟩) h2⟩
theorem nth_app_else (a b:List Int)(j:Nat)(h:¬ j<a.length):nth (a++b) j=nth b (j-a.length):=by
 unfold nth
 rw[List.getD_eq_getElem?_getD,List.getD_eq_getElem?_getD,List.getElem?_append_right (by omega)]
section
variable {f : Int} {s dz : List Int} {x : Nat}
theorem xin_line (hx:x<s.length){t:List Int}(ht:insB (xout x s) t=true){v:Int}(h0:0<=v)(h1:v<nth s x):(xin x 0 t).set x v=xin x v t/\insB s (xin x v t)=true:=by
 have hl:=xout_length hx
 have hl2:=insB_len ht
 exact⟨xin_set (by omega),ins_xin hx ht ⟨h0,h1⟩⟩
theorem rdL_nth (hx:x<s.length){t:List Int}(ht:insB (xout x s) t=true){j:Nat}(hj:j<(nth s x).toNat):nth (rdL s dz x t) j=cel s dz (xin x j t):=by
 unfold rdL
 rw[lnL_nth hj]
 have:=xin_line hx ht (v:=(j:Int)) (by omega) (by omega)
 rw[Int.zero_add,this.1]
theorem rdL_length (s dz:List Int)(x:Nat)(t:List Int):(rdL s dz x t).length=(nth s x).toNat:=lnL_length _ _ _ _ _ _
end
def otC (f:Int)(c:Bool)(s dz:List Int)(c':Bool)(s' dz' t:List Int):Int:=tcV f (c == c') (cel s dz (t.take s.length)) (cel s' dz' (t.drop s.length))
def otX (f:Int)(c:Bool)(s dz:List Int)(c':Bool)(s' dz' t:List Int):Int:=tcE f (c == c') (cel s dz (t.take s.length)) (cel s' dz' (t.drop s.length))
def otD (f:Int)(c:Bool)(s dz:List Int)(c':Bool)(s' dz':List Int):List Int:=TA (s++s') (otC f c s dz c' s' dz')
def otE (f:Int)(c:Bool)(s dz:List Int)(c':Bool)(s' dz':List Int):Int:=
 if f<1\/16<f then 1 else if flawsE c s dz c' s' dz'≠0 then flawsE c s dz c' s' dz' else if errOf (s++s')≠0 then errOf (s++s')
 else if (c=true\/c'=true)/\f≠8/\f≠9 then 6 else if okT (s++s') (otX f c s dz c' s' dz')=true then 0 else 6
section
variable {f g : Int} {c c' : Bool} {s dz s' dz' : List Int}
theorem otE_zero:otE f c s dz c' s' dz'=0 ↔ ¬ (f<1\/16<f)/\(flawE c s dz=0/\flawE c' s' dz'=0)/\errOf (s++s')=0/\¬ ((c=true\/c'=true)/\f≠8/\f≠9)/\∀ t,insB (s++s') t=true->otX f c s dz c' s' dz' t=0:=by
 unfold otE
 by_cases h:f<1\/16<f
 ·rw[if_pos h];exact⟨fun e=>absurd e (by decide),fun e=>absurd h e.1⟩
 ·rw[if_neg h]
  by_cases h1:flawsE c s dz c' s' dz'=0
  ·rw[if_neg (not_not_intro h1)]
   by_cases h2:errOf (s++s')=0
   ·rw[if_neg (not_not_intro h2)]
    by_cases h3:(c=true\/c'=true)/\f≠8/\f≠9
    ·rw[if_pos h3];exact⟨fun e=>absurd e (by decide),fun e=>absurd h3 e.2.2.2.1⟩
    ·rw[if_neg h3]
     by_cases h4:okT (s++s') (otX f c s dz c' s' dz')=true
     ·rw[if_pos h4];exact⟨fun _=>⟨h,flawsE_zero.1 h1,h2,h3,(okT_iff h2).1 h4⟩,fun _=>rfl⟩
     ·rw[if_neg h4];exact⟨fun e=>absurd e (by decide),fun e=>absurd ((okT_iff h2).2 e.2.2.2.2) h4⟩
   ·rw[if_pos h2];exact⟨fun e=>absurd e h2,fun e=>absurd e.2.2.1 h2⟩
  ·rw[if_pos h1];exact⟨fun e=>absurd e h1,fun e=>absurd (flawsE_zero.2 e.2.1) h1⟩
theorem tcV_64 {t:Bool}{a b:Int}(ha:In64 a)(hb:In64 b):In64 (tcV f t a b):=by
 unfold tcV
 split
 ·exact In64.two ha hb
 ·exact In64.ifV _
theorem ins_parts {t:List Int}(h:insB (s++s') t=true):insB s (t.take s.length)=true/\insB s' (t.drop s.length)=true:=by
 have hl:=insB_len h
 rw[List.length_append] at hl
 have e:t=t.take s.length++t.drop s.length:=(List.take_append_drop _ _).symm
 rw[e] at h
 exact insB_append (by rw[List.length_take];omega) h
def inS (s s':List Int):List Int:=s.take (s.length-1)++s'.drop 1
def inN (s:List Int):Int:=nth s (s.length-1)
def inU (s dz t:List Int)(k:Nat):Int:=cel s dz (t.take (s.length-1)++[(k:Int)])
def inV (s s' dz' t:List Int)(k:Nat):Int:=cel s' dz' ((k:Int)::t.drop (s.length-1))
def inL (g:Int)(c:Bool)(s dz:List Int)(c':Bool)(s' dz' t:List Int):List Int:=(List.range (inN s).toNat).map fun k=>tcV g (c == c') (inU s dz t k) (inV s s' dz' t k)
def inO (g:Int)(c:Bool)(s dz:List Int)(c':Bool)(s' dz' t:List Int):Bool:=(List.range (inN s).toNat).all fun k=>tcE g (c == c') (inU s dz t k) (inV s s' dz' t k) == 0
def inX (f g:Int)(c:Bool)(s dz:List Int)(c':Bool)(s' dz' t:List Int):Int:=if inO g c s dz c' s' dz' t=true then fdE f (inL g c s dz c' s' dz' t) else 6
def inZ13 (f g:Int)(c:Bool)(s dz:List Int)(c':Bool)(s' dz':List Int):List Int:=TA (inS s s') fun t=>fdV f (inL g c s dz c' s' dz' t)
def inE (f g:Int)(c:Bool)(s dz:List Int)(c':Bool)(s' dz':List Int):Int:=
 if (f<1\/16<f)\/g<1\/16<g then 1 else if flawsE c s dz c' s' dz'≠0 then flawsE c s dz c' s' dz' else if s.length=0\/s'.length=0 then 3 else if inN s≠nth s' 0 then 4
 else if errOf (inS s s')≠0 then errOf (inS s s') else if (c=true\/c'=true)/\g≠8/\g≠9 then 6 else if inN s=0/\neutE f≠0 then neutE f else if okT (inS s s') (inX f g c s dz c' s' dz')=true then 0 else 6
theorem inE_zero:inE f g c s dz c' s' dz'=0 ↔ ((1<=f/\f<=16)/\1<=g/\g<=16)/\(flawE c s dz=0/\flawE c' s' dz'=0)/\(s.length≠0/\s'.length≠0)/\inN s=nth s' 0/\errOf (inS s s')=0/\¬ ((c=true\/c'=true)/\g≠8/\g≠9)/\¬ (inN s=0/\neutE f≠0)/\∀ t,insB (inS s s') t=true->inX f g c s dz c' s' dz' t=0:=by
 unfold inE
 by_cases h:(f<1\/16<f)\/g<1\/16<g
 ·rw[if_pos h];exact⟨fun e=>absurd e (by decide),fun e=>by omega⟩
 ·rw[if_neg h]
  by_cases h1:flawsE c s dz c' s' dz'=0
  ·rw[if_neg (not_not_intro h1)]
   by_cases h2:s.length=0\/s'.length=0
   ·rw[if_pos h2];exact⟨fun e=>absurd e (by decide),fun e=>by omega⟩
   ·rw[if_neg h2]
    by_cases h3:inN s=nth s' 0
    ·rw[if_neg (not_not_intro h3)]
     by_cases h4:errOf (inS s s')=0
     ·rw[if_neg (not_not_intro h4)]
      by_cases h5:(c=true\/c'=true)/\g≠8/\g≠9
      ·rw[if_pos h5];exact⟨fun e=>absurd e (by decide),fun e=>absurd h5 e.2.2.2.2.2.1⟩
      ·rw[if_neg h5]
       by_cases h6:inN s=0/\neutE f≠0
       ·rw[if_pos h6];exact⟨fun e=>absurd e h6.2,fun e=>absurd h6 e.2.2.2.2.2.2.1⟩
       ·rw[if_neg h6]
        by_cases h7:okT (inS s s') (inX f g c s dz c' s' dz')=true
        ·rw[if_pos h7];exact⟨fun _=>⟨by omega,flawsE_zero.1 h1,by omega,h3,h4,h5,h6,(okT_iff h4).1 h7⟩,fun _=>rfl⟩
        ·rw[if_neg h7];exact⟨fun e=>absurd e (by decide),fun e=>absurd ((okT_iff h4).2 e.2.2.2.2.2.2.2) h7⟩
     ·rw[if_pos h4];exact⟨fun e=>absurd e h4,fun e=>absurd e.2.2.2.2.1 h4⟩
    ·rw[if_pos h3];exact⟨fun e=>absurd e (by decide),fun e=>absurd e.2.2.2.1 h3⟩
  ·rw[if_pos h1];exact⟨fun e=>absurd e h1,fun e=>absurd (flawsE_zero.2 e.2.1) h1⟩
end
def gm (m n:Int)(dz:List Int):Nat->Nat->Int:=fun i j=>cel [m,n] dz [(i:Int),(j:Int)]
section
variable {m n k p : Int} {dz dz' : List Int}
end
end Go.Proofs.YtkmmkcpfhnifhaaGreatDoor
namespace Go.Proofs.YtkmmkcpfhnifhaaGreatDoor
open Go.RowKit
section
variable (f g : Int) (c : Bool) (sz dz : List Int) (c' : Bool) (sz' dz' : List Int)
def otS13:List Int:=onl (otE f c sz dz c' sz' dz') (sz++sz')
def otD13:List Int:=onl (otE f c sz dz c' sz' dz') (otD f c sz dz c' sz' dz')
def niS13:List Int:=onl (inE f g c sz dz c' sz' dz') (inS sz sz')
def niD13:List Int:=onl (inE f g c sz dz c' sz' dz') (inZ13 f g c sz dz c' sz' dz')
theorem ot13_len:(otS13 f c sz dz c' sz' dz').length<=4096/\(otD13 f c sz dz c' sz' dz').length<=4096:=
 ⟨onl_le6 fun h=>(errS (otE_zero.1 h).2.2.1).1,onl_le6 fun h=>by unfold otD;rw[TA_length];exact (errS (otE_zero.1 h).2.2.1).2⟩
theorem ni13_len:(niS13 f g c sz dz c' sz' dz').length<=4096/\(niD13 f g c sz dz c' sz' dz').length<=4096:=
 ⟨onl_le6 fun h=>(errS (inE_zero.1 h).2.2.2.2.1).1,onl_le6 fun h=>by unfold inZ13;rw[TA_length];exact (errS (inE_zero.1 h).2.2.2.2.1).2⟩
end
def COt:Prop:=∀ (f:Int) (c:Bool) (sa:Option Addr) (sc:Nat) (sz:List Int) (da:Option Addr) (dc:Nat) (dz:List Int) (c':Bool) (sa':Option Addr) (sc':Nat) (sz':List Int) (da':Option Addr) (dc':Nat) (dz':List Int) (w:World),In64 f->sz.length<=9223372036854775807->dz.length<=9223372036854775807->sz'.length<=9223372036854775807->dz'.length<=9223372036854775807->IsInts w.heap.size w sa sz->IsInts w.heap.size w da dz->IsInts w.heap.size w sa' sz'->IsInts w.heap.size w da' dz'->(∀ j,In64 (nth dz j))->(∀ j,In64 (nth dz' j)) →
 Calls Tryz.prog 143 #[.int .i64 f,.agg #[.bool c,.slice sa sz.length sc,.slice da dz.length dc],.agg #[.bool c',.slice sa' sz'.length sc',.slice da' dz'.length dc']] w (UB (otE f c sz dz c' sz' dz') false (otS13 f c sz dz c' sz' dz') (otD13 f c sz dz c' sz' dz') w)
def CNi:Prop:=∀ (f g:Int) (c:Bool) (sa:Option Addr) (sc:Nat) (sz:List Int) (da:Option Addr) (dc:Nat) (dz:List Int) (c':Bool) (sa':Option Addr) (sc':Nat) (sz':List Int) (da':Option Addr) (dc':Nat) (dz':List Int) (w:World),In64 f->In64 g->sz.length<=9223372036854775807->dz.length<=9223372036854775807->sz'.length<=9223372036854775807->dz'.length<=9223372036854775807->IsC w.heap.size w sa sz sc->IsInts w.heap.size w da dz->IsC w.heap.size w sa' sz' sc'->IsInts w.heap.size w da' dz'->(∀ j,In64 (nth dz j))->(∀ j,In64 (nth dz' j)) →
 Calls Tryz.prog 145 #[.int .i64 f,.int .i64 g,.agg #[.bool c,.slice sa sz.length sc,.slice da dz.length dc],.agg #[.bool c',.slice sa' sz'.length sc',.slice da' dz'.length dc']] w (UB (inE f g c sz dz c' sz' dz') false (niS13 f g c sz dz c' sz' dz') (niD13 f g c sz dz c' sz' dz') w)
theorem ub13_no {e:Int}{S D:List Int}{w w':World}{e':Int}(h:e=e')(h0:e'≠0)(hB:Below w.heap.size w w'):UB e false (onl e S) (onl e D) w (.returned (.tuple #[.agg #[.bool false,.slice none 0 0,.slice none 0 0],.iface 28 (.int .i64 e')])) w':=by
 subst h
 rw[onl_no h0,onl_no h0]
 exact⟨none,0,none,0,by rw[errV_pos h0];rfl,⟨.inl rfl,Nat.le_refl _⟩,⟨.inl rfl,Nat.le_refl _⟩,hB⟩
theorem ub13_ok {e:Int}{S D:List Int}{n m:Nat}{w w':World}{xa:Option Addr}{xc:Nat}{ya:Option Addr}{yc:Nat}(h:e=0)(hn:S.length=n)(hm:D.length=m)(hX:NewC w.heap.size w' xa S xc)(hY:NewC w.heap.size w' ya D yc)(hB:Below w.heap.size w w'):
  UB e false (onl e S) (onl e D) w (.returned (.tuple #[.agg #[.bool false,.slice xa n xc,.slice ya m yc],.nilIface])) w':=by
 subst h hn hm
 exact⟨xa,xc,ya,yc,rfl,hX,hY,hB⟩
end Go.Proofs.YtkmmkcpfhnifhaaGreatDoor
namespace Go.Proofs.YtkmmkcpfhnifhaaGreatDoor
open Go.RowKit
structure An where
 e:Int
 c:Bool
 s:List Int
 d:List Int
def anN (e:Int):An:=⟨e,false,[],[]⟩
def anA (c:Bool)(S D:List Int):An:=⟨0,c,S,D⟩
def anE (e:Int)(c:Bool)(S D:List Int):An:=⟨e,onc e c,onl e S,onl e D⟩
theorem anE_no {e:Int}{c:Bool}{S D:List Int}(h:e≠0):anE e c S D=anN e:=by unfold anE;rw[onc_no h,onl_no h,onl_no h];rfl
theorem anE_ok {e:Int}{c:Bool}{S D:List Int}(h:e=0):anE e c S D=anA c S D:=by subst h;rfl
def AnP (A:An)(w:World)(r:Ending)(w':World):Prop:=UB A.e A.c A.s A.d w r w'
abbrev A1:Type:=Bool->List Int->List Int->An
abbrev A2:Type:=Bool->List Int->List Int->Bool->List Int->List Int->An
def six (f:Int):Bool:=decide (1<=f/\f<=16)
def numE (c:Bool)(sz:List Int):Int:=if sz.length=0 then (if c=true then 6 else 0) else 3
def lstE (c:Bool)(sz:List Int):Int:=if sz.length<=1 then (if c=true then 6 else 0) else 3
def lastA (B:Int->A1):A1:=fun c sz dz=>if sz.length=0 then anA c [] dz else B ((sz.length:Int)-1) c sz dz
def byN (B:Int->A1):A2:=fun c sz dz c' sz' dz'=>if numE c sz=0 then B (nth dz 0) c' sz' dz' else anN (numE c sz)
def byL (B:List Int->A1):A2:=fun c sz dz c' sz' dz'=>if lstE c sz=0 then B dz c' sz' dz' else anN (lstE c sz)
def byM (B:List Int->Int->A1):A2:=byL fun m c sz dz=>if sz.length=0 then anN 3 else B m ((sz.length:Int)-1) c sz dz
def axS (sz:List Int):List Int:=if sz.length=0 then [1] else sz
def rvl (n:Nat):List Int:=(List.range n).map fun k:Nat=>(n:Int)-1-(k:Int)
def fiA:A1:=fun c sz dz=>if numE c sz=0 then (if nth dz 0<0 then anN 6 else if 4096<nth dz 0 then anN 7 else anA false [nth dz 0] ((List.range (nth dz 0).toNat).map Int.ofNat)) else anN (numE c sz)
def rvA (x:Int):A1:=fun c sz dz=>anE (axE x c sz dz) c sz (GA sz dz sz (revT sz x.toNat))
def flA:A1:=fun c sz dz=>anE (flE (rvl sz.length) c sz dz) c (axVal sz (rvl sz.length)) (GA sz dz (axVal sz (rvl sz.length)) (flpT (rvl sz.length)))
def liA (L:List Int->List Int->List Int):A1:=fun c sz dz=>anE (gdE c sz dz) false [((L sz dz).length:Int)] (L sz dz)
def p1K (f:Int):Bool:=decide (f=1\/f=2\/f=3\/f=5\/(17<=f/\f<=21)\/f=24\/(26<=f/\f<=28))
def p1A (f:Int):A1:=match f.toNat with
 | 18=>fun c sz dz=>anA false [(sz.length:Int)] sz
 | 19=>fun c sz dz=>anA c [(dz.length:Int)] dz
 | 20=>lastA rvA
 | 21=>flA
 | 24=>fiA
 | 26=>liA (gdO false)
 | 27=>liA (gdO true)
 | 28=>fun c sz dz=>anE (nbE c sz dz) c [((nbL dz).length:Int)] (nbL dz)
 | _=>fun c sz dz=>anE (e1E f c sz dz) false sz (e1V f dz)
def joA:A2:=fun c sz dz c' sz' dz'=>anE (jnE ((axS sz).length-1:Nat) c (axS sz) dz c' (axS sz') dz') c (jnS ((axS sz).length-1) (axS sz) (axS sz')) (jnD ((axS sz).length-1) (axS sz) dz (axS sz') dz')
def baB (sz dz dz':List Int):List Int:=if sz.length=0 then List.replicate dz'.length (nth dz 0) else dz
def baA:A2:=fun c sz dz c' sz' dz'=>if lstE c sz=0 then (if lstE c' sz'=0 then anE (vaE (baB sz dz dz') dz') false [] [vaV (baB sz dz dz') dz'] else anN (lstE c' sz')) else anN (lstE c sz)
def diA:A2:=fun c sz dz c' sz' dz'=>if lstE c sz=0 then (if numE c' sz'=0 then anE (dgE dz) false [((dgV dz (nth dz' 0)).length:Int)] (dgV dz (nth dz' 0)) else anN (numE c' sz')) else anN (lstE c sz)
def p2K (f:Int):Bool:=decide ((1<=f/\f<=20)\/(22<=f/\f<=25)\/(28<=f/\f<=34))
def p2A (f:Int):A2:=match f.toNat with
 | 17=>fun c sz dz c' sz' dz'=>anE (lsE c sz dz c' sz' dz') c [((shD c dz c' dz' false).length:Int)] (shD c dz c' dz' false)
 | 18=>byL fun l c sz dz=>anE (errOf l) c l (cyc dz (prod l).toNat (fillE c))
 | 19=>joA
 | 20=>byN fun n=>lastA fun x c sz dz=>anE (axE x c sz dz) c sz (GA sz dz sz (rotT sz n x.toNat))
 | 22=>byL fun l c sz dz=>anE (tkE l c sz dz) c (tkS l) (tkD l c sz dz)
 | 23=>byL fun l c sz dz=>anE (drE l c sz dz) c (drS sz l) (drD l c sz dz)
 | 24=>fun c sz dz c' sz' dz'=>anE (ixE c sz dz c' sz' dz') false sz' (ixD c dz c' dz')
 | 25=>fun c sz dz c' sz' dz'=>anE (flawsE c sz dz c' sz' dz') false sz (inD c dz c' dz')
 | 28=>fun c sz dz c' sz' dz'=>anE (unE c sz dz c' sz' dz') c [((unD c dz c' dz').length:Int)] (unD c dz c' dz')
 | 29=>fun c sz dz c' sz' dz'=>anE (lsE c sz dz c' sz' dz') c [((shD c dz c' dz' true).length:Int)] (shD c dz c' dz' true)
 | 30=>baA
 | 31=>diA
 | 32=>fun c sz dz c' sz' dz'=>anA false [] [if mtB c sz dz c' sz' dz'=true then 1 else 0]
 | 33=>byM fun m x c sz dz=>anE (kpE m x c sz dz) c (kpS m x.toNat sz) (kpD m x.toNat sz dz)
 | 34=>byM fun m x c sz dz=>anE (spE m x c sz dz) c (spS m x.toNat sz) (spD m x.toNat c sz dz)
 | _=>fun c sz dz c' sz' dz'=>anE (e2E f c sz dz c' sz' dz') false (shp sz sz') (e2V f c sz dz c' sz' dz')
def a1K (op f:Int):Bool:=if op=0 then p1K f else if op=1\/op=2 then six f else if op=5 then p2K f else false
def a2K (op f g:Int):Bool:=if op=0\/op=5 then p2K f else if op=1\/op=3 then six f else if op=4 then six f && six g else false
def rdA (f:Int):A1:=lastA fun x c sz dz=>anE (rdE f x c sz dz) false (xout x.toNat sz) (rdD f sz dz x.toNat)
def scA (f:Int):A1:=lastA fun x c sz dz=>anE (scE f x c sz dz) false sz (scD f sz dz x.toNat)
def a1A (op f:Int):A1:=if op=0 then p1A f else if op=1 then rdA f else if op=2 then scA f else fun c sz dz=>p2A f c sz dz c sz dz
def wdA (f:Int):A2:=byN fun n=>lastA fun x c sz dz=>anE (wdE f n x c sz dz) false (wdS n x.toNat sz) (wdD f n sz dz x.toNat)
def otA (f:Int):A2:=fun c sz dz c' sz' dz'=>⟨otE f c sz dz c' sz' dz',false,otS13 f c sz dz c' sz' dz',otD13 f c sz dz c' sz' dz'⟩
def niA (f g:Int):A2:=fun c sz dz c' sz' dz'=>⟨inE f g c sz dz c' sz' dz',false,niS13 f g c sz dz c' sz' dz',niD13 f g c sz dz c' sz' dz'⟩
def a2A (op f g:Int):A2:=if op=0 then p2A f else if op=1 then wdA f else if op=3 then otA f else if op=4 then niA f g else fun c sz dz c' sz' dz'=>p2A f c' sz' dz' c sz dz
def ArF (W:World)(c:Bool)(sa:Option Addr)(sc:Nat)(sz:List Int)(da:Option Addr)(dc:Nat)(dz:List Int):Prop:=IsC W.heap.size W sa sz sc/\IsC W.heap.size W da dz dc/\(∀ j,In64 (nth dz j))/\flawE c sz dz=0
section
variable {W W' : World} {c : Bool} {sa : Option Addr} {sc : Nat} {sz : List Int} {da : Option Addr} {dc : Nat} {dz : List Int}
theorem ArF.go (h:ArF W c sa sc sz da dc dz)(hB:Below W.heap.size W W'):ArF W' c sa sc sz da dc dz:=⟨(h.1.below hB).mono hB.size,(h.2.1.below hB).mono hB.size,h.2.2⟩
theorem ArF.s6 (h:ArF W c sa sc sz da dc dz):sz.length<=6/\dz.length<=4096:=flawE_short h.2.2.2
theorem ArF.h1 (h:ArF W c sa sc sz da dc dz):sz.length<=9223372036854775807:=by have:=h.s6.1;omega
theorem ArF.h2 (h:ArF W c sa sc sz da dc dz):dz.length<=9223372036854775807:=by have:=h.s6.2;omega
end
theorem cell_lt16 {w:World}{p:Addr}{v:Value}(h:w.cell? p=some v):p.block<w.heap.size:=by
 refine Classical.byContradiction fun hn=>?_
 have e:w.heap[p.block]?=none:=Array.getElem?_eq_none (by omega)
 rw[show w.cell? p=none by simp[World.cell?,e]] at h
 cases h
theorem cell_to16 {w w':World}{p:Addr}{v:Value}(hB:Below w.heap.size w w')(h:w.cell? p=some v):w'.cell? p=some v:=(hB.cell (cell_lt16 h)).trans h
theorem box16 (w:World)(v:Value)(t:TypeId):(w.alloc (.cells #[v] t)).cell? ⟨w.heap.size,0,none⟩=some v:=cell_of_one (MapKept.heap_alloc w _).1
def En (F:Nat):Prop:=∀ args w,(callFunc F args).run Tryz.prog w=.ok (.enter F args) w
def Fu1C (F:Nat)(cs:List Value)(W:World)(A:A1):Prop:=∀ (c:Bool) (sa:Option Addr) (sc:Nat) (sz:List Int) (da:Option Addr) (dc:Nat) (dz:List Int) (w:World),Below W.heap.size W w->ArF w c sa sc sz da dc dz->Calls Tryz.prog F (.agg #[.bool c,.slice sa sz.length sc,.slice da dz.length dc]::cs).toArray w (AnP (A c sz dz) w)
def Fu1 (v:Value)(W:World)(A:A1):Prop:=∃ (F:Nat) (cs:List Value),v=.func (.func F) #[] cs.toArray/\En F/\Fu1C F cs W A
theorem Fu1.go {v:Value}{W W':World}{A:A1}(h:Fu1 v W A)(hB:Below W.heap.size W W'):Fu1 v W' A:=by
 obtain⟨F,cs,e,hE,H⟩:=h
 exact⟨F,cs,e,hE,fun _ _ _ _ _ _ _ w h'=>H _ _ _ _ _ _ _ w (hB.trans (h'.mono hB.size))⟩
def Fu2C (F:Nat)(cs:List Value)(W:World)(A:A2):Prop:=∀ (c:Bool) (sa:Option Addr) (sc:Nat) (sz:List Int) (da:Option Addr) (dc:Nat) (dz:List Int) (c':Bool) (sa':Option Addr) (sc':Nat) (sz':List Int) (da':Option Addr) (dc':Nat) (dz':List Int) (w:World),Below W.heap.size W w->ArF w c sa sc sz da dc dz->ArF w c' sa' sc' sz' da' dc' dz'->Calls Tryz.prog F (.agg #[.bool c,.slice sa sz.length sc,.slice da dz.length dc]::.agg #[.bool c',.slice sa' sz'.length sc',.slice da' dz'.length dc']::cs).toArray w (AnP (A c sz dz c' sz' dz') w)
def Fu2 (v:Value)(W:World)(A:A2):Prop:=∃ (F:Nat) (cs:List Value),v=.func (.func F) #[] cs.toArray/\En F/\Fu2C F cs W A
theorem Fu2.go {v:Value}{W W':World}{A:A2}(h:Fu2 v W A)(hB:Below W.heap.size W W'):Fu2 v W' A:=by
 obtain⟨F,cs,e,hE,H⟩:=h
 exact⟨F,cs,e,hE,fun _ _ _ _ _ _ _ _ _ _ _ _ _ _ w h'=>H _ _ _ _ _ _ _ _ _ _ _ _ _ _ w (hB.trans (h'.mono hB.size))⟩
def FuXC (F:Nat)(cs:List Value)(W:World)(A:Int->A1):Prop:=∀ (x:Int) (c:Bool) (sa:Option Addr) (sc:Nat) (sz:List Int) (da:Option Addr) (dc:Nat) (dz:List Int) (w:World),Below W.heap.size W w->x=(sz.length:Int)-1->sz.length≠0->ArF w c sa sc sz da dc dz->Calls Tryz.prog F (.int .i64 x::.agg #[.bool c,.slice sa sz.length sc,.slice da dz.length dc]::cs).toArray w (AnP (A x c sz dz) w)
def FuX (v:Value)(W:World)(A:Int->A1):Prop:=∃ (F:Nat) (cs:List Value),v=.func (.func F) #[] cs.toArray/\En F/\FuXC F cs W A
theorem FuX.go {v:Value}{W W':World}{A:Int->A1}(h:FuX v W A)(hB:Below W.heap.size W W'):FuX v W' A:=by
 obtain⟨F,cs,e,hE,H⟩:=h
 exact⟨F,cs,e,hE,fun _ _ _ _ _ _ _ _ w h'=>H _ _ _ _ _ _ _ _ w (hB.trans (h'.mono hB.size))⟩
def FuNC (F:Nat)(cs:List Value)(W:World)(A:Int->Int->A1):Prop:=∀ (n x:Int) (c:Bool) (sa:Option Addr) (sc:Nat) (sz:List Int) (da:Option Addr) (dc:Nat) (dz:List Int) (w:World),Below W.heap.size W w->In64 n->x=(sz.length:Int)-1->sz.length≠0->ArF w c sa sc sz da dc dz->Calls Tryz.prog F (.int .i64 n::.int .i64 x::.agg #[.bool c,.slice sa sz.length sc,.slice da dz.length dc]::cs).toArray w (AnP (A n x c sz dz) w)
def FuN (v:Value)(W:World)(A:Int->Int->A1):Prop:=∃ (F:Nat) (cs:List Value),v=.func (.func F) #[] cs.toArray/\En F/\FuNC F cs W A
theorem FuN.go {v:Value}{W W':World}{A:Int->Int->A1}(h:FuN v W A)(hB:Below W.heap.size W W'):FuN v W' A:=by
 obtain⟨F,cs,e,hE,H⟩:=h
 exact⟨F,cs,e,hE,fun _ _ _ _ _ _ _ _ _ w h'=>H _ _ _ _ _ _ _ _ _ w (hB.trans (h'.mono hB.size))⟩
def FuLC (F:Nat)(cs:List Value)(W:World)(A:List Int->A1):Prop:=∀ (la:Option Addr) (lc:Nat) (l:List Int) (c:Bool) (sa:Option Addr) (sc:Nat) (sz:List Int) (da:Option Addr) (dc:Nat) (dz:List Int) (w:World),Below W.heap.size W w->IsC w.heap.size w la l lc->(∀ j,In64 (nth l j))->l.length<=4096->ArF w c sa sc sz da dc dz->Calls Tryz.prog F (.slice la l.length lc::.agg #[.bool c,.slice sa sz.length sc,.slice da dz.length dc]::cs).toArray w (AnP (A l c sz dz) w)
def FuL (v:Value)(W:World)(A:List Int->A1):Prop:=∃ (F:Nat) (cs:List Value),v=.func (.func F) #[] cs.toArray/\En F/\FuLC F cs W A
theorem FuL.go {v:Value}{W W':World}{A:List Int->A1}(h:FuL v W A)(hB:Below W.heap.size W W'):FuL v W' A:=by
 obtain⟨F,cs,e,hE,H⟩:=h
 exact⟨F,cs,e,hE,fun _ _ _ _ _ _ _ _ _ _ w h'=>H _ _ _ _ _ _ _ _ _ _ w (hB.trans (h'.mono hB.size))⟩
def FuMC (F:Nat)(cs:List Value)(W:World)(A:List Int->Int->A1):Prop:=∀ (la:Option Addr) (lc:Nat) (l:List Int) (x:Int) (c:Bool) (sa:Option Addr) (sc:Nat) (sz:List Int) (da:Option Addr) (dc:Nat) (dz:List Int) (w:World),Below W.heap.size W w->IsC w.heap.size w la l lc->(∀ j,In64 (nth l j))->l.length<=4096->x=(sz.length:Int)-1->sz.length≠0->ArF w c sa sc sz da dc dz->Calls Tryz.prog F (.slice la l.length lc::.int .i64 x::.agg #[.bool c,.slice sa sz.length sc,.slice da dz.length dc]::cs).toArray w (AnP (A l x c sz dz) w)
def FuM (v:Value)(W:World)(A:List Int->Int->A1):Prop:=∃ (F:Nat) (cs:List Value),v=.func (.func F) #[] cs.toArray/\En F/\FuMC F cs W A
theorem FuM.go {v:Value}{W W':World}{A:List Int->Int->A1}(h:FuM v W A)(hB:Below W.heap.size W W'):FuM v W' A:=by
 obtain⟨F,cs,e,hE,H⟩:=h
 exact⟨F,cs,e,hE,fun _ _ _ _ _ _ _ _ _ _ _ w h'=>H _ _ _ _ _ _ _ _ _ _ _ w (hB.trans (h'.mono hB.size))⟩
def Mk1 (A:A1)(w:World)(r:Ending)(w':World):Prop:=∃ v,r=.returned v/\Fu1 v w' A/\Below w.heap.size w w'
def Mk2 (A:A2)(w:World)(r:Ending)(w':World):Prop:=∃ v,r=.returned v/\Fu2 v w' A/\Below w.heap.size w w'
theorem ent1 (w:World)(x y z:Value):Hid (Below w.heap.size w ((w.alloc (.cells #[x,y,z] 27)).alloc (.cells #[.bool false,.slice none 0 0,.slice none 0 0] 27)))/\Hid (Abx ((w.alloc (.cells #[x,y,z] 27)).alloc (.cells #[.bool false,.slice none 0 0,.slice none 0 0] 27)) w.heap.size x y z)/\Hid (Abx ((w.alloc (.cells #[x,y,z] 27)).alloc (.cells #[.bool false,.slice none 0 0,.slice none 0 0] 27)) (w.heap.size+1) (.bool false) (.slice none 0 0) (.slice none 0 0)):=
 ⟨((Below.refl _ w).alloc (Nat.le_refl _) _).alloc (by simp) _,(Abx.new w x y z).al _,Abx.new1 w _ _ _ _⟩
theorem ent2 (w:World)(x y z x' y' z':Value):Hid (Below w.heap.size w (((w.alloc (.cells #[x,y,z] 27)).alloc (.cells #[x',y',z'] 27)).alloc (.cells #[.bool false,.slice none 0 0,.slice none 0 0] 27)))/\Hid (Abx (((w.alloc (.cells #[x,y,z] 27)).alloc (.cells #[x',y',z'] 27)).alloc (.cells #[.bool false,.slice none 0 0,.slice none 0 0] 27)) w.heap.size x y z) ∧
  Hid (Abx (((w.alloc (.cells #[x,y,z] 27)).alloc (.cells #[x',y',z'] 27)).alloc (.cells #[.bool false,.slice none 0 0,.slice none 0 0] 27)) (w.heap.size+1) x' y' z')/\Hid (Abx (((w.alloc (.cells #[x,y,z] 27)).alloc (.cells #[x',y',z'] 27)).alloc (.cells #[.bool false,.slice none 0 0,.slice none 0 0] 27)) (w.heap.size+1+1) (.bool false) (.slice none 0 0) (.slice none 0 0)):=by
 refine⟨(((Below.refl _ w).alloc (Nat.le_refl _) _).alloc (by simp) _).alloc (by simp;omega) _,((Abx.new w x y z).al _).al _,(Abx.new1 w _ _ _ _).al _,?_⟩
 have:=Abx.new1 (w.alloc (.cells #[x,y,z] 27)) (.cells #[x',y',z'] 27) (.bool false) (.slice none 0 0) (.slice none 0 0)
 rwa [World.size_alloc] at this
theorem ret16 {A:An}{w w0 v:World}{b:Nat}{xa:Option Addr}{xc:Nat}{ya:Option Addr}{yc:Nat}{E:Value}(h1:w.heap.size<=b)(h2:b<w0.heap.size)(hb:Below w.heap.size w w0)(hX:NewC w0.heap.size v xa A.s xc)(hY:NewC w0.heap.size v ya A.d yc)(hB:Below w0.heap.size w0 v)(hE:errV A.e=E)(x y z:Value):
  AnP A w (.returned (.tuple #[.agg #[.bool A.c,.slice xa A.s.length xc,.slice ya A.d.length yc],E])) (((v.setCell ⟨b,0,none⟩ x).setCell ⟨b,1,none⟩ y).setCell ⟨b,2,none⟩ z):=by
 subst hE
 have hs:=hb.size
 exact⟨xa,xc,ya,yc,rfl,(hX.set3 h2 x y z).low hs,(hY.set3 h2 x y z).low hs,bel_set3 (hb.trans (hB.mono hs)) h1 x y z⟩
theorem err16 {A:An}{w v:World}{b:Nat}{e:Int}(hA:A=anN e)(he:e≠0)(h1:w.heap.size<=b)(hb:Below w.heap.size w v)(x y z:Value):
  AnP A w (.returned (.tuple #[.agg #[.bool false,.slice none 0 0,.slice none 0 0],.iface 28 (.int .i64 e)])) (((v.setCell ⟨b,0,none⟩ x).setCell ⟨b,1,none⟩ y).setCell ⟨b,2,none⟩ z):=by
 subst hA
 refine⟨none,0,none,0,?_,⟨.inl rfl,Nat.le_refl _⟩,⟨.inl rfl,Nat.le_refl _⟩,bel_set3 hb h1 x y z⟩
 show _=Ending.returned (.tuple #[.agg #[.bool false,.slice none 0 0,.slice none 0 0],errV e])
 rw[errV_pos he]
theorem eqi_nil {P:Program}(d:Nat){t:TypeId}{a b:Array TypeId}{c:Bool}(h:P.underlying t=some (.func a b c))(w:World):(Op.equalIn (d+1) t .nilFunc .nilFunc).run P w=.ok true w:=by
 simp[Op.equalIn,run_underlying h]
theorem eqi_fun {P:Program}(d:Nat){t:TypeId}{a b:Array TypeId}{c:Bool}(h:P.underlying t=some (.func a b c))(F:Fn)(x y:Array Value)(w:World):(Op.equalIn (d+1) t (.func F x y) .nilFunc).run P w=.ok false w:=by
 simp[Op.equalIn,run_underlying h]
theorem eqo_nil {P:Program}{t:TypeId}{a b:Array TypeId}{c:Bool}(h:P.underlying t=some (.func a b c))(w:World):(Op.equal t .nilFunc .nilFunc).run P w=.ok true w:=eqi_nil 9999 h w
theorem eqo_fun {P:Program}{t:TypeId}{a b:Array TypeId}{c:Bool}(h:P.underlying t=some (.func a b c))(F:Fn)(x y:Array Value)(w:World):(Op.equal t (.func F x y) .nilFunc).run P w=.ok false w:=eqi_fun 9999 h F x y w
theorem eqn_nil {P:Program}{t:TypeId}{a b:Array TypeId}{c:Bool}(h:P.underlying t=some (.func a b c))(w:World):(binOp .eql t .nilFunc .nilFunc).run P w=.ok (.bool true) w:=by
 simp only[binOp]
 simp[eqo_nil h w]
theorem eqn_fun {P:Program}{t:TypeId}{a b:Array TypeId}{c:Bool}(h:P.underlying t=some (.func a b c))(F:Fn)(x y:Array Value)(w:World):(binOp .eql t (.func F x y) .nilFunc).run P w=.ok (.bool false) w:=by
 simp only[binOp]
 simp[eqo_fun h F x y w]
end Go.Proofs.YtkmmkcpfhnifhaaGreatDoor
