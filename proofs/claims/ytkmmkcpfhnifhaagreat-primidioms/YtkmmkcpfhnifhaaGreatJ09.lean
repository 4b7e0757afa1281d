/- What the program tells, in part. -/
import Derived.Test.YtkmmkcpfhnifhaaGreatJ08
import Derived.WalkSmall
set_option linter.unusedVariables false
set_option maxHeartbeats 4000000
set_option maxRecDepth 100000
namespace Go.Proofs.YtkmmkcpfhnifhaaGreat
open Go.RowKit
abbrev Ar:Type:=Bool × (List Int × List Int)
def pkS:List Ar->List Int
 | []=>[]
 | b::r=>b.2.1++pkS r
def pkT:List Ar->List Int->List Int
 | [],_=>[]
 | b::r,t=>cel b.2.1 b.2.2 (t.take b.2.1.length)::pkT r (t.drop b.2.1.length)
def flL:List Ar->Int
 | []=>0
 | b::r=>if flawE b.1 b.2.1 b.2.2≠0 then flawE b.1 b.2.1 b.2.2 else flL r
def chL (bys:List Ar):Bool:=bys.any fun b=>b.1
def ixB:List Ar->List Int->Bool
 | [],_=>true
 | b::r,s=>(b.2.2.all fun i=>decide (0<=i/\i<nth s 0)) && ixB r s.tail
def nmE (s:List Int)(bys:List Ar):Int:=if bys.length≠s.length then 3 else if chL bys=true then 6 else if errOf (pkS bys)≠0 then errOf (pkS bys) else if ixB bys s=false then 5 else 0
def pkE (c:Bool)(s dz:List Int)(bys:List Ar):Int:=if flawE c s dz≠0 then flawE c s dz else if flL bys≠0 then flL bys else nmE s bys
def pkD (s dz:List Int)(bys:List Ar):List Int:=TA (pkS bys) (fun t=>cel s dz (pkT bys t))
theorem nmE_zero {s:List Int}{bys:List Ar}:nmE s bys=0 ↔ bys.length=s.length/\chL bys=false/\errOf (pkS bys)=0/\ixB bys s=true:=by
 unfold nmE
 by_cases h1:bys.length=s.length
 ·rw[if_neg (by simpa using h1)]
  cases h2:chL bys
  ·rw[if_neg (by simp)]
   by_cases h3:errOf (pkS bys)=0
   ·rw[if_neg (by simpa using h3)]
    cases h4:ixB bys s
    ·simp
    ·simp[h1,h3]
   ·rw[if_pos h3];exact⟨fun e=>absurd e h3,fun e=>absurd e.2.2.1 h3⟩
  ·simp
 ·rw[if_pos h1];exact⟨fun e=>absurd e (by decide),fun e=>absurd e.1 h1⟩
theorem pkE_zero {c:Bool}{s dz:List Int}{bys:List Ar}:pkE c s dz bys=0 ↔ flawE c s dz=0/\flL bys=0/\bys.length=s.length/\chL bys=false/\errOf (pkS bys)=0/\ixB bys s=true:=by
 unfold pkE
 by_cases h1:flawE c s dz=0
 ·rw[if_neg (by simpa using h1)]
  by_cases h2:flL bys=0
  ·rw[if_neg (by simpa using h2),nmE_zero]
   exact⟨fun e=>⟨h1,h2,e⟩,fun e=>e.2.2⟩
  ·rw[if_pos h2];exact⟨fun e=>absurd e h2,fun e=>absurd e.2.1 h2⟩
 ·rw[if_pos h1];exact⟨fun e=>absurd e h1,fun e=>absurd e.1 h1⟩
theorem flL_cons {b:Ar}{r:List Ar}(h:flL (b::r)=0):flawE b.1 b.2.1 b.2.2=0/\flL r=0:=by
 simp only[flL] at h
 by_cases h1:flawE b.1 b.2.1 b.2.2=0
 ·rw[if_neg (by simpa using h1)] at h;exact⟨h1,h⟩
 ·rw[if_pos h1] at h;exact absurd h h1
theorem pkT_in:∀ {bys:List Ar} {s t:List Int},bys.length=s.length->flL bys=0->ixB bys s=true->insB (pkS bys) t=true->insB s (pkT bys t)=true
 | [],[],t,_,_,_,_=>rfl
 | [],_::_,_,h,_,_,_=>by simp at h
 | _::_,[],_,h,_,_,_=>by simp at h
 | b::r,x::s,t,hl,hf,hi,ht=>by
  obtain⟨f1,f2⟩:=flL_cons hf
  simp only[ixB,nth_zero,List.tail_cons,Bool.and_eq_true] at hi
  have hlen:=insB_len ht
  simp only[pkS,List.length_append] at hlen
  have hk:(t.take b.2.1.length).length=b.2.1.length:=by rw[List.length_take];omega
  have ht':insB (b.2.1++pkS r) (t.take b.2.1.length++t.drop b.2.1.length)=true:=by rw[List.take_append_drop];exact ht
  obtain⟨i1,i2⟩:=insB_append hk ht'
  have ih:=pkT_in (bys:=r) (s:=s) (by simpa using hl) f2 hi.2 i2
  refine ins_cons.2 ⟨?_,ih⟩
  have hp:=place_bd i1
  have hd:=(flawE_zero f1).2.1
  have hm:nth b.2.2 (place b.2.1 (t.take b.2.1.length)).toNat∈b.2.2:=nth_mem _ _ (by omega)
  have:=List.all_eq_true.1 hi.1 _ hm
  exact of_decide_eq_true this
section
variable {c : Bool} {s dz : List Int} {bys : List Ar}
theorem pk_in (h:pkE c s dz bys=0){t:List Int}(ht:insB (pkS bys) t=true):insB s (pkT bys t)=true:=by
 obtain⟨h1,h2,h3,h4,h5,h6⟩:=pkE_zero.1 h
 exact pkT_in h3 h2 h6 ht
theorem pk_len (h:pkE c s dz bys=0):(pkS bys).length<=6/\(pkD s dz bys).length<=4096:=by
 have he:=(pkE_zero.1 h).2.2.2.2.1
 have hb:=errOf_zero.1 he
 refine⟨hb.1,?_⟩
 unfold pkD;rw[TA_length];omega
end
def pkP (s:List Int)(bys:List Ar)(i:Nat):Int:=place s (pkT bys (cr (pkS bys) i))
theorem pkD_nth {s dz:List Int}{bys:List Ar}{i:Nat}(hi:i<(prod (pkS bys)).toNat):nth (pkD s dz bys) i=nth dz (pkP s bys i).toNat:=by
 unfold pkD
 rw[TA_nth hi]
 rfl
theorem pkP_bd {c:Bool}{s dz:List Int}{bys:List Ar}(h:pkE c s dz bys=0){i:Nat}(hi:i<(prod (pkS bys)).toNat):0<=pkP s bys i/\pkP s bys i<prod s:=
 place_bd (pk_in h (cr_in (pkE_zero.1 h).2.2.2.2.1 hi).1)
def bya (bs:List ArV):List Ar:=bs.map ArV.ar
theorem bya_length (bs:List ArV):(bya bs).length=bs.length:=by simp[bya]
theorem bya_take (bs:List ArV){k:Nat}(h:k<bs.length):(bya bs).take (k+1)=(bya bs).take k++[(arz bs k).ar]:=by
 rw[List.take_succ_eq_append_getElem (by rw[bya_length];exact h)]
 simp[bya,arz,h]
theorem bya_cut (bs:List ArV){k:Nat}(h:k<bs.length):bya bs=(bya bs).take k++(arz bs k).ar::(bya bs).drop (k+1):=by
 have e:=(List.take_append_drop k (bya bs)).symm
 rw[List.drop_eq_getElem_cons (by rw[bya_length];exact h)] at e
 refine e.trans ?_
 simp[bya,arz,h]
theorem pkS_append:∀ (l r:List Ar),pkS (l++r)=pkS l++pkS r
 | [],r=>rfl
 | b::l,r=>by simp[pkS,pkS_append l r]
def offs (bs:List ArV)(k:Nat):Nat:=(pkS ((bya bs).take k)).length
theorem offs_succ (bs:List ArV){k:Nat}(h:k<bs.length):offs bs (k+1)=offs bs k+(arz bs k).2.1.2.length:=by
 unfold offs
 rw[bya_take bs h,pkS_append,List.length_append]
 simp[pkS,ArV.ar]
theorem offs_all (bs:List ArV):offs bs bs.length=(pkS (bya bs)).length:=by
 unfold offs
 rw[<-bya_length bs,List.take_length]
theorem pkS_cut (bs:List ArV){k:Nat}(h:k<bs.length):pkS (bya bs)=pkS ((bya bs).take k)++((arz bs k).2.1.2++pkS ((bya bs).drop (k+1))):=by
 have e:=congrArg pkS (bya_cut bs h)
 rw[pkS_append] at e
 exact e
theorem offs_le (bs:List ArV){k:Nat}(h:k<bs.length):offs bs k+(arz bs k).2.1.2.length<=(pkS (bya bs)).length:=by
 have e:=congrArg List.length (pkS_cut bs h)
 simp only[List.length_append] at e
 unfold offs
 omega
theorem chL_take (bs:List ArV){k:Nat}(h:k<bs.length):chL ((bya bs).take (k+1))=(chL ((bya bs).take k) || (arz bs k).1):=by
 rw[bya_take bs h]
 simp[chL,ArV.ar]
theorem chL_bad (bs:List ArV){k:Nat}(h:k<bs.length)(hc:(arz bs k).1=true):chL (bya bs)=true:=by
 rw[bya_cut bs h]
 simp[chL,ArV.ar,hc]
theorem flL_at:∀ (l:List Ar) (k:Nat) (b:Ar),l[k]?=some b->flL l=0->flawE b.1 b.2.1 b.2.2=0
 | [],k,b,h,_=>by simp at h
 | x::r,0,b,h,hf=>by simp at h;subst h;exact (flL_cons hf).1
 | x::r,k+1,b,h,hf=>flL_at r k b (by simpa using h) (flL_cons hf).2
theorem fl_at (bs:List ArV)(hf:flL (bya bs)=0){k:Nat}(h:k<bs.length):flawE (arz bs k).1 (arz bs k).2.1.2 (arz bs k).2.2.2=0:=
 flL_at (bya bs) k (arz bs k).ar (by simp[bya,arz,h]) hf
theorem ixB_at:∀ (l:List Ar) (s:List Int),(ixB l s=true ↔ ∀ k b,l[k]?=some b->∀ i,i<b.2.2.length->0<=nth b.2.2 i/\nth b.2.2 i<nth s k)
 | [],s=>by simp[ixB]
 | x::r,s=>by
  simp only[ixB,Bool.and_eq_true,List.all_eq_true,decide_eq_true_eq,ixB_at r s.tail]
  have et:∀ k,nth s.tail k=nth s (k+1):=fun k=>by cases s<;>simp[nth]
  constructor
  ·rintro ⟨h1,h2⟩ k b hk i hi
   cases k with
   | zero=>simp at hk;subst hk;exact h1 _ (nth_mem _ _ hi)
   | succ k=>rw[<-et];exact h2 k b (by simpa using hk) i hi
  ·intro h
   refine⟨fun y hy=>?_,fun k b hk i hi=>?_⟩
   ·obtain⟨i,hi,e⟩:=List.mem_iff_getElem.1 hy
    have:=h 0 x rfl i hi
    rw[nth_get _ _ hi,e] at this
    exact this
   ·rw[et];exact h (k+1) b (by simpa using hk) i hi
theorem ix_ok (bs:List ArV)(s:List Int)(h:∀ k,k<bs.length->∀ i,i<(arz bs k).2.2.2.length->0<=nth (arz bs k).2.2.2 i/\nth (arz bs k).2.2.2 i<nth s k):ixB (bya bs) s=true:=
 (ixB_at _ s).2 fun k b hk i hi=>by
  have hl:k<bs.length:=by
   have:=List.getElem?_eq_some_iff.1 hk
   obtain⟨h1,_⟩:=this
   rw[bya_length] at h1
   exact h1
  have e:b=(arz bs k).ar:=by
   have:(bya bs)[k]?=some (arz bs k).ar:=by simp[bya,arz,hl]
   rw[this] at hk
   exact (Option.some.inj hk).symm
  subst e
  exact h k hl i hi
theorem ix_bad (bs:List ArV)(s:List Int){k:Nat}(hk:k<bs.length){i:Nat}(hi:i<(arz bs k).2.2.2.length)(h:¬ (0<=nth (arz bs k).2.2.2 i/\nth (arz bs k).2.2.2 i<nth s k)):ixB (bya bs) s=false:=by
 cases e:ixB (bya bs) s
 ·rfl
 ·exact absurd ((ixB_at _ s).1 e k (arz bs k).ar (by simp[bya,arz,hk]) i hi) h
theorem pkS_short:∀ (l:List Ar),flL l=0->(pkS l).length<=6*l.length
 | [],_=>by simp[pkS]
 | b::r,h=>by
  have h1:=(errOf_zero.1 (flawE_zero (flL_cons h).1).1).1
  have h2:=pkS_short r (flL_cons h).2
  simp only[pkS,List.length_append,List.length_cons]
  omega
def plL (s:List Int)(bys:List Ar):List Int:=(List.range (prod (pkS bys)).toNat).map (pkP s bys)
theorem plL_length (s:List Int)(bys:List Ar):(plL s bys).length=(prod (pkS bys)).toNat:=by simp[plL]
theorem plL_nth (s:List Int)(bys:List Ar){i:Nat}(h:i<(prod (pkS bys)).toNat):nth (plL s bys) i=pkP s bys i:=by simp[plL,nth,h]
end Go.Proofs.YtkmmkcpfhnifhaaGreat
namespace Go.Proofs.YtkmmkcpfhnifhaaGreat
open Go.RowKit
section
variable (c : Bool) (sz dz : List Int) (bys : List Ar) (c' : Bool) (sz' dz' : List Int)
def pkS7:List Int:=onl (pkE c sz dz bys) (pkS bys)
def pkD7:List Int:=onl (pkE c sz dz bys) (pkD sz dz bys)
end
def CAt:Prop:=∀ (c:Bool) (sa:Option Addr) (sc:Nat) (sz:List Int) (da:Option Addr) (dc:Nat) (dz:List Int) (ba:Option Addr) (bc:Nat) (bs:List ArV) (w:World),sz.length<=9223372036854775807->dz.length<=9223372036854775807->bs.length<=9223372036854775807->IsInts w.heap.size w sa sz->IsInts w.heap.size w da dz->IsAs w.heap.size w ba bs →
 Calls Tryz.prog 10 #[.agg #[.bool c,.slice sa sz.length sc,.slice da dz.length dc],.slice ba bs.length bc] w (UB (pkE c sz dz (bya bs)) (onc (pkE c sz dz (bya bs)) c) (pkS7 c sz dz (bya bs)) (pkD7 c sz dz (bya bs)) w)
end Go.Proofs.YtkmmkcpfhnifhaaGreat
namespace Go.Proofs.YtkmmkcpfhnifhaaGreat
open Go.RowKit
theorem lit_all {xs:List Int}(h:xs.all (fun x=>decide (-9223372036854775808<=x/\x<=9223372036854775807))=true):∀ j,In64 (nth xs j):=fun j=>by
 by_cases hj:j<xs.length
 ·have:nth xs j∈xs:=by simp[nth,hj]
  exact of_decide_eq_true (p:=-9223372036854775808<=nth xs j/\nth xs j<=9223372036854775807) (List.all_eq_true.1 h _ this)
 ·have:nth xs j=0:=by simp[nth,List.getElem?_eq_none (Nat.le_of_not_lt hj)]
  rw[this];unfold In64;decide
theorem as_one {W:World}{B:Nat}{c:Bool}{sa:Option Addr}{sc:Nat}{sz:List Int}{da:Option Addr}{dc:Nat}{dz:List Int}(h:Abx W B (.bool c) (.slice sa sz.length sc) (.slice da dz.length dc))(h1:sz.length<=9223372036854775807)(h2:dz.length<=9223372036854775807)(hs:IsC W.heap.size W sa sz sc)(hd:IsC W.heap.size W da dz dc)(T1:∀ j,In64 (nth sz j))(T2:∀ j,In64 (nth dz j)):IsAs W.heap.size W (some ⟨B,0,none⟩) [(c,(((sa,sc),sz),((da,dc),dz)))]:=by
 refine⟨.inr ⟨B,0,rfl,h.lt,fun j hj=>?_⟩,fun j hj=>?_⟩
 ·obtain rfl:j=0:=by simpa using hj
  exact⟨h.c0,h.c1,h.c2⟩
 ·obtain rfl:j=0:=by simpa using hj
  exact⟨h1,h2,hs,hd,T1,T2⟩
theorem in64_err {s:List Int}(h:errOf s=0):∀ j,In64 (nth s j):=fun j=>by
 have:=(errOf_zero.1 h).2.1.nth j
 unfold In64
 omega
theorem at_ok (c:Bool)(sa:Option Addr)(sc:Nat)(sz:List Int)(da:Option Addr)(dc:Nat)(dz:List Int)(ba:Option Addr)(bc:Nat)(bs:List ArV)(l:Nat)(hl:bs.length=l)(w:World)(h1:sz.length<=9223372036854775807)(h2:dz.length<=9223372036854775807)(h3:l<=9223372036854775807)(hs:IsInts w.heap.size w sa sz)(hd:IsInts w.heap.size w da dz)(hb:IsAs w.heap.size w ba bs)(S D:List Int)(H:CAt)(h:pkE c sz dz (bya bs)=0/\pkS (bya bs)=S/\pkD sz dz (bya bs)=D):
  Calls Tryz.prog 10 #[.agg #[.bool c,.slice sa sz.length sc,.slice da dz.length dc],.slice ba l bc] w (OkB c S D w):=by
 subst hl
 exact (H c sa sc sz da dc dz ba bc bs w h1 h2 h3 hs hd hb).mono fun r w' h'=>UB.ok h h'
def ioN (l:Int):List Int:=(List.range l.toNat).map fun j=>((j:Nat):Int)
theorem ioN_length (l:Int):(ioN l).length=l.toNat:=by simp[ioN]
theorem ioN_nth (l:Int){j:Nat}(h:j<l.toNat):nth (ioN l) j=j:=by simp[ioN,nth,h]
def ioL (s:List Int):List Ar:=s.map fun l=>(false,([l],ioN l))
theorem ioL_S:∀ s:List Int,pkS (ioL s)=s
 | []=>rfl
 | x::s=>by show [x]++pkS (ioL s)=_;rw[ioL_S s];rfl
theorem io_flaw {l:Int}(h0:0<=l)(h1:l<=4096):flawE false [l] (ioN l)=0:=by
 refine flawE_okn (errOf_zero.2 ⟨by simp,fun y hy=>by rw[List.mem_singleton.1 hy];omega,by simp only[prod,Int.mul_one];exact h1⟩) ?_
 rw[ioN_length]
 simp only[prod,Int.mul_one]
 omega
theorem ioL_flaw:∀ {s:List Int},AllIn s->flL (ioL s)=0
 | [],_=>rfl
 | x::s,h=>by
  have hx:=h x List.mem_cons_self
  show (if flawE false [x] (ioN x)≠0 then flawE false [x] (ioN x) else flL (ioL s))=0
  rw[if_neg (by simpa using io_flaw hx.1 hx.2)]
  exact ioL_flaw h.tail
theorem ioL_ch:∀ s:List Int,chL (ioL s)=false
 | []=>rfl
 | x::s=>by show (false || chL (ioL s))=false;rw[ioL_ch s];rfl
theorem ioL_ix:∀ {s:List Int},AllIn s->ixB (ioL s) s=true
 | [],_=>rfl
 | x::s,h=>by
  show (((ioN x).all fun i=>decide (0<=i/\i<nth (x::s) 0)) && ixB (ioL s) s)=true
  rw[ioL_ix h.tail,Bool.and_true,List.all_eq_true]
  intro i hi
  simp only[ioN,List.mem_map,List.mem_range] at hi
  obtain⟨j,hj,rfl⟩:=hi
  rw[nth_zero]
  simp
  omega
theorem cel_io {x a:Int}(h0:0<=a)(h1:a<x):cel [x] (ioN x) [a]=a:=by
 unfold cel
 simp only[place,prod,Int.mul_one,Int.add_zero]
 rw[ioN_nth x (by omega)]
 omega
theorem ioL_T:∀ {s t:List Int},insB s t=true->pkT (ioL s) t=t
 | [],[],_=>rfl
 | [],_::_,h=>by simp[insB] at h
 | _::_,[],h=>by simp[insB] at h
 | x::s,a::t,h=>by
  have h1:=ins_cons.1 h
  show cel [x] (ioN x) [a]::pkT (ioL s) t=_
  rw[cel_io h1.1.1 h1.1.2,ioL_T h1.2]
section
variable {c : Bool} {s dz : List Int}
end
theorem lR_prod {c:Bool}{x:Int}{s dz:List Int}(h:flawE c (x::s) dz=0)(hx:x≠0):(lR (x::s) dz:Int)=prod s/\nR (x::s)*lR (x::s) dz=dz.length:=by
 have he:=(flawE_zero h).1
 have hd:=(flawE_zero h).2.1
 have ha:=(errOf_zero.1 he).2.1
 have hx0:=(ha x List.mem_cons_self).1
 have hp:prod (x::s)=x*prod s:=rfl
 have hs0:0<=prod s:=by
  by_cases q:0<=prod s
  ·exact q
  ·exfalso
   have:=Int.mul_neg_of_pos_of_neg (show 0<x by omega) (show prod s<0 by omega)
   rw[hp] at hd;omega
 obtain⟨X,rfl⟩:=Int.eq_ofNat_of_zero_le hx0
 obtain⟨P,hP⟩:=Int.eq_ofNat_of_zero_le hs0
 rw[hP] at hp ⊢
 rw[hp,<-Int.natCast_mul] at hd
 have hd2:dz.length=X*P:=by omega
 have hn:nR ((X:Int)::s)=X:=by unfold nR;rw[nth_zero,Int.toNat_natCast]
 have hl:lR ((X:Int)::s) dz=P:=by
  unfold lR
  rw[hn,if_neg (by omega),hd2]
  exact Nat.mul_div_cancel_left P (by omega)
 rw[hl,hn]
 exact⟨rfl,hd2.symm⟩
theorem lR_whole {c:Bool}{x:Int}{s dz:List Int}(h:flawE c (x::s) dz=0):dz.length=nR (x::s)*lR (x::s) dz:=by
 by_cases hx:x=0
 ·have hd:=(flawE_zero h).2.1
  subst hx
  have hp:prod (0::s)=0*prod s:=rfl
  rw[hp,Int.zero_mul] at hd
  have:nR (0::s)=0:=rfl
  rw[this,Nat.zero_mul];omega
 ·exact (lR_prod h hx).2.symm
theorem srD_nth {dz:List Int}{n long:Nat}{p:List Int}(h:n*long<=dz.length)(hp:IsOrd p)(hl:p.length=n){i j:Nat}(hi:i<n)(hj:j<long):nth (srD dz long p) (i*long+j)=nth dz ((nth p i).toNat*long+j):=by
 rw[<-rwL_nth hj,srD_row h hp hl hi,rwL_nth hj]
theorem cel_one {x a:Int}{p:List Int}(h0:0<=a):cel [x] p [a]=nth p a.toNat:=by
 unfold cel
 simp only[place,prod,Int.mul_one,Int.add_zero]
theorem all_ord {c:Bool}{x:Int}{s dz p:List Int}(h:flawE c (x::s) dz=0)(hp:IsOrd p)(hl:(p.length:Int)=x):
  pkE c (x::s) dz ((false,([x],p))::ioL s)=0/\pkS ((false,([x],p))::ioL s)=x::s/\pkD (x::s) dz ((false,([x],p))::ioL s)=srD dz (lR (x::s) dz) p:=by
 have he:=(flawE_zero h).1
 have hd:=(flawE_zero h).2.1
 have ha:=(errOf_zero.1 he).2.1
 have hx:=ha x List.mem_cons_self
 have hn:nR (x::s)=p.length:=by unfold nR;rw[nth_zero];omega
 have f0:=io_flaw hx.1 hx.2
 have fr:flawE false [x] p=0:=flawE_okn (flawE_zero f0).1 (by simp only[prod,Int.mul_one];exact hl)
 have hS:pkS ((false,([x],p))::ioL s)=x::s:=by show [x]++pkS (ioL s)=_;rw[ioL_S];rfl
 refine⟨pkE_zero.2 ⟨h,?_,by simp[ioL],?_,by rw[hS];exact he,?_⟩,hS,?_⟩
 ·show (if flawE false [x] p≠0 then flawE false [x] p else flL (ioL s))=0
  rw[if_neg (by simpa using fr)]
  exact ioL_flaw ha.tail
 ·show (false || chL (ioL s))=false;rw[ioL_ch s];rfl
 ·show ((p.all fun i=>decide (0<=i/\i<nth (x::s) 0)) && ixB (ioL s) s)=true
  rw[ioL_ix ha.tail,Bool.and_true,List.all_eq_true]
  intro i hi
  obtain⟨j,hj,rfl⟩:=List.mem_iff_getElem.1 hi
  have:=hp.1 j hj
  rw[nth_zero,<-nth_get p j hj]
  exact decide_eq_true ⟨this.1,by omega⟩
 ·unfold pkD
  rw[hS]
  have hw:=lR_whole h
  have hle:p.length*lR (x::s) dz<=dz.length:=by rw[<-hn];exact lR_le _ _
  refine (TA_ext he ?_ fun t ht=>?_).symm
  ·rw[srD_length hle hp rfl,<-hn,<-hw];omega
  ·match t,ht with
   | a::t,ht=>
    have h1:=ins_cons.1 ht
    have hb:=place_bd h1.2
    have hx0:x≠0:=by omega
    have hL:=(lR_prod h hx0).1
    have o:=ord_at hp (i:=a.toNat) (by omega)
    show cel (x::s) (srD dz (lR (x::s) dz) p) (a::t)=cel (x::s) dz (cel [x] p [a]::pkT (ioL s) t)
    rw[cel_one h1.1.1,ioL_T h1.2]
    unfold cel
    have e1:(place (x::s) (a::t)).toNat=a.toNat*lR (x::s) dz+(place s t).toNat:=by
     show (a*prod s+place s t).toNat=_
     rw[<-hL]
     obtain⟨A,hA⟩:=Int.eq_ofNat_of_zero_le h1.1.1
     obtain⟨T,hT⟩:=Int.eq_ofNat_of_zero_le hb.1
     rw[hA,hT,<-Int.natCast_mul,<-Int.natCast_add,Int.toNat_natCast,Int.toNat_natCast,Int.toNat_natCast]
    have e2:(place (x::s) (nth p a.toNat::t)).toNat=(nth p a.toNat).toNat*lR (x::s) dz+(place s t).toNat:=by
     show (nth p a.toNat*prod s+place s t).toNat=_
     rw[<-hL]
     obtain⟨T,hT⟩:=Int.eq_ofNat_of_zero_le hb.1
     rw[<-o.2,hT,<-Int.natCast_mul,<-Int.natCast_add,Int.toNat_natCast,Int.toNat_natCast,Int.toNat_natCast]
    rw[e1,e2]
    exact srD_nth hle hp rfl (by omega) (by omega)
theorem srD_mem {dz:List Int}{long:Nat}{p:List Int}{x:Int}(h:x∈srD dz long p):x∈dz:=by
 unfold srD at h
 obtain⟨r,hr,hx⟩:=List.mem_flatten.1 h
 obtain⟨y,_,rfl⟩:=List.mem_map.1 hr
 exact List.mem_of_mem_drop (List.mem_of_mem_take hx)
theorem srD_flaw {c:Bool}{sz dz p:List Int}(h:gdE c sz dz=0)(hp:IsOrd p)(hl:p.length=nR sz):flawE c sz (srD dz (lR sz dz) p)=0/\(srD dz (lR sz dz) p).length=dz.length:=by
 have h1:=gdE_zero.1 h
 have h2:=flawE_zero h1.1
 have hlen:(srD dz (lR sz dz) p).length=dz.length:=by
  rw[srD_length (lR_le sz dz) hp hl]
  match sz,h1 with
  | x::s,h1=>exact (lR_whole h1.1).symm
  | [],h1=>exact absurd h1.2 (by simp)
 refine⟨?_,hlen⟩
 unfold flawE
 rw[if_neg (by simpa using h2.1),if_neg (by rw[hlen];simpa using h2.2.1),if_neg]
 rintro ⟨hc,ha⟩
 have h3:=h2.2.2 hc
 rw[chAll,List.all_eq_true] at h3
 have h4:chAll (srD dz (lR sz dz) p)=true:=by rw[chAll,List.all_eq_true];exact fun x hx=>h3 x (srD_mem hx)
 rw[h4] at ha;cases ha
theorem pick_ord {c:Bool}{l0:Int}{t0 dz p:List Int}(h:gdE c (l0::t0) dz=0)(hp:IsOrd p)(hl:p.length=nR (l0::t0)):
  pkE c (l0::t0) dz ((false,([(p.length:Int)],p))::ioL t0)=0/\pkS ((false,([(p.length:Int)],p))::ioL t0)=l0::t0/\pkD (l0::t0) dz ((false,([(p.length:Int)],p))::ioL t0)=srD dz (lR (l0::t0) dz) p:=by
 have e:(p.length:Int)=l0:=by
  have:=(nR_is h).1
  rw[nth_zero] at this
  rw[hl];exact this.symm
 rw[e]
 exact all_ord (gdE_zero.1 h).1 hp e
def Ok16 (n m:Nat)(c:Bool)(S D:List Int)(w:World)(e:Ending)(w':World):Prop:=∃ xa xc ya yc,e=.returned (.tuple #[.agg #[.bool c,.slice xa n xc,.slice ya m yc],.nilIface])/\NewC w.heap.size w' xa S xc/\NewC w.heap.size w' ya D yc/\Below w.heap.size w w'
theorem ok16_of {A:An}{c:Bool}{S D:List Int}{n m:Nat}(h:A=anA c S D)(hn:S.length=n)(hm:D.length=m){F:Nat}{args:Array Value}{w:World}(k:Calls Tryz.prog F args w (AnP A w)):Calls Tryz.prog F args w (Ok16 n m c S D w):=by
 subst h hn hm
 exact k
theorem In64.len {n:Nat}(h:n<=4096):In64 (n:Int):=by unfold In64;omega
theorem In64.one {x:Int}(h:In64 x):∀ j,In64 (nth [x] j):=fun j=>by
 cases j with
 | zero=>exact h
 | succ j=>show In64 0;unfold In64;decide
section
variable {c : Bool} {sz dz : List Int}
theorem shape_flaw (F:flawE c sz dz=0):flawE false [(sz.length:Int)] sz=0:=by
 have h:=flawE_short F
 exact flawE_okn (errOf_line (by omega)) (prod_line _).symm
theorem rho_is (F:flawE c sz dz=0):p2A 18 false [(sz.length:Int)] sz c [(dz.length:Int)] dz=anA c sz dz:=by
 have h:=flawE_zero F
 have e0:p2A 18=byL fun l c sz dz=>anE (errOf l) c l (cyc dz (prod l).toNat (fillE c)):=rfl
 rw[e0]
 unfold byL
 rw[if_pos (by unfold lstE;simp)]
 show anE (errOf sz) c sz (cyc dz (prod sz).toNat (fillE c))=_
 rw[anE_ok h.1]
 have e:(prod sz).toNat=dz.length:=by omega
 rw[e,cyc_self]
theorem same_is (F:flawE c sz dz=0):p2A 32 c sz dz c sz dz=anA false [] [1]:=by
 show anA false [] [_]=_
 rw[mtB_ok F F,arrB_self]
 rfl
theorem turn_is (F:flawE c sz dz=0)(T:∀ j,In64 (nth dz j)):∃ R,p1A 20 c sz dz=anA c sz R/\p1A 20 c sz R=anA c sz dz/\R.length=dz.length/\flawE c sz R=0/\∀ j,In64 (nth R j):=by
 have h:=flawE_zero F
 by_cases h0:sz.length=0
 ·have e:sz=[]:=List.eq_nil_of_length_eq_zero h0
  subst e
  exact⟨dz,rfl,rfl,rfl,F,T⟩
 ·have hx:axE ((sz.length:Int)-1) c sz dz=0:=axE_zero.2 ⟨F,by omega,by omega⟩
  have hl:(rvG ((sz.length:Int)-1) sz dz).length=dz.length:=by unfold rvG;rw[GA_length];omega
  have k:∀ xs,axE ((sz.length:Int)-1) c sz xs=0->p1A 20 c sz xs=anA c sz (rvG ((sz.length:Int)-1) sz xs):=fun xs hs=>by
   show lastA rvA c sz xs=_
   unfold lastA rvA
   rw[if_neg h0,anE_ok hs]
   rfl
  refine⟨_,k dz hx,?_,hl,rv_flaw hx,?_⟩
  ·rw[k _ (axE_of hx (rv_flaw hx)),rv_rv hx]
  ·unfold rvG;exact GA_64 T
theorem up_is (F:flawE c sz dz=0)(h:sz.length=1):gdE c sz dz=0/\p1A 26 c sz dz=anA false [((gdO false sz dz).length:Int)] (gdO false sz dz):=by
 have e:gdE c sz dz=0:=gdE_zero.2 ⟨F,by omega⟩
 exact⟨e,anE_ok e⟩
theorem at_up (F:flawE c sz dz=0)(h:sz.length=1):pkE c sz dz [(false,([((gdO false sz dz).length:Int)],gdO false sz dz))]=0/\pkS [(false,([((gdO false sz dz).length:Int)],gdO false sz dz))]=sz/\pkD sz dz [(false,([((gdO false sz dz).length:Int)],gdO false sz dz))]=gdD sz dz:=by
 match sz,h with
 | [l],_=>
  have e:gdE c [l] dz=0:=gdE_zero.2 ⟨F,by simp⟩
  exact pick_ord e (gdO_ord _ _ _) gdO_length
theorem gdD_len (F:flawE c sz dz=0)(h:sz.length=1):(gdD sz dz).length=dz.length:=by
 have e:gdE c sz dz=0:=gdE_zero.2 ⟨F,by omega⟩
 exact (srD_flaw e (gdO_ord _ _ _) gdO_length).2
theorem gdO_64 (F:flawE c sz dz=0)(h:sz.length=1):(∀ j,In64 (nth [((gdO false sz dz).length:Int)] j))/\(∀ j,In64 (nth (gdO false sz dz) j))/\(gdO false sz dz).length<=4096:=by
 have e:gdE c sz dz=0:=gdE_zero.2 ⟨F,by omega⟩
 have h2:=(nR_is e).2
 have hl:(gdO false sz dz).length=nR sz:=gdO_length
 have ho:=gdO_ord false sz dz
 refine⟨In64.one (In64.len (by omega)),fun j=>?_,by omega⟩
 by_cases hj:j<(gdO false sz dz).length
 ·have:=(ho.1 j hj)
  unfold In64
  omega
 ·have:nth (gdO false sz dz) j=0:=by simp[nth,List.getElem?_eq_none (Nat.le_of_not_lt hj)]
  rw[this];unfold In64;decide
end
theorem one0 {B:A1}{f:Int}(H:∀ w',Calls Tryz.prog 23 #[.int .i64 f] w' (Mk1 B w')){c:Bool}{sa:Option Addr}{sc:Nat}{sz:List Int}{da:Option Addr}{dc:Nat}{dz:List Int}{c':Bool}{S D:List Int}{n m l k:Nat}(hl:sz.length=l)(hk:dz.length=k)(h:B c sz dz=anA c' S D)(hn:S.length=n)(hm:D.length=m){w:World}(l1:sz.length<=9223372036854775807)(l2:dz.length<=9223372036854775807)(hs:IsC w.heap.size w sa sz sc)(hd:IsC w.heap.size w da dz dc)(F:flawE c sz dz=0)(T:∀ j,In64 (nth dz j)):
  Calls Tryz.prog 4 #[.agg #[.int .i64 0,.int .i64 f,.int .i64 0],.agg #[.bool c,.slice sa l sc,.slice da k dc]] w (Ok16 n m c' S D w):=by
 subst hl hk
 exact ok16_of h hn hm (findOne_ok B 0 f 0 c sa sc sz da dc dz (fun w'=>f1_0 _ f 0 H w') w l1 l2 hs hd F T)
theorem two0 {B:A2}{f:Int}(H:∀ w',Calls Tryz.prog 28 #[.int .i64 f] w' (Mk2 B w')){c:Bool}{sa:Option Addr}{sc:Nat}{sz:List Int}{da:Option Addr}{dc:Nat}{dz:List Int}{c2:Bool}{sa2:Option Addr}{sc2:Nat}{sz2:List Int}{da2:Option Addr}{dc2:Nat}{dz2:List Int}{c':Bool}{S D:List Int}{n m l k l' k':Nat}(hl:sz.length=l)(hk:dz.length=k)(hl':sz2.length=l')(hk':dz2.length=k')(h:B c sz dz c2 sz2 dz2=anA c' S D)(hn:S.length=n)(hm:D.length=m){w:World}(l1:sz.length<=9223372036854775807)(l2:dz.length<=9223372036854775807)(hs:IsC w.heap.size w sa sz sc)(hd:IsC w.heap.size w da dz dc)(l3:sz2.length<=9223372036854775807)(l4:dz2.length<=9223372036854775807)(hs2:IsC w.heap.size w sa2 sz2 sc2)(hd2:IsC w.heap.size w da2 dz2 dc2)(F:flawE c sz dz=0)(T:∀ j,In64 (nth dz j))(F2:flawE c2 sz2 dz2=0)(T2:∀ j,In64 (nth dz2 j)):
  Calls Tryz.prog 8 #[.agg #[.int .i64 0,.int .i64 f,.int .i64 0],.agg #[.bool c,.slice sa l sc,.slice da k dc],.agg #[.bool c2,.slice sa2 l' sc2,.slice da2 k' dc2]] w (Ok16 n m c' S D w):=by
 subst hl hk hl' hk'
 exact ok16_of h hn hm (findTwo_ok B 0 f 0 c sa sc sz da dc dz c2 sa2 sc2 sz2 da2 dc2 dz2 (fun w'=>f2_0 _ f 0 H w') w l1 l2 hs hd l3 l4 hs2 hd2 F T F2 T2)
theorem alike5 (c:Bool)(sa:Option Addr)(sc:Nat)(sz:List Int)(da:Option Addr)(dc:Nat)(dz:List Int)(sa':Option Addr)(sc':Nat)(da':Option Addr)(dc':Nat)(m:Nat)(hm:dz.length=m)
  (h1:sz.length<=9223372036854775807)(h2:dz.length<=9223372036854775807)(w:World)(hs:IsInts w.heap.size w sa sz)(hd:IsInts w.heap.size w da dz)(hs':IsInts w.heap.size w sa' sz)(hd':IsInts w.heap.size w da' dz):
  Calls Tryz.prog 9 #[.agg #[.bool c,.slice sa sz.length sc,.slice da m dc],.nilIface,.agg #[.bool c,.slice sa' sz.length sc',.slice da' m dc'],.nilIface] w fun r w'=>r=.returned (.bool true)/\Below w.heap.size w w':=by
 subst hm
 have HI:Hid ((IsInts w.heap.size w sa sz/\IsInts w.heap.size w da dz)/\(IsInts w.heap.size w sa' sz/\IsInts w.heap.size w da' dz)):=⟨⟨hs,hd⟩,hs',hd'⟩
 clear hs hd hs' hd'
 have hb:Hid (Below w.heap.size w ((w.alloc (.cells #[.bool c,.slice sa sz.length sc,.slice da dz.length dc] 24)).alloc (.cells #[.bool c,.slice sa' sz.length sc',.slice da' dz.length dc'] 24))):=((Below.refl _ w).alloc (Nat.le_refl _) _).alloc (by simp) _
 go_enter Tryz.func9,Tryz.ntmps9
 go_wp2_with fail
 refine (sarr_any c c sa sc sz da dc dz sa' sc' sz da' dc' dz h1 h2 _ ((HI.1.1.below hb.out).mono hb.size) ((HI.1.2.below hb.out).mono hb.size) ((HI.2.1.below hb.out).mono hb.size) ((HI.2.2.below hb.out).mono hb.size)).mono ?_
 rintro r v1 ⟨rfl,hB⟩
 rw[arrB_self]
 have hb1:Hid (Below w.heap.size w v1):=hb.trans (hB.mono hb.size)
 clear hB
 go_wp2_with fail
 go_ret
 exact⟨rfl,hb1.out⟩
theorem nth_cons9 (x:Int)(r:List Int)(j:Nat):nth (x::r) (j+1)=nth r j:=by simp[nth]
theorem cmp_cut:∀ (k:Nat) {p q:List Int},(∀ j,j<k->nth p j=nth q j)->k<p.length->k<q.length->cmpL p q=(if nth p k<nth q k then -1 else if nth q k<nth p k then 1 else cmpL (p.drop (k+1)) (q.drop (k+1)))
 | 0,x::p,y::q,_,_,_=>rfl
 | k+1,x::p,y::q,h,hp,hq=>by
  have e:x=y:=h 0 (by omega)
  subst e
  have ih:=cmp_cut k (p:=p) (q:=q) (fun j hj=>by have:=h (j+1) (by omega);rwa [nth_cons9,nth_cons9] at this) (by simpa using hp) (by simpa using hq)
  rw[nth_cons9,nth_cons9,List.drop_succ_cons,List.drop_succ_cons,<-ih]
  show (if x<x then (-1:Int) else if x<x then 1 else cmpL p q)=_
  rw[if_neg (by omega),if_neg (by omega)]
 | _,[],_,_,hp,_=>by simp at hp
 | _,_,[],_,_,hq=>by simp at hq
theorem cmp_same:∀ p:List Int,cmpL p p=0
 | []=>rfl
 | x::p=>by
  show (if x<x then (-1:Int) else if x<x then 1 else cmpL p p)=0
  rw[if_neg (by omega),if_neg (by omega)]
  exact cmp_same p
theorem ret_int9 {a b:Int}(h:a=b):Ending.returned (.int .i64 a)=.returned (.int .i64 b):=by rw[h]
def cm3 (x y:Int):Int:=if x<y then -1 else if y<x then 1 else 0
theorem nan_any (x:Int)(w:World):Calls Tryz.prog 159 #[.int .i64 x] w fun e w'=>e=.returned (.bool false)/\w'=w:=by
 go_enter Tryz.func159,Tryz.ntmps159
 go_wp2_with fail
 go_ret
 exact⟨rfl,rfl⟩
theorem cmpi_any (x y:Int)(w:World):Calls Tryz.prog 92 #[.int .i64 x,.int .i64 y] w fun e w'=>e=.returned (.int .i64 (cm3 x y))/\w'=w:=by
 have H:Hid (∀ z,Calls Tryz.prog 159 #[.int .i64 z] w fun e w'=>e=.returned (.bool false)/\w'=w):=fun z=>nan_any z w
 by_cases h1:x<y
 ·have HE:Hid (cm3 x y=-1):=by show _=_;unfold cm3;rw[if_pos h1]
  go_enter Tryz.func92,Tryz.ntmps92
  go_wp2_with fail
  refine (H.out x).mono ?_
  rintro e w1 ⟨rfl,rfl⟩
  go_wp2_with fail
  refine (H.out y).mono ?_
  rintro e w2 ⟨rfl,rfl⟩
  go_wp2_with fail
  go_ret
  exact⟨by rw[HE.out];rfl,rfl⟩
 ·by_cases h2:y<x
  ·have HE:Hid (cm3 x y=1):=by show _=_;unfold cm3;rw[if_neg h1,if_pos h2]
   go_enter Tryz.func92,Tryz.ntmps92
   go_wp2_with fail
   refine (H.out x).mono ?_
   rintro e w1 ⟨rfl,rfl⟩
   go_wp2_with fail
   refine (H.out y).mono ?_
   rintro e w2 ⟨rfl,rfl⟩
   go_wp2_with fail
   go_ret
   exact⟨by rw[HE.out];rfl,rfl⟩
  ·have HE:Hid (cm3 x y=0):=by show _=_;unfold cm3;rw[if_neg h1,if_neg h2]
   go_enter Tryz.func92,Tryz.ntmps92
   go_wp2_with fail
   refine (H.out x).mono ?_
   rintro e w1 ⟨rfl,rfl⟩
   go_wp2_with fail
   refine (H.out y).mono ?_
   rintro e w2 ⟨rfl,rfl⟩
   go_wp2_with fail
   go_ret
   exact⟨by rw[HE.out];rfl,rfl⟩
theorem cm3_cut {k:Nat}{p q:List Int}(h:∀ j,j<k->nth p j=nth q j)(hp:k<p.length)(hq:k<q.length)(hne:cm3 (nth p k) (nth q k)≠0):cmpL p q=cm3 (nth p k) (nth q k):=by
 rw[cmp_cut k h hp hq]
 unfold cm3 at *
 by_cases h1:nth p k<nth q k
 ·rw[if_pos h1,if_pos h1]
 ·rw[if_neg h1] at hne ⊢
  rw[if_neg h1]
  by_cases h2:nth q k<nth p k
  ·rw[if_pos h2,if_pos h2]
  ·rw[if_neg h2] at hne;exact absurd rfl hne
theorem cm3_zero {x y:Int}(h:cm3 x y=0):x=y:=by
 unfold cm3 at h
 by_cases h1:x<y
 ·rw[if_pos h1] at h;exact absurd h (by decide)
 ·rw[if_neg h1] at h
  by_cases h2:y<x
  ·rw[if_pos h2] at h;exact absurd h (by decide)
  ·omega
theorem scmp_any (a:Option Addr)(cap:Nat)(p:List Int)(b:Option Addr)(bap:Nat)(q:List Int)(hl:p.length=q.length)(hreach:p.length<=9223372036854775807)(n₀:Nat)(w:World)(hI:IsInts n₀ w a p)(hI':IsInts n₀ w b q):
  Calls Tryz.prog 41 #[.slice a p.length cap,.slice b q.length bap] w fun e w'=>e=.returned (.int .i64 (cmpL p q))/\w'=w:=by
 obtain⟨C,hC⟩:∃ C,C=cmpL p q:=⟨_,rfl⟩
 rw[<-hC]
 have HC:Hid (C=cmpL p q):=hC
 have H:Hid (p.length=q.length):=hl
 have HM:Hid (∀ x y,Calls Tryz.prog 92 #[.int .i64 x,.int .i64 y] w fun e w'=>e=.returned (.int .i64 (cm3 x y))/\w'=w):=fun x y=>cmpi_any x y w
 have l1:p.length<=q.length:=by omega
 have l2:q.length<=p.length:=by omega
 clear hl hC
 go_enter Tryz.func41,Tryz.ntmps41
 go_wp2_with fail
 go_loopw [11] (fun i wr=>∃ k:Nat,k<=p.length/\i=.int .i64 k/\(∀ j,j<k->nth p j=nth q j)/\wr=w) (fun i _=>p.length-(intOf i).toNat)
 case atStart=>exact⟨0,Nat.zero_le _,rfl,fun j hj=>by omega,rfl⟩
 case round=>
  obtain⟨k,hk,rfl,hsame,rfl⟩:=hrel
  have HS:Hid (∀ j,j<k->nth p j=nth q j):=hsame
  clear hsame
  by_cases hlt:k<p.length
  ·have hlt':k<q.length:=by omega
   obtain⟨bb,off,rfl,hb,hcell⟩:=hI.at hlt
   obtain⟨b',off',rfl,hb',hcell'⟩:=hI'.at hlt'
   have hc:=hcell k hlt
   have hc':=hcell' k hlt'
   clear hcell hcell'
   by_cases h1:cm3 (nth p k) (nth q k)=0
   ·have HE:Hid (nth p k=nth q k):=cm3_zero h1
    have hb0:(cm3 (nth p k) (nth q k) == 0)=true:=by rw[h1];rfl
    go_wp2_with fail
    refine (HM.out _ _).mono ?_
    rintro e w1 ⟨rfl,rfl⟩
    go_wp2_with fail
    have HS2:∀ j,j<k+1->nth p j=nth q j:=fun j hj=>by
     by_cases e:j=k
     ·rw[e];exact HE.out
     ·exact HS.out j (by omega)
    exact⟨⟨k+1,by omega,by go_num,HS2,by first | rfl | trivial⟩,by simp[intOf];omega⟩
   ·have HF:Hid (C=cm3 (nth p k) (nth q k)):=by show _=_;rw[HC.out];exact cm3_cut HS.out hlt hlt' h1
    have hb0:(cm3 (nth p k) (nth q k) == 0)=false:=beq_eq_false_iff_ne.2 h1
    go_wp2_with fail
    refine (HM.out _ _).mono ?_
    rintro e w1 ⟨rfl,rfl⟩
    go_wp2_with fail
    go_ret
    exact⟨ret_int9 HF.symm,rfl⟩
  ·obtain rfl:k=p.length:=by omega
   have hfin:Hid (C=0):=by show _=_;rw[HC.out,<-nth_ext H.out HS.out,cmp_same]
   go_wp2_with fail
   go_ret
   exact⟨ret_int9 hfin.symm,rfl⟩
def RwF (f:Nat)(cmp:List Int->List Int->Int):Prop:=∀ (a:Option Addr) (cap:Nat) (p:List Int) (b:Option Addr) (bap:Nat) (q:List Int),p.length=q.length->p.length<=9223372036854775807->∀ (n₀:Nat) (w:World),IsInts n₀ w a p->IsInts n₀ w b q →
 Calls Tryz.prog f #[.slice a p.length cap,.slice b q.length bap] w fun e w'=>e=.returned (.int .i64 (cmp p q))/\w'=w
theorem up1_any:RwF 40 cmpL:=by
 intro a cap p b bap q hl hr n₀ w hI hI'
 have H:Hid (Calls Tryz.prog 41 #[.slice a p.length cap,.slice b q.length bap] w fun e w'=>e=.returned (.int .i64 (cmpL p q))/\w'=w):=scmp_any a cap p b bap q hl hr n₀ w hI hI'
 clear hI hI' hl
 go_enter Tryz.func40,Tryz.ntmps40
 go_wp2_with fail
 refine H.mono ?_
 rintro e w1 ⟨rfl,rfl⟩
 go_wp2_with fail
 go_ret
 exact⟨rfl,rfl⟩
def rwV (da:Option Addr)(dc long j:Nat):Value:=if dc=j*long then .slice da 0 0 else .slice (da.map fun x=>x.add (j*long)) long (dc-j*long)
theorem rwV_is {n₀:Nat}{W:World}{da:Option Addr}{dz:List Int}{dc n long j:Nat}(h:IsC n₀ W da dz dc)(hn:n*long<=dz.length)(hj:j<n):∃ ad cp,rwV da dc long j=.slice ad long cp/\IsC n₀ W ad (rwL dz long j) cp:=by
 have hl:=rwL_length hn hj
 have h1:j*long+long<=n*long:=by
  have:=Nat.mul_le_mul_right long (show j+1<=n by omega)
  rw[Nat.add_mul,Nat.one_mul] at this;exact this
 have hc:=h.2
 unfold rwV
 by_cases e:dc=j*long
 ·have h0:long=0:=by omega
  rw[if_pos e]
  exact⟨da,0,by rw[h0],.inl (List.eq_nil_of_length_eq_zero (by omega)),by omega⟩
 ·rw[if_neg e]
  refine⟨_,_,rfl,?_,by omega⟩
  by_cases h0:long=0
  ·exact .inl (List.eq_nil_of_length_eq_zero (by omega))
  ·obtain⟨b,off,rfl,hb,hcell⟩:=h.1.at (q:=j*long) (by omega)
   refine .inr ⟨b,off+j*long,by simp[Addr.add],hb,fun q hq=>?_⟩
   rw[hl] at hq
   rw[rwL_nth hq,Nat.add_assoc]
   exact hcell _ (by omega)
def RwsP (da:Option Addr)(dc n long:Nat)(w:World)(r:Ending)(w':World):Prop:=
 ∃ B,r=.returned (.slice (some ⟨B,0,none⟩) n n)/\w.heap.size<=B/\w'.rowIs B 22 n (rwV da dc long)/\Below w.heap.size w w'
def upV (da:Option Addr)(dc long k j:Nat):Value:=if j<k then rwV da dc long j else .slice none 0 0
theorem upV_set {W:World}{B n:Nat}{da:Option Addr}{dc long k:Nat}(h:W.rowIs B 22 n (upV da dc long k))(v:Value)(hv:v=rwV da dc long k):(W.setCell ⟨B,k,none⟩ v).rowIs B 22 n (upV da dc long (k+1)):=by
 subst hv
 refine (h.set k _).congr fun j hj=>?_
 unfold upV
 by_cases e:j=k
 ·rw[if_pos e,if_pos (by omega),e]
 ·rw[if_neg e]
  by_cases h1:j<k
  ·rw[if_pos h1,if_pos (by omega)]
  ·rw[if_neg h1,if_neg (by omega)]
theorem rows_any (c:Bool)(sa:Option Addr)(sc:Nat)(sz:List Int)(da:Option Addr)(dc:Nat)(dz:List Int)(n:Nat)(hn:nth sz 0=(n:Int))(hn4:n<=4096)(h1:0<sz.length)(h2:dz.length<=4096)(w:World)(hs:IsInts w.heap.size w sa sz)(hd:IsC w.heap.size w da dz dc):
  Calls Tryz.prog 21 #[.agg #[.bool c,.slice sa sz.length sc,.slice da dz.length dc]] w (RwsP da dc n (dz.length/n) w):=by
 have hmk:=run_make_row' (P:=Tryz.prog) 57 22 (.slice none 0 0) 24 Tryz.underlying57 (by kernel_rfl) rfl .i64 .i64 n (by omega) (by omega)
 obtain⟨bs,os,rfl,hbs,hcS⟩:=hs.at h1
 have c0:=hcS 0 h1
 rw[hn] at c0
 have HP:Hid (Abx (w.alloc (.cells #[.bool c,.slice (some ⟨bs,os,none⟩) sz.length sc,.slice da dz.length dc] 24)) w.heap.size (.bool c) (.slice (some ⟨bs,os,none⟩) sz.length sc) (.slice da dz.length dc)):=Abx.new w _ _ _
 have HB0:Hid (Below w.heap.size w (w.alloc (.cells #[.bool c,.slice (some ⟨bs,os,none⟩) sz.length sc,.slice da dz.length dc] 24))):=(Below.refl _ w).alloc (Nat.le_refl _) _
 have c1:(w.alloc (.cells #[.bool c,.slice (some ⟨bs,os,none⟩) sz.length sc,.slice da dz.length dc] 24)).cell? ⟨bs,os+0,none⟩=some (.int .i64 (n:Int)):=(HB0.cell (p:=⟨bs,os+0,none⟩) hbs).trans c0
 rw[Nat.add_zero] at c1
 have p1:=HP.c1
 have HD:Hid (dz.length<=dc):=hd.2
 clear hcS c0 hs hd
 obtain⟨L,hL⟩:∃ L,L=dz.length/n:=⟨_,rfl⟩
 rw[<-hL]
 have HL:Hid (L=dz.length/n):=hL
 clear hL
 go_enter Tryz.func21,Tryz.ntmps21
 go_wp2_with fail
 clear hmk
 go_loopw [13] (fun i wr=>∃ k:Nat,k<=n/\i=.int .i64 k/\Abx wr w.heap.size (.bool c) (.slice (some ⟨bs,os,none⟩) sz.length sc) (.slice da dz.length dc)/\wr.rowIs (w.heap.size+1) 22 n (upV da dc L k)/\Below w.heap.size w wr) (fun i _=>n-(intOf i).toNat)
 case atStart=>
  refine⟨0,Nat.zero_le _,rfl,HP.al _,?_,HB0.alloc HB0.size _⟩
  have h:=World.rowIs_made (w.alloc (.cells #[.bool c,.slice (some ⟨bs,os,none⟩) sz.length sc,.slice da dz.length dc] 24)) (.slice none 0 0) n 22
  rw[World.size_alloc] at h
  exact h.congr fun j _=>by unfold upV;rw[if_neg (by omega)]
 case round=>
  obtain⟨k,hk,rfl,hA,hrow,hB⟩:=hrel
  have HA:Hid (Abx wr w.heap.size (.bool c) (.slice (some ⟨bs,os,none⟩) sz.length sc) (.slice da dz.length dc)):=hA
  have HR:Hid (wr.rowIs (w.heap.size+1) 22 n (upV da dc L k)):=hrow
  have HB:Hid (Below w.heap.size w wr):=hB
  clear hB
  by_cases hlt:k<n
  ·have p2:=hA.c2
   have hL:=HL.out
   have e1:(dz.length:Int)/(n:Int)=(L:Int):=by rw[hL];rfl
   obtain⟨D,hD⟩:∃ D,D=dz.length:=⟨_,rfl⟩
   have hD4:D<=4096:=by omega
   have hDc:D<=dc:=by rw[hD];exact HD.out
   rw[<-hD] at p2 e1
   obtain⟨K0,hK0⟩:∃ K0,K0=k*L:=⟨_,rfl⟩
   have e2:(k:Int)*(L:Int)=(K0:Int):=by rw[hK0];exact (Int.natCast_mul _ _).symm
   have e3:((k:Int)+1)*(L:Int)=((K0+L:Nat):Int):=by rw[Int.add_mul,e2,Int.one_mul];rfl
   have hKD:K0+L<=D:=by
    have:=Nat.mul_le_mul_right L (show k+1<=n by omega)
    rw[Nat.add_mul,Nat.one_mul,<-hK0] at this
    have h5:n*L<=dz.length:=by rw[hL];exact Nat.mul_div_le _ _
    omega
   have hn0:(n:Int)≠0:=by omega
   obtain⟨K1,hK1⟩:∃ K1,K1=K0+L:=⟨_,rfl⟩
   rw[<-hK1] at e3 hKD
   have h01:K0<=K1:=by omega
   have hK1c:K1<=dc:=by omega
   have hL4:L<=4096:=by
    have:L<=dz.length:=by rw[hL];exact Nat.div_le_self _ _
    omega
   have hK04:K0<=4096:=by omega
   have hK14:K1<=4096:=by omega
   have HK:Hid (K0=k*L/\K1=K0+L):=⟨hK0,hK1⟩
   have cc:wr.cell? ⟨w.heap.size+1,k,none⟩=some (.slice none 0 0):=by
    rw[hrow.cell hlt];unfold upV;rw[if_neg (by omega)]
   have ff:=hrow.frozen k
   clear hL hK0 hK1 hD hA hrow
   by_cases hdc:dc=K0
   ·have HV:Hid (Value.slice da 0 0=rwV da dc L k):=by show _=_;unfold rwV;rw[if_pos (by rw[<-HK.1];exact hdc)]
    have HDC:Hid (dc=K0):=hdc
    subst hdc
    go_wp2_with fail
    exact⟨⟨k+1,by omega,by go_num,HA.ot (a:=⟨w.heap.size+1,k,none⟩) (by show w.heap.size≠w.heap.size+1;omega) _,upV_set HR.out _ HV.out,HB.setCell (p:=⟨w.heap.size+1,k,none⟩) (by show w.heap.size<=w.heap.size+1;omega) _⟩,by simp[intOf];omega⟩
   ·have HV:Hid (Value.slice (Option.map (fun x=>x.add K0) da) (K1-K0) (dc-K0)=rwV da dc L k):=by
     show _=_
     unfold rwV
     rw[if_neg (by rw[<-HK.1];exact hdc),<-HK.1,HK.2,Nat.add_sub_cancel_left]
    go_wp2_with fail
    exact⟨⟨k+1,by omega,by go_num,HA.ot (a:=⟨w.heap.size+1,k,none⟩) (by show w.heap.size≠w.heap.size+1;omega) _,upV_set HR.out _ HV.out,HB.setCell (p:=⟨w.heap.size+1,k,none⟩) (by show w.heap.size<=w.heap.size+1;omega) _⟩,by simp[intOf];omega⟩
  ·obtain rfl:k=n:=by omega
   clear hA hrow
   go_wp2_with fail
   go_ret
   exact⟨w.heap.size+1,rfl,by omega,HR.congr (fun j hj=>by unfold upV;rw[if_pos hj]),HB.out⟩
end Go.Proofs.YtkmmkcpfhnifhaaGreat
