/- What the program tells, in part. -/
import Derived.Test.YtkmmkcpfhnifhaaGreatDoorJ21
set_option linter.unusedVariables false
set_option maxHeartbeats 4000000
set_option maxRecDepth 100000
namespace Go.Proofs.YtkmmkcpfhnifhaaGreatDoor
open Go.RowKit
def jnP (x:Int)(c:Bool)(s dz:List Int)(c':Bool)(s' dz':List Int):Int:=
 if flawE c s dz≠0 then flawE c s dz else if flawE c' s' dz'≠0 then flawE c' s' dz' else if s.length≠s'.length then 3 else if x<0\/(s.length:Int)<=x then 5 else if othB x.toNat s s'=false then 4 else if c≠c' then 6 else 0
section
variable {x : Int} {c : Bool} {s dz : List Int} {c' : Bool} {s' dz' : List Int}
theorem jnP_zero:jnP x c s dz c' s' dz'=0 ↔ flawE c s dz=0/\flawE c' s' dz'=0/\s.length=s'.length/\0<=x/\x.toNat<s.length/\othB x.toNat s s'=true/\c=c':=by
 unfold jnP
 by_cases h1:flawE c s dz=0
 ·rw[if_neg (by simpa using h1)]
  by_cases h2:flawE c' s' dz'=0
  ·rw[if_neg (by simpa using h2)]
   by_cases h3:s.length=s'.length
   ·rw[if_neg (by simpa using h3)]
    by_cases h4:x<0\/(s.length:Int)<=x
    ·rw[if_pos h4];exact⟨fun e=>absurd e (by decide),fun e=>by omega⟩
    ·rw[if_neg h4]
     cases h5:othB x.toNat s s'
     ·simp
     ·rw[if_neg (by simp)]
      by_cases h6:c=c'
      ·rw[if_neg (by simpa using h6)]
       exact⟨fun e=>⟨h1,h2,h3,by omega,by omega,rfl,h6⟩,fun e=>rfl⟩
      ·rw[if_pos h6];exact⟨fun e=>absurd e (by decide),fun e=>absurd e.2.2.2.2.2.2 h6⟩
   ·rw[if_pos h3];exact⟨fun e=>absurd e (by decide),fun e=>absurd e.2.2.1 h3⟩
  ·rw[if_pos h2];exact⟨fun e=>absurd e h2,fun e=>absurd e.2.1 h2⟩
 ·rw[if_pos h1];exact⟨fun e=>absurd e h1,fun e=>absurd e.1 h1⟩
theorem jnE_pair (h:jnP x c s dz c' s' dz'≠0):jnE x c s dz c' s' dz'=jnP x c s dz c' s' dz':=by
 unfold jnE jnP at *
 by_cases h1:flawE c s dz=0
 ·rw[if_neg (show ¬ flawE c s dz≠0 by simpa using h1)] at h
  rw[if_neg (show ¬ flawE c s dz≠0 by simpa using h1),if_neg (show ¬ flawE c s dz≠0 by simpa using h1)]
  by_cases h2:flawE c' s' dz'=0
  ·rw[if_neg (show ¬ flawE c' s' dz'≠0 by simpa using h2)] at h
   rw[if_neg (show ¬ flawE c' s' dz'≠0 by simpa using h2),if_neg (show ¬ flawE c' s' dz'≠0 by simpa using h2)]
   by_cases h3:s.length=s'.length
   ·rw[if_neg (show ¬ s.length≠s'.length by simpa using h3)] at h
    rw[if_neg (show ¬ s.length≠s'.length by simpa using h3),if_neg (show ¬ s.length≠s'.length by simpa using h3)]
    by_cases h4:x<0\/(s.length:Int)<=x
    ·rw[if_pos h4,if_pos h4]
    ·rw[if_neg h4] at h
     rw[if_neg h4,if_neg h4]
     by_cases h5:othB x.toNat s s'=false
     ·rw[if_pos h5,if_pos h5]
     ·rw[if_neg h5] at h
      rw[if_neg h5,if_neg h5]
      by_cases h6:c=c'
      ·rw[if_neg (show ¬ c≠c' by simpa using h6)] at h;exact absurd rfl h
      ·rw[if_pos h6,if_pos h6]
   ·rw[if_pos h3,if_pos h3]
  ·rw[if_pos h2,if_pos h2]
 ·rw[if_pos h1,if_pos h1]
theorem jnE_fit (h:jnP x c s dz c' s' dz'=0):jnE x c s dz c' s' dz'=errOf (jnS x.toNat s s'):=by
 obtain⟨h1,h2,h3,h4,h5,h6,h7⟩:=jnP_zero.1 h
 unfold jnE
 rw[if_neg (by simpa using h1),if_neg (by simpa using h2),if_neg (by simpa using h3),if_neg (by omega),if_neg (by rw[h6];decide),if_neg (by simpa using h7)]
theorem jnP_a (h:flawE c s dz≠0):jnP x c s dz c' s' dz'=flawE c s dz:=by unfold jnP;rw[if_pos h]
theorem jnP_b (h1:flawE c s dz=0)(h:flawE c' s' dz'≠0):jnP x c s dz c' s' dz'=flawE c' s' dz':=by unfold jnP;rw[if_neg (by simpa using h1),if_pos h]
theorem jnP_3 (h1:flawE c s dz=0)(h2:flawE c' s' dz'=0)(h:s.length≠s'.length):jnP x c s dz c' s' dz'=3:=by unfold jnP;rw[if_neg (by simpa using h1),if_neg (by simpa using h2),if_pos h]
theorem jnP_5 (h1:flawE c s dz=0)(h2:flawE c' s' dz'=0)(h3:s.length=s'.length)(h:x<0\/(s.length:Int)<=x):jnP x c s dz c' s' dz'=5:=by unfold jnP;rw[if_neg (by simpa using h1),if_neg (by simpa using h2),if_neg (by simpa using h3),if_pos h]
theorem jnP_4 (h1:flawE c s dz=0)(h2:flawE c' s' dz'=0)(h3:s.length=s'.length)(h4:¬ (x<0\/(s.length:Int)<=x))(h:othB x.toNat s s'=false):jnP x c s dz c' s' dz'=4:=by unfold jnP;rw[if_neg (by simpa using h1),if_neg (by simpa using h2),if_neg (by simpa using h3),if_neg h4,if_pos h]
theorem jnP_6 (h1:flawE c s dz=0)(h2:flawE c' s' dz'=0)(h3:s.length=s'.length)(h4:¬ (x<0\/(s.length:Int)<=x))(h5:othB x.toNat s s'=true)(h:c≠c'):jnP x c s dz c' s' dz'=6:=by unfold jnP;rw[if_neg (by simpa using h1),if_neg (by simpa using h2),if_neg (by simpa using h3),if_neg h4,if_neg (by rw[h5];decide),if_pos h]
theorem jnP_0 (h1:flawE c s dz=0)(h2:flawE c' s' dz'=0)(h3:s.length=s'.length)(h4:¬ (x<0\/(s.length:Int)<=x))(h5:othB x.toNat s s'=true)(h:c=c'):jnP x c s dz c' s' dz'=0:=jnP_zero.2 ⟨h1,h2,h3,by omega,by omega,h5,h⟩
theorem oth_bad {x k:Nat}(hk:k<s.length)(hn:k≠x)(h:nth s k≠nth s' k):othB x s s'=false:=by
 cases e:othB x s s'
 ·rfl
 ·exact absurd (othB_iff.1 e k hk hn) h
end
theorem pair_any (x:Int)(hx:In64 x)(c:Bool)(sa:Option Addr)(sc:Nat)(sz:List Int)(da:Option Addr)(dc:Nat)(dz:List Int)(c':Bool)(sa':Option Addr)(sc':Nat)(sz':List Int)(da':Option Addr)(dc':Nat)(dz':List Int)(h1:sz.length<=9223372036854775807)(h2:dz.length<=9223372036854775807)(h1':sz'.length<=9223372036854775807)(h2':dz'.length<=9223372036854775807)(w:World)
  (hs:IsInts w.heap.size w sa sz)(hd:IsInts w.heap.size w da dz)(hs':IsInts w.heap.size w sa' sz')(hd':IsInts w.heap.size w da' dz'):
  Calls Tryz.prog 242 #[.int .i64 x,.agg #[.bool c,.slice sa sz.length sc,.slice da dz.length dc],.agg #[.bool c',.slice sa' sz'.length sc',.slice da' dz'.length dc']] w fun e w'=>e=.returned (errV (jnP x c sz dz c' sz' dz'))/\Below w.heap.size w w':=by
 have HI:Hid (IsInts w.heap.size w sa sz/\IsInts w.heap.size w da dz/\IsInts w.heap.size w sa' sz'/\IsInts w.heap.size w da' dz'):=⟨hs,hd,hs',hd'⟩
 have HB0:Hid (Below w.heap.size w ((w.alloc (.cells #[.bool c,.slice sa sz.length sc,.slice da dz.length dc] 27)).alloc (.cells #[.bool c',.slice sa' sz'.length sc',.slice da' dz'.length dc'] 27))):=((Below.refl _ w).alloc (Nat.le_refl _) _).alloc (by simp) _
 have pa:=(Abx.new w (.bool c) (.slice sa sz.length sc) (.slice da dz.length dc)).al (.cells #[.bool c',.slice sa' sz'.length sc',.slice da' dz'.length dc'] 27)
 have pb:=Abx.new1 w (.cells #[.bool c,.slice sa sz.length sc,.slice da dz.length dc] 27) (.bool c') (.slice sa' sz'.length sc') (.slice da' dz'.length dc')
 have p0:=pa.c0
 have p1:=pa.c1
 have p2:=pa.c2
 obtain⟨hx0,hx1⟩:=hx
 clear hs hd hs' hd'
 by_cases h3:flawE c sz dz=0
 ·have H3:Hid (flawE c sz dz=0):=h3
  clear h3
  go_enter Tryz.func242,Tryz.ntmps242
  go_wp2_with fail
  refine (check_ok c sa sc sz da dc dz h1 h2 _ ((HI.1.below HB0.out).mono HB0.size) ((HI.2.1.below HB0.out).mono HB0.size) H3.out).mono ?_
  rintro e v1 ⟨rfl,hC⟩
  have HB1:Hid (Below w.heap.size w v1):=HB0.trans (hC.mono HB0.size)
  have HP1:Hid (Abx v1 w.heap.size (.bool c) (.slice sa sz.length sc) (.slice da dz.length dc)):=pa.go hC
  have HQ1:Hid (Abx v1 (w.heap.size+1) (.bool c') (.slice sa' sz'.length sc') (.slice da' dz'.length dc')):=pb.go hC
  clear hC pa pb p0 p1 p2 HB0
  have q0:=HQ1.c0
  have q1:=HQ1.c1
  have q2:=HQ1.c2
  by_cases h4:flawE c' sz' dz'=0
  ·have H4:Hid (flawE c' sz' dz'=0):=h4
   clear h4
   go_wp2_with fail
   refine (check_ok c' sa' sc' sz' da' dc' dz' h1' h2' v1 ((HI.2.2.1.below HB1.out).mono HB1.size) ((HI.2.2.2.below HB1.out).mono HB1.size) H4.out).mono ?_
   rintro e v2 ⟨rfl,hC⟩
   have HB2:Hid (Below w.heap.size w v2):=HB1.trans (hC.mono HB1.size)
   have HP2:Hid (Abx v2 w.heap.size (.bool c) (.slice sa sz.length sc) (.slice da dz.length dc)):=HP1.go hC
   have HQ2:Hid (Abx v2 (w.heap.size+1) (.bool c') (.slice sa' sz'.length sc') (.slice da' dz'.length dc')):=HQ1.go hC
   clear hC q0 q1 q2 HP1 HQ1 HB1
   have a1:=HP2.c1
   have b1:=HQ2.c1
   by_cases hl:sz.length=sz'.length
   ·have HL:Hid (sz.length=sz'.length):=hl
    have hne:((sz.length:Int) != (sz'.length:Int))=false:=by simp[hl]
    clear hl
    by_cases hax:x<0\/(sz.length:Int)<=x
    ·have HE:Hid (jnP x c sz dz c' sz' dz'=5):=jnP_5 H3.out H4.out HL.out hax
     rcases hax with hax | hax
     all_goals
      go_wp2_with fail
      go_ret
      exact⟨by rw[HE.out];rfl,HB2.out⟩
    ·obtain⟨xn,rfl⟩:∃ xn:Nat,x=(xn:Int):=⟨x.toNat,by omega⟩
     have HX:Hid (¬ ((xn:Int)<0\/(sz.length:Int)<=(xn:Int))):=hax
     have hxl:xn<sz.length:=by omega
     have t0:¬ ((sz.length:Int)<=(xn:Int)):=by omega
     clear hax hx0 hx1
     go_wp2_with fail
     clear hne t0
     go_loopw [42] (fun i wr=>∃ k:Nat,k<=sz.length/\i=.int .i64 k/\Hid (∀ j,j<k->j≠xn->nth sz j=nth sz' j)/\wr=v2) (fun i _=>sz.length-(intOf i).toNat)
     case atStart=>exact⟨0,Nat.zero_le _,rfl,fun j hj=>absurd hj (Nat.not_lt_zero j),rfl⟩
     case round=>
      obtain⟨k,hk,rfl,HA,hv⟩:=hrel
      obtain rfl:=hv.symm
      by_cases hlt:k<sz.length
      ·obtain⟨bs,os,rfl,hbs,hcS⟩:=(HI.1.below HB2.out).at hlt
       have cs:=hcS k hlt
       have hlt':k<sz'.length:=by rw[<-HL.out];exact hlt
       obtain⟨bt,ot,rfl,hbt,hcT⟩:=(HI.2.2.1.below HB2.out).at hlt'
       have ct:=hcT k hlt'
       clear hcS hcT
       by_cases hkx:k=xn
       ·have HA2:Hid (∀ j,j<k+1->j≠xn->nth sz j=nth sz' j):=fun j hj hn=>HA.out j (by omega) hn
        have t1:((k:Int) != (xn:Int))=false:=by simp[hkx]
        clear hkx
        go_wp2_with fail
        exact⟨⟨k+1,by omega,by go_num,HA2,by first | rfl | trivial⟩,by simp[intOf];omega⟩
       ·have t1:((k:Int) != (xn:Int))=true:=by simp;omega
        have t2:¬ ((k:Int)=(xn:Int)):=by omega
        by_cases hc:nth sz k=nth sz' k
        ·have HA2:Hid (∀ j,j<k+1->j≠xn->nth sz j=nth sz' j):=fun j hj hn=>by
          by_cases e:j=k
          ·subst e;exact hc
          ·exact HA.out j (by omega) hn
         rw[hc] at cs
         clear hc hkx
         go_wp2_with fail
         exact⟨⟨k+1,by omega,by go_num,HA2,by first | rfl | trivial⟩,by simp[intOf];omega⟩
        ·have HE:Hid (jnP (xn:Int) c sz dz c' sz' dz'=4):=jnP_4 H3.out H4.out HL.out HX.out (by rw[Int.toNat_natCast];exact oth_bad hlt hkx hc)
         have t3:(nth sz k != nth sz' k)=true:=by simpa using hc
         clear hkx
         go_wp2_with fail
         go_ret
         exact⟨by rw[HE.out];rfl,HB2.out⟩
      ·obtain rfl:k=sz.length:=by omega
       have HO:Hid (othB (xn:Int).toNat sz sz'=true):=by show _=_;rw[Int.toNat_natCast];exact othB_iff.2 HA.out
       have e0:=HP2.c0
       have g0:=HQ2.c0
       by_cases hcc:c=c'
       ·have HE:Hid (jnP (xn:Int) c sz dz c' sz' dz'=0):=jnP_0 H3.out H4.out HL.out HX.out HO.out hcc
        have t3:(c != c')=false:=by simp[hcc]
        have t4:(c == c')=true:=by simp[hcc]
        clear hcc
        go_wp2_with fail
        go_ret
        exact⟨by rw[HE.out];rfl,HB2.out⟩
       ·have HE:Hid (jnP (xn:Int) c sz dz c' sz' dz'=6):=jnP_6 H3.out H4.out HL.out HX.out HO.out hcc
        have t3:(c != c')=true:=by simpa using hcc
        have t4:(c == c')=false:=by simpa using hcc
        go_wp2_with fail
        go_ret
        exact⟨by rw[HE.out];rfl,HB2.out⟩
   ·have HE:Hid (jnP x c sz dz c' sz' dz'=3):=jnP_3 H3.out H4.out hl
    have hne:((sz.length:Int) != (sz'.length:Int))=true:=by simp;omega
    go_wp2_with fail
    go_ret
    exact⟨by rw[HE.out];rfl,HB2.out⟩
  ·have H4:Hid (flawE c' sz' dz'≠0):=h4
   have HE:Hid (jnP x c sz dz c' sz' dz'=flawE c' sz' dz'):=jnP_b H3.out h4
   clear h4
   go_wp2_with fail
   refine (check_no c' sa' sc' sz' da' dc' dz' h1' h2' v1 ((HI.2.2.1.below HB1.out).mono HB1.size) ((HI.2.2.2.below HB1.out).mono HB1.size) H4.out).mono ?_
   rintro e v2 ⟨rfl,hC⟩
   have HB2:Hid (Below w.heap.size w v2):=HB1.trans (hC.mono HB1.size)
   clear hC
   go_wp2_with fail
   go_ret
   exact⟨by first | (rw[HE.out,errV_pos H4.out];done) | (rw[HE.out,errV_pos H4.out];rfl),HB2.out⟩
 ·have H3:Hid (flawE c sz dz≠0):=h3
  have HE:Hid (jnP x c sz dz c' sz' dz'=flawE c sz dz):=jnP_a h3
  clear h3
  go_enter Tryz.func242,Tryz.ntmps242
  go_wp2_with fail
  refine (check_no c sa sc sz da dc dz h1 h2 _ ((HI.1.below HB0.out).mono HB0.size) ((HI.2.1.below HB0.out).mono HB0.size) H3.out).mono ?_
  rintro e v1 ⟨rfl,hC⟩
  have HB1:Hid (Below w.heap.size w v1):=HB0.trans (hC.mono HB0.size)
  clear hC pa pb p0 p1 p2 HB0
  go_wp2_with fail
  go_ret
  exact⟨by first | (rw[HE.out,errV_pos H3.out];done) | (rw[HE.out,errV_pos H3.out];rfl),HB1.out⟩
theorem at_slice {ops:Array Oper}{rest:List Oper}{d:Option Tmp}{t:TypeId}{x:Operand}{l h m:Option Operand}{ty:TypeId}{pos:String}{af:Array Edge}{g:Option (Nat × Bool)}{a:Act}{Q:Exit->Act->World->Prop}{W:World}(k:wpList Tryz.prog ops Q (Oper.mk d (.slice t x l h m) ty pos af g::rest) a W):
 wpList Tryz.prog ops Q (Oper.mk d (.slice t x l h m) ty pos af g::rest) a W:=k
theorem run_cut (W:World)(da:Option Addr)(n dc P P2:Nat)(h1:P<=P2)(h2:P2<=dc):
  (Instr.sliceAt 25 (.slice da n dc) (some (.int .i64 (P:Int))) (some (.int .i64 (P2:Int))) none).run Tryz.prog W=.ok (sliced da P P2 dc 1) W:=by
 obtain⟨i0,hi,hz0,hz1,hz2⟩:=info_parts Tryz.infoInt
 have he:Tryz.prog.elem 25=3:=by kernel_rfl
 have hu:Tryz.prog.underlying 25=some (.slice (Tryz.prog.elem 25)):=by rw[he];exact Tryz.underlying25
 rw[run_sliceAt_slice (w:=W) (h:=hu),run_slice_lh (w:=W) (ht:=hu) (h0:=by omega) (h1:=by omega) (h2:=by omega),he]
 simp[sizeOf,typeInfo,hi,hz1,Result.andThen]
theorem run_app_none (W:World)(ty:TypeId)(g:Option Addr)(n cap c:Nat)(h:n<=cap):
  (Builtin.append_ #[25,25] ty #[.slice g n cap,.slice none 0 c]).run Tryz.prog W=.ok (.slice g n cap) W:=by
 obtain⟨i0,hi,hz0,hz1,hz2⟩:=info_parts Tryz.infoInt
 have ht:Tryz.prog.underlying 25=some (.slice 3):=Tryz.underlying25
 cases g with
 | none=>simp[Builtin.append_,run_underlying ht,sizeOf,typeInfo,hi,Builtin.lenOf,Builtin.firstCells,h]
 | some x=>simp[Builtin.append_,run_underlying ht,sizeOf,typeInfo,hi,Builtin.lenOf,Builtin.firstCells,storeCells,h]
theorem app_cut {ops:Array Oper}{rest:List Oper}{o1 o2:Oper}{a:Act}{Q:Exit->Act->World->Prop}(g1:o1.guard=none)(d1:Nat)(hd1:o1.dst=some d1)(X L H:Operand)(ho1:o1.op=.slice 25 X (some L) (some H) none)
  (g2:o2.guard=none)(S T:Operand)(ho2:o2.op=.call { callee:=.builtin .append,args:=#[S,T],argTypes:=#[25,25] })
  (W:World)(base:Nat)(v:Value)(xs:List Int)(m:Nat)(hm:xs.length=m)(da:Option Addr)(dz:List Int)(n dc P P2:Nat)(l h:Int)(hl:l=(P:Int))(hh:h=(P2:Int))(h1:P<=P2)(h2:P2<=dz.length)
  (hX:a.eval X=.slice da n dc)(hL:a.eval L=.int .i64 l)(hH:a.eval H=.int .i64 h)(hS:∀ u,(a.put (some d1) u).eval S=v)(hT:∀ u,(a.put (some d1) u).eval T=u)
  (hown:W.ownsRow base 3 1 v m (xs.map (Value.int .i64)))(hI:IsC W.heap.size W da dz dc)(hlen:m+dz.length<=1000000)(hbase:base<=W.heap.size)
  (k:∀ u v' w1,w1.ownsRow base 3 1 v' (m+(P2-P)) ((xs++(dz.drop P).take (P2-P)).map (Value.int .i64))->Below base W w1->wpList Tryz.prog ops Q rest ((a.put (some d1) u).put o2.dst v') w1):
  wpList Tryz.prog ops Q (o1::o2::rest) a W:=by
 subst hl hh
 refine wpList_plain g1 fun K hK=>?_
 unfold Oper.wp execOp
 simp only[ho1,Option.map_some,hX,hL,hH,Option.map_none,Sem.run_bind,Sem.run_pure,Result.andThen_ok,run_cut W da n dc P P2 h1 (by have:=hI.2;omega)]
 refine hK _ _ ?_
 rw[hd1]
 obtain⟨i0,hi,hz0,hz1,hz2⟩:=info_parts Tryz.infoInt
 have hsl:sliced da P P2 dc 1=.slice (if dc=P then da else da.map (·.add (P*1))) (P2-P) (dc-P):=rfl
 rw[hsl]
 cases da with
 | none=>
  have hz:dz=[]:=by
   rcases hI.1 with h | ⟨_,_,h,_⟩
   ·exact h
   ·cases h
  subst hz
  simp only[List.length_nil,Nat.le_zero] at h2
  subst h2
  obtain rfl:P=0:=by omega
  obtain⟨g,cap,hv,hN⟩:=own_cap (by rw[<-hm] at hown;exact hown)
  refine wpList_plain g2 fun K2 hK2=>?_
  unfold Oper.wp execOp
  have e0:(if dc=0 then none else (none:Option Addr).map (·.add (0*1)))=none:=by split<;>rfl
  simp only[ho2,resolve,invoke,builtin,Sem.run_bind,Sem.run_pure,Result.andThen_ok,List.map_toArray,List.map_cons,List.map_nil,hS,hT,e0,Nat.sub_self,Nat.sub_zero]
  rw[hv,run_app_none W _ g xs.length cap dc hN.2]
  refine hK2 _ _ ?_
  refine k _ _ W ?_ (Below.refl _ _)
  rw[<-hv]
  simpa using hown
 | some ad=>
  have hne:∀ j u,(((dz.drop P).take (P2-P)).map (Value.int .i64))[j]?=some u->W.cell? ((if dc=P then ad else ad.add (P*1)).add j)=some u:=by
   intro j u hj
   rw[List.getElem?_map] at hj
   by_cases hlj:j<P2-P
   ·have hPd:P+j<dz.length:=by omega
    obtain⟨b,off,e,hb,hc⟩:=hI.1.at hPd
    cases e
    rw[if_neg (by have:=hI.2;omega),List.getElem?_take,if_pos hlj,List.getElem?_drop,List.getElem?_eq_getElem hPd] at *
    simp only[Option.map_some] at hj
    obtain rfl:=Option.some.inj hj
    rw[<-nth_get dz (P+j) hPd,<-hc (P+j) hPd]
    have e:((⟨b,off,none⟩:Addr).add (P*1)).add j=⟨b,off+(P+j),none⟩:=by
     unfold Addr.add
     rw[Nat.mul_one,<-Nat.add_assoc]
     by_cases e1:P=0<;>by_cases e2:j=0<;>simp[e1,e2]
    rw[e]
   ·rw[List.getElem?_take,if_neg hlj] at hj;cases hj
  have ev:(if dc=P then some ad else (some ad).map (·.add (P*1)))=some (if dc=P then ad else ad.add (P*1)):=by split<;>rfl
  rw[ev]
  refine wpList_append_own _ g2 S T 25 ho2 base 3 i0 (.int .i64 0) 1 8 Tryz.underlying25 hi hz0 hz1 hz2 rfl (by decide) v m (xs.map (Value.int .i64)) (hS _) hown _ (P2-P) (dc-P) (((dz.drop P).take (P2-P)).map (Value.int .i64)) (hT _) ?_ hne (fun x hx=>by obtain⟨y,_,rfl⟩:=List.mem_map.1 hx;rfl) (by unfold maxLen;omega) (by omega) hbase ?_
  ·simp only[List.length_map,List.length_take,List.length_drop,Nat.mul_one];omega
  ·intro v' w1 hown1 hgrow _
   refine k _ v' w1 ?_ (grown_below hown hgrow hbase)
   rw[List.map_append]
   exact hown1
end Go.Proofs.YtkmmkcpfhnifhaaGreatDoor
