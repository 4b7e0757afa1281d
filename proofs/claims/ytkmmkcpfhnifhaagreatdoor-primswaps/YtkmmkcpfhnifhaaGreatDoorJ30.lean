/- What the program tells, in part. -/
import Derived.Test.YtkmmkcpfhnifhaaGreatDoorJ29
import Derived.Test.YtkmmkcpfhnifhaaGreatDoorJ26
set_option linter.unusedVariables false
set_option maxHeartbeats 4000000
set_option maxRecDepth 100000
namespace Go.Proofs.YtkmmkcpfhnifhaaGreatDoor
open Go.RowKit
theorem sm_any (S n sc:Nat)(f:Nat)(cs:List Value)(hE:∀ args w,(callFunc f args).run Tryz.prog w=.ok (.enter f args) w)(lt:Nat->Nat->Bool)(c:Nat->Nat->Int)(T:Tot lt n)(hcl:∀ x y,x<n->y<n->y<x->(c x y<0 ↔ lt x y=true))(w0:World)(hC:CmpF f cs n c S w0)(hn:n<=4096):∀ k,SmC S n sc f cs lt w0 k
 | 0=>fun a m b z w hk hl ho ha hb hbn _ _ _ _ _=>by omega
 | k+1=>fun a m b z w hk hl ho ha hb hbn hr1 hr2 hs hw hrow=>by
  by_cases h1:m=a+1
  ·exact sm1_any S n sc f cs hE lt c T hcl w0 hC a m b z hl ho hn h1 hb hbn hr2 hs w hw hrow
  ·by_cases h2:b=m+1
   ·exact sm2_any S n sc f cs hE lt c T hcl w0 hC a m b z hl ho hn (by omega) h2 hbn hr1 hs w hw hrow
   ·by_cases h3:(a+b)/2<m
    ·exact sm3a_any S n sc f cs hE lt c T hcl w0 hC a m b _ z hl ho hn (by omega) (by omega) hbn hr1 hr2 hs rfl h3 k hk (sm_any S n sc f cs hE lt c T hcl w0 hC hn k) w hw hrow
    ·exact sm3b_any S n sc f cs hE lt c T hcl w0 hC a m b _ z hl ho hn (by omega) (by omega) hbn hr1 hr2 hs rfl (by omega) k hk (sm_any S n sc f cs hE lt c T hcl w0 hC hn k) w hw hrow
def Q1 (a:Nat)(M:Nat):Prop:=a<=M\/M%20=0
def Q2 (s a:Nat)(M:Nat):Prop:=(a<=M/\s ∣ M)\/2*s ∣ M
theorem mul_bd {s u t:Nat}(h:s*u<s*t):u+1<=t:=by
 by_cases q:t<=u
 ·have:=Nat.mul_le_mul_left s q;omega
 ·omega
section
variable {lt : Nat → Nat → Bool} {n : Nat} {z : List Int}
theorem Sg.first (n:Nat):Sg lt n (Q1 0) (idn n):=(Sg.start n).congr fun M _ _=>⟨fun _=>.inl (Nat.zero_le _),fun _=>trivial⟩
theorem Sg.raw {Q:Nat->Prop}(h:Sg lt n Q z){a b:Nat}(hb:b<=n)(hq:∀ M,a<=M->M<b->Q M):∀ p q,a<=p->p<q->q<b->nt z p<nt z q:=fun p q h1 h2 h3=>by
 have e1:=(h.bd q (by omega) (hq q (by omega) h3) p (by omega)).1 h2
 have e2:=(h.bd q (by omega) (hq q (by omega) h3) q (by omega))
 omega
theorem Sg.ins {z':List Int}{a b:Nat}(ha:a%20=0)(hab:a<=b)(hb:b<=n)(hq:b=a+20\/b=n/\b<=a+20)(h:Sg lt n (Q1 a) z)(M:Mv a b z z')(hr:Ris lt z' a b):Sg lt n (Q1 b) z':=by
 refine (h.next hab hb (.inr (.inl (Nat.le_refl _))) (.inr (.inl hab)) M hr).congr fun X h1 h2=>?_
 unfold Q1
 omega
theorem Sg.runs {b:Nat}(h:Sg lt n (Q1 b) z)(hb:n<=b):Sg lt n (Q2 20 0) z:=h.congr fun X h1 h2=>by
 unfold Q1 Q2
 constructor
 ·rintro (h | h)
  ·omega
  ·exact .inl ⟨Nat.zero_le _,Nat.dvd_of_mod_eq_zero h⟩
 ·rintro (⟨_,h⟩ | h)
  ·exact .inr (Nat.mod_eq_zero_of_dvd h)
  ·exact .inr (by have:=Nat.mod_eq_zero_of_dvd h;omega)
theorem q2_in {s t M:Nat}(h:Q2 s (2*s*t) M)(h1:2*s*t<M)(h2:M<2*s*t+2*s):M=2*s*t+s:=by
 have key:s ∣ M:=by
  rcases h with ⟨_,h⟩ | ⟨u,h⟩
  ·exact h
  ·exact⟨2*u,by rw[h,Nat.mul_comm 2 s,Nat.mul_assoc]⟩
 obtain⟨u,rfl⟩:=key
 have e:2*s*t=s*(2*t):=by rw[Nat.mul_comm 2 s,Nat.mul_assoc]
 have e2:s*(2*t)+2*s=s*(2*t+2):=by rw[Nat.mul_add,Nat.mul_comm s 2]
 rw[e] at h1 h2 ⊢
 rw[e2] at h2
 have b1:=mul_bd h1
 have b2:=mul_bd h2
 obtain rfl:u=2*t+1:=by omega
 rw[Nat.mul_add,Nat.mul_one]
theorem q2_start (s t:Nat):Q2 s (2*s*t) (2*s*t):=.inr ⟨t,rfl⟩
theorem q2_mid (s t:Nat):Q2 s (2*s*t) (2*s*t+s):=.inl ⟨Nat.le_add_right _ _,⟨2*t+1,by rw[Nat.mul_add,Nat.mul_one,Nat.mul_comm 2 s,Nat.mul_assoc]⟩⟩
theorem q2_end (s t:Nat):Q2 s (2*s*t) (2*s*t+2*s):=.inr ⟨t+1,by rw[Nat.mul_add,Nat.mul_one]⟩
theorem Sg.merged {s t b:Nat}{z':List Int}(hs:0<s)(h:Sg lt n (Q2 s (2*s*t)) z)(hb:b<=n)(hm:2*s*t+s<b)(hq:b=2*s*t+2*s\/b=n/\b<=2*s*t+2*s)(M:Mv (2*s*t) b z z')(hr:Ris lt z' (2*s*t) b):Sg lt n (Q2 s (2*s*(t+1))) z':=by
 have eT:2*s*(t+1)=2*s*t+2*s:=by rw[Nat.mul_add,Nat.mul_one]
 refine (h.next (by omega) hb (.inr (q2_start s t)) ?_ M hr).congr fun X h1 h2=>?_
 ·rcases hq with e | e
  ·exact .inr (by rw[e];exact q2_end s t)
  ·exact .inl e.1
 ·rw[eT]
  constructor
  ·rintro ⟨hX,hn⟩
   by_cases c:2*s*t<X
   ·have hbX:b<=X:=by omega
    have:2*s*t+2*s<=X:=by omega
    rcases hX with ⟨_,h⟩ | h
    ·exact .inl ⟨this,h⟩
    ·exact .inr h
   ·rcases hX with ⟨h,_⟩ | h
    ·have:X=2*s*t:=by omega
     exact .inr (by rw[this];exact⟨t,rfl⟩)
    ·exact .inr h
  ·intro hX
   have hQ:Q2 s (2*s*t) X:=by
    rcases hX with ⟨h,h'⟩ | h
    ·exact .inl ⟨by omega,h'⟩
    ·exact .inr h
   refine⟨hQ,fun c=>?_⟩
   have h3:=q2_in hQ c.1 (by omega)
   rcases hX with ⟨h,_⟩ | ⟨u,h⟩
   ·omega
   ·have b1:=mul_bd (s:=2*s) (u:=t) (t:=u) (by omega)
    have:=Nat.mul_le_mul_left (2*s) b1
    rw[eT] at this
    omega
theorem Sg.lone {s t:Nat}(hs:0<s)(h:Sg lt n (Q2 s (2*s*t)) z)(hb:n<=2*s*t+s):Sg lt n (Q2 (2*s) 0) z:=h.congr fun X h1 h2=>by
 constructor
 ·rintro (⟨h3,h⟩ | h)
  ·by_cases c:X=2*s*t
   ·exact .inl ⟨Nat.zero_le _,by rw[c];exact⟨t,rfl⟩⟩
   ·have:=q2_in (s:=s) (t:=t) (.inl ⟨h3,h⟩) (by omega) (by omega);omega
  ·exact .inl ⟨Nat.zero_le _,h⟩
 ·rintro (⟨_,h⟩ | ⟨u,h⟩)
  ·exact .inr h
  ·exact .inr ⟨2*u,by rw[h,Nat.mul_comm 2 (2*s),Nat.mul_assoc]⟩
theorem Sg.all {s:Nat}(T:Tot lt n)(h:Sg lt n (Q2 s 0) z)(hs:n<=s):z=grd lt n:=h.done T fun M h1 h2 hQ=>by
 have key:s ∣ M:=by
  rcases hQ with ⟨_,h⟩ | ⟨u,h⟩
  ·exact h
  ·exact⟨2*u,by rw[h,Nat.mul_comm 2 s,Nat.mul_assoc]⟩
 have:=Nat.le_of_dvd h1 key
 omega
end
theorem stab_any (S n sc:Nat)(f:Nat)(cs:List Value)(hE:∀ args w,(callFunc f args).run Tryz.prog w=.ok (.enter f args) w)(lt:Nat->Nat->Bool)(c:Nat->Nat->Int)(T:Tot lt n)(hcl:∀ x y,x<n->y<n->y<x->(c x y<0 ↔ lt x y=true))(w0:World)(hC:CmpF f cs n c S w0)(hn:n<=4096)(w:World)(hw:w0.grownBy w (some S))(hrow:w.rowIs S 3 n (zc (idn n))):
  Calls Tryz.prog 260 #[.slice (some ⟨S,0,none⟩) n sc,.int .i64 (n:Nat),.func (.func f) #[] cs.toArray] w (SwP S n (grd lt n) w):=by
 have HR:Hid (w.rowIs S 3 n (zc (idn n))):=hrow
 have HT:Hid (Tot lt n):=T
 have HW0:Hid (w0.grownBy w (some S)):=hw
 have HSM:Hid (∀ k,SmC S n sc f cs lt w0 k):=sm_any S n sc f cs hE lt c T hcl w0 hC hn
 have HIN:Hid (∀ {x y:Int} (a b:Nat) (z:List Int) (hl:z.length=n) (ho:IsOrd z) (hab:a<=b) (hb:b<=n) (hup:∀ p q,a<=p->p<q->q<b->nt z p<nt z q) (w:World) (hw:w0.grownBy w (some S)) (hrow:w.rowIs S 3 n (zc z)) (hx:x=(a:Int)) (hy:y=(b:Int)),
   Calls Tryz.prog 270 #[.slice (some ⟨S,0,none⟩) n sc,.int .i64 x,.int .i64 y,.func (.func f) #[] cs.toArray] w (Sod S n lt a b z w)):=by
  intro x y a b z hl ho hab hb hup w hw hrow hx hy
  subst hx hy
  exact ins_any S n sc f cs hE lt c T hcl w0 hC a b z hl ho hn hab hb hup w hw hrow
 clear hrow T hw hC hcl
 go_enter Tryz.func260,Tryz.ntmps260
 go_wp2_with fail
 go_loopw [7,8] (fun va vb wr=>∃ (A:Nat) (zr:List Int),A<=n/\A%20=0/\va=.int .i64 A/\vb=.int .i64 ((A:Int)+20)/\wr.rowIs S 3 n (zc zr)/\w.grownBy wr (some S)/\Sg lt n (Q1 A) zr) (fun va _ _=>n-(intOf va).toNat)
 case atStart=>exact⟨0,idn n,Nat.zero_le _,rfl,rfl,rfl,HR.out,World.grownBy.refl _ _,Sg.first n⟩
 case round=>
  obtain⟨A,zr,hA,hA20,rfl,rfl,hrow,hG,hS⟩:=hrel
  have HRr:Hid (wr.rowIs S 3 n (zc zr)):=hrow
  have HG:Hid (w.grownBy wr (some S)):=hG
  have HS:Hid (Sg lt n (Q1 A) zr):=hS
  have HA20:Hid (A%20=0):=hA20
  clear hrow hG hS hA20
  by_cases hB:A+20<=n
  ·go_wp2_with fail
   refine (HIN.out A (A+20) zr HS.len HS.ord (by omega) hB (HS.raw hB fun M h1 h2=>.inl h1) wr (sgrown_t HW0.out HG.out) HRr.out rfl (by omega)).mono ?_
   rintro e v1 ⟨⟨v',rfl⟩,z1,hrow1,hG1,hM1,hr1⟩
   have HR1:Hid (v1.rowIs S 3 n (zc z1)):=hrow1
   have HG1:Hid (w.grownBy v1 (some S)):=sgrown_t HG.out hG1
   have HS1:Hid (Sg lt n (Q1 (A+20)) z1):=Sg.ins HA20.out (by omega) hB (.inl rfl) HS.out hM1 hr1
   clear hrow1 hG1 hM1 hr1
   go_wp2_with fail
   exact⟨⟨A+20,z1,hB,by have:=HA20.out;omega,by congr 1,by congr 1,HR1.out,HG1.out,HS1.out⟩,by simp[intOf];omega⟩
  ·go_wp2_with fail
   refine (HIN.out A n zr HS.len HS.ord hA (Nat.le_refl _) (HS.raw (Nat.le_refl _) fun M h1 h2=>.inl h1) wr (sgrown_t HW0.out HG.out) HRr.out rfl rfl).mono ?_
   rintro e v1 ⟨⟨v',rfl⟩,z1,hrow1,hG1,hM1,hr1⟩
   have HR1:Hid (v1.rowIs S 3 n (zc z1)):=hrow1
   have HG1:Hid (w.grownBy v1 (some S)):=sgrown_t HG.out hG1
   have HS1:Hid (Sg lt n (Q2 20 0) z1):=(Sg.ins HA20.out hA (Nat.le_refl _) (.inr ⟨rfl,by omega⟩) HS.out hM1 hr1).runs (Nat.le_refl _)
   clear hrow1 hG1 hM1 hr1
   go_wp2_with fail
   go_loopw [6] (fun vs wr=>∃ (s:Nat) (zr:List Int),1<=s/\s<=8192/\vs=.int .i64 s/\wr.rowIs S 3 n (zc zr)/\w.grownBy wr (some S)/\Sg lt n (Q2 s 0) zr) (fun vs _=>n-(intOf vs).toNat)
   case atStart=>exact⟨20,z1,by omega,by omega,rfl,HR1.out,HG1.out,HS1.out⟩
   case round=>
    obtain⟨s,zs,hs1,hs2,rfl,hrow,hG,hS⟩:=hrel
    have HR2:Hid (wr.rowIs S 3 n (zc zs)):=hrow
    have HG2:Hid (w.grownBy wr (some S)):=hG
    have HS2:Hid (Sg lt n (Q2 s 0) zs):=hS
    clear hrow hG hS
    by_cases hsn:s<n
    ·go_wp2_with fail
     go_loopw [7,8] (fun va vb wr=>∃ (A t:Nat) (zr:List Int),A<=n/\A=2*s*t/\va=.int .i64 A/\vb=.int .i64 ((A:Int)+2*s)/\wr.rowIs S 3 n (zc zr)/\w.grownBy wr (some S)/\Sg lt n (Q2 s (2*s*t)) zr) (fun va _ _=>n-(intOf va).toNat)
     case atStart=>exact⟨0,0,zs,Nat.zero_le _,rfl,rfl,by congr 1;omega,HR2.out,HG2.out,HS2.out⟩
     case round=>
      obtain⟨B,t,zq,hBn,hBt,rfl,rfl,hrow,hG,hS⟩:=hrel
      have HR3:Hid (wr.rowIs S 3 n (zc zq)):=hrow
      have HG3:Hid (w.grownBy wr (some S)):=hG
      have HS3:Hid (Sg lt n (Q2 s (2*s*t)) zq):=hS
      have HBt:Hid (B=2*s*t):=hBt
      have HN:Hid (∀ b,b<=n->B+s<b->b<=B+2*s->Ris lt zq B (B+s)/\Ris lt zq (B+s) b/\Sep zq B (B+s) b):=fun b h1 h2 h3=>by
       refine⟨hS.ris_in (by omega) fun M k1 k2 hQ=>?_,hS.ris_in h1 fun M k1 k2 hQ=>?_,hS.sep h1 (by rw[hBt];exact q2_mid s t) h2⟩
       ·have:=q2_in hQ (by omega) (by omega);omega
       ·have:=q2_in hQ (by omega) (by omega);omega
      clear hrow hG hS hBt
      by_cases hB2:B+2*s<=n
      ·go_wp2_with fail
       obtain⟨k1,k2,k3⟩:=HN.out (B+2*s) hB2 (by omega) (Nat.le_refl _)
       refine ((HSM.out (2*s)).int B (B+s) (B+2*s) zq wr (by omega) HS3.len HS3.ord (by omega) (by omega) hB2 k1 k2 k3 (sgrown_t HW0.out HG3.out) HR3.out rfl (by omega) (by omega)).mono ?_
       rintro e v4 ⟨⟨v',rfl⟩,z4,hrow4,hG4,hM4,hr4⟩
       have HR4:Hid (v4.rowIs S 3 n (zc z4)):=hrow4
       have HG4:Hid (w.grownBy v4 (some S)):=sgrown_t HG3.out hG4
       have HS4:Hid (Sg lt n (Q2 s (2*s*(t+1))) z4):=by
        have h1:=hM4
        have h2:=hr4
        rw[HBt.out] at h1 h2
        exact Sg.merged (by omega) HS3.out (b:=2*s*t+2*s) (by rw[<-HBt.out];exact hB2) (by omega) (.inl rfl) h1 h2
       clear hrow4 hG4 hM4 hr4 k1 k2 k3
       go_wp2_with fail
       exact⟨⟨B+2*s,t+1,z4,hB2,by rw[HBt.out,Nat.mul_add,Nat.mul_one],by congr 1,by congr 1,HR4.out,HG4.out,HS4.out⟩,by simp[intOf];omega⟩
      ·by_cases hmn:B+s<n
       ·go_wp2_with fail
        obtain⟨k1,k2,k3⟩:=HN.out n (Nat.le_refl _) hmn (by omega)
        refine ((HSM.out (2*s)).int B (B+s) n zq wr (by omega) HS3.len HS3.ord (by omega) hmn (Nat.le_refl _) k1 k2 k3 (sgrown_t HW0.out HG3.out) HR3.out rfl (by omega) rfl).mono ?_
        rintro e v4 ⟨⟨v',rfl⟩,z4,hrow4,hG4,hM4,hr4⟩
        have HR4:Hid (v4.rowIs S 3 n (zc z4)):=hrow4
        have HG4:Hid (w.grownBy v4 (some S)):=sgrown_t HG3.out hG4
        have HS4:Hid (Sg lt n (Q2 (2*s) 0) z4):=by
         have h1:=hM4
         have h2:=hr4
         rw[HBt.out] at h1 h2
         have h3:=HBt.out
         refine Sg.lone (t:=t+1) (by omega) (Sg.merged (by omega) HS3.out (Nat.le_refl _) (by omega) (.inr ⟨rfl,by omega⟩) h1 h2) ?_
         rw[Nat.mul_add,Nat.mul_one];omega
        clear hrow4 hG4 hM4 hr4 k1 k2 k3
        go_wp2_with fail
        exact⟨⟨2*s,z4,by omega,by omega,by congr 1;omega,HR4.out,HG4.out,HS4.out⟩,by simp[intOf];omega⟩
       ·have HS4:Hid (Sg lt n (Q2 (2*s) 0) zq):=Sg.lone (by omega) HS3.out (by rw[<-HBt.out];omega)
        go_wp2_with fail
        exact⟨⟨2*s,zq,by omega,by omega,by congr 1;omega,HR3.out,HG3.out,HS4.out⟩,by simp[intOf];omega⟩
    ·have HE:Hid (zs=grd lt n):=HS2.all HT.out (by omega)
     go_wp2_with fail
     go_end0
     refine⟨⟨_,rfl⟩,?_,HG2.out⟩
     rw[<-HE.out]
     exact HR2.out
theorem sort_any (S n sc:Nat)(f:Nat)(cs:List Value)(hE:∀ args w,(callFunc f args).run Tryz.prog w=.ok (.enter f args) w)(lt:Nat->Nat->Bool)(c:Nat->Nat->Int)(T:Tot lt n)(hcl:∀ x y,x<n->y<n->y<x->(c x y<0 ↔ lt x y=true))(w0:World)(hC:CmpF f cs n c S w0)(hn:n<=4096)(w:World)(hw:w0.grownBy w (some S))(hrow:w.rowIs S 3 n (zc (idn n))):
  Calls Tryz.prog 234 #[.slice (some ⟨S,0,none⟩) n sc,.func (.func f) #[] cs.toArray] w (SwP S n (grd lt n) w):=by
 have HC:Hid (Calls Tryz.prog 260 #[.slice (some ⟨S,0,none⟩) n sc,.int .i64 (n:Nat),.func (.func f) #[] cs.toArray] w (SwP S n (grd lt n) w)):=stab_any S n sc f cs hE lt c T hcl w0 hC hn w hw hrow
 clear hC hcl T hw hrow
 go_enter Tryz.func234,Tryz.ntmps234
 go_wp2_with fail
 refine HC.mono ?_
 rintro e v1 ⟨⟨v',rfl⟩,hrow1,hG1⟩
 go_wp2_with fail
 go_end0
 exact⟨⟨_,rfl⟩,hrow1,hG1⟩
theorem rwV_at {n₀:Nat}{W:World}{da:Option Addr}{dz:List Int}{dc n long B j:Nat}(h:IsC n₀ W da dz dc)(hn:n*long<=dz.length)(hr:W.rowIs B 25 n (rwV da dc long))(hj:j<n):
  ∃ ad cp,W.cell? ⟨B,j,none⟩=some (.slice ad (rwL dz long j).length cp)/\IsInts n₀ W ad (rwL dz long j):=by
 obtain⟨ad,cp,e,hI⟩:=rwV_is h hn hj
 exact⟨ad,cp,by rw[hr.cell hj,e,rwL_length hn hj],hI.1⟩
theorem ord1_any (f:Nat)(hE:∀ args w,(callFunc f args).run Tryz.prog w=.ok (.enter f args) w)(cmp:List Int->List Int->Int)(hF:RwF f cmp)(da:Option Addr)(dc:Nat)(dz:List Int)(n long:Nat)(hn:n*long<=dz.length)(h4:n<=4096)(hz:dz.length<=4096)
  (Br Bc R rc n₀:Nat)(x y:Nat)(hx:x<n)(hy:y<n)(W:World)(hd:IsC n₀ W da dz dc)(hR:W.rowIs R 25 n (rwV da dc long))(hr:W.cell? ⟨Br,0,none⟩=some (.slice (some ⟨R,0,none⟩) n rc))(hc:W.cell? ⟨Bc,0,none⟩=some (.func (.func f) #[] #[])):
  Calls Tryz.prog 235 #[.int .i64 (x:Nat),.int .i64 (y:Nat),.pointer (some ⟨Bc,0,none⟩),.pointer (some ⟨Br,0,none⟩)] W fun r W'=>r=.returned (.int .i64 (cmp (rwL dz long x) (rwL dz long y)))/\Below W.heap.size W W':=by
 obtain⟨ax,cx,ex,hIx⟩:=rwV_at hd hn hR hx
 obtain⟨ay,cy,ey,hIy⟩:=rwV_at hd hn hR hy
 have lx:=rwL_length hn hx
 have ly:=rwL_length hn hy
 have hll:long<=4096:=by
  have:=Nat.mul_le_mul_right long (show 1<=n by omega)
  omega
 have HC:Hid (Calls Tryz.prog f #[.slice ax (rwL dz long x).length cx,.slice ay (rwL dz long y).length cy] W.drew fun e w'=>e=.returned (.int .i64 (cmp (rwL dz long x) (rwL dz long y)))/\w'=W.drew):=hF ax cx _ ay cy _ (by omega) (by omega) n₀ W.drew hIx hIy
 clear hIx hIy hd hR hF lx ly
 generalize rwL dz long x=X at *
 generalize rwL dz long y=Y at *
 go_enter Tryz.func235,Tryz.ntmps235
 go_wp2_with fail
 refine bT 10 (fun w'=>w'.cell? ⟨Br,0,none⟩=some (.slice (some ⟨R,0,none⟩) n rc)/\w'.cell? ⟨Bc,0,none⟩=some (.func (.func f) #[] #[])/\w'.cell? ⟨R,x,none⟩=some (.slice ax X.length cx)/\w'.cell? ⟨R,y,none⟩=some (.slice ay Y.length cy)) 11 (⟨hr,hc,ex,ey⟩) fun hq0=>?_
 refine lT 0 hq0 ?_;refine lT 1 hq0 ?_;refine pT 2 hq0 ?_;refine pT 3 hq0 ?_;refine lT 4 hq0 ?_;refine lT 5 hq0 ?_;refine pT 6 hq0 ?_;refine pT 7 hq0 ?_;refine lT 8 hq0 ?_
 clear hq0
 refine oT 9 fun K hK=>?_
 go_simp
 go_wp2_with fail
 refine HC.mono ?_
 rintro e v1 ⟨rfl,rfl⟩
 refine hK.out _ _ (fun _=>⟨hr,hc,ex,ey⟩) ?_
 clear hK K
 refine oT 10 fun K hK=>?_
 go_simp
 refine hK.out _ _ (fun h=>absurd h (by decide)) ?_
 clear hK K
 refine dT ?_
 go_wp2_with fail
 go_ret
 exact⟨rfl,(Below.refl _ W).drew⟩
theorem idn_up {n:Nat}{W:World}{B:Nat}(h:W.rowIs B 3 n (fun j=>if j<n then .int .i64 (j:Int) else .int .i64 0)):W.rowIs B 3 n (zc (idn n)):=h.congr fun j hj=>by
 show (if j<n then Value.int .i64 (j:Int) else .int .i64 0)=_
 rw[if_pos hj]
 unfold zc
 rw[show nth (idn n) j=(j:Int) by rw[nth_get _ _ (by simp[idn];exact hj)];simp[idn]]
def upI (k j:Nat):Value:=if j<k then .int .i64 (j:Int) else .int .i64 0
theorem upI_set {W:World}{B n k:Nat}(h:W.rowIs B 3 n (upI k)):(W.setCell ⟨B,k,none⟩ (.int .i64 (k:Int))).rowIs B 3 n (upI (k+1)):=by
 refine (h.set k _).congr fun j hj=>?_
 unfold upI
 by_cases e:j=k
 ·rw[if_pos e,if_pos (by omega),e]
 ·rw[if_neg e]
  by_cases h1:j<k
  ·rw[if_pos h1,if_pos (by omega)]
  ·rw[if_neg h1,if_neg (by omega)]
def OrP (L:List Int)(w:World)(r:Ending)(w':World):Prop:=∃ g gc,r=.returned (.slice g L.length gc)/\NewC w.heap.size w' g L gc/\Below w.heap.size w w'
theorem zc_new {W:World}{B n lo:Nat}{z:List Int}(h:W.rowIs B 3 n (zc z))(hl:z.length=n)(hlo:lo<=B):NewC lo W (some ⟨B,0,none⟩) z n:=
 ⟨.inr ⟨B,0,rfl,hlo,h.lt,fun j hj=>by rw[Nat.zero_add];exact h.cell (by omega),fun j=>h.frozen _⟩,by omega⟩
theorem bel_gr {n₀:Nat}{w v W:World}{S:Nat}(h:Below n₀ w v)(hg:v.grownBy W (some S))(hS:n₀<=S)(hn:n₀<=v.heap.size):Below n₀ w W:=
 h.grown hg hn fun k e=>by cases e;exact hS
theorem ints_gr {n₀:Nat}{A B:World}{S:Nat}(hg:A.grownBy B (some S))(hn:n₀<=S)(hs:n₀<=A.heap.size){a:Option Addr}{zs:List Int}{cap:Nat}(h:IsC n₀ A a zs cap):IsC n₀ B a zs cap:=
 h.below ((Below.refl _ A).grown hg hs fun k e=>by cases e;exact hn)
theorem order_any (f:Nat)(hE:∀ args w,(callFunc f args).run Tryz.prog w=.ok (.enter f args) w)(cmp:List Int->List Int->Int)(hF:RwF f cmp)(da:Option Addr)(dc:Nat)(dz:List Int)(n long:Nat)(hn:n*long<=dz.length)(h4:n<=4096)(hz:dz.length<=4096)
  (lt:Nat->Nat->Bool)(T:Tot lt n)(hcl:∀ x y,x<n->y<n->y<x->(cmp (rwL dz long x) (rwL dz long y)<0 ↔ lt x y=true))(R rc:Nat)(w:World)(hd:IsC w.heap.size w da dz dc)(hR:w.rowIs R 25 n (rwV da dc long)):
  Calls Tryz.prog 168 #[.slice (some ⟨R,0,none⟩) n rc,.func (.func f) #[] #[]] w (OrP (grd lt n) w):=by
 have hmk:=run_make_row' (P:=Tryz.prog) 25 3 (.int .i64 0) 8 Tryz.underlying25 Tryz.infoInt rfl .i64 .i64 n (by omega) (by omega)
 have HF:Hid (RwF f cmp/\Tot lt n/\(∀ x y,x<n->y<n->y<x->(cmp (rwL dz long x) (rwL dz long y)<0 ↔ lt x y=true))/\n*long<=dz.length):=⟨hF,T,hcl,hn⟩
 have HD:Hid (IsC w.heap.size w da dz dc/\w.rowIs R 25 n (rwV da dc long)):=⟨hd,hR⟩
 have hRl:R<w.heap.size:=hR.lt
 obtain⟨W2,hW2⟩:∃ W2,W2=(w.alloc (.cells #[.slice (some ⟨R,0,none⟩) n rc] 161)).alloc (.cells #[.func (.func f) #[] #[]] 91):=⟨_,rfl⟩
 have HB2:Hid (Below w.heap.size w W2):=by rw[hW2];exact ((Below.refl _ w).alloc (Nat.le_refl _) _).alloc (by simp) _
 have hz2:W2.heap.size=w.heap.size+1+1:=by rw[hW2];simp
 have HX:Hid (W2.cell? ⟨w.heap.size,0,none⟩=some (.slice (some ⟨R,0,none⟩) n rc)/\W2.cell? ⟨w.heap.size+1,0,none⟩=some (.func (.func f) #[] #[])):=by
  rw[hW2]
  have b1:(w.alloc (.cells #[.slice (some ⟨R,0,none⟩) n rc] 161)).heap[w.heap.size]?=some (.cells #[.slice (some ⟨R,0,none⟩) n rc] 161 (0,0)):=World.alloc_heap_new w _
  have b2:=World.alloc_heap_new (w.alloc (.cells #[.slice (some ⟨R,0,none⟩) n rc] 161)) (.cells #[.func (.func f) #[] #[]] 91)
  rw[World.size_alloc] at b2
  constructor
  ·refine (World.cell?_of_block (w:=w.alloc (.cells #[.slice (some ⟨R,0,none⟩) n rc] 161)) (a:=⟨w.heap.size,0,none⟩) (Below.heap_alloc _ _ _ (by simp))).trans ?_
   simp only[World.cell?,b1];rfl
  ·simp only[World.cell?,b2];rfl
 have HM:Hid ((W2.alloc (.cells (madeCells #[.int .i64 0] n) 3)).rowIs (w.heap.size+1+1) 3 n (upI 0)):=by
  have h:=World.rowIs_made W2 (.int .i64 0) n 3
  rw[hz2] at h
  exact h.congr fun j _=>by unfold upI;rw[if_neg (by omega)]
 have HW2:Hid (W2=(w.alloc (.cells #[.slice (some ⟨R,0,none⟩) n rc] 161)).alloc (.cells #[.func (.func f) #[] #[]] 91)):=hW2
 clear hF T hcl hn hd hR hW2
 go_enter Tryz.func168,Tryz.ntmps168
 go_wp2_with fail
 clear hmk
 go_loopw [12] (fun i wr=>∃ k:Nat,k<=n/\i=.int .i64 k/\wr.rowIs (w.heap.size+1+1) 3 n (upI k)/\Below (w.heap.size+1+1) W2 wr) (fun i _=>n-(intOf i).toNat)
 case atStart=>
  rw[<-HW2.out]
  exact⟨0,Nat.zero_le _,rfl,HM.out,(Below.refl _ W2).alloc (by omega) _⟩
 case round=>
  obtain⟨k,hk,rfl,hrow,hB⟩:=hrel
  have HR:Hid (wr.rowIs (w.heap.size+1+1) 3 n (upI k)):=hrow
  have HB:Hid (Below (w.heap.size+1+1) W2 wr):=hB
  by_cases hlt:k<n
  ·have cc:wr.cell? ⟨w.heap.size+1+1,k,none⟩=some (.int .i64 0):=by
    rw[hrow.cell hlt];unfold upI;rw[if_neg (by omega)]
   have ff:=hrow.frozen k
   clear hrow hB
   go_wp2_with fail
   exact⟨⟨k+1,by omega,by go_num,upI_set HR.out,HB.setCell (p:=⟨w.heap.size+1+1,k,none⟩) (by show w.heap.size+1+1<=w.heap.size+1+1;omega) _⟩,by simp[intOf];omega⟩
  ·obtain rfl:k=n:=by omega
   have hSz:w.heap.size+1+1<wr.heap.size:=hrow.lt
   have HBw:Hid (Below w.heap.size w wr):=HB2.trans (hB.mono (by omega))
   have HCF:Hid (CmpF 235 [.pointer (some ⟨w.heap.size+1,0,none⟩),.pointer (some ⟨w.heap.size,0,none⟩)] k (fun x y=>cmp (rwL dz long x) (rwL dz long y)) (w.heap.size+1+1) wr):=by
    intro x y W hx hy hg
    refine ord1_any f hE cmp HF.1 da dc dz k long HF.2.2.2 h4 hz w.heap.size (w.heap.size+1) R rc w.heap.size x y hx hy W ?_ ?_ ?_ ?_
    ·exact ints_gr hg (by omega) (by omega) (HD.1.below HBw.out)
    ·exact HD.2.of_block (((hg.block R (by omega) (by simp;omega))).trans (HBw.block R hRl))
    ·exact (World.cell?_of_block (w:=wr) (a:=⟨w.heap.size,0,none⟩) (hg.block w.heap.size (by omega) (by simp;omega))).trans ((hB.cell (p:=⟨w.heap.size,0,none⟩) (by show w.heap.size<_;omega)).trans HX.1)
    ·exact (World.cell?_of_block (w:=wr) (a:=⟨w.heap.size+1,0,none⟩) (hg.block (w.heap.size+1) (by omega) (by simp))).trans ((hB.cell (p:=⟨w.heap.size+1,0,none⟩) (by show w.heap.size+1<_;omega)).trans HX.2)
   have HS:Hid (Calls Tryz.prog 234 #[.slice (some ⟨w.heap.size+1+1,0,none⟩) k k,.func (.func 235) #[] #[.pointer (some ⟨w.heap.size+1,0,none⟩),.pointer (some ⟨w.heap.size,0,none⟩)]] wr (SwP (w.heap.size+1+1) k (grd lt k) wr)):=
    sort_any (w.heap.size+1+1) k k 235 [.pointer (some ⟨w.heap.size+1,0,none⟩),.pointer (some ⟨w.heap.size,0,none⟩)] (enters_of Tryz.func235 (by kernel_rfl) rfl) lt _ HF.2.1 HF.2.2.1 wr HCF.out h4 wr (World.grownBy.refl _ _) (idn_up (hrow.congr fun j hj=>rfl))
   clear hrow hB HCF
   go_wp2_with fail
   refine HS.mono ?_
   rintro e v1 ⟨⟨v',rfl⟩,hrow1,hG1⟩
   have HR1:Hid (NewC w.heap.size v1 (some ⟨w.heap.size+1+1,0,none⟩) (grd lt k) k):=zc_new hrow1 grd_length (by omega)
   have HB1:Hid (Below w.heap.size w v1):=bel_gr HBw.out hG1 (by omega) (by omega)
   clear hrow1 hG1
   go_wp2_with fail
   go_ret
   exact⟨_,k,by rw[grd_length];rfl,HR1.out,HB1.out⟩
theorem gchk_any (c:Bool)(sa:Option Addr)(sc:Nat)(sz:List Int)(da:Option Addr)(dc:Nat)(dz:List Int)(h1:sz.length<=9223372036854775807)(h2:dz.length<=9223372036854775807)(w:World)(hs:IsInts w.heap.size w sa sz)(hd:IsInts w.heap.size w da dz):
  Calls Tryz.prog 167 #[.agg #[.bool c,.slice sa sz.length sc,.slice da dz.length dc]] w fun r w'=>r=.returned (errV (gdE c sz dz))/\Below w.heap.size w w':=by
 have HI:Hid (IsInts w.heap.size w sa sz/\IsInts w.heap.size w da dz):=⟨hs,hd⟩
 obtain⟨W0,hW0⟩:∃ W0,W0=w.alloc (.cells #[.bool c,.slice sa sz.length sc,.slice da dz.length dc] 27):=⟨_,rfl⟩
 have HB0:Hid (Below w.heap.size w W0):=by rw[hW0];exact (Below.refl _ w).alloc (Nat.le_refl _) _
 have HP:Hid (Abx W0 w.heap.size (.bool c) (.slice sa sz.length sc) (.slice da dz.length dc)):=by rw[hW0];exact Abx.new w _ _ _
 have p0:=HP.c0
 have p1:=HP.c1
 have p2:=HP.c2
 clear hs hd
 go_enter Tryz.func167,Tryz.ntmps167
 go_upto_region 1 with fail
 rw[<-hW0]
 clear hW0
 by_cases h3:flawE c sz dz=0
 ·have HC:Hid (Calls Tryz.prog 13 #[.agg #[.bool c,.slice sa sz.length sc,.slice da dz.length dc]] W0 fun e w'=>e=.returned .nilIface/\Below W0.heap.size W0 w'):=
   check_ok c sa sc sz da dc dz h1 h2 W0 ((HI.1.below HB0.out).mono HB0.size) ((HI.2.below HB0.out).mono HB0.size) h3
  by_cases h4:sz.length=0
  ·have HE:Hid (gdE c sz dz=3):=gdE_rank h3 h4
   have H4:Hid (sz.length=0):=h4
   clear h3 h4
   go_wp2_with fail
   refine HC.mono ?_
   rintro e v1 ⟨rfl,hB1⟩
   have HB1:Hid (Below w.heap.size w v1):=HB0.trans (hB1.mono HB0.size)
   have q1:=(HP.go hB1).c1
   have hl0:((sz.length:Int) == 0)=true:=by rw[H4.out];rfl
   clear p0 p1 p2 hB1
   go_wp2_with fail
   go_ret
   refine⟨?_,HB1.out⟩
   rw[HE.out];rfl
  ·have HE:Hid (gdE c sz dz=0):=gdE_zero.2 ⟨h3,by omega⟩
   clear h3
   go_wp2_with fail
   refine HC.mono ?_
   rintro e v1 ⟨rfl,hB1⟩
   have HB1:Hid (Below w.heap.size w v1):=HB0.trans (hB1.mono HB0.size)
   have q1:=(HP.go hB1).c1
   have hl0:((sz.length:Int) == 0)=false:=by rw[beq_eq_false_iff_ne];omega
   clear p0 p1 p2 hB1
   go_wp2_with fail
   go_ret
   refine⟨?_,HB1.out⟩
   rw[HE.out];rfl
 ·have HE:Hid (gdE c sz dz=flawE c sz dz):=gdE_flaw h3
  have H3:Hid (flawE c sz dz≠0):=h3
  have HC:Hid (Calls Tryz.prog 13 #[.agg #[.bool c,.slice sa sz.length sc,.slice da dz.length dc]] W0 fun e w'=>e=.returned (.iface 28 (.int .i64 (flawE c sz dz)))/\Below W0.heap.size W0 w'):=
   check_no c sa sc sz da dc dz h1 h2 W0 ((HI.1.below HB0.out).mono HB0.size) ((HI.2.below HB0.out).mono HB0.size) h3
  clear h3
  go_wp2_with fail
  refine HC.mono ?_
  rintro e v1 ⟨rfl,hB1⟩
  have HB1:Hid (Below w.heap.size w v1):=HB0.trans (hB1.mono HB0.size)
  clear p0 p1 p2 hB1
  go_wp2_with fail
  go_ret
  refine⟨?_,HB1.out⟩
  rw[HE.out,errV_pos H3.out];rfl
theorem up_cl {dz:List Int}{long x y:Nat}(h:y<x):cmpL (rwL dz long x) (rwL dz long y)<0 ↔ ltR false dz long x y=true:=by
 rw[ltR_iff]
 simp only[cmR,Bool.false_eq_true,if_false]
 exact⟨fun h=>.inl h,fun q=>by omega⟩
theorem down_cl {dz:List Int}{long x y:Nat}(h:y<x):cmpL (rwL dz long y) (rwL dz long x)<0 ↔ ltR true dz long x y=true:=by
 rw[ltR_iff]
 simp only[cmR,if_true]
 have:=cmpL_swap (rwL dz long x) (rwL dz long y)
 exact⟨fun h=>.inl (by omega),fun q=>by omega⟩
theorem up_holds:CUp:=by
 intro c sa sc sz da dc dz w h1 h2 hs hd
 have HI:Hid (IsC w.heap.size w sa sz sc/\IsC w.heap.size w da dz dc):=⟨hs,hd⟩
 obtain⟨W0,hW0⟩:∃ W0,W0=w.alloc (.cells #[.bool c,.slice sa sz.length sc,.slice da dz.length dc] 27):=⟨_,rfl⟩
 have HB0:Hid (Below w.heap.size w W0):=by rw[hW0];exact (Below.refl _ w).alloc (Nat.le_refl _) _
 have HP:Hid (Abx W0 w.heap.size (.bool c) (.slice sa sz.length sc) (.slice da dz.length dc)):=by rw[hW0];exact Abx.new w _ _ _
 have HC:Hid (Calls Tryz.prog 167 #[.agg #[.bool c,.slice sa sz.length sc,.slice da dz.length dc]] W0 fun r w'=>r=.returned (errV (gdE c sz dz))/\Below W0.heap.size W0 w'):=gchk_any c sa sc sz da dc dz h1 h2 W0 ((HI.1.1.below HB0.out).mono HB0.size) ((HI.2.1.below HB0.out).mono HB0.size)
 have p0:=HP.c0
 have p1:=HP.c1
 have p2:=HP.c2
 clear hs hd
 by_cases h3:gdE c sz dz=0
 ·have H3:Hid (gdE c sz dz=0):=h3
  rw[h3,show errV 0=.nilIface from rfl] at HC
  go_enter Tryz.func105,Tryz.ntmps105
  go_upto_region 1 with fail
  rw[<-hW0]
  clear hW0
  go_wp2_with fail
  refine HC.mono ?_
  rintro e v1 ⟨rfl,hB1⟩
  have HB1:Hid (Below w.heap.size w v1):=HB0.trans (hB1.mono HB0.size)
  have hA1:=HP.go hB1
  have q0:=hA1.c0
  have q1:=hA1.c1
  have q2:=hA1.c2
  have hnR:=nR_is h3
  have hfl:=flawE_short (gdE_zero.1 h3).1
  have HRW:Hid (Calls Tryz.prog 169 #[.agg #[.bool c,.slice sa sz.length sc,.slice da dz.length dc]] v1 (RwsP da dc (nR sz) (lR sz dz) v1)):=by
   rw[lR_is]
   exact rows_any c sa sc sz da dc dz (nR sz) hnR.1 hnR.2 (gdE_zero.1 h3).2 hfl.2 v1 ((HI.1.1.below HB1.out).mono HB1.size) ((HI.2.below HB1.out).mono HB1.size)
  have HN:Hid (nR sz<=4096/\dz.length<=4096):=⟨hnR.2,hfl.2⟩
  clear p0 p1 p2 hB1 hA1 hnR hfl h3
  go_wp2_with fail
  refine HRW.mono ?_
  rintro e v2 ⟨B,rfl,hBl,hrow2,hB2⟩
  have HB2:Hid (Below w.heap.size w v2):=HB1.trans (hB2.mono HB1.size)
  have HO:Hid (Calls Tryz.prog 168 #[.slice (some ⟨B,0,none⟩) (nR sz) (nR sz),.func (.func 170) #[] #[]] v2 (OrP (grd (ltR false dz (lR sz dz)) (nR sz)) v2)):=
   order_any 170 (enters_of Tryz.func170 (by kernel_rfl) rfl) _ up1_any da dc dz (nR sz) (lR sz dz) (lR_le sz dz) HN.1 HN.2 (ltR false dz (lR sz dz)) (ltR_tot (lR_le sz dz)) (fun x y _ _ h=>up_cl h) B (nR sz) v2 ((HI.2.below HB2.out).mono HB2.size) hrow2
  clear hrow2 hBl hB2
  go_wp2_with fail
  refine HO.mono ?_
  rintro e v3 ⟨g,gc,rfl,hN3,hB3⟩
  have HN3:Hid (NewC w.heap.size v3 g (grd (ltR false dz (lR sz dz)) (nR sz)) gc):=hN3.low HB2.size
  have HB3:Hid (Below w.heap.size w v3):=HB2.trans (hB3.mono HB2.size)
  clear hN3 hB3
  generalize hG:grd (ltR false dz (lR sz dz)) (nR sz)=G at *
  have HG:Hid (gdO false sz dz=G):=hG
  clear hG
  go_wp2_with fail
  go_ret2
  rw[HG.out]
  exact UL.mkok H3.out HN3.out HB3.out
 ·have H3:Hid (gdE c sz dz≠0):=h3
  rw[errV_pos h3] at HC
  clear h3
  go_enter Tryz.func105,Tryz.ntmps105
  go_upto_region 1 with fail
  rw[<-hW0]
  clear hW0
  go_wp2_with fail
  refine HC.mono ?_
  rintro e v1 ⟨rfl,hB1⟩
  have HB1:Hid (Below w.heap.size w v1):=HB0.trans (hB1.mono HB0.size)
  clear p0 p1 p2 hB1
  generalize gdE c sz dz=e0 at *
  go_wp2_with fail
  go_ret2
  exact UL.mkno rfl H3.out HB1.out
theorem down_holds:CDn:=by
 intro c sa sc sz da dc dz w h1 h2 hs hd
 have HI:Hid (IsC w.heap.size w sa sz sc/\IsC w.heap.size w da dz dc):=⟨hs,hd⟩
 obtain⟨W0,hW0⟩:∃ W0,W0=w.alloc (.cells #[.bool c,.slice sa sz.length sc,.slice da dz.length dc] 27):=⟨_,rfl⟩
 have HB0:Hid (Below w.heap.size w W0):=by rw[hW0];exact (Below.refl _ w).alloc (Nat.le_refl _) _
 have HP:Hid (Abx W0 w.heap.size (.bool c) (.slice sa sz.length sc) (.slice da dz.length dc)):=by rw[hW0];exact Abx.new w _ _ _
 have HC:Hid (Calls Tryz.prog 167 #[.agg #[.bool c,.slice sa sz.length sc,.slice da dz.length dc]] W0 fun r w'=>r=.returned (errV (gdE c sz dz))/\Below W0.heap.size W0 w'):=gchk_any c sa sc sz da dc dz h1 h2 W0 ((HI.1.1.below HB0.out).mono HB0.size) ((HI.2.1.below HB0.out).mono HB0.size)
 have p0:=HP.c0
 have p1:=HP.c1
 have p2:=HP.c2
 clear hs hd
 by_cases h3:gdE c sz dz=0
 ·have H3:Hid (gdE c sz dz=0):=h3
  rw[h3,show errV 0=.nilIface from rfl] at HC
  go_enter Tryz.func106,Tryz.ntmps106
  go_upto_region 1 with fail
  rw[<-hW0]
  clear hW0
  go_wp2_with fail
  refine HC.mono ?_
  rintro e v1 ⟨rfl,hB1⟩
  have HB1:Hid (Below w.heap.size w v1):=HB0.trans (hB1.mono HB0.size)
  have hA1:=HP.go hB1
  have q0:=hA1.c0
  have q1:=hA1.c1
  have q2:=hA1.c2
  have hnR:=nR_is h3
  have hfl:=flawE_short (gdE_zero.1 h3).1
  have HRW:Hid (Calls Tryz.prog 169 #[.agg #[.bool c,.slice sa sz.length sc,.slice da dz.length dc]] v1 (RwsP da dc (nR sz) (lR sz dz) v1)):=by
   rw[lR_is]
   exact rows_any c sa sc sz da dc dz (nR sz) hnR.1 hnR.2 (gdE_zero.1 h3).2 hfl.2 v1 ((HI.1.1.below HB1.out).mono HB1.size) ((HI.2.below HB1.out).mono HB1.size)
  have HN:Hid (nR sz<=4096/\dz.length<=4096):=⟨hnR.2,hfl.2⟩
  clear p0 p1 p2 hB1 hA1 hnR hfl h3
  go_wp2_with fail
  refine HRW.mono ?_
  rintro e v2 ⟨B,rfl,hBl,hrow2,hB2⟩
  have HB2:Hid (Below w.heap.size w v2):=HB1.trans (hB2.mono HB1.size)
  have HO:Hid (Calls Tryz.prog 168 #[.slice (some ⟨B,0,none⟩) (nR sz) (nR sz),.func (.func 172) #[] #[]] v2 (OrP (grd (ltR true dz (lR sz dz)) (nR sz)) v2)):=
   order_any 172 (enters_of Tryz.func172 (by kernel_rfl) rfl) _ down1_any da dc dz (nR sz) (lR sz dz) (lR_le sz dz) HN.1 HN.2 (ltR true dz (lR sz dz)) (ltR_tot (lR_le sz dz)) (fun x y _ _ h=>down_cl h) B (nR sz) v2 ((HI.2.below HB2.out).mono HB2.size) hrow2
  clear hrow2 hBl hB2
  go_wp2_with fail
  refine HO.mono ?_
  rintro e v3 ⟨g,gc,rfl,hN3,hB3⟩
  have HN3:Hid (NewC w.heap.size v3 g (grd (ltR true dz (lR sz dz)) (nR sz)) gc):=hN3.low HB2.size
  have HB3:Hid (Below w.heap.size w v3):=HB2.trans (hB3.mono HB2.size)
  clear hN3 hB3
  generalize hG:grd (ltR true dz (lR sz dz)) (nR sz)=G at *
  have HG:Hid (gdO true sz dz=G):=hG
  clear hG
  go_wp2_with fail
  go_ret2
  rw[HG.out]
  exact UL.mkok H3.out HN3.out HB3.out
 ·have H3:Hid (gdE c sz dz≠0):=h3
  rw[errV_pos h3] at HC
  clear h3
  go_enter Tryz.func106,Tryz.ntmps106
  go_upto_region 1 with fail
  rw[<-hW0]
  clear hW0
  go_wp2_with fail
  refine HC.mono ?_
  rintro e v1 ⟨rfl,hB1⟩
  have HB1:Hid (Below w.heap.size w v1):=HB0.trans (hB1.mono HB0.size)
  clear p0 p1 p2 hB1
  generalize gdE c sz dz=e0 at *
  go_wp2_with fail
  go_ret2
  exact UL.mkno rfl H3.out HB1.out
end Go.Proofs.YtkmmkcpfhnifhaaGreatDoor
namespace Go.Proofs.YtkmmkcpfhnifhaaGreatDoor
open Go.RowKit
section
variable {n n' : Nat} {W W' : World} {a : Option Addr} {bs : List BrV}
end
def lnB (bs:List BrV):Bool:=bs.all fun b=>b.2.1.2.length == 1
def lnE8 (c:Bool)(sz dz:List Int)(bs:List BrV):Int:=if bsE c sz dz bs≠0 then bsE c sz dz bs else if sz.length≠1\/lnB bs=false then 3 else 0
theorem lnB_next {bs:List BrV}{k:Nat}(hk:k<bs.length)(h:lnB (bs.take k)=true)(e:(brz bs k).2.1.2.length=1):lnB (bs.take (k+1))=true:=by
 rw[brz_get hk] at e
 unfold lnB at *
 rw[List.take_succ_eq_append_getElem hk,List.all_append,h]
 simp[e]
theorem lnB_bad {bs:List BrV}{k:Nat}(hk:k<bs.length)(e:(brz bs k).2.1.2.length≠1):lnB bs=false:=by
 rw[brz_get hk] at e
 unfold lnB
 rw[List.all_eq_false]
 exact⟨_,List.getElem_mem hk,by simpa using e⟩
theorem lnE_nil {c:Bool}{sz dz:List Int}:lnE8 c sz dz []=nbE c sz dz:=by
 unfold lnE8 nbE
 rw[bsE_nil]
 have:(sz.length≠1\/lnB []=false) ↔ sz.length≠1:=by simp[lnB]
 simp only[this]
theorem lnE_one {c:Bool}{sz dz:List Int}{c':Bool}{p:Option Addr × Nat}{sz':List Int}{q:Option Addr × Nat}{dz':List Int}:lnE8 c sz dz [(c',((p,sz'),(q,dz')))]=lsE c sz dz c' sz' dz':=by
 unfold lnE8 lsE
 rw[bsE_one]
 have:(sz.length≠1\/lnB [(c',((p,sz'),(q,dz')))]=false) ↔ (sz.length≠1\/sz'.length≠1):=by simp[lnB]
 simp only[this]
theorem isline_any (c:Bool)(sa:Option Addr)(sc:Nat)(sz:List Int)(D:Value)(w:World):
  Calls Tryz.prog 196 #[.agg #[.bool c,.slice sa sz.length sc,D]] w fun e w'=>e=.returned (.bool (decide (sz.length=1)))/\Below w.heap.size w w':=by
 by_cases h:sz.length=1
 ·have h1:(sz.length:Int)=1:=by omega
  rw[decide_eq_true h]
  have HB:Hid (Below w.heap.size w (w.alloc (.cells #[.bool c,.slice sa 1 sc,D] 27))):=(Below.refl _ w).alloc (Nat.le_refl _) _
  rw[h]
  clear h h1
  go_enter Tryz.func196,Tryz.ntmps196
  go_wp2_with fail
  go_ret
  exact⟨rfl,HB.out⟩
 ·rw[decide_eq_false h]
  have hb:((sz.length:Int) == 1)=false:=by simpa using fun e=>h (by omega)
  have HB:Hid (Below w.heap.size w (w.alloc (.cells #[.bool c,.slice sa sz.length sc,D] 27))):=(Below.refl _ w).alloc (Nat.le_refl _) _
  clear h
  go_enter Tryz.func196,Tryz.ntmps196
  go_wp2_with fail
  go_ret
  exact⟨rfl,HB.out⟩
end Go.Proofs.YtkmmkcpfhnifhaaGreatDoor
