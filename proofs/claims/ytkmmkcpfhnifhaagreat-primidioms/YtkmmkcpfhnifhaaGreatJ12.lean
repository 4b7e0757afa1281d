/- What the program tells, in part. -/
import Derived.Test.YtkmmkcpfhnifhaaGreatJ11
set_option linter.unusedVariables false
set_option maxHeartbeats 4000000
set_option maxRecDepth 100000
namespace Go.Proofs.YtkmmkcpfhnifhaaGreat
open Go.RowKit
def SmC (S n sc f:Nat)(cs:List Value)(lt:Nat->Nat->Bool)(w0:World)(k:Nat):Prop:=
 ∀ (a m b:Nat) (z:List Int) (w:World),b-a<=k->z.length=n->IsOrd z->a<m->m<b->b<=n->Ris lt z a m->Ris lt z m b->Sep z a m b->w0.grownBy w (some S)->w.rowIs S 3 n (zc z) →
  Calls Tryz.prog 188 #[.slice (some ⟨S,0,none⟩) n sc,.int .i64 (a:Nat),.int .i64 (m:Nat),.int .i64 (b:Nat),.func (.func f) #[] cs.toArray] w (Sod S n lt a b z w)
theorem SmC.int {S n sc f:Nat}{cs:List Value}{lt:Nat->Nat->Bool}{w0:World}{k:Nat}(h:SmC S n sc f cs lt w0 k){x y t:Int}(a m b:Nat)(z:List Int)(w:World)(h1:b-a<=k)(h2:z.length=n)(h3:IsOrd z)(h4:a<m)(h5:m<b)(h6:b<=n)(h7:Ris lt z a m)(h8:Ris lt z m b)(h9:Sep z a m b)(hw:w0.grownBy w (some S))(hr:w.rowIs S 3 n (zc z))(hx:x=(a:Int))(hy:y=(m:Int))(ht:t=(b:Int)):
  Calls Tryz.prog 188 #[.slice (some ⟨S,0,none⟩) n sc,.int .i64 x,.int .i64 y,.int .i64 t,.func (.func f) #[] cs.toArray] w (Sod S n lt a b z w):=by
 subst hx hy ht;exact h a m b z w h1 h2 h3 h4 h5 h6 h7 h8 h9 hw hr
theorem sm3a_any (S n sc:Nat)(f:Nat)(cs:List Value)(hE:∀ args w,(callFunc f args).run Tryz.prog w=.ok (.enter f args) w)(lt:Nat->Nat->Bool)(c:Nat->Nat->Int)(T:Tot lt n)(hcl:∀ x y,x<n->y<n->y<x->(c x y<0 ↔ lt x y=true))(w0:World)(hC:CmpF f cs n c S w0)
  (a m b mid:Nat)(z:List Int)(hl:z.length=n)(ho:IsOrd z)(hn:n<=4096)(ha:a+1<m)(hmb:m+1<b)(hb:b<=n)(hr1:Ris lt z a m)(hr2:Ris lt z m b)(hs:Sep z a m b)(hmid:mid=(a+b)/2)(hmm:mid<m)(k:Nat)(hk:b-a<=k+1)(hIH:SmC S n sc f cs lt w0 k)(w:World)(hw:w0.grownBy w (some S))(hrow:w.rowIs S 3 n (zc z)):
  Calls Tryz.prog 188 #[.slice (some ⟨S,0,none⟩) n sc,.int .i64 (a:Nat),.int .i64 (m:Nat),.int .i64 (b:Nat),.func (.func f) #[] cs.toArray] w (Sod S n lt a b z w):=by
 have HR:Hid (w.rowIs S 3 n (zc z)):=hrow
 have HL:Hid (z.length=n/\IsOrd z):=⟨hl,ho⟩
 have HT:Hid (Tot lt n/\(∀ x y,x<n->y<n->y<x->(c x y<0 ↔ lt x y=true))):=⟨T,hcl⟩
 have HC:Hid (CmpF f cs n c S w0):=hC
 have HW0:Hid (w0.grownBy w (some S)):=hw
 have HS:Hid (Ris lt z a m/\Ris lt z m b/\Sep z a m b):=⟨hr1,hr2,hs⟩
 have hW:Wd a m b mid (mid+m-b) mid:=⟨by omega,by omega,by omega,by omega,by omega,by omega,by omega,by omega,.inr (by omega),.inr rfl⟩
 have HF:Hid (Fall (Pa3 lt z (mid+m-1)) (mid+m-b) mid):=Pa3_fall T ho hl hW hb hr1 hr2
 have HWd:Hid (Wd a m b mid (mid+m-b) mid):=hW
 have HIH:Hid (SmC S n sc f cs lt w0 k):=hIH
 have hma:((m:Int)-(a:Int) == 1)=false:=by rw[beq_eq_false_iff_ne];omega
 have hmb1:((b:Int)-(m:Int) == 1)=false:=by rw[beq_eq_false_iff_ne];omega
 have emid:((a:Int)+(b:Int))/2=(mid:Int):=by omega
 have hd1:2*mid<=a+b:=by omega
 have hd2:a+b<=2*mid+1:=by omega
 clear hrow hl ho T hcl hC hr1 hr2 hs hw hmid hW hIH
 go_enter Tryz.func188,Tryz.ntmps188
 go_wp2_with fail
 go_loopw [20,21] (fun vi vj wr=>∃ i j:Nat,vi=.int .i64 i/\vj=.int .i64 j/\wr.rowIs S 3 n (zc z)/\w.grownBy wr (some S)/\Bs (Pa3 lt z (mid+m-1)) (mid+m-b) mid i j) (fun vi vj _=>(intOf vj).toNat-(intOf vi).toNat)
 case atStart=>exact⟨(mid+m-b),mid,by first | rfl | (congr 1;omega),by first | rfl | (congr 1;omega),HR.out,World.grownBy.refl _ _,Bs.zero (by omega)⟩
 case round=>
  obtain⟨i,j,rfl,rfl,hrow,hG,hBs⟩:=hrel
  have hb1:=hBs.l
  have hb2:=hBs.r
  have hb3:=hBs.m
  have HRw:Hid (wr.rowIs S 3 n (zc z)):=hrow
  have HG:Hid (w.grownBy wr (some S)):=hG
  have HBs:Hid (Bs (Pa3 lt z (mid+m-1)) (mid+m-b) mid i j):=hBs
  by_cases hij:i<j
  ·obtain⟨h,hh⟩:∃ h:Nat,h=(i+j)/2:=⟨_,rfl⟩
   have hih:i<=h:=by omega
   have hhj:h<j:=by omega
   have eh:((i:Int)+(j:Int))/2=(h:Int):=by omega
   clear hh
   have hhn:h<n:=by omega
   obtain⟨Q,hQ⟩:∃ Q,Q=mid+m-1-h:=⟨_,rfl⟩
   have w1:IntKind.i64.wrap ((mid:Int)+(m:Int)-1-(h:Int))=(Q:Int):=by rw[wr_sm (by omega)];omega
   have HQ:Hid (Q=mid+m-1-h):=hQ
   have hXn:Q<n:=by omega
   have hYn:h<n:=by omega
   have cX:=zc_at hrow HL.2 HL.1 hXn
   have cY:=zc_at hrow HL.2 HL.1 hYn
   obtain⟨X,hX⟩:∃ X,X=nt z Q:=⟨_,rfl⟩
   obtain⟨Y,hY⟩:∃ Y,Y=nt z h:=⟨_,rfl⟩
   rw[<-hX] at cX
   rw[<-hY] at cY
   have hXl:X<n:=by rw[hX];exact nt_lt HL.2 HL.1 hXn
   have hYl:Y<n:=by rw[hY];exact nt_lt HL.2 HL.1 hYn
   have HCL:Hid (c X Y<0 ↔ lt (nt z Q) (nt z h)=true):=by
    rw[<-hX,<-hY]
    exact HT.2 X Y hXl hYl (by rw[hX,hY];exact HS.2.2 h Q (by omega) (by omega) (by omega) (by omega))
   have HCC:Hid (Calls Tryz.prog f (.int .i64 (X:Nat)::.int .i64 (Y:Nat)::cs).toArray wr.drew fun r W'=>r=.returned (.int .i64 (c X Y))/\Below wr.drew.heap.size wr.drew W'):=
    HC.out X Y wr.drew hXl hYl (sgrown_t HW0.out (sgrown_t HG.out ⟨rfl,rfl,rfl,Nat.le_refl _,fun _ _ _=>rfl⟩))
   have hSz:S<wr.heap.size:=hrow.lt
   clear hrow hG hBs hX hY hQ
   by_cases hc:c X Y<0
   ·have HLL:Hid (Pa3 lt z (mid+m-1) h=false):=by show _=_;unfold Pa3;rw[<-HQ.out,HCL.1 hc];rfl
    go_wp2_with fail
    refine bT 11 (fun w'=>w'.cell? ⟨S,Q,none⟩=some (.int .i64 (X:Nat))/\w'.cell? ⟨S,h,none⟩=some (.int .i64 (Y:Nat))) 14 (⟨cX,cY⟩) fun hq0=>?_
    refine pT 0 hq0 ?_;refine pT 1 hq0 ?_;refine pT 2 hq0 ?_;refine pT 3 hq0 ?_;refine pT 4 hq0 ?_;refine pT 5 hq0 ?_;refine lT 6 hq0 ?_;refine pT 7 hq0 ?_;refine pT 8 hq0 ?_
    refine pT 9 hq0 ?_;refine lT 10 hq0 ?_
    clear hq0
    refine oT 11 fun K hK=>?_
    go_simp
    go_wp2_with fail
    refine HCC.mono ?_
    rintro e v1 ⟨rfl,hB1⟩
    refine hK.out _ _ (fun h=>absurd h (by decide)) ?_
    clear hK K
    refine oT 12 fun K hK=>?_
    go_simp
    refine hK.out _ _ (fun h=>absurd h (by decide)) ?_
    clear hK K
    refine oT 13 fun K hK=>?_
    go_simp
    refine hK.out _ _ (fun h=>absurd h (by decide)) ?_
    clear hK K
    refine dT ?_
    have HR1:Hid (v1.rowIs S 3 n (zc z)):=HRw.of_block (hB1.block S hSz)
    have HG1:Hid (w.grownBy v1 (some S)):=sgrown_bel (w:=wr) HG.out ((Below.refl _ wr).drew.trans hB1)
    clear hB1 cX cY
    go_wp2_with fail
    exact⟨⟨i,h,rfl,rfl,HR1.out,HG1.out,HBs.down HF.out hih hhj HLL.out⟩,by simp[intOf];omega⟩
   ·have HLL:Hid (Pa3 lt z (mid+m-1) h=true):=by show _=_;unfold Pa3;rw[<-HQ.out,Bool.not_eq_true'];exact Bool.eq_false_iff.2 (fun q=>hc (HCL.2 q))
    have hcb:decide (c X Y<0)=false:=decide_eq_false hc
    go_wp2_with fail
    refine bT 11 (fun w'=>w'.cell? ⟨S,Q,none⟩=some (.int .i64 (X:Nat))/\w'.cell? ⟨S,h,none⟩=some (.int .i64 (Y:Nat))) 14 (⟨cX,cY⟩) fun hq15=>?_
    refine pT 0 hq15 ?_;refine pT 1 hq15 ?_;refine pT 2 hq15 ?_;refine pT 3 hq15 ?_;refine pT 4 hq15 ?_;refine pT 5 hq15 ?_;refine lT 6 hq15 ?_;refine pT 7 hq15 ?_
    refine pT 8 hq15 ?_;refine pT 9 hq15 ?_;refine lT 10 hq15 ?_
    clear hq15
    refine oT 11 fun K hK=>?_
    go_simp
    go_wp2_with fail
    refine HCC.mono ?_
    rintro e v1 ⟨rfl,hB1⟩
    refine hK.out _ _ (fun h=>absurd h (by decide)) ?_
    clear hK K
    refine oT 12 fun K hK=>?_
    go_simp
    refine hK.out _ _ (fun h=>absurd h (by decide)) ?_
    clear hK K
    refine oT 13 fun K hK=>?_
    go_simp
    refine hK.out _ _ (fun h=>absurd h (by decide)) ?_
    clear hK K
    refine dT ?_
    have HR1:Hid (v1.rowIs S 3 n (zc z)):=HRw.of_block (hB1.block S hSz)
    have HG1:Hid (w.grownBy v1 (some S)):=sgrown_bel (w:=wr) HG.out ((Below.refl _ wr).drew.trans hB1)
    clear hB1 cX cY
    go_wp2_with fail
    exact⟨⟨h+1,j,by go_num,rfl,HR1.out,HG1.out,HBs.up HF.out hih hhj HLL.out⟩,by simp[intOf];omega⟩
  ·obtain rfl:i=j:=by omega
   obtain⟨v1,v2,v3,v4,v5,v6,hv⟩:=halves HT.1 HL.2 HL.1 HWd.out hb HS.1 HS.2.1 HS.2.2 hBs
   obtain⟨e,he⟩:∃ e,e=mid+m-i:=⟨_,rfl⟩
   have ee:(mid:Int)+(m:Int)-(i:Int)=(e:Int):=by omega
   have he1:e+i=mid+m:=by omega
   obtain⟨z1,hz1⟩:∃ z1,z1=mvL (rtF m (m-i) (mid-i)) z:=⟨_,rfl⟩
   have HZe:Hid (z1=mvL (rtF m (m-i) (mid-i)) z):=hz1
   have hM1:Mv a b z z1:=⟨_,hz1,(rtF_fx (by omega)).wide (by omega) (by omega)⟩
   have HZ1:Hid (z1.length=n/\IsOrd z1/\Mv a b z z1/\Hv lt z1 a i mid e b):=⟨by rw[hM1.len];exact HL.1,hM1.ord (by rw[HL.1];exact hb) HL.2,hM1,by rw[hz1,he];exact hv⟩
   clear hrow hG hBs hz1 hM1 hv he
   by_cases q1:i<m
   ·by_cases q2:m<e
    ·go_wp2_with fail
     refine (rot_int i m e z HL.1 hn (by omega) (by omega) (by omega) wr HRw.out (by omega) (by omega)).mono ?_
     rintro e' v1 ⟨⟨v',rfl⟩,hrow1,hG1⟩
     have HR1:Hid (v1.rowIs S 3 n (zc z1)):=by have h:=hrow1;rw[show e-m=mid-i by omega,<-HZe.out] at h;exact h
     have HG1:Hid (w.grownBy v1 (some S)):=sgrown_t HG.out hG1
     clear hrow1 hG1
     by_cases q3:a<i
     ·by_cases q4:i<mid
      ·skip
       go_wp2_with fail
       refine (HIH.int a i mid z1 v1 (by omega) HZ1.1 HZ1.2.1 (by omega) (by omega) (by omega) HZ1.2.2.2.r1 HZ1.2.2.2.r2 HZ1.2.2.2.s1 (sgrown_t HW0.out HG1.out) HR1.out (by omega) (by omega) (by omega)).mono ?_
       rintro e' v2 ⟨⟨v',rfl⟩,z2,hrow2,hG2,hM2,hr2'⟩
       have HR2:Hid (v2.rowIs S 3 n (zc z2)):=hrow2
       have HG2:Hid (w.grownBy v2 (some S)):=sgrown_t HG1.out hG2
       have HZ2:Hid (z2.length=n/\IsOrd z2/\Mv a b z z2/\Hw lt z2 a mid e b):=⟨by rw[hM2.len];exact HZ1.1,hM2.ord (by rw[HZ1.1];omega) HZ1.2.1,HZ1.2.2.1.trans (hM2.wide (Nat.le_refl _) (by omega)) (by rw[HL.1];exact hb),hv_left (by rw[HZ1.1];omega) (by omega) HZ1.2.2.2 hM2 hr2'⟩
       clear hrow2 hG2 hM2 hr2'
       by_cases q5:mid<e
       ·by_cases q6:e<b
        ·skip
         go_wp2_with fail
         refine (HIH.int mid e b z2 v2 (by omega) HZ2.1 HZ2.2.1 (by omega) (by omega) hb HZ2.2.2.2.r3 HZ2.2.2.2.r4 HZ2.2.2.2.s2 (sgrown_t HW0.out HG2.out) HR2.out (by omega) (by omega) (by omega)).mono ?_
         rintro e' v3 ⟨⟨v',rfl⟩,z3,hrow3,hG3,hM3,hr3⟩
         have H3:Hid (v3.rowIs S 3 n (zc z3)/\w.grownBy v3 (some S)/\Mv a b z z3/\Ris lt z3 a b):=⟨hrow3,sgrown_t HG2.out hG3,HZ2.2.2.1.trans (hM3.wide (by omega) (Nat.le_refl _)) (by rw[HL.1];exact hb),hw_right (by rw[HZ2.1];exact hb) HZ2.2.2.2 hM3 hr3⟩
         clear hrow3 hG3 hM3 hr3
         go_wp2_with fail
         go_end0
         exact⟨⟨_,rfl⟩,z3,H3.1,H3.2.1,H3.2.2.1,H3.2.2.2⟩
        ·skip
         go_wp2_with fail
         go_end0
         exact⟨⟨_,rfl⟩,z2,HR2.out,HG2.out,HZ2.2.2.1,hw_skip (by omega) (by omega) (by omega) HZ2.2.2.2⟩
       ·exfalso;omega
      ·exfalso;omega
     ·skip
      have HR2:Hid (v1.rowIs S 3 n (zc z1)):=HR1.out
      have HG2:Hid (w.grownBy v1 (some S)):=HG1.out
      have HZ2:Hid (z1.length=n/\IsOrd z1/\Mv a b z z1/\Hw lt z1 a mid e b):=⟨HZ1.1,HZ1.2.1,HZ1.2.2.1,hv_skip (by omega) (by omega) (by omega) HZ1.2.2.2⟩
      by_cases q5:mid<e
      ·by_cases q6:e<b
       ·skip
        go_wp2_with fail
        refine (HIH.int mid e b z1 v1 (by omega) HZ2.1 HZ2.2.1 (by omega) (by omega) hb HZ2.2.2.2.r3 HZ2.2.2.2.r4 HZ2.2.2.2.s2 (sgrown_t HW0.out HG2.out) HR2.out (by omega) (by omega) (by omega)).mono ?_
        rintro e' v3 ⟨⟨v',rfl⟩,z3,hrow3,hG3,hM3,hr3⟩
        have H3:Hid (v3.rowIs S 3 n (zc z3)/\w.grownBy v3 (some S)/\Mv a b z z3/\Ris lt z3 a b):=⟨hrow3,sgrown_t HG2.out hG3,HZ2.2.2.1.trans (hM3.wide (by omega) (Nat.le_refl _)) (by rw[HL.1];exact hb),hw_right (by rw[HZ2.1];exact hb) HZ2.2.2.2 hM3 hr3⟩
        clear hrow3 hG3 hM3 hr3
        go_wp2_with fail
        go_end0
        exact⟨⟨_,rfl⟩,z3,H3.1,H3.2.1,H3.2.2.1,H3.2.2.2⟩
       ·skip
        go_wp2_with fail
        go_end0
        exact⟨⟨_,rfl⟩,z1,HR2.out,HG2.out,HZ2.2.2.1,hw_skip (by omega) (by omega) (by omega) HZ2.2.2.2⟩
      ·exfalso;omega
    ·have HR1:Hid (wr.rowIs S 3 n (zc z1)):=by have h:=HRw.out;rw[HZe.out,rtF_none (by omega)];exact h
     have HG1:Hid (w.grownBy wr (some S)):=HG.out
     by_cases q3:a<i
     ·by_cases q4:i<mid
      ·exfalso;omega
      ·skip
       have HR2:Hid (wr.rowIs S 3 n (zc z1)):=HR1.out
       have HG2:Hid (w.grownBy wr (some S)):=HG1.out
       have HZ2:Hid (z1.length=n/\IsOrd z1/\Mv a b z z1/\Hw lt z1 a mid e b):=⟨HZ1.1,HZ1.2.1,HZ1.2.2.1,hv_skip (by omega) (by omega) (by omega) HZ1.2.2.2⟩
       by_cases q5:mid<e
       ·by_cases q6:e<b
        ·skip
         go_wp2_with fail
         refine (HIH.int mid e b z1 wr (by omega) HZ2.1 HZ2.2.1 (by omega) (by omega) hb HZ2.2.2.2.r3 HZ2.2.2.2.r4 HZ2.2.2.2.s2 (sgrown_t HW0.out HG2.out) HR2.out (by omega) (by omega) (by omega)).mono ?_
         rintro e' v3 ⟨⟨v',rfl⟩,z3,hrow3,hG3,hM3,hr3⟩
         have H3:Hid (v3.rowIs S 3 n (zc z3)/\w.grownBy v3 (some S)/\Mv a b z z3/\Ris lt z3 a b):=⟨hrow3,sgrown_t HG2.out hG3,HZ2.2.2.1.trans (hM3.wide (by omega) (Nat.le_refl _)) (by rw[HL.1];exact hb),hw_right (by rw[HZ2.1];exact hb) HZ2.2.2.2 hM3 hr3⟩
         clear hrow3 hG3 hM3 hr3
         go_wp2_with fail
         go_end0
         exact⟨⟨_,rfl⟩,z3,H3.1,H3.2.1,H3.2.2.1,H3.2.2.2⟩
        ·exfalso;omega
       ·exfalso;omega
     ·exfalso;omega
   ·have HR1:Hid (wr.rowIs S 3 n (zc z1)):=by have h:=HRw.out;rw[HZe.out,rtF_none (by omega)];exact h
    have HG1:Hid (w.grownBy wr (some S)):=HG.out
    by_cases q3:a<i
    ·by_cases q4:i<mid
     ·skip
      go_wp2_with fail
      refine (HIH.int a i mid z1 wr (by omega) HZ1.1 HZ1.2.1 (by omega) (by omega) (by omega) HZ1.2.2.2.r1 HZ1.2.2.2.r2 HZ1.2.2.2.s1 (sgrown_t HW0.out HG1.out) HR1.out (by omega) (by omega) (by omega)).mono ?_
      rintro e' v2 ⟨⟨v',rfl⟩,z2,hrow2,hG2,hM2,hr2'⟩
      have HR2:Hid (v2.rowIs S 3 n (zc z2)):=hrow2
      have HG2:Hid (w.grownBy v2 (some S)):=sgrown_t HG1.out hG2
      have HZ2:Hid (z2.length=n/\IsOrd z2/\Mv a b z z2/\Hw lt z2 a mid e b):=⟨by rw[hM2.len];exact HZ1.1,hM2.ord (by rw[HZ1.1];omega) HZ1.2.1,HZ1.2.2.1.trans (hM2.wide (Nat.le_refl _) (by omega)) (by rw[HL.1];exact hb),hv_left (by rw[HZ1.1];omega) (by omega) HZ1.2.2.2 hM2 hr2'⟩
      clear hrow2 hG2 hM2 hr2'
      by_cases q5:mid<e
      ·by_cases q6:e<b
       ·exfalso;omega
       ·exfalso;omega
      ·skip
       go_wp2_with fail
       go_end0
       exact⟨⟨_,rfl⟩,z2,HR2.out,HG2.out,HZ2.2.2.1,hw_skip (by omega) (by omega) (by omega) HZ2.2.2.2⟩
     ·skip
      have HR2:Hid (wr.rowIs S 3 n (zc z1)):=HR1.out
      have HG2:Hid (w.grownBy wr (some S)):=HG1.out
      have HZ2:Hid (z1.length=n/\IsOrd z1/\Mv a b z z1/\Hw lt z1 a mid e b):=⟨HZ1.1,HZ1.2.1,HZ1.2.2.1,hv_skip (by omega) (by omega) (by omega) HZ1.2.2.2⟩
      by_cases q5:mid<e
      ·by_cases q6:e<b
       ·exfalso;omega
       ·exfalso;omega
      ·skip
       go_wp2_with fail
       go_end0
       exact⟨⟨_,rfl⟩,z1,HR2.out,HG2.out,HZ2.2.2.1,hw_skip (by omega) (by omega) (by omega) HZ2.2.2.2⟩
    ·exfalso;omega
theorem sm3b_any (S n sc:Nat)(f:Nat)(cs:List Value)(hE:∀ args w,(callFunc f args).run Tryz.prog w=.ok (.enter f args) w)(lt:Nat->Nat->Bool)(c:Nat->Nat->Int)(T:Tot lt n)(hcl:∀ x y,x<n->y<n->y<x->(c x y<0 ↔ lt x y=true))(w0:World)(hC:CmpF f cs n c S w0)
  (a m b mid:Nat)(z:List Int)(hl:z.length=n)(ho:IsOrd z)(hn:n<=4096)(ha:a+1<m)(hmb:m+1<b)(hb:b<=n)(hr1:Ris lt z a m)(hr2:Ris lt z m b)(hs:Sep z a m b)(hmid:mid=(a+b)/2)(hmm:m<=mid)(k:Nat)(hk:b-a<=k+1)(hIH:SmC S n sc f cs lt w0 k)(w:World)(hw:w0.grownBy w (some S))(hrow:w.rowIs S 3 n (zc z)):
  Calls Tryz.prog 188 #[.slice (some ⟨S,0,none⟩) n sc,.int .i64 (a:Nat),.int .i64 (m:Nat),.int .i64 (b:Nat),.func (.func f) #[] cs.toArray] w (Sod S n lt a b z w):=by
 have HR:Hid (w.rowIs S 3 n (zc z)):=hrow
 have HL:Hid (z.length=n/\IsOrd z):=⟨hl,ho⟩
 have HT:Hid (Tot lt n/\(∀ x y,x<n->y<n->y<x->(c x y<0 ↔ lt x y=true))):=⟨T,hcl⟩
 have HC:Hid (CmpF f cs n c S w0):=hC
 have HW0:Hid (w0.grownBy w (some S)):=hw
 have HS:Hid (Ris lt z a m/\Ris lt z m b/\Sep z a m b):=⟨hr1,hr2,hs⟩
 have hW:Wd a m b mid a m:=⟨by omega,by omega,by omega,by omega,by omega,by omega,by omega,by omega,.inl rfl,.inl rfl⟩
 have HF:Hid (Fall (Pa3 lt z (mid+m-1)) a m):=Pa3_fall T ho hl hW hb hr1 hr2
 have HWd:Hid (Wd a m b mid a m):=hW
 have HIH:Hid (SmC S n sc f cs lt w0 k):=hIH
 have hma:((m:Int)-(a:Int) == 1)=false:=by rw[beq_eq_false_iff_ne];omega
 have hmb1:((b:Int)-(m:Int) == 1)=false:=by rw[beq_eq_false_iff_ne];omega
 have emid:((a:Int)+(b:Int))/2=(mid:Int):=by omega
 have hd1:2*mid<=a+b:=by omega
 have hmm2:¬ mid<m:=by omega
 have hmm3:decide (mid<m)=false:=decide_eq_false hmm2
 have hd2:a+b<=2*mid+1:=by omega
 clear hrow hl ho T hcl hC hr1 hr2 hs hw hmid hW hIH
 go_enter Tryz.func188,Tryz.ntmps188
 go_wp2_with fail
 go_loopw [20,21] (fun vi vj wr=>∃ i j:Nat,vi=.int .i64 i/\vj=.int .i64 j/\wr.rowIs S 3 n (zc z)/\w.grownBy wr (some S)/\Bs (Pa3 lt z (mid+m-1)) a m i j) (fun vi vj _=>(intOf vj).toNat-(intOf vi).toNat)
 case atStart=>exact⟨a,m,by first | rfl | (congr 1;omega),by first | rfl | (congr 1;omega),HR.out,World.grownBy.refl _ _,Bs.zero (by omega)⟩
 case round=>
  obtain⟨i,j,rfl,rfl,hrow,hG,hBs⟩:=hrel
  have hb1:=hBs.l
  have hb2:=hBs.r
  have hb3:=hBs.m
  have HRw:Hid (wr.rowIs S 3 n (zc z)):=hrow
  have HG:Hid (w.grownBy wr (some S)):=hG
  have HBs:Hid (Bs (Pa3 lt z (mid+m-1)) a m i j):=hBs
  by_cases hij:i<j
  ·obtain⟨h,hh⟩:∃ h:Nat,h=(i+j)/2:=⟨_,rfl⟩
   have hih:i<=h:=by omega
   have hhj:h<j:=by omega
   have eh:((i:Int)+(j:Int))/2=(h:Int):=by omega
   clear hh
   have hhn:h<n:=by omega
   obtain⟨Q,hQ⟩:∃ Q,Q=mid+m-1-h:=⟨_,rfl⟩
   have w1:IntKind.i64.wrap ((mid:Int)+(m:Int)-1-(h:Int))=(Q:Int):=by rw[wr_sm (by omega)];omega
   have HQ:Hid (Q=mid+m-1-h):=hQ
   have hXn:Q<n:=by omega
   have hYn:h<n:=by omega
   have cX:=zc_at hrow HL.2 HL.1 hXn
   have cY:=zc_at hrow HL.2 HL.1 hYn
   obtain⟨X,hX⟩:∃ X,X=nt z Q:=⟨_,rfl⟩
   obtain⟨Y,hY⟩:∃ Y,Y=nt z h:=⟨_,rfl⟩
   rw[<-hX] at cX
   rw[<-hY] at cY
   have hXl:X<n:=by rw[hX];exact nt_lt HL.2 HL.1 hXn
   have hYl:Y<n:=by rw[hY];exact nt_lt HL.2 HL.1 hYn
   have HCL:Hid (c X Y<0 ↔ lt (nt z Q) (nt z h)=true):=by
    rw[<-hX,<-hY]
    exact HT.2 X Y hXl hYl (by rw[hX,hY];exact HS.2.2 h Q (by omega) (by omega) (by omega) (by omega))
   have HCC:Hid (Calls Tryz.prog f (.int .i64 (X:Nat)::.int .i64 (Y:Nat)::cs).toArray wr.drew fun r W'=>r=.returned (.int .i64 (c X Y))/\Below wr.drew.heap.size wr.drew W'):=
    HC.out X Y wr.drew hXl hYl (sgrown_t HW0.out (sgrown_t HG.out ⟨rfl,rfl,rfl,Nat.le_refl _,fun _ _ _=>rfl⟩))
   have hSz:S<wr.heap.size:=hrow.lt
   clear hrow hG hBs hX hY hQ
   by_cases hc:c X Y<0
   ·have HLL:Hid (Pa3 lt z (mid+m-1) h=false):=by show _=_;unfold Pa3;rw[<-HQ.out,HCL.1 hc];rfl
    go_wp2_with fail
    refine bT 11 (fun w'=>w'.cell? ⟨S,Q,none⟩=some (.int .i64 (X:Nat))/\w'.cell? ⟨S,h,none⟩=some (.int .i64 (Y:Nat))) 14 (⟨cX,cY⟩) fun hq30=>?_
    refine pT 0 hq30 ?_;refine pT 1 hq30 ?_;refine pT 2 hq30 ?_;refine pT 3 hq30 ?_;refine pT 4 hq30 ?_;refine pT 5 hq30 ?_;refine lT 6 hq30 ?_;refine pT 7 hq30 ?_
    refine pT 8 hq30 ?_;refine pT 9 hq30 ?_;refine lT 10 hq30 ?_
    clear hq30
    refine oT 11 fun K hK=>?_
    go_simp
    go_wp2_with fail
    refine HCC.mono ?_
    rintro e v1 ⟨rfl,hB1⟩
    refine hK.out _ _ (fun h=>absurd h (by decide)) ?_
    clear hK K
    refine oT 12 fun K hK=>?_
    go_simp
    refine hK.out _ _ (fun h=>absurd h (by decide)) ?_
    clear hK K
    refine oT 13 fun K hK=>?_
    go_simp
    refine hK.out _ _ (fun h=>absurd h (by decide)) ?_
    clear hK K
    refine dT ?_
    have HR1:Hid (v1.rowIs S 3 n (zc z)):=HRw.of_block (hB1.block S hSz)
    have HG1:Hid (w.grownBy v1 (some S)):=sgrown_bel (w:=wr) HG.out ((Below.refl _ wr).drew.trans hB1)
    clear hB1 cX cY
    go_wp2_with fail
    exact⟨⟨i,h,rfl,rfl,HR1.out,HG1.out,HBs.down HF.out hih hhj HLL.out⟩,by simp[intOf];omega⟩
   ·have HLL:Hid (Pa3 lt z (mid+m-1) h=true):=by show _=_;unfold Pa3;rw[<-HQ.out,Bool.not_eq_true'];exact Bool.eq_false_iff.2 (fun q=>hc (HCL.2 q))
    have hcb:decide (c X Y<0)=false:=decide_eq_false hc
    go_wp2_with fail
    refine bT 11 (fun w'=>w'.cell? ⟨S,Q,none⟩=some (.int .i64 (X:Nat))/\w'.cell? ⟨S,h,none⟩=some (.int .i64 (Y:Nat))) 14 (⟨cX,cY⟩) fun hq45=>?_
    refine pT 0 hq45 ?_;refine pT 1 hq45 ?_;refine pT 2 hq45 ?_;refine pT 3 hq45 ?_;refine pT 4 hq45 ?_;refine pT 5 hq45 ?_;refine lT 6 hq45 ?_;refine pT 7 hq45 ?_
    refine pT 8 hq45 ?_;refine pT 9 hq45 ?_;refine lT 10 hq45 ?_
    clear hq45
    refine oT 11 fun K hK=>?_
    go_simp
    go_wp2_with fail
    refine HCC.mono ?_
    rintro e v1 ⟨rfl,hB1⟩
    refine hK.out _ _ (fun h=>absurd h (by decide)) ?_
    clear hK K
    refine oT 12 fun K hK=>?_
    go_simp
    refine hK.out _ _ (fun h=>absurd h (by decide)) ?_
    clear hK K
    refine oT 13 fun K hK=>?_
    go_simp
    refine hK.out _ _ (fun h=>absurd h (by decide)) ?_
    clear hK K
    refine dT ?_
    have HR1:Hid (v1.rowIs S 3 n (zc z)):=HRw.of_block (hB1.block S hSz)
    have HG1:Hid (w.grownBy v1 (some S)):=sgrown_bel (w:=wr) HG.out ((Below.refl _ wr).drew.trans hB1)
    clear hB1 cX cY
    go_wp2_with fail
    exact⟨⟨h+1,j,by go_num,rfl,HR1.out,HG1.out,HBs.up HF.out hih hhj HLL.out⟩,by simp[intOf];omega⟩
  ·obtain rfl:i=j:=by omega
   obtain⟨v1,v2,v3,v4,v5,v6,hv⟩:=halves HT.1 HL.2 HL.1 HWd.out hb HS.1 HS.2.1 HS.2.2 hBs
   obtain⟨e,he⟩:∃ e,e=mid+m-i:=⟨_,rfl⟩
   have ee:(mid:Int)+(m:Int)-(i:Int)=(e:Int):=by omega
   have he1:e+i=mid+m:=by omega
   obtain⟨z1,hz1⟩:∃ z1,z1=mvL (rtF m (m-i) (mid-i)) z:=⟨_,rfl⟩
   have HZe:Hid (z1=mvL (rtF m (m-i) (mid-i)) z):=hz1
   have hM1:Mv a b z z1:=⟨_,hz1,(rtF_fx (by omega)).wide (by omega) (by omega)⟩
   have HZ1:Hid (z1.length=n/\IsOrd z1/\Mv a b z z1/\Hv lt z1 a i mid e b):=⟨by rw[hM1.len];exact HL.1,hM1.ord (by rw[HL.1];exact hb) HL.2,hM1,by rw[hz1,he];exact hv⟩
   clear hrow hG hBs hz1 hM1 hv he
   by_cases q1:i<m
   ·by_cases q2:m<e
    ·go_wp2_with fail
     refine (rot_int i m e z HL.1 hn (by omega) (by omega) (by omega) wr HRw.out (by omega) (by omega)).mono ?_
     rintro e' v1 ⟨⟨v',rfl⟩,hrow1,hG1⟩
     have HR1:Hid (v1.rowIs S 3 n (zc z1)):=by have h:=hrow1;rw[show e-m=mid-i by omega,<-HZe.out] at h;exact h
     have HG1:Hid (w.grownBy v1 (some S)):=sgrown_t HG.out hG1
     clear hrow1 hG1
     by_cases q3:a<i
     ·by_cases q4:i<mid
      ·skip
       go_wp2_with fail
       refine (HIH.int a i mid z1 v1 (by omega) HZ1.1 HZ1.2.1 (by omega) (by omega) (by omega) HZ1.2.2.2.r1 HZ1.2.2.2.r2 HZ1.2.2.2.s1 (sgrown_t HW0.out HG1.out) HR1.out (by omega) (by omega) (by omega)).mono ?_
       rintro e' v2 ⟨⟨v',rfl⟩,z2,hrow2,hG2,hM2,hr2'⟩
       have HR2:Hid (v2.rowIs S 3 n (zc z2)):=hrow2
       have HG2:Hid (w.grownBy v2 (some S)):=sgrown_t HG1.out hG2
       have HZ2:Hid (z2.length=n/\IsOrd z2/\Mv a b z z2/\Hw lt z2 a mid e b):=⟨by rw[hM2.len];exact HZ1.1,hM2.ord (by rw[HZ1.1];omega) HZ1.2.1,HZ1.2.2.1.trans (hM2.wide (Nat.le_refl _) (by omega)) (by rw[HL.1];exact hb),hv_left (by rw[HZ1.1];omega) (by omega) HZ1.2.2.2 hM2 hr2'⟩
       clear hrow2 hG2 hM2 hr2'
       by_cases q5:mid<e
       ·by_cases q6:e<b
        ·skip
         go_wp2_with fail
         refine (HIH.int mid e b z2 v2 (by omega) HZ2.1 HZ2.2.1 (by omega) (by omega) hb HZ2.2.2.2.r3 HZ2.2.2.2.r4 HZ2.2.2.2.s2 (sgrown_t HW0.out HG2.out) HR2.out (by omega) (by omega) (by omega)).mono ?_
         rintro e' v3 ⟨⟨v',rfl⟩,z3,hrow3,hG3,hM3,hr3⟩
         have H3:Hid (v3.rowIs S 3 n (zc z3)/\w.grownBy v3 (some S)/\Mv a b z z3/\Ris lt z3 a b):=⟨hrow3,sgrown_t HG2.out hG3,HZ2.2.2.1.trans (hM3.wide (by omega) (Nat.le_refl _)) (by rw[HL.1];exact hb),hw_right (by rw[HZ2.1];exact hb) HZ2.2.2.2 hM3 hr3⟩
         clear hrow3 hG3 hM3 hr3
         go_wp2_with fail
         go_end0
         exact⟨⟨_,rfl⟩,z3,H3.1,H3.2.1,H3.2.2.1,H3.2.2.2⟩
        ·skip
         go_wp2_with fail
         go_end0
         exact⟨⟨_,rfl⟩,z2,HR2.out,HG2.out,HZ2.2.2.1,hw_skip (by omega) (by omega) (by omega) HZ2.2.2.2⟩
       ·exfalso;omega
      ·exfalso;omega
     ·skip
      have HR2:Hid (v1.rowIs S 3 n (zc z1)):=HR1.out
      have HG2:Hid (w.grownBy v1 (some S)):=HG1.out
      have HZ2:Hid (z1.length=n/\IsOrd z1/\Mv a b z z1/\Hw lt z1 a mid e b):=⟨HZ1.1,HZ1.2.1,HZ1.2.2.1,hv_skip (by omega) (by omega) (by omega) HZ1.2.2.2⟩
      by_cases q5:mid<e
      ·by_cases q6:e<b
       ·skip
        go_wp2_with fail
        refine (HIH.int mid e b z1 v1 (by omega) HZ2.1 HZ2.2.1 (by omega) (by omega) hb HZ2.2.2.2.r3 HZ2.2.2.2.r4 HZ2.2.2.2.s2 (sgrown_t HW0.out HG2.out) HR2.out (by omega) (by omega) (by omega)).mono ?_
        rintro e' v3 ⟨⟨v',rfl⟩,z3,hrow3,hG3,hM3,hr3⟩
        have H3:Hid (v3.rowIs S 3 n (zc z3)/\w.grownBy v3 (some S)/\Mv a b z z3/\Ris lt z3 a b):=⟨hrow3,sgrown_t HG2.out hG3,HZ2.2.2.1.trans (hM3.wide (by omega) (Nat.le_refl _)) (by rw[HL.1];exact hb),hw_right (by rw[HZ2.1];exact hb) HZ2.2.2.2 hM3 hr3⟩
        clear hrow3 hG3 hM3 hr3
        go_wp2_with fail
        go_end0
        exact⟨⟨_,rfl⟩,z3,H3.1,H3.2.1,H3.2.2.1,H3.2.2.2⟩
       ·skip
        go_wp2_with fail
        go_end0
        exact⟨⟨_,rfl⟩,z1,HR2.out,HG2.out,HZ2.2.2.1,hw_skip (by omega) (by omega) (by omega) HZ2.2.2.2⟩
      ·exfalso;omega
    ·have HR1:Hid (wr.rowIs S 3 n (zc z1)):=by have h:=HRw.out;rw[HZe.out,rtF_none (by omega)];exact h
     have HG1:Hid (w.grownBy wr (some S)):=HG.out
     by_cases q3:a<i
     ·by_cases q4:i<mid
      ·exfalso;omega
      ·skip
       have HR2:Hid (wr.rowIs S 3 n (zc z1)):=HR1.out
       have HG2:Hid (w.grownBy wr (some S)):=HG1.out
       have HZ2:Hid (z1.length=n/\IsOrd z1/\Mv a b z z1/\Hw lt z1 a mid e b):=⟨HZ1.1,HZ1.2.1,HZ1.2.2.1,hv_skip (by omega) (by omega) (by omega) HZ1.2.2.2⟩
       by_cases q5:mid<e
       ·by_cases q6:e<b
        ·skip
         go_wp2_with fail
         refine (HIH.int mid e b z1 wr (by omega) HZ2.1 HZ2.2.1 (by omega) (by omega) hb HZ2.2.2.2.r3 HZ2.2.2.2.r4 HZ2.2.2.2.s2 (sgrown_t HW0.out HG2.out) HR2.out (by omega) (by omega) (by omega)).mono ?_
         rintro e' v3 ⟨⟨v',rfl⟩,z3,hrow3,hG3,hM3,hr3⟩
         have H3:Hid (v3.rowIs S 3 n (zc z3)/\w.grownBy v3 (some S)/\Mv a b z z3/\Ris lt z3 a b):=⟨hrow3,sgrown_t HG2.out hG3,HZ2.2.2.1.trans (hM3.wide (by omega) (Nat.le_refl _)) (by rw[HL.1];exact hb),hw_right (by rw[HZ2.1];exact hb) HZ2.2.2.2 hM3 hr3⟩
         clear hrow3 hG3 hM3 hr3
         go_wp2_with fail
         go_end0
         exact⟨⟨_,rfl⟩,z3,H3.1,H3.2.1,H3.2.2.1,H3.2.2.2⟩
        ·exfalso;omega
       ·exfalso;omega
     ·exfalso;omega
   ·have HR1:Hid (wr.rowIs S 3 n (zc z1)):=by have h:=HRw.out;rw[HZe.out,rtF_none (by omega)];exact h
    have HG1:Hid (w.grownBy wr (some S)):=HG.out
    by_cases q3:a<i
    ·by_cases q4:i<mid
     ·skip
      go_wp2_with fail
      refine (HIH.int a i mid z1 wr (by omega) HZ1.1 HZ1.2.1 (by omega) (by omega) (by omega) HZ1.2.2.2.r1 HZ1.2.2.2.r2 HZ1.2.2.2.s1 (sgrown_t HW0.out HG1.out) HR1.out (by omega) (by omega) (by omega)).mono ?_
      rintro e' v2 ⟨⟨v',rfl⟩,z2,hrow2,hG2,hM2,hr2'⟩
      have HR2:Hid (v2.rowIs S 3 n (zc z2)):=hrow2
      have HG2:Hid (w.grownBy v2 (some S)):=sgrown_t HG1.out hG2
      have HZ2:Hid (z2.length=n/\IsOrd z2/\Mv a b z z2/\Hw lt z2 a mid e b):=⟨by rw[hM2.len];exact HZ1.1,hM2.ord (by rw[HZ1.1];omega) HZ1.2.1,HZ1.2.2.1.trans (hM2.wide (Nat.le_refl _) (by omega)) (by rw[HL.1];exact hb),hv_left (by rw[HZ1.1];omega) (by omega) HZ1.2.2.2 hM2 hr2'⟩
      clear hrow2 hG2 hM2 hr2'
      by_cases q5:mid<e
      ·by_cases q6:e<b
       ·exfalso;omega
       ·exfalso;omega
      ·skip
       go_wp2_with fail
       go_end0
       exact⟨⟨_,rfl⟩,z2,HR2.out,HG2.out,HZ2.2.2.1,hw_skip (by omega) (by omega) (by omega) HZ2.2.2.2⟩
     ·skip
      have HR2:Hid (wr.rowIs S 3 n (zc z1)):=HR1.out
      have HG2:Hid (w.grownBy wr (some S)):=HG1.out
      have HZ2:Hid (z1.length=n/\IsOrd z1/\Mv a b z z1/\Hw lt z1 a mid e b):=⟨HZ1.1,HZ1.2.1,HZ1.2.2.1,hv_skip (by omega) (by omega) (by omega) HZ1.2.2.2⟩
      by_cases q5:mid<e
      ·by_cases q6:e<b
       ·exfalso;omega
       ·exfalso;omega
      ·skip
       go_wp2_with fail
       go_end0
       exact⟨⟨_,rfl⟩,z1,HR2.out,HG2.out,HZ2.2.2.1,hw_skip (by omega) (by omega) (by omega) HZ2.2.2.2⟩
    ·exfalso;omega
theorem sm_any (S n sc:Nat)(f:Nat)(cs:List Value)(hE:∀ args w,(callFunc f args).run Tryz.prog w=.ok (.enter f args) w)(lt:Nat->Nat->Bool)(c:Nat->Nat->Int)(T:Tot lt n)(hcl:∀ x y,x<n->y<n->y<x->(c x y<0 ↔ lt x y=true))(w0:World)(hC:CmpF f cs n c S w0)(hn:n<=4096):∀ k,SmC S n sc f cs lt w0 k
 | 0=>fun a m b z w hk hl ho ha hb hbn _ _ _ _ _=>by omega
 | k+1=>fun a m b z w hk hl ho ha hb hbn hr1 hr2 hs hw hrow=>by
  by_cases h1:m=a+1
  ·exact sm1_any S n sc f cs hE lt c T hcl w0 hC a m b z hl ho hn h1 hb hbn hr2 hs w hw hrow
  ·by_cases h2:b=m+1
   ·exact sm2_any S n sc f cs hE lt c T hcl w0 hC a m b z hl ho hn (by omega) h2 hbn hr1 hs w hw hrow
   ·by_cases h3:(a+b)/2<m
    ·exact sm3a_any S n sc f cs hE lt c T hcl w0 hC a m b _ z hl ho hn (by omega) (by omega) hbn hr1 hr2 hs rfl h3 k hk (sm_any S n sc f cs hE lt c T hcl w0 hC hn k) w hw hrow
    ·exact sm3b_any S n sc f cs hE lt c T hcl w0 hC a m b _ z hl ho hn (by omega) (by omega) hbn hr1 hr2 hs rfl (by omega) k hk (sm_any S n sc f cs hE lt c T hcl w0 hC hn k) w hw hrow
def Q1 (a:Nat)(M:Nat):Prop:=a<=M\/M%20=0
def Q2 (s a:Nat)(M:Nat):Prop:=(a<=M/\s ∣ M)\/2*s ∣ M
theorem mul_bd {s u t:Nat}(h:s*u<s*t):u+1<=t:=by
 by_cases q:t<=u
 ·have:=Nat.mul_le_mul_left s q;omega
 ·omega
section
variable {lt : Nat → Nat → Bool} {n : Nat} {z : List Int}
theorem Sg.first (n:Nat):Sg lt n (Q1 0) (idn n):=(Sg.start n).congr fun M _ _=>⟨fun _=>.inl (Nat.zero_le _),fun _=>trivial⟩
theorem Sg.raw {Q:Nat->Prop}(h:Sg lt n Q z){a b:Nat}(hb:b<=n)(hq:∀ M,a<=M->M<b->Q M):∀ p q,a<=p->p<q->q<b->nt z p<nt z q:=fun p q h1 h2 h3=>by
 have e1:=(h.bd q (by omega) (hq q (by omega) h3) p (by omega)).1 h2
 have e2:=(h.bd q (by omega) (hq q (by omega) h3) q (by omega))
 omega
theorem Sg.ins {z':List Int}{a b:Nat}(ha:a%20=0)(hab:a<=b)(hb:b<=n)(hq:b=a+20\/b=n/\b<=a+20)(h:Sg lt n (Q1 a) z)(M:Mv a b z z')(hr:Ris lt z' a b):Sg lt n (Q1 b) z':=by
 refine (h.next hab hb (.inr (.inl (Nat.le_refl _))) (.inr (.inl hab)) M hr).congr fun X h1 h2=>?_
 unfold Q1
 omega
theorem Sg.runs {b:Nat}(h:Sg lt n (Q1 b) z)(hb:n<=b):Sg lt n (Q2 20 0) z:=h.congr fun X h1 h2=>by
 unfold Q1 Q2
 constructor
 ·rintro (h | h)
  ·omega
  ·exact .inl ⟨Nat.zero_le _,Nat.dvd_of_mod_eq_zero h⟩
 ·rintro (⟨_,h⟩ | h)
  ·exact .inr (Nat.mod_eq_zero_of_dvd h)
  ·exact .inr (by have:=Nat.mod_eq_zero_of_dvd h;omega)
theorem q2_in {s t M:Nat}(h:Q2 s (2*s*t) M)(h1:2*s*t<M)(h2:M<2*s*t+2*s):M=2*s*t+s:=by
 have key:s ∣ M:=by
  rcases h with ⟨_,h⟩ | ⟨u,h⟩
  ·exact h
  ·exact⟨2*u,by rw[h,Nat.mul_comm 2 s,Nat.mul_assoc]⟩
 obtain⟨u,rfl⟩:=key
 have e:2*s*t=s*(2*t):=by rw[Nat.mul_comm 2 s,Nat.mul_assoc]
 have e2:s*(2*t)+2*s=s*(2*t+2):=by rw[Nat.mul_add,Nat.mul_comm s 2]
 rw[e] at h1 h2 ⊢
 rw[e2] at h2
 have b1:=mul_bd h1
 have b2:=mul_bd h2
 obtain rfl:u=2*t+1:=by omega
 rw[Nat.mul_add,Nat.mul_one]
theorem q2_start (s t:Nat):Q2 s (2*s*t) (2*s*t):=.inr ⟨t,rfl⟩
theorem q2_mid (s t:Nat):Q2 s (2*s*t) (2*s*t+s):=.inl ⟨Nat.le_add_right _ _,⟨2*t+1,by rw[Nat.mul_add,Nat.mul_one,Nat.mul_comm 2 s,Nat.mul_assoc]⟩⟩
theorem q2_end (s t:Nat):Q2 s (2*s*t) (2*s*t+2*s):=.inr ⟨t+1,by rw[Nat.mul_add,Nat.mul_one]⟩
theorem Sg.merged {s t b:Nat}{z':List Int}(hs:0<s)(h:Sg lt n (Q2 s (2*s*t)) z)(hb:b<=n)(hm:2*s*t+s<b)(hq:b=2*s*t+2*s\/b=n/\b<=2*s*t+2*s)(M:Mv (2*s*t) b z z')(hr:Ris lt z' (2*s*t) b):Sg lt n (Q2 s (2*s*(t+1))) z':=by
 have eT:2*s*(t+1)=2*s*t+2*s:=by rw[Nat.mul_add,Nat.mul_one]
 refine (h.next (by omega) hb (.inr (q2_start s t)) ?_ M hr).congr fun X h1 h2=>?_
 ·rcases hq with e | e
  ·exact .inr (by rw[e];exact q2_end s t)
  ·exact .inl e.1
 ·rw[eT]
  constructor
  ·rintro ⟨hX,hn⟩
   by_cases c:2*s*t<X
   ·have hbX:b<=X:=by omega
    have:2*s*t+2*s<=X:=by omega
    rcases hX with ⟨_,h⟩ | h
    ·exact .inl ⟨this,h⟩
    ·exact .inr h
   ·rcases hX with ⟨h,_⟩ | h
    ·have:X=2*s*t:=by omega
     exact .inr (by rw[this];exact⟨t,rfl⟩)
    ·exact .inr h
  ·intro hX
   have hQ:Q2 s (2*s*t) X:=by
    rcases hX with ⟨h,h'⟩ | h
    ·exact .inl ⟨by omega,h'⟩
    ·exact .inr h
   refine⟨hQ,fun c=>?_⟩
   have h3:=q2_in hQ c.1 (by omega)
   rcases hX with ⟨h,_⟩ | ⟨u,h⟩
   ·omega
   ·have b1:=mul_bd (s:=2*s) (u:=t) (t:=u) (by omega)
    have:=Nat.mul_le_mul_left (2*s) b1
    rw[eT] at this
    omega
theorem Sg.lone {s t:Nat}(hs:0<s)(h:Sg lt n (Q2 s (2*s*t)) z)(hb:n<=2*s*t+s):Sg lt n (Q2 (2*s) 0) z:=h.congr fun X h1 h2=>by
 constructor
 ·rintro (⟨h3,h⟩ | h)
  ·by_cases c:X=2*s*t
   ·exact .inl ⟨Nat.zero_le _,by rw[c];exact⟨t,rfl⟩⟩
   ·have:=q2_in (s:=s) (t:=t) (.inl ⟨h3,h⟩) (by omega) (by omega);omega
  ·exact .inl ⟨Nat.zero_le _,h⟩
 ·rintro (⟨_,h⟩ | ⟨u,h⟩)
  ·exact .inr h
  ·exact .inr ⟨2*u,by rw[h,Nat.mul_comm 2 (2*s),Nat.mul_assoc]⟩
theorem Sg.all {s:Nat}(T:Tot lt n)(h:Sg lt n (Q2 s 0) z)(hs:n<=s):z=grd lt n:=h.done T fun M h1 h2 hQ=>by
 have key:s ∣ M:=by
  rcases hQ with ⟨_,h⟩ | ⟨u,h⟩
  ·exact h
  ·exact⟨2*u,by rw[h,Nat.mul_comm 2 s,Nat.mul_assoc]⟩
 have:=Nat.le_of_dvd h1 key
 omega
end
theorem stab_any (S n sc:Nat)(f:Nat)(cs:List Value)(hE:∀ args w,(callFunc f args).run Tryz.prog w=.ok (.enter f args) w)(lt:Nat->Nat->Bool)(c:Nat->Nat->Int)(T:Tot lt n)(hcl:∀ x y,x<n->y<n->y<x->(c x y<0 ↔ lt x y=true))(w0:World)(hC:CmpF f cs n c S w0)(hn:n<=4096)(w:World)(hw:w0.grownBy w (some S))(hrow:w.rowIs S 3 n (zc (idn n))):
  Calls Tryz.prog 158 #[.slice (some ⟨S,0,none⟩) n sc,.int .i64 (n:Nat),.func (.func f) #[] cs.toArray] w (SwP S n (grd lt n) w):=by
 have HR:Hid (w.rowIs S 3 n (zc (idn n))):=hrow
 have HT:Hid (Tot lt n):=T
 have HW0:Hid (w0.grownBy w (some S)):=hw
 have HSM:Hid (∀ k,SmC S n sc f cs lt w0 k):=sm_any S n sc f cs hE lt c T hcl w0 hC hn
 have HIN:Hid (∀ {x y:Int} (a b:Nat) (z:List Int) (hl:z.length=n) (ho:IsOrd z) (hab:a<=b) (hb:b<=n) (hup:∀ p q,a<=p->p<q->q<b->nt z p<nt z q) (w:World) (hw:w0.grownBy w (some S)) (hrow:w.rowIs S 3 n (zc z)) (hx:x=(a:Int)) (hy:y=(b:Int)),
   Calls Tryz.prog 187 #[.slice (some ⟨S,0,none⟩) n sc,.int .i64 x,.int .i64 y,.func (.func f) #[] cs.toArray] w (Sod S n lt a b z w)):=by
  intro x y a b z hl ho hab hb hup w hw hrow hx hy
  subst hx hy
  exact ins_any S n sc f cs hE lt c T hcl w0 hC a b z hl ho hn hab hb hup w hw hrow
 clear hrow T hw hC hcl
 go_enter Tryz.func158,Tryz.ntmps158
 go_wp2_with fail
 go_loopw [7,8] (fun va vb wr=>∃ (A:Nat) (zr:List Int),A<=n/\A%20=0/\va=.int .i64 A/\vb=.int .i64 ((A:Int)+20)/\wr.rowIs S 3 n (zc zr)/\w.grownBy wr (some S)/\Sg lt n (Q1 A) zr) (fun va _ _=>n-(intOf va).toNat)
 case atStart=>exact⟨0,idn n,Nat.zero_le _,rfl,rfl,rfl,HR.out,World.grownBy.refl _ _,Sg.first n⟩
 case round=>
  obtain⟨A,zr,hA,hA20,rfl,rfl,hrow,hG,hS⟩:=hrel
  have HRr:Hid (wr.rowIs S 3 n (zc zr)):=hrow
  have HG:Hid (w.grownBy wr (some S)):=hG
  have HS:Hid (Sg lt n (Q1 A) zr):=hS
  have HA20:Hid (A%20=0):=hA20
  clear hrow hG hS hA20
  by_cases hB:A+20<=n
  ·go_wp2_with fail
   refine (HIN.out A (A+20) zr HS.len HS.ord (by omega) hB (HS.raw hB fun M h1 h2=>.inl h1) wr (sgrown_t HW0.out HG.out) HRr.out rfl (by omega)).mono ?_
   rintro e v1 ⟨⟨v',rfl⟩,z1,hrow1,hG1,hM1,hr1⟩
   have HR1:Hid (v1.rowIs S 3 n (zc z1)):=hrow1
   have HG1:Hid (w.grownBy v1 (some S)):=sgrown_t HG.out hG1
   have HS1:Hid (Sg lt n (Q1 (A+20)) z1):=Sg.ins HA20.out (by omega) hB (.inl rfl) HS.out hM1 hr1
   clear hrow1 hG1 hM1 hr1
   go_wp2_with fail
   exact⟨⟨A+20,z1,hB,by have:=HA20.out;omega,by congr 1,by congr 1,HR1.out,HG1.out,HS1.out⟩,by simp[intOf];omega⟩
  ·go_wp2_with fail
   refine (HIN.out A n zr HS.len HS.ord hA (Nat.le_refl _) (HS.raw (Nat.le_refl _) fun M h1 h2=>.inl h1) wr (sgrown_t HW0.out HG.out) HRr.out rfl rfl).mono ?_
   rintro e v1 ⟨⟨v',rfl⟩,z1,hrow1,hG1,hM1,hr1⟩
   have HR1:Hid (v1.rowIs S 3 n (zc z1)):=hrow1
   have HG1:Hid (w.grownBy v1 (some S)):=sgrown_t HG.out hG1
   have HS1:Hid (Sg lt n (Q2 20 0) z1):=(Sg.ins HA20.out hA (Nat.le_refl _) (.inr ⟨rfl,by omega⟩) HS.out hM1 hr1).runs (Nat.le_refl _)
   clear hrow1 hG1 hM1 hr1
   go_wp2_with fail
   go_loopw [6] (fun vs wr=>∃ (s:Nat) (zr:List Int),1<=s/\s<=8192/\vs=.int .i64 s/\wr.rowIs S 3 n (zc zr)/\w.grownBy wr (some S)/\Sg lt n (Q2 s 0) zr) (fun vs _=>n-(intOf vs).toNat)
   case atStart=>exact⟨20,z1,by omega,by omega,rfl,HR1.out,HG1.out,HS1.out⟩
   case round=>
    obtain⟨s,zs,hs1,hs2,rfl,hrow,hG,hS⟩:=hrel
    have HR2:Hid (wr.rowIs S 3 n (zc zs)):=hrow
    have HG2:Hid (w.grownBy wr (some S)):=hG
    have HS2:Hid (Sg lt n (Q2 s 0) zs):=hS
    clear hrow hG hS
    by_cases hsn:s<n
    ·go_wp2_with fail
     go_loopw [7,8] (fun va vb wr=>∃ (A t:Nat) (zr:List Int),A<=n/\A=2*s*t/\va=.int .i64 A/\vb=.int .i64 ((A:Int)+2*s)/\wr.rowIs S 3 n (zc zr)/\w.grownBy wr (some S)/\Sg lt n (Q2 s (2*s*t)) zr) (fun va _ _=>n-(intOf va).toNat)
     case atStart=>exact⟨0,0,zs,Nat.zero_le _,rfl,rfl,by congr 1;omega,HR2.out,HG2.out,HS2.out⟩
     case round=>
      obtain⟨B,t,zq,hBn,hBt,rfl,rfl,hrow,hG,hS⟩:=hrel
      have HR3:Hid (wr.rowIs S 3 n (zc zq)):=hrow
      have HG3:Hid (w.grownBy wr (some S)):=hG
      have HS3:Hid (Sg lt n (Q2 s (2*s*t)) zq):=hS
      have HBt:Hid (B=2*s*t):=hBt
      have HN:Hid (∀ b,b<=n->B+s<b->b<=B+2*s->Ris lt zq B (B+s)/\Ris lt zq (B+s) b/\Sep zq B (B+s) b):=fun b h1 h2 h3=>by
       refine⟨hS.ris_in (by omega) fun M k1 k2 hQ=>?_,hS.ris_in h1 fun M k1 k2 hQ=>?_,hS.sep h1 (by rw[hBt];exact q2_mid s t) h2⟩
       ·have:=q2_in hQ (by omega) (by omega);omega
       ·have:=q2_in hQ (by omega) (by omega);omega
      clear hrow hG hS hBt
      by_cases hB2:B+2*s<=n
      ·go_wp2_with fail
       obtain⟨k1,k2,k3⟩:=HN.out (B+2*s) hB2 (by omega) (Nat.le_refl _)
       refine ((HSM.out (2*s)).int B (B+s) (B+2*s) zq wr (by omega) HS3.len HS3.ord (by omega) (by omega) hB2 k1 k2 k3 (sgrown_t HW0.out HG3.out) HR3.out rfl (by omega) (by omega)).mono ?_
       rintro e v4 ⟨⟨v',rfl⟩,z4,hrow4,hG4,hM4,hr4⟩
       have HR4:Hid (v4.rowIs S 3 n (zc z4)):=hrow4
       have HG4:Hid (w.grownBy v4 (some S)):=sgrown_t HG3.out hG4
       have HS4:Hid (Sg lt n (Q2 s (2*s*(t+1))) z4):=by
        have h1:=hM4
        have h2:=hr4
        rw[HBt.out] at h1 h2
        exact Sg.merged (by omega) HS3.out (b:=2*s*t+2*s) (by rw[<-HBt.out];exact hB2) (by omega) (.inl rfl) h1 h2
       clear hrow4 hG4 hM4 hr4 k1 k2 k3
       go_wp2_with fail
       exact⟨⟨B+2*s,t+1,z4,hB2,by rw[HBt.out,Nat.mul_add,Nat.mul_one],by congr 1,by congr 1,HR4.out,HG4.out,HS4.out⟩,by simp[intOf];omega⟩
      ·by_cases hmn:B+s<n
       ·go_wp2_with fail
        obtain⟨k1,k2,k3⟩:=HN.out n (Nat.le_refl _) hmn (by omega)
        refine ((HSM.out (2*s)).int B (B+s) n zq wr (by omega) HS3.len HS3.ord (by omega) hmn (Nat.le_refl _) k1 k2 k3 (sgrown_t HW0.out HG3.out) HR3.out rfl (by omega) rfl).mono ?_
        rintro e v4 ⟨⟨v',rfl⟩,z4,hrow4,hG4,hM4,hr4⟩
        have HR4:Hid (v4.rowIs S 3 n (zc z4)):=hrow4
        have HG4:Hid (w.grownBy v4 (some S)):=sgrown_t HG3.out hG4
        have HS4:Hid (Sg lt n (Q2 (2*s) 0) z4):=by
         have h1:=hM4
         have h2:=hr4
         rw[HBt.out] at h1 h2
         have h3:=HBt.out
         refine Sg.lone (t:=t+1) (by omega) (Sg.merged (by omega) HS3.out (Nat.le_refl _) (by omega) (.inr ⟨rfl,by omega⟩) h1 h2) ?_
         rw[Nat.mul_add,Nat.mul_one];omega
        clear hrow4 hG4 hM4 hr4 k1 k2 k3
        go_wp2_with fail
        exact⟨⟨2*s,z4,by omega,by omega,by congr 1;omega,HR4.out,HG4.out,HS4.out⟩,by simp[intOf];omega⟩
       ·have HS4:Hid (Sg lt n (Q2 (2*s) 0) zq):=Sg.lone (by omega) HS3.out (by rw[<-HBt.out];omega)
        go_wp2_with fail
        exact⟨⟨2*s,zq,by omega,by omega,by congr 1;omega,HR3.out,HG3.out,HS4.out⟩,by simp[intOf];omega⟩
    ·have HE:Hid (zs=grd lt n):=HS2.all HT.out (by omega)
     go_wp2_with fail
     go_end0
     refine⟨⟨_,rfl⟩,?_,HG2.out⟩
     rw[<-HE.out]
     exact HR2.out
theorem sort_any (S n sc:Nat)(f:Nat)(cs:List Value)(hE:∀ args w,(callFunc f args).run Tryz.prog w=.ok (.enter f args) w)(lt:Nat->Nat->Bool)(c:Nat->Nat->Int)(T:Tot lt n)(hcl:∀ x y,x<n->y<n->y<x->(c x y<0 ↔ lt x y=true))(w0:World)(hC:CmpF f cs n c S w0)(hn:n<=4096)(w:World)(hw:w0.grownBy w (some S))(hrow:w.rowIs S 3 n (zc (idn n))):
  Calls Tryz.prog 90 #[.slice (some ⟨S,0,none⟩) n sc,.func (.func f) #[] cs.toArray] w (SwP S n (grd lt n) w):=by
 have HC:Hid (Calls Tryz.prog 158 #[.slice (some ⟨S,0,none⟩) n sc,.int .i64 (n:Nat),.func (.func f) #[] cs.toArray] w (SwP S n (grd lt n) w)):=stab_any S n sc f cs hE lt c T hcl w0 hC hn w hw hrow
 clear hC hcl T hw hrow
 go_enter Tryz.func90,Tryz.ntmps90
 go_wp2_with fail
 refine HC.mono ?_
 rintro e v1 ⟨⟨v',rfl⟩,hrow1,hG1⟩
 go_wp2_with fail
 go_end0
 exact⟨⟨_,rfl⟩,hrow1,hG1⟩
end Go.Proofs.YtkmmkcpfhnifhaaGreat
