/- What the program tells, in part. -/
import Derived.Test.YtkmmkcpfhnifhaaGreatJ10
set_option linter.unusedVariables false
set_option maxHeartbeats 4000000
set_option maxRecDepth 100000
namespace Go.Proofs.YtkmmkcpfhnifhaaGreat
open Go.RowKit
theorem sm1_any (S n sc:Nat)(f:Nat)(cs:List Value)(hE:∀ args w,(callFunc f args).run Tryz.prog w=.ok (.enter f args) w)(lt:Nat->Nat->Bool)(c:Nat->Nat->Int)(T:Tot lt n)(hcl:∀ x y,x<n->y<n->y<x->(c x y<0 ↔ lt x y=true))(w0:World)(hC:CmpF f cs n c S w0)
  (a m b:Nat)(z:List Int)(hl:z.length=n)(ho:IsOrd z)(hn:n<=4096)(hm:m=a+1)(hmb:m<b)(hb:b<=n)(hr2:Ris lt z m b)(hs:Sep z a m b)(w:World)(hw:w0.grownBy w (some S))(hrow:w.rowIs S 3 n (zc z)):
  Calls Tryz.prog 188 #[.slice (some ⟨S,0,none⟩) n sc,.int .i64 (a:Nat),.int .i64 (m:Nat),.int .i64 (b:Nat),.func (.func f) #[] cs.toArray] w (Sod S n lt a b z w):=by
 have HR:Hid (w.rowIs S 3 n (zc z)):=hrow
 have HL:Hid (z.length=n/\IsOrd z):=⟨hl,ho⟩
 have HT:Hid (Tot lt n/\(∀ x y,x<n->y<n->y<x->(c x y<0 ↔ lt x y=true))):=⟨T,hcl⟩
 have HC:Hid (CmpF f cs n c S w0):=hC
 have HW0:Hid (w0.grownBy w (some S)):=hw
 have HS:Hid (Ris lt z m b/\Sep z a m b):=⟨hr2,hs⟩
 have HF:Hid (Fall (Pa1 lt z a) m b):=Pa1_fall T ho hl (by omega) hb hr2
 have HM:Hid (m=a+1):=hm
 have hma:IntKind.i64.wrap ((m:Int)-(a:Int))=1:=by rw[wr_sm (by omega)];omega
 have hma2:(m:Int)-(a:Int)=1:=by omega
 have ham:a<m:=by omega
 clear hrow hl ho T hcl hC hr2 hs hw hm
 go_enter Tryz.func188,Tryz.ntmps188
 go_wp2_with fail
 go_loopw [10,11] (fun vi vj wr=>∃ i j:Nat,vi=.int .i64 i/\vj=.int .i64 j/\wr.rowIs S 3 n (zc z)/\w.grownBy wr (some S)/\Bs (Pa1 lt z a) m b i j) (fun vi vj _=>(intOf vj).toNat-(intOf vi).toNat)
 case atStart=>exact⟨m,b,rfl,rfl,HR.out,World.grownBy.refl _ _,Bs.zero (by omega)⟩
 case round=>
  obtain⟨i,j,rfl,rfl,hrow,hG,hBs⟩:=hrel
  have hb1:=hBs.l
  have hb2:=hBs.r
  have hb3:=hBs.m
  have HRw:Hid (wr.rowIs S 3 n (zc z)):=hrow
  have HG:Hid (w.grownBy wr (some S)):=hG
  have HBs:Hid (Bs (Pa1 lt z a) m b i j):=hBs
  by_cases hij:i<j
  ·obtain⟨h,hh⟩:∃ h:Nat,h=(i+j)/2:=⟨_,rfl⟩
   have hih:i<=h:=by omega
   have hhj:h<j:=by omega
   have eh:((i:Int)+(j:Int))/2=(h:Int):=by omega
   clear hh
   have hhn:h<n:=by omega
   have hXn:h<n:=by omega
   have hYn:a<n:=by omega
   have cX:=zc_at hrow HL.2 HL.1 hXn
   have cY:=zc_at hrow HL.2 HL.1 hYn
   obtain⟨X,hX⟩:∃ X,X=nt z h:=⟨_,rfl⟩
   obtain⟨Y,hY⟩:∃ Y,Y=nt z a:=⟨_,rfl⟩
   rw[<-hX] at cX
   rw[<-hY] at cY
   have hXl:X<n:=by rw[hX];exact nt_lt HL.2 HL.1 hXn
   have hYl:Y<n:=by rw[hY];exact nt_lt HL.2 HL.1 hYn
   have HCL:Hid (c X Y<0 ↔ lt (nt z h) (nt z a)=true):=by
    rw[<-hX,<-hY]
    exact HT.2 X Y hXl hYl (by rw[hX,hY];exact HS.2 a h (Nat.le_refl _) ham (by omega) (by omega))
   have HCC:Hid (Calls Tryz.prog f (.int .i64 (X:Nat)::.int .i64 (Y:Nat)::cs).toArray wr.drew fun r W'=>r=.returned (.int .i64 (c X Y))/\Below wr.drew.heap.size wr.drew W'):=
    HC.out X Y wr.drew hXl hYl (sgrown_t HW0.out (sgrown_t HG.out ⟨rfl,rfl,rfl,Nat.le_refl _,fun _ _ _=>rfl⟩))
   have hSz:S<wr.heap.size:=hrow.lt
   clear hrow hG hBs hX hY
   by_cases hc:c X Y<0
   ·have HLL:Hid (Pa1 lt z a h=true):=by show _=_;exact HCL.1 hc
    go_wp2_with fail
    refine bT 9 (fun w'=>w'.cell? ⟨S,h,none⟩=some (.int .i64 (X:Nat))/\w'.cell? ⟨S,a,none⟩=some (.int .i64 (Y:Nat))) 11 (⟨cX,cY⟩) fun hq0=>?_
    refine pT 0 hq0 ?_;refine pT 1 hq0 ?_;refine pT 2 hq0 ?_;refine pT 3 hq0 ?_;refine lT 4 hq0 ?_;refine pT 5 hq0 ?_;refine pT 6 hq0 ?_;refine pT 7 hq0 ?_;refine lT 8 hq0 ?_
    clear hq0
    refine oT 9 fun K hK=>?_
    go_simp
    go_wp2_with fail
    refine HCC.mono ?_
    rintro e v1 ⟨rfl,hB1⟩
    refine hK.out _ _ (fun h=>absurd h (by decide)) ?_
    clear hK K
    refine oT 10 fun K hK=>?_
    go_simp
    refine hK.out _ _ (fun h=>absurd h (by decide)) ?_
    clear hK K
    refine dT ?_
    have HR1:Hid (v1.rowIs S 3 n (zc z)):=HRw.of_block (hB1.block S hSz)
    have HG1:Hid (w.grownBy v1 (some S)):=sgrown_bel (w:=wr) HG.out ((Below.refl _ wr).drew.trans hB1)
    clear hB1 cX cY
    go_wp2_with fail
    exact⟨⟨h+1,j,by go_num,rfl,HR1.out,HG1.out,HBs.up HF.out hih hhj HLL.out⟩,by simp[intOf];omega⟩
   ·have HLL:Hid (Pa1 lt z a h=false):=by show _=_;unfold Pa1;exact Bool.eq_false_iff.2 (fun q=>hc (HCL.2 q))
    have hcb:decide (c X Y<0)=false:=decide_eq_false hc
    go_wp2_with fail
    refine bT 9 (fun w'=>w'.cell? ⟨S,h,none⟩=some (.int .i64 (X:Nat))/\w'.cell? ⟨S,a,none⟩=some (.int .i64 (Y:Nat))) 11 (⟨cX,cY⟩) fun hq12=>?_
    refine pT 0 hq12 ?_;refine pT 1 hq12 ?_;refine pT 2 hq12 ?_;refine pT 3 hq12 ?_;refine lT 4 hq12 ?_;refine pT 5 hq12 ?_;refine pT 6 hq12 ?_;refine pT 7 hq12 ?_
    refine lT 8 hq12 ?_
    clear hq12
    refine oT 9 fun K hK=>?_
    go_simp
    go_wp2_with fail
    refine HCC.mono ?_
    rintro e v1 ⟨rfl,hB1⟩
    refine hK.out _ _ (fun h=>absurd h (by decide)) ?_
    clear hK K
    refine oT 10 fun K hK=>?_
    go_simp
    refine hK.out _ _ (fun h=>absurd h (by decide)) ?_
    clear hK K
    refine dT ?_
    have HR1:Hid (v1.rowIs S 3 n (zc z)):=HRw.of_block (hB1.block S hSz)
    have HG1:Hid (w.grownBy v1 (some S)):=sgrown_bel (w:=wr) HG.out ((Below.refl _ wr).drew.trans hB1)
    clear hB1 cX cY
    go_wp2_with fail
    exact⟨⟨i,h,rfl,rfl,HR1.out,HG1.out,HBs.down HF.out hih hhj HLL.out⟩,by simp[intOf];omega⟩
  ·obtain rfl:i=j:=by omega
   clear hrow hG hBs
   go_wp2_with fail
   go_loopw [13] (fun vk wr=>∃ k:Nat,a<=k/\k+1<=i/\vk=.int .i64 k/\wr.rowIs S 3 n (zc (mvL (shL a k) z))/\w.grownBy wr (some S)) (fun vk _=>i-(intOf vk).toNat)
   case atStart=>exact⟨a,Nat.le_refl _,by omega,rfl,by rw[shL_zero];exact HRw.out,HG.out⟩
   case round=>
    obtain⟨k,hk1,hk2,rfl,hrow,hG⟩:=hrel
    by_cases hki:k+1<i
    ·have hki2:(k:Int)<(i:Int)-1:=by omega
     have hL2:(mvL (shL a k) z).length=n:=by rw[mvL_length];exact HL.1
     obtain⟨K,hK⟩:∃ K:Nat,K=k+1:=⟨k+1,by omega⟩
     have hkn:k<n:=by omega
     have hKn:K<n:=by omega
     have hkK:k≠K:=by omega
     have ck:=hrow.cell hkn
     have cK:=hrow.cell hKn
     have fk:=hrow.frozen k
     have fK:=hrow.frozen K
     unfold zc at ck cK
     have HS2:Hid (((wr.setCell ⟨S,k,none⟩ (.int .i64 (nth (mvL (shL a k) z) K))).setCell ⟨S,K,none⟩ (.int .i64 (nth (mvL (shL a k) z) k))).rowIs S 3 n (zc (mvL (shL a K) z))):=by
      refine zc_swap2 hrow hL2 hkn hKn rfl rfl ?_
      have h:=shL_step (z:=z) (a:=a) (k:=k) hk1 (by rw[HL.1];omega);rw[<-hK] at h;exact h
     obtain⟨xk,hxk⟩:∃ x,x=nth (mvL (shL a k) z) k:=⟨_,rfl⟩
     obtain⟨xK,hxK⟩:∃ x,x=nth (mvL (shL a k) z) K:=⟨_,rfl⟩
     rw[<-hxk] at ck
     rw[<-hxK] at cK
     rw[<-hxk,<-hxK] at HS2
     have w1:IntKind.i64.wrap ((k:Int)+1)=(K:Int):=by rw[wr_sm (by omega)];omega
     have HK:Hid (K=k+1):=hK
     have HG2:Hid (w.grownBy wr (some S)):=hG
     clear hrow hG hL2 hxk hxK hK
     go_wp2_with fail
     refine bT 14 (fun w'=>w'.cell? ⟨S,k,none⟩=some (.int .i64 xk)/\w'.cell? ⟨S,K,none⟩=some (.int .i64 xK)) 18 (⟨ck,cK⟩) fun hq24=>?_
     refine pT 0 hq24 ?_;refine pT 1 hq24 ?_;refine pT 2 hq24 ?_;refine pT 3 hq24 ?_;refine pT 4 hq24 ?_;refine pT 5 hq24 ?_;refine pT 6 hq24 ?_;refine pT 7 hq24 ?_
     refine pT 8 hq24 ?_;refine lT 9 hq24 ?_;refine pT 10 hq24 ?_;refine pT 11 hq24 ?_;refine pT 12 hq24 ?_;refine lT 13 hq24 ?_
     clear hq24
     refine oT 14 fun K hK=>?_
     go_simp
     refine hK.out _ _ (fun h=>absurd h (by decide)) ?_
     clear hK K
     refine oT 15 fun K hK=>?_
     go_simp
     refine hK.out _ _ (fun h=>absurd h (by decide)) ?_
     clear hK K
     refine oT 16 fun K hK=>?_
     go_simp
     refine hK.out _ _ (fun h=>absurd h (by decide)) ?_
     clear hK K
     refine oT 17 fun K hK=>?_
     go_simp
     refine hK.out _ _ (fun h=>absurd h (by decide)) ?_
     clear hK K
     refine dT ?_
     go_wp2_with fail
     have hkk:=HK.out
     exact⟨⟨K,by omega,by omega,by first | rfl | (congr 1;omega),HS2.out,sgrown_set2 HG2.out _ _ _ _⟩,by simp[intOf];omega⟩
    ·have hki2:¬ (k:Int)<(i:Int)-1:=by omega
     have HRk:Hid (wr.rowIs S 3 n (zc (mvL (shL a k) z))):=hrow
     have HGk:Hid (w.grownBy wr (some S)):=hG
     clear hrow hG
     go_wp2_with fail
     go_end0
     refine⟨⟨_,rfl⟩,_,HRk.out,HGk.out,⟨_,rfl,shL_fx hk1 (by omega)⟩,?_⟩
     have hm:=HM.out
     have h:=ris_shL HT.1 HL.2 HL.1 (a:=a) (i:=i) (b:=b) (by omega) hb2 hb (by rw[<-hm];exact HS.1) (fun q h1 h2=>HBs.yes q (by omega) h2) (fun q h1 h2=>HBs.no q h1 h2)
     rw[show i-1=k by omega] at h
     exact h
theorem sm2_any (S n sc:Nat)(f:Nat)(cs:List Value)(hE:∀ args w,(callFunc f args).run Tryz.prog w=.ok (.enter f args) w)(lt:Nat->Nat->Bool)(c:Nat->Nat->Int)(T:Tot lt n)(hcl:∀ x y,x<n->y<n->y<x->(c x y<0 ↔ lt x y=true))(w0:World)(hC:CmpF f cs n c S w0)
  (a m b:Nat)(z:List Int)(hl:z.length=n)(ho:IsOrd z)(hn:n<=4096)(ha:a+1<m)(hm:b=m+1)(hb:b<=n)(hr1:Ris lt z a m)(hs:Sep z a m b)(w:World)(hw:w0.grownBy w (some S))(hrow:w.rowIs S 3 n (zc z)):
  Calls Tryz.prog 188 #[.slice (some ⟨S,0,none⟩) n sc,.int .i64 (a:Nat),.int .i64 (m:Nat),.int .i64 (b:Nat),.func (.func f) #[] cs.toArray] w (Sod S n lt a b z w):=by
 have HR:Hid (w.rowIs S 3 n (zc z)):=hrow
 have HL:Hid (z.length=n/\IsOrd z):=⟨hl,ho⟩
 have HT:Hid (Tot lt n/\(∀ x y,x<n->y<n->y<x->(c x y<0 ↔ lt x y=true))):=⟨T,hcl⟩
 have HC:Hid (CmpF f cs n c S w0):=hC
 have HW0:Hid (w0.grownBy w (some S)):=hw
 have HS:Hid (Ris lt z a m/\Sep z a m b):=⟨hr1,hs⟩
 have HF:Hid (Fall (Pa2 lt z m) a m):=Pa2_fall T ho hl (by omega) hr1
 have HM:Hid (b=m+1):=hm
 have hma:((m:Int)-(a:Int) == 1)=false:=by rw[beq_eq_false_iff_ne];omega
 have hmb2:(b:Int)-(m:Int)=1:=by omega
 have hmb:m<b:=by omega
 clear hrow hl ho T hcl hC hr1 hs hw hm
 go_enter Tryz.func188,Tryz.ntmps188
 go_wp2_with fail
 go_loopw [14,15] (fun vi vj wr=>∃ i j:Nat,vi=.int .i64 i/\vj=.int .i64 j/\wr.rowIs S 3 n (zc z)/\w.grownBy wr (some S)/\Bs (Pa2 lt z m) a m i j) (fun vi vj _=>(intOf vj).toNat-(intOf vi).toNat)
 case atStart=>exact⟨a,m,rfl,rfl,HR.out,World.grownBy.refl _ _,Bs.zero (by omega)⟩
 case round=>
  obtain⟨i,j,rfl,rfl,hrow,hG,hBs⟩:=hrel
  have hb1:=hBs.l
  have hb2:=hBs.r
  have hb3:=hBs.m
  have HRw:Hid (wr.rowIs S 3 n (zc z)):=hrow
  have HG:Hid (w.grownBy wr (some S)):=hG
  have HBs:Hid (Bs (Pa2 lt z m) a m i j):=hBs
  by_cases hij:i<j
  ·obtain⟨h,hh⟩:∃ h:Nat,h=(i+j)/2:=⟨_,rfl⟩
   have hih:i<=h:=by omega
   have hhj:h<j:=by omega
   have eh:((i:Int)+(j:Int))/2=(h:Int):=by omega
   clear hh
   have hhn:h<n:=by omega
   have hXn:m<n:=by omega
   have hYn:h<n:=by omega
   have cX:=zc_at hrow HL.2 HL.1 hXn
   have cY:=zc_at hrow HL.2 HL.1 hYn
   obtain⟨X,hX⟩:∃ X,X=nt z m:=⟨_,rfl⟩
   obtain⟨Y,hY⟩:∃ Y,Y=nt z h:=⟨_,rfl⟩
   rw[<-hX] at cX
   rw[<-hY] at cY
   have hXl:X<n:=by rw[hX];exact nt_lt HL.2 HL.1 hXn
   have hYl:Y<n:=by rw[hY];exact nt_lt HL.2 HL.1 hYn
   have HCL:Hid (c X Y<0 ↔ lt (nt z m) (nt z h)=true):=by
    rw[<-hX,<-hY]
    exact HT.2 X Y hXl hYl (by rw[hX,hY];exact HS.2 h m (by omega) (by omega) (Nat.le_refl _) hmb)
   have HCC:Hid (Calls Tryz.prog f (.int .i64 (X:Nat)::.int .i64 (Y:Nat)::cs).toArray wr.drew fun r W'=>r=.returned (.int .i64 (c X Y))/\Below wr.drew.heap.size wr.drew W'):=
    HC.out X Y wr.drew hXl hYl (sgrown_t HW0.out (sgrown_t HG.out ⟨rfl,rfl,rfl,Nat.le_refl _,fun _ _ _=>rfl⟩))
   have hSz:S<wr.heap.size:=hrow.lt
   clear hrow hG hBs hX hY
   by_cases hc:c X Y<0
   ·have HLL:Hid (Pa2 lt z m h=false):=by show _=_;unfold Pa2;rw[HCL.1 hc];rfl
    go_wp2_with fail
    refine bT 9 (fun w'=>w'.cell? ⟨S,m,none⟩=some (.int .i64 (X:Nat))/\w'.cell? ⟨S,h,none⟩=some (.int .i64 (Y:Nat))) 12 (⟨cX,cY⟩) fun hq43=>?_
    refine pT 0 hq43 ?_;refine pT 1 hq43 ?_;refine pT 2 hq43 ?_;refine pT 3 hq43 ?_;refine lT 4 hq43 ?_;refine pT 5 hq43 ?_;refine pT 6 hq43 ?_;refine pT 7 hq43 ?_
    refine lT 8 hq43 ?_
    clear hq43
    refine oT 9 fun K hK=>?_
    go_simp
    go_wp2_with fail
    refine HCC.mono ?_
    rintro e v1 ⟨rfl,hB1⟩
    refine hK.out _ _ (fun h=>absurd h (by decide)) ?_
    clear hK K
    refine oT 10 fun K hK=>?_
    go_simp
    refine hK.out _ _ (fun h=>absurd h (by decide)) ?_
    clear hK K
    refine oT 11 fun K hK=>?_
    go_simp
    refine hK.out _ _ (fun h=>absurd h (by decide)) ?_
    clear hK K
    refine dT ?_
    have HR1:Hid (v1.rowIs S 3 n (zc z)):=HRw.of_block (hB1.block S hSz)
    have HG1:Hid (w.grownBy v1 (some S)):=sgrown_bel (w:=wr) HG.out ((Below.refl _ wr).drew.trans hB1)
    clear hB1 cX cY
    go_wp2_with fail
    exact⟨⟨i,h,rfl,rfl,HR1.out,HG1.out,HBs.down HF.out hih hhj HLL.out⟩,by simp[intOf];omega⟩
   ·have HLL:Hid (Pa2 lt z m h=true):=by show _=_;unfold Pa2;rw[Bool.not_eq_true'];exact Bool.eq_false_iff.2 (fun q=>hc (HCL.2 q))
    have hcb:decide (c X Y<0)=false:=decide_eq_false hc
    go_wp2_with fail
    refine bT 9 (fun w'=>w'.cell? ⟨S,m,none⟩=some (.int .i64 (X:Nat))/\w'.cell? ⟨S,h,none⟩=some (.int .i64 (Y:Nat))) 12 (⟨cX,cY⟩) fun hq56=>?_
    refine pT 0 hq56 ?_;refine pT 1 hq56 ?_;refine pT 2 hq56 ?_;refine pT 3 hq56 ?_;refine lT 4 hq56 ?_;refine pT 5 hq56 ?_;refine pT 6 hq56 ?_;refine pT 7 hq56 ?_
    refine lT 8 hq56 ?_
    clear hq56
    refine oT 9 fun K hK=>?_
    go_simp
    go_wp2_with fail
    refine HCC.mono ?_
    rintro e v1 ⟨rfl,hB1⟩
    refine hK.out _ _ (fun h=>absurd h (by decide)) ?_
    clear hK K
    refine oT 10 fun K hK=>?_
    go_simp
    refine hK.out _ _ (fun h=>absurd h (by decide)) ?_
    clear hK K
    refine oT 11 fun K hK=>?_
    go_simp
    refine hK.out _ _ (fun h=>absurd h (by decide)) ?_
    clear hK K
    refine dT ?_
    have HR1:Hid (v1.rowIs S 3 n (zc z)):=HRw.of_block (hB1.block S hSz)
    have HG1:Hid (w.grownBy v1 (some S)):=sgrown_bel (w:=wr) HG.out ((Below.refl _ wr).drew.trans hB1)
    clear hB1 cX cY
    go_wp2_with fail
    exact⟨⟨h+1,j,by go_num,rfl,HR1.out,HG1.out,HBs.up HF.out hih hhj HLL.out⟩,by simp[intOf];omega⟩
  ·obtain rfl:i=j:=by omega
   clear hrow hG hBs
   go_wp2_with fail
   go_loopw [17] (fun vk wr=>∃ k:Nat,i<=k/\k<=m/\vk=.int .i64 k/\wr.rowIs S 3 n (zc (mvL (shR k m) z))/\w.grownBy wr (some S)) (fun vk _=>(intOf vk).toNat)
   case atStart=>exact⟨m,hb2,Nat.le_refl _,rfl,by rw[shR_zero];exact HRw.out,HG.out⟩
   case round=>
    obtain⟨k,hk1,hk2,rfl,hrow,hG⟩:=hrel
    by_cases hki:i<k
    ·have hL2:(mvL (shR k m) z).length=n:=by rw[mvL_length];exact HL.1
     obtain⟨K,hK⟩:∃ K:Nat,k=K+1:=⟨k-1,by omega⟩
     have hkn:k<n:=by omega
     have hKn:K<n:=by omega
     have hkK:k≠K:=by omega
     have ck:=hrow.cell hkn
     have cK:=hrow.cell hKn
     have fk:=hrow.frozen k
     have fK:=hrow.frozen K
     unfold zc at ck cK
     have HS2:Hid (((wr.setCell ⟨S,k,none⟩ (.int .i64 (nth (mvL (shR k m) z) K))).setCell ⟨S,K,none⟩ (.int .i64 (nth (mvL (shR k m) z) k))).rowIs S 3 n (zc (mvL (shR K m) z))):=by
      refine zc_swap2 hrow hL2 hkn hKn rfl rfl ?_
      have h:=shR_step (z:=z) (j:=k) (i:=m) (by omega) hk2 (by rw[HL.1];omega);rw[show k-1=K by omega] at h;exact h
     obtain⟨xk,hxk⟩:∃ x,x=nth (mvL (shR k m) z) k:=⟨_,rfl⟩
     obtain⟨xK,hxK⟩:∃ x,x=nth (mvL (shR k m) z) K:=⟨_,rfl⟩
     rw[<-hxk] at ck
     rw[<-hxK] at cK
     rw[<-hxk,<-hxK] at HS2
     have w1:IntKind.i64.wrap ((k:Int)-1)=(K:Int):=by rw[wr_sm (by omega)];omega
     have HK:Hid (k=K+1):=hK
     have HG2:Hid (w.grownBy wr (some S)):=hG
     clear hrow hG hL2 hxk hxK hK
     go_wp2_with fail
     refine bT 14 (fun w'=>w'.cell? ⟨S,k,none⟩=some (.int .i64 xk)/\w'.cell? ⟨S,K,none⟩=some (.int .i64 xK)) 18 (⟨ck,cK⟩) fun hq69=>?_
     refine pT 0 hq69 ?_;refine pT 1 hq69 ?_;refine pT 2 hq69 ?_;refine pT 3 hq69 ?_;refine pT 4 hq69 ?_;refine pT 5 hq69 ?_;refine pT 6 hq69 ?_;refine pT 7 hq69 ?_
     refine pT 8 hq69 ?_;refine lT 9 hq69 ?_;refine pT 10 hq69 ?_;refine pT 11 hq69 ?_;refine pT 12 hq69 ?_;refine lT 13 hq69 ?_
     clear hq69
     refine oT 14 fun K hK=>?_
     go_simp
     refine hK.out _ _ (fun h=>absurd h (by decide)) ?_
     clear hK K
     refine oT 15 fun K hK=>?_
     go_simp
     refine hK.out _ _ (fun h=>absurd h (by decide)) ?_
     clear hK K
     refine oT 16 fun K hK=>?_
     go_simp
     refine hK.out _ _ (fun h=>absurd h (by decide)) ?_
     clear hK K
     refine oT 17 fun K hK=>?_
     go_simp
     refine hK.out _ _ (fun h=>absurd h (by decide)) ?_
     clear hK K
     refine dT ?_
     go_wp2_with fail
     have hkk:=HK.out
     exact⟨⟨K,by omega,by omega,by first | rfl | (congr 1;omega),HS2.out,sgrown_set2 HG2.out _ _ _ _⟩,by simp[intOf];omega⟩
    ·obtain rfl:k=i:=by omega
     have HRk:Hid (wr.rowIs S 3 n (zc (mvL (shR k m) z))):=hrow
     have HGk:Hid (w.grownBy wr (some S)):=hG
     clear hrow hG
     go_wp2_with fail
     go_end0
     refine⟨⟨_,rfl⟩,_,HRk.out,HGk.out,⟨_,rfl,shR_fx hb1 hk2 (by omega)⟩,?_⟩
     have hm:=HM.out
     rw[hm]
     refine ris_shR HT.1 HL.2 HL.1 hb1 hk2 (by omega) HS.1 (fun q h1 h2=>?_) ?_
     ·have h:=HBs.no q h1 h2
      unfold Pa2 at h
      rw[Bool.not_eq_false'] at h
      exact h
     ·by_cases e:k=a
      ·exact .inl e
      ·right
       have h:=HBs.yes (k-1) (by omega) (by omega)
       unfold Pa2 at h
       rw[Bool.not_eq_true'] at h
       exact (tot_not HT.1 HL.2 HL.1 (by omega) (by omega) (by omega)).1 h
theorem swr_int {S n sc f:Nat}{cs:List Value}{x y:Int}(a b m:Nat)(z:List Int)(hl:z.length=n)(hn:n<=4096)(h1:a+m<=b)(h2:b+m<=n)(w:World)(hrow:w.rowIs S 3 n (zc z))(hx:x=(a:Int))(hy:y=(b:Int)):
  Calls Tryz.prog 200 #[.slice (some ⟨S,0,none⟩) n sc,.int .i64 x,.int .i64 y,.int .i64 (m:Nat),.func (.func f) #[] cs.toArray] w (SwP S n (mvL (swF a b m) z) w):=by
 subst hx hy;exact swr_any S n sc f cs a b m z hl hn h1 h2 w hrow
theorem rot_any (S n sc:Nat)(f:Nat)(cs:List Value)(a m b:Nat)(z:List Int)(hl:z.length=n)(hn:n<=4096)(h1:a<m)(h2:m<b)(h3:b<=n)(w:World)(hrow:w.rowIs S 3 n (zc z)):
  Calls Tryz.prog 198 #[.slice (some ⟨S,0,none⟩) n sc,.int .i64 (a:Nat),.int .i64 (m:Nat),.int .i64 (b:Nat),.func (.func f) #[] cs.toArray] w (SwP S n (mvL (rtF m (m-a) (b-m)) z) w):=by
 have HR:Hid (w.rowIs S 3 n (zc z)):=hrow
 have HL:Hid (z.length=n):=hl
 clear hrow hl
 obtain⟨F,hF⟩:∃ F,F=mvL (rtF m (m-a) (b-m)) z:=⟨_,rfl⟩
 rw[<-hF]
 have HF:Hid (F=mvL (rtF m (m-a) (b-m)) z):=hF
 clear hF
 go_enter Tryz.func198,Tryz.ntmps198
 go_wp2_with fail
 go_loopw [10,11] (fun vi vj wr=>∃ i j:Nat,∃ zr:List Int,1<=i/\1<=j/\i<=m/\m+j<=n/\vi=.int .i64 i/\vj=.int .i64 j/\zr.length=n/\mvL (rtF m i j) zr=F/\wr.rowIs S 3 n (zc zr)/\w.grownBy wr (some S)) (fun vi vj _=>(intOf vi).toNat+(intOf vj).toNat)
 case atStart=>exact⟨m-a,b-m,z,by omega,by omega,by omega,by omega,by congr 1;omega,by congr 1;omega,HL.out,HF.symm,HR.out,World.grownBy.refl _ _⟩
 case round=>
  obtain⟨i,j,zr,hi,hj,him,hjn,rfl,rfl,hl,he,hrow,hG⟩:=hrel
  have HRr:Hid (wr.rowIs S 3 n (zc zr)):=hrow
  have HG:Hid (w.grownBy wr (some S)):=hG
  have HE:Hid (mvL (rtF m i j) zr=F):=he
  have HLr:Hid (zr.length=n):=hl
  clear hrow hG he hl
  by_cases hij:i=j
  ·subst hij
   go_wp2_with fail
   refine (swr_int (m-i) m i zr HLr.out hn (by omega) (by omega) wr HRr.out (by omega) rfl).mono ?_
   rintro e w1 ⟨⟨v,rfl⟩,hrow1,hG1⟩
   have HR1:Hid (w1.rowIs S 3 n (zc (mvL (swF (m-i) m i) zr))):=hrow1
   have HG1:Hid (w.grownBy w1 (some S)):=sgrown_t HG.out hG1
   clear hrow1 hG1
   go_wp2_with fail
   go_end0
   refine⟨⟨_,rfl⟩,?_,HG1.out⟩
   rw[<-HE.out,<-rtF_last him (by rw[HLr.out];exact hjn)]
   exact HR1.out
  ·have hne:((i:Int) == (j:Int))=false:=by rw[beq_eq_false_iff_ne];omega
   by_cases hlt:j<i
   ·go_wp2_with fail
    refine (swr_int (m-i) m j zr HLr.out hn (by omega) (by omega) wr HRr.out (by omega) rfl).mono ?_
    rintro e w1 ⟨⟨v,rfl⟩,hrow1,hG1⟩
    have HR1:Hid (w1.rowIs S 3 n (zc (mvL (swF (m-i) m j) zr))):=hrow1
    have HG1:Hid (w.grownBy w1 (some S)):=sgrown_t HG.out hG1
    clear hrow1 hG1
    go_wp2_with fail
    exact⟨⟨i-j,j,mvL (swF (m-i) m j) zr,by omega,hj,by omega,hjn,by congr 1;omega,rfl,by rw[mvL_length];exact HLr.out,by rw[rtF_left hlt him (by rw[HLr.out];exact hjn)];exact HE.out,HR1.out,HG1.out⟩,by simp[intOf];omega⟩
   ·go_wp2_with fail
    refine (swr_int (m-i) (m+j-i) i zr HLr.out hn (by omega) (by omega) wr HRr.out (by omega) (by omega)).mono ?_
    rintro e w1 ⟨⟨v,rfl⟩,hrow1,hG1⟩
    have HR1:Hid (w1.rowIs S 3 n (zc (mvL (swF (m-i) (m+j-i) i) zr))):=hrow1
    have HG1:Hid (w.grownBy w1 (some S)):=sgrown_t HG.out hG1
    clear hrow1 hG1
    go_wp2_with fail
    exact⟨⟨i,j-i,mvL (swF (m-i) (m+j-i) i) zr,hi,by omega,him,by omega,rfl,by congr 1;omega,by rw[mvL_length];exact HLr.out,by rw[rtF_right (by omega) him (by rw[HLr.out];exact hjn)];exact HE.out,HR1.out,HG1.out⟩,by simp[intOf];omega⟩
theorem rot_int {S n sc f:Nat}{cs:List Value}{x y:Int}(a m b:Nat)(z:List Int)(hl:z.length=n)(hn:n<=4096)(h1:a<m)(h2:m<b)(h3:b<=n)(w:World)(hrow:w.rowIs S 3 n (zc z))(hx:x=(a:Int))(hy:y=(b:Int)):
  Calls Tryz.prog 198 #[.slice (some ⟨S,0,none⟩) n sc,.int .i64 x,.int .i64 (m:Nat),.int .i64 y,.func (.func f) #[] cs.toArray] w (SwP S n (mvL (rtF m (m-a) (b-m)) z) w):=by
 subst hx hy;exact rot_any S n sc f cs a m b z hl hn h1 h2 h3 w hrow
end Go.Proofs.YtkmmkcpfhnifhaaGreat
