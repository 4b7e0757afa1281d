/- What the program tells, in part. -/
import Derived.Test.YtkmmkcpfhnifhaaGreatJ09
import Derived.Test.YtkmmkcpfhnifhaaGreatJ12
set_option linter.unusedVariables false
set_option maxHeartbeats 4000000
set_option maxRecDepth 100000
namespace Go.Proofs.YtkmmkcpfhnifhaaGreat
open Go.RowKit
theorem rwV_at {n₀:Nat}{W:World}{da:Option Addr}{dz:List Int}{dc n long B j:Nat}(h:IsC n₀ W da dz dc)(hn:n*long<=dz.length)(hr:W.rowIs B 22 n (rwV da dc long))(hj:j<n):
  ∃ ad cp,W.cell? ⟨B,j,none⟩=some (.slice ad (rwL dz long j).length cp)/\IsInts n₀ W ad (rwL dz long j):=by
 obtain⟨ad,cp,e,hI⟩:=rwV_is h hn hj
 exact⟨ad,cp,by rw[hr.cell hj,e,rwL_length hn hj],hI.1⟩
theorem ord1_any (f:Nat)(hE:∀ args w,(callFunc f args).run Tryz.prog w=.ok (.enter f args) w)(cmp:List Int->List Int->Int)(hF:RwF f cmp)(da:Option Addr)(dc:Nat)(dz:List Int)(n long:Nat)(hn:n*long<=dz.length)(h4:n<=4096)(hz:dz.length<=4096)
  (Br Bc R rc n₀:Nat)(x y:Nat)(hx:x<n)(hy:y<n)(W:World)(hd:IsC n₀ W da dz dc)(hR:W.rowIs R 22 n (rwV da dc long))(hr:W.cell? ⟨Br,0,none⟩=some (.slice (some ⟨R,0,none⟩) n rc))(hc:W.cell? ⟨Bc,0,none⟩=some (.func (.func f) #[] #[])):
  Calls Tryz.prog 91 #[.int .i64 (x:Nat),.int .i64 (y:Nat),.pointer (some ⟨Bc,0,none⟩),.pointer (some ⟨Br,0,none⟩)] W fun r W'=>r=.returned (.int .i64 (cmp (rwL dz long x) (rwL dz long y)))/\Below W.heap.size W W':=by
 obtain⟨ax,cx,ex,hIx⟩:=rwV_at hd hn hR hx
 obtain⟨ay,cy,ey,hIy⟩:=rwV_at hd hn hR hy
 have lx:=rwL_length hn hx
 have ly:=rwL_length hn hy
 have hll:long<=4096:=by
  have:=Nat.mul_le_mul_right long (show 1<=n by omega)
  omega
 have HC:Hid (Calls Tryz.prog f #[.slice ax (rwL dz long x).length cx,.slice ay (rwL dz long y).length cy] W.drew fun e w'=>e=.returned (.int .i64 (cmp (rwL dz long x) (rwL dz long y)))/\w'=W.drew):=hF ax cx _ ay cy _ (by omega) (by omega) n₀ W.drew hIx hIy
 clear hIx hIy hd hR hF lx ly
 generalize rwL dz long x=X at *
 generalize rwL dz long y=Y at *
 go_enter Tryz.func91,Tryz.ntmps91
 go_wp2_with fail
 refine bT 10 (fun w'=>w'.cell? ⟨Br,0,none⟩=some (.slice (some ⟨R,0,none⟩) n rc)/\w'.cell? ⟨Bc,0,none⟩=some (.func (.func f) #[] #[])/\w'.cell? ⟨R,x,none⟩=some (.slice ax X.length cx)/\w'.cell? ⟨R,y,none⟩=some (.slice ay Y.length cy)) 11 (⟨hr,hc,ex,ey⟩) fun hq0=>?_
 refine lT 0 hq0 ?_;refine lT 1 hq0 ?_;refine pT 2 hq0 ?_;refine pT 3 hq0 ?_;refine lT 4 hq0 ?_;refine lT 5 hq0 ?_;refine pT 6 hq0 ?_;refine pT 7 hq0 ?_;refine lT 8 hq0 ?_
 clear hq0
 refine oT 9 fun K hK=>?_
 go_simp
 go_wp2_with fail
 refine HC.mono ?_
 rintro e v1 ⟨rfl,rfl⟩
 refine hK.out _ _ (fun _=>⟨hr,hc,ex,ey⟩) ?_
 clear hK K
 refine oT 10 fun K hK=>?_
 go_simp
 refine hK.out _ _ (fun h=>absurd h (by decide)) ?_
 clear hK K
 refine dT ?_
 go_wp2_with fail
 go_ret
 exact⟨rfl,(Below.refl _ W).drew⟩
theorem idn_up {n:Nat}{W:World}{B:Nat}(h:W.rowIs B 3 n (fun j=>if j<n then .int .i64 (j:Int) else .int .i64 0)):W.rowIs B 3 n (zc (idn n)):=h.congr fun j hj=>by
 show (if j<n then Value.int .i64 (j:Int) else .int .i64 0)=_
 rw[if_pos hj]
 unfold zc
 rw[show nth (idn n) j=(j:Int) by rw[nth_get _ _ (by simp[idn];exact hj)];simp[idn]]
def upI (k j:Nat):Value:=if j<k then .int .i64 (j:Int) else .int .i64 0
theorem upI_set {W:World}{B n k:Nat}(h:W.rowIs B 3 n (upI k)):(W.setCell ⟨B,k,none⟩ (.int .i64 (k:Int))).rowIs B 3 n (upI (k+1)):=by
 refine (h.set k _).congr fun j hj=>?_
 unfold upI
 by_cases e:j=k
 ·rw[if_pos e,if_pos (by omega),e]
 ·rw[if_neg e]
  by_cases h1:j<k
  ·rw[if_pos h1,if_pos (by omega)]
  ·rw[if_neg h1,if_neg (by omega)]
def OrP (L:List Int)(w:World)(r:Ending)(w':World):Prop:=∃ g gc,r=.returned (.slice g L.length gc)/\NewC w.heap.size w' g L gc/\Below w.heap.size w w'
theorem zc_new {W:World}{B n lo:Nat}{z:List Int}(h:W.rowIs B 3 n (zc z))(hl:z.length=n)(hlo:lo<=B):NewC lo W (some ⟨B,0,none⟩) z n:=
 ⟨.inr ⟨B,0,rfl,hlo,h.lt,fun j hj=>by rw[Nat.zero_add];exact h.cell (by omega),fun j=>h.frozen _⟩,by omega⟩
theorem bel_gr {n₀:Nat}{w v W:World}{S:Nat}(h:Below n₀ w v)(hg:v.grownBy W (some S))(hS:n₀<=S)(hn:n₀<=v.heap.size):Below n₀ w W:=
 h.grown hg hn fun k e=>by cases e;exact hS
theorem ints_gr {n₀:Nat}{A B:World}{S:Nat}(hg:A.grownBy B (some S))(hn:n₀<=S)(hs:n₀<=A.heap.size){a:Option Addr}{zs:List Int}{cap:Nat}(h:IsC n₀ A a zs cap):IsC n₀ B a zs cap:=
 h.below ((Below.refl _ A).grown hg hs fun k e=>by cases e;exact hn)
theorem order_any (f:Nat)(hE:∀ args w,(callFunc f args).run Tryz.prog w=.ok (.enter f args) w)(cmp:List Int->List Int->Int)(hF:RwF f cmp)(da:Option Addr)(dc:Nat)(dz:List Int)(n long:Nat)(hn:n*long<=dz.length)(h4:n<=4096)(hz:dz.length<=4096)
  (lt:Nat->Nat->Bool)(T:Tot lt n)(hcl:∀ x y,x<n->y<n->y<x->(cmp (rwL dz long x) (rwL dz long y)<0 ↔ lt x y=true))(R rc:Nat)(w:World)(hd:IsC w.heap.size w da dz dc)(hR:w.rowIs R 22 n (rwV da dc long)):
  Calls Tryz.prog 39 #[.slice (some ⟨R,0,none⟩) n rc,.func (.func f) #[] #[]] w (OrP (grd lt n) w):=by
 have hmk:=run_make_row' (P:=Tryz.prog) 22 3 (.int .i64 0) 8 Tryz.underlying22 Tryz.infoInt rfl .i64 .i64 n (by omega) (by omega)
 have HF:Hid (RwF f cmp/\Tot lt n/\(∀ x y,x<n->y<n->y<x->(cmp (rwL dz long x) (rwL dz long y)<0 ↔ lt x y=true))/\n*long<=dz.length):=⟨hF,T,hcl,hn⟩
 have HD:Hid (IsC w.heap.size w da dz dc/\w.rowIs R 22 n (rwV da dc long)):=⟨hd,hR⟩
 have hRl:R<w.heap.size:=hR.lt
 obtain⟨W2,hW2⟩:∃ W2,W2=(w.alloc (.cells #[.slice (some ⟨R,0,none⟩) n rc] 57)).alloc (.cells #[.func (.func f) #[] #[]] 73):=⟨_,rfl⟩
 have HB2:Hid (Below w.heap.size w W2):=by rw[hW2];exact ((Below.refl _ w).alloc (Nat.le_refl _) _).alloc (by simp) _
 have hz2:W2.heap.size=w.heap.size+1+1:=by rw[hW2];simp
 have HX:Hid (W2.cell? ⟨w.heap.size,0,none⟩=some (.slice (some ⟨R,0,none⟩) n rc)/\W2.cell? ⟨w.heap.size+1,0,none⟩=some (.func (.func f) #[] #[])):=by
  rw[hW2]
  have b1:(w.alloc (.cells #[.slice (some ⟨R,0,none⟩) n rc] 57)).heap[w.heap.size]?=some (.cells #[.slice (some ⟨R,0,none⟩) n rc] 57 (0,0)):=World.alloc_heap_new w _
  have b2:=World.alloc_heap_new (w.alloc (.cells #[.slice (some ⟨R,0,none⟩) n rc] 57)) (.cells #[.func (.func f) #[] #[]] 73)
  rw[World.size_alloc] at b2
  constructor
  ·refine (World.cell?_of_block (w:=w.alloc (.cells #[.slice (some ⟨R,0,none⟩) n rc] 57)) (a:=⟨w.heap.size,0,none⟩) (Below.heap_alloc _ _ _ (by simp))).trans ?_
   simp only[World.cell?,b1];rfl
  ·simp only[World.cell?,b2];rfl
 have HM:Hid ((W2.alloc (.cells (madeCells #[.int .i64 0] n) 3)).rowIs (w.heap.size+1+1) 3 n (upI 0)):=by
  have h:=World.rowIs_made W2 (.int .i64 0) n 3
  rw[hz2] at h
  exact h.congr fun j _=>by unfold upI;rw[if_neg (by omega)]
 have HW2:Hid (W2=(w.alloc (.cells #[.slice (some ⟨R,0,none⟩) n rc] 57)).alloc (.cells #[.func (.func f) #[] #[]] 73)):=hW2
 clear hF T hcl hn hd hR hW2
 go_enter Tryz.func39,Tryz.ntmps39
 go_wp2_with fail
 clear hmk
 go_loopw [12] (fun i wr=>∃ k:Nat,k<=n/\i=.int .i64 k/\wr.rowIs (w.heap.size+1+1) 3 n (upI k)/\Below (w.heap.size+1+1) W2 wr) (fun i _=>n-(intOf i).toNat)
 case atStart=>
  rw[<-HW2.out]
  exact⟨0,Nat.zero_le _,rfl,HM.out,(Below.refl _ W2).alloc (by omega) _⟩
 case round=>
  obtain⟨k,hk,rfl,hrow,hB⟩:=hrel
  have HR:Hid (wr.rowIs (w.heap.size+1+1) 3 n (upI k)):=hrow
  have HB:Hid (Below (w.heap.size+1+1) W2 wr):=hB
  by_cases hlt:k<n
  ·have cc:wr.cell? ⟨w.heap.size+1+1,k,none⟩=some (.int .i64 0):=by
    rw[hrow.cell hlt];unfold upI;rw[if_neg (by omega)]
   have ff:=hrow.frozen k
   clear hrow hB
   go_wp2_with fail
   exact⟨⟨k+1,by omega,by go_num,upI_set HR.out,HB.setCell (p:=⟨w.heap.size+1+1,k,none⟩) (by show w.heap.size+1+1<=w.heap.size+1+1;omega) _⟩,by simp[intOf];omega⟩
  ·obtain rfl:k=n:=by omega
   have hSz:w.heap.size+1+1<wr.heap.size:=hrow.lt
   have HBw:Hid (Below w.heap.size w wr):=HB2.trans (hB.mono (by omega))
   have HCF:Hid (CmpF 91 [.pointer (some ⟨w.heap.size+1,0,none⟩),.pointer (some ⟨w.heap.size,0,none⟩)] k (fun x y=>cmp (rwL dz long x) (rwL dz long y)) (w.heap.size+1+1) wr):=by
    intro x y W hx hy hg
    refine ord1_any f hE cmp HF.1 da dc dz k long HF.2.2.2 h4 hz w.heap.size (w.heap.size+1) R rc w.heap.size x y hx hy W ?_ ?_ ?_ ?_
    ·exact ints_gr hg (by omega) (by omega) (HD.1.below HBw.out)
    ·exact HD.2.of_block (((hg.block R (by omega) (by simp;omega))).trans (HBw.block R hRl))
    ·exact (World.cell?_of_block (w:=wr) (a:=⟨w.heap.size,0,none⟩) (hg.block w.heap.size (by omega) (by simp;omega))).trans ((hB.cell (p:=⟨w.heap.size,0,none⟩) (by show w.heap.size<_;omega)).trans HX.1)
    ·exact (World.cell?_of_block (w:=wr) (a:=⟨w.heap.size+1,0,none⟩) (hg.block (w.heap.size+1) (by omega) (by simp))).trans ((hB.cell (p:=⟨w.heap.size+1,0,none⟩) (by show w.heap.size+1<_;omega)).trans HX.2)
   have HS:Hid (Calls Tryz.prog 90 #[.slice (some ⟨w.heap.size+1+1,0,none⟩) k k,.func (.func 91) #[] #[.pointer (some ⟨w.heap.size+1,0,none⟩),.pointer (some ⟨w.heap.size,0,none⟩)]] wr (SwP (w.heap.size+1+1) k (grd lt k) wr)):=
    sort_any (w.heap.size+1+1) k k 91 [.pointer (some ⟨w.heap.size+1,0,none⟩),.pointer (some ⟨w.heap.size,0,none⟩)] (enters_of Tryz.func91 (by kernel_rfl) rfl) lt _ HF.2.1 HF.2.2.1 wr HCF.out h4 wr (World.grownBy.refl _ _) (idn_up (hrow.congr fun j hj=>rfl))
   clear hrow hB HCF
   go_wp2_with fail
   refine HS.mono ?_
   rintro e v1 ⟨⟨v',rfl⟩,hrow1,hG1⟩
   have HR1:Hid (NewC w.heap.size v1 (some ⟨w.heap.size+1+1,0,none⟩) (grd lt k) k):=zc_new hrow1 grd_length (by omega)
   have HB1:Hid (Below w.heap.size w v1):=bel_gr HBw.out hG1 (by omega) (by omega)
   clear hrow1 hG1
   go_wp2_with fail
   go_ret
   exact⟨_,k,by rw[grd_length];rfl,HR1.out,HB1.out⟩
theorem gchk_any (c:Bool)(sa:Option Addr)(sc:Nat)(sz:List Int)(da:Option Addr)(dc:Nat)(dz:List Int)(h1:sz.length<=9223372036854775807)(h2:dz.length<=9223372036854775807)(w:World)(hs:IsInts w.heap.size w sa sz)(hd:IsInts w.heap.size w da dz):
  Calls Tryz.prog 38 #[.agg #[.bool c,.slice sa sz.length sc,.slice da dz.length dc]] w fun r w'=>r=.returned (errV (gdE c sz dz))/\Below w.heap.size w w':=by
 have HI:Hid (IsInts w.heap.size w sa sz/\IsInts w.heap.size w da dz):=⟨hs,hd⟩
 obtain⟨W0,hW0⟩:∃ W0,W0=w.alloc (.cells #[.bool c,.slice sa sz.length sc,.slice da dz.length dc] 24):=⟨_,rfl⟩
 have HB0:Hid (Below w.heap.size w W0):=by rw[hW0];exact (Below.refl _ w).alloc (Nat.le_refl _) _
 have HP:Hid (Abx W0 w.heap.size (.bool c) (.slice sa sz.length sc) (.slice da dz.length dc)):=by rw[hW0];exact Abx.new w _ _ _
 have p0:=HP.c0
 have p1:=HP.c1
 have p2:=HP.c2
 clear hs hd
 go_enter Tryz.func38,Tryz.ntmps38
 go_upto_region 1 with fail
 rw[<-hW0]
 clear hW0
 by_cases h3:flawE c sz dz=0
 ·have HC:Hid (Calls Tryz.prog 7 #[.agg #[.bool c,.slice sa sz.length sc,.slice da dz.length dc]] W0 fun e w'=>e=.returned .nilIface/\Below W0.heap.size W0 w'):=
   check_ok c sa sc sz da dc dz h1 h2 W0 ((HI.1.below HB0.out).mono HB0.size) ((HI.2.below HB0.out).mono HB0.size) h3
  by_cases h4:sz.length=0
  ·have HE:Hid (gdE c sz dz=3):=gdE_rank h3 h4
   have H4:Hid (sz.length=0):=h4
   clear h3 h4
   go_wp2_with fail
   refine HC.mono ?_
   rintro e v1 ⟨rfl,hB1⟩
   have HB1:Hid (Below w.heap.size w v1):=HB0.trans (hB1.mono HB0.size)
   have q1:=(HP.go hB1).c1
   have hl0:((sz.length:Int) == 0)=true:=by rw[H4.out];rfl
   clear p0 p1 p2 hB1
   go_wp2_with fail
   go_ret
   refine⟨?_,HB1.out⟩
   rw[HE.out];rfl
  ·have HE:Hid (gdE c sz dz=0):=gdE_zero.2 ⟨h3,by omega⟩
   clear h3
   go_wp2_with fail
   refine HC.mono ?_
   rintro e v1 ⟨rfl,hB1⟩
   have HB1:Hid (Below w.heap.size w v1):=HB0.trans (hB1.mono HB0.size)
   have q1:=(HP.go hB1).c1
   have hl0:((sz.length:Int) == 0)=false:=by rw[beq_eq_false_iff_ne];omega
   clear p0 p1 p2 hB1
   go_wp2_with fail
   go_ret
   refine⟨?_,HB1.out⟩
   rw[HE.out];rfl
 ·have HE:Hid (gdE c sz dz=flawE c sz dz):=gdE_flaw h3
  have H3:Hid (flawE c sz dz≠0):=h3
  have HC:Hid (Calls Tryz.prog 7 #[.agg #[.bool c,.slice sa sz.length sc,.slice da dz.length dc]] W0 fun e w'=>e=.returned (.iface 43 (.int .i64 (flawE c sz dz)))/\Below W0.heap.size W0 w'):=
   check_no c sa sc sz da dc dz h1 h2 W0 ((HI.1.below HB0.out).mono HB0.size) ((HI.2.below HB0.out).mono HB0.size) h3
  clear h3
  go_wp2_with fail
  refine HC.mono ?_
  rintro e v1 ⟨rfl,hB1⟩
  have HB1:Hid (Below w.heap.size w v1):=HB0.trans (hB1.mono HB0.size)
  clear p0 p1 p2 hB1
  go_wp2_with fail
  go_ret
  refine⟨?_,HB1.out⟩
  rw[HE.out,errV_pos H3.out];rfl
theorem up_cl {dz:List Int}{long x y:Nat}(h:y<x):cmpL (rwL dz long x) (rwL dz long y)<0 ↔ ltR false dz long x y=true:=by
 rw[ltR_iff]
 simp only[cmR,Bool.false_eq_true,if_false]
 exact⟨fun h=>.inl h,fun q=>by omega⟩
theorem up_holds:CUp:=by
 intro c sa sc sz da dc dz w h1 h2 hs hd
 have HI:Hid (IsC w.heap.size w sa sz sc/\IsC w.heap.size w da dz dc):=⟨hs,hd⟩
 obtain⟨W0,hW0⟩:∃ W0,W0=w.alloc (.cells #[.bool c,.slice sa sz.length sc,.slice da dz.length dc] 24):=⟨_,rfl⟩
 have HB0:Hid (Below w.heap.size w W0):=by rw[hW0];exact (Below.refl _ w).alloc (Nat.le_refl _) _
 have HP:Hid (Abx W0 w.heap.size (.bool c) (.slice sa sz.length sc) (.slice da dz.length dc)):=by rw[hW0];exact Abx.new w _ _ _
 have HC:Hid (Calls Tryz.prog 38 #[.agg #[.bool c,.slice sa sz.length sc,.slice da dz.length dc]] W0 fun r w'=>r=.returned (errV (gdE c sz dz))/\Below W0.heap.size W0 w'):=gchk_any c sa sc sz da dc dz h1 h2 W0 ((HI.1.1.below HB0.out).mono HB0.size) ((HI.2.1.below HB0.out).mono HB0.size)
 have p0:=HP.c0
 have p1:=HP.c1
 have p2:=HP.c2
 clear hs hd
 by_cases h3:gdE c sz dz=0
 ·have H3:Hid (gdE c sz dz=0):=h3
  rw[h3,show errV 0=.nilIface from rfl] at HC
  go_enter Tryz.func20,Tryz.ntmps20
  go_upto_region 1 with fail
  rw[<-hW0]
  clear hW0
  go_wp2_with fail
  refine HC.mono ?_
  rintro e v1 ⟨rfl,hB1⟩
  have HB1:Hid (Below w.heap.size w v1):=HB0.trans (hB1.mono HB0.size)
  have hA1:=HP.go hB1
  have q0:=hA1.c0
  have q1:=hA1.c1
  have q2:=hA1.c2
  have hnR:=nR_is h3
  have hfl:=flawE_short (gdE_zero.1 h3).1
  have HRW:Hid (Calls Tryz.prog 21 #[.agg #[.bool c,.slice sa sz.length sc,.slice da dz.length dc]] v1 (RwsP da dc (nR sz) (lR sz dz) v1)):=by
   rw[lR_is]
   exact rows_any c sa sc sz da dc dz (nR sz) hnR.1 hnR.2 (gdE_zero.1 h3).2 hfl.2 v1 ((HI.1.1.below HB1.out).mono HB1.size) ((HI.2.below HB1.out).mono HB1.size)
  have HN:Hid (nR sz<=4096/\dz.length<=4096):=⟨hnR.2,hfl.2⟩
  clear p0 p1 p2 hB1 hA1 hnR hfl h3
  go_wp2_with fail
  refine HRW.mono ?_
  rintro e v2 ⟨B,rfl,hBl,hrow2,hB2⟩
  have HB2:Hid (Below w.heap.size w v2):=HB1.trans (hB2.mono HB1.size)
  have HO:Hid (Calls Tryz.prog 39 #[.slice (some ⟨B,0,none⟩) (nR sz) (nR sz),.func (.func 40) #[] #[]] v2 (OrP (grd (ltR false dz (lR sz dz)) (nR sz)) v2)):=
   order_any 40 (enters_of Tryz.func40 (by kernel_rfl) rfl) _ up1_any da dc dz (nR sz) (lR sz dz) (lR_le sz dz) HN.1 HN.2 (ltR false dz (lR sz dz)) (ltR_tot (lR_le sz dz)) (fun x y _ _ h=>up_cl h) B (nR sz) v2 ((HI.2.below HB2.out).mono HB2.size) hrow2
  clear hrow2 hBl hB2
  go_wp2_with fail
  refine HO.mono ?_
  rintro e v3 ⟨g,gc,rfl,hN3,hB3⟩
  have HN3:Hid (NewC w.heap.size v3 g (grd (ltR false dz (lR sz dz)) (nR sz)) gc):=hN3.low HB2.size
  have HB3:Hid (Below w.heap.size w v3):=HB2.trans (hB3.mono HB2.size)
  clear hN3 hB3
  generalize hG:grd (ltR false dz (lR sz dz)) (nR sz)=G at *
  have HG:Hid (gdO false sz dz=G):=hG
  clear hG
  go_wp2_with fail
  go_ret2
  rw[HG.out]
  exact UL.mkok H3.out HN3.out HB3.out
 ·have H3:Hid (gdE c sz dz≠0):=h3
  rw[errV_pos h3] at HC
  clear h3
  go_enter Tryz.func20,Tryz.ntmps20
  go_upto_region 1 with fail
  rw[<-hW0]
  clear hW0
  go_wp2_with fail
  refine HC.mono ?_
  rintro e v1 ⟨rfl,hB1⟩
  have HB1:Hid (Below w.heap.size w v1):=HB0.trans (hB1.mono HB0.size)
  clear p0 p1 p2 hB1
  generalize gdE c sz dz=e0 at *
  go_wp2_with fail
  go_ret2
  exact UL.mkno rfl H3.out HB1.out
theorem srD_take {dz:List Int}{long k:Nat}{p:List Int}(hk:k<p.length):srD dz long (p.take (k+1))=srD dz long (p.take k)++rwL dz long (nth p k).toNat:=by
 unfold srD
 rw[take_snoc p k hk,List.map_append,List.flatten_append]
 simp
theorem srD_take_len {dz:List Int}{n long k:Nat}{p:List Int}(h:n*long<=dz.length)(hp:IsOrd p)(hl:p.length=n)(hk:k<=n):(srD dz long (p.take k)).length=k*long:=by
 unfold srD
 rw[flat_length (long:=long) fun r hr=>?_,List.length_map,List.length_take,hl,Nat.min_eq_left hk]
 obtain⟨x,hx,rfl⟩:=List.mem_map.1 hr
 obtain⟨j,hj,rfl⟩:=List.mem_iff_getElem.1 (List.mem_of_mem_take hx)
 have:=ord_at hp hj
 rw[<-nth_get p j hj]
 exact rwL_length h (by omega)
theorem make_cap10 (N:Nat)(h:N<=100000)(W:World):(Instr.makeSlice 22 (.int .i64 0) (.int .i64 (N:Int))).run Tryz.prog W=.ok (.slice (some ⟨W.heap.size,0,none⟩) 0 N) (W.alloc (.cells (madeCells #[.int .i64 0] N) 3)):=by
 obtain⟨i0,hi,hz0,hz1,hz2⟩:=info_parts Tryz.infoInt
 have hr:=run_make (P:=Tryz.prog) W 22 3 i0 (.int .i64 0) Tryz.underlying22 hi hz0 .i64 .i64 0 (N:Int) (by omega) (by omega) (by rw[hz2];omega) (by omega)
 rw[hr,hz1,Int.toNat_natCast,Nat.mul_one]
 rfl
section
variable {c : Bool} {sa : Option Addr} {sc : Nat} {sz : List Int} {da : Option Addr} {dc : Nat} {dz : List Int} {w : World}
theorem gup_ok (H:CUp)(h1:sz.length<=9223372036854775807)(h2:dz.length<=9223372036854775807)(hs:IsC w.heap.size w sa sz sc)(hd:IsC w.heap.size w da dz dc)(he:gdE c sz dz=0):
  Calls Tryz.prog 20 #[.agg #[.bool c,.slice sa sz.length sc,.slice da dz.length dc]] w fun r w'=>∃ g gc,r=.returned (.tuple #[.slice g (gdO false sz dz).length gc,.nilIface])/\NewC w.heap.size w' g (gdO false sz dz) gc/\Below w.heap.size w w':=
 (H c sa sc sz da dc dz w h1 h2 hs hd).mono fun r w' h=>by
  unfold UL at h
  rw[onL_ok he,he] at h
  exact h
theorem gup_no (H:CUp)(h1:sz.length<=9223372036854775807)(h2:dz.length<=9223372036854775807)(hs:IsC w.heap.size w sa sz sc)(hd:IsC w.heap.size w da dz dc)(he:gdE c sz dz≠0):
  Calls Tryz.prog 20 #[.agg #[.bool c,.slice sa sz.length sc,.slice da dz.length dc]] w fun r w'=>∃ g gc,r=.returned (.tuple #[.slice g 0 gc,.iface 43 (.int .i64 (gdE c sz dz))])/\Below w.heap.size w w':=
 (H c sa sc sz da dc dz w h1 h2 hs hd).mono fun r w' h=>by
  unfold UL at h
  rw[onL_no he,errV_pos he] at h
  obtain⟨g,gc,e,_,hB⟩:=h
  exact⟨g,gc,e,hB⟩
end
theorem so_holds:CSo:=by
 intro c sa sc sz da dc dz w h1 h2 hs hd
 have HI:Hid (IsC w.heap.size w sa sz sc/\IsC w.heap.size w da dz dc):=⟨hs,hd⟩
 obtain⟨W1,hW1⟩:∃ W1,W1=(w.alloc (.cells #[.bool c,.slice sa sz.length sc,.slice da dz.length dc] 24)).alloc (.cells #[.bool false,.slice none 0 0,.slice none 0 0] 24):=⟨_,rfl⟩
 have HB0:Hid (Below w.heap.size w W1):=by rw[hW1];exact ((Below.refl _ w).alloc (Nat.le_refl _) _).alloc (by simp) _
 have HP:Hid (Abx W1 w.heap.size (.bool c) (.slice sa sz.length sc) (.slice da dz.length dc)):=by rw[hW1];exact (Abx.new w _ _ _).al _
 have HR0:Hid (Abx W1 (w.heap.size+1) (.bool false) (.slice none 0 0) (.slice none 0 0)):=by rw[hW1];exact Abx.new1 w _ _ _ _
 have p0:=HP.c0
 have p1:=HP.c1
 have p2:=HP.c2
 have hsW:IsC W1.heap.size W1 sa sz sc:=(HI.1.below HB0.out).mono HB0.size
 have hdW:IsC W1.heap.size W1 da dz dc:=(HI.2.below HB0.out).mono HB0.size
 clear hs hd
 go_enter Tryz.func11,Tryz.ntmps11
 go_upto_region 1 with fail
 rw[<-hW1]
 clear hW1
 by_cases h3:gdE c sz dz=0
 ·have H3:Hid (gdE c sz dz=0):=h3
  have HU:=gup_ok (c:=c) up_holds h1 h2 hsW hdW h3
  have HUU:Hid (Calls Tryz.prog 20 #[.agg #[.bool c,.slice sa sz.length sc,.slice da dz.length dc]] W1 fun r w'=>∃ g gc,r=.returned (.tuple #[.slice g (gdO false sz dz).length gc,.nilIface])/\NewC W1.heap.size w' g (gdO false sz dz) gc/\Below W1.heap.size W1 w'):=HU
  have hnR:=nR_is h3
  have hfl:=flawE_short (gdE_zero.1 h3).1
  have h0s:=(gdE_zero.1 h3).2
  have HN:Hid (nR sz<=4096/\dz.length<=4096/\sz.length<=6):=⟨hnR.2,hfl.2,hfl.1⟩
  obtain⟨O,hO⟩:∃ O,O=gdO false sz dz:=⟨_,rfl⟩
  rw[<-hO] at HUU
  have HOO:Hid (O=gdO false sz dz/\O.length=nR sz/\IsOrd O):=⟨hO,by rw[hO];exact gdO_length,by rw[hO];exact gdO_ord false sz dz⟩
  have HNr:Hid (nth sz 0=((nR sz:Nat):Int)):=hnR.1
  clear HU hsW hdW hO hnR hfl h3
  go_wp2_with fail
  refine HUU.mono ?_
  rintro e v1 ⟨g,gc,rfl,hN1,hB1⟩
  have HB1:Hid (Below w.heap.size w v1):=HB0.trans (hB1.mono HB0.size)
  have HA1:Hid (Abx v1 w.heap.size (.bool c) (.slice sa sz.length sc) (.slice da dz.length dc)):=HP.go hB1
  have HR1:Hid (Abx v1 (w.heap.size+1) (.bool false) (.slice none 0 0) (.slice none 0 0)):=HR0.go hB1
  have HN1:Hid (NewC W1.heap.size v1 g O gc):=hN1
  have HRW:Hid (Calls Tryz.prog 21 #[.agg #[.bool c,.slice sa sz.length sc,.slice da dz.length dc]] v1 (RwsP da dc (nR sz) (lR sz dz) v1)):=by
   rw[lR_is]
   exact rows_any c sa sc sz da dc dz (nR sz) HNr.out HN.1 h0s HN.2.1 v1 ((HI.1.1.below HB1.out).mono HB1.size) ((HI.2.below HB1.out).mono HB1.size)
  have q0:=HA1.c0
  have q1:=HA1.c1
  have q2:=HA1.c2
  clear p0 p1 p2 hN1 hB1
  go_wp2_with fail
  refine HRW.mono ?_
  rintro e u ⟨B,rfl,hBl,hrow2,hB2⟩
  have HB2:Hid (Below w.heap.size w u):=HB1.trans (hB2.mono HB1.size)
  have HA2:Hid (Abx u w.heap.size (.bool c) (.slice sa sz.length sc) (.slice da dz.length dc)):=HA1.go hB2
  have HR2:Hid (Abx u (w.heap.size+1) (.bool false) (.slice none 0 0) (.slice none 0 0)):=HR1.go hB2
  have HN2:Hid (IsInts u.heap.size u g O):=((HN1.go hB2).ints).1
  have HRo:Hid (u.rowIs B 22 (nR sz) (rwV da dc (lR sz dz))):=hrow2
  have HDu:Hid (IsC u.heap.size u da dz dc):=(HI.2.below HB2.out).mono HB2.size
  obtain⟨N,hN⟩:∃ N,N=dz.length:=⟨_,rfl⟩
  have hmk:=make_cap10 N (by have:=HN.2.1;omega)
  have a2:=HA2.c2
  rw[<-hN] at a2
  have HNn:Hid (N=dz.length):=hN
  have hBu:B<u.heap.size:=hrow2.lt
  clear q0 q1 q2 hrow2 hB2 hN hBl
  go_wp2_with fail
  clear hmk a2
  obtain⟨n,hn⟩:∃ n,n=nR sz:=⟨_,rfl⟩
  obtain⟨lo,hlo⟩:∃ lo,lo=lR sz dz:=⟨_,rfl⟩
  have HLe:Hid (n*lo<=dz.length/\n<=4096/\dz.length<=4096):=⟨by rw[hn,hlo];exact lR_le sz dz,by rw[hn];exact HN.1,HN.2.1⟩
  rw[<-hn,<-hlo] at HRo
  rw[<-hn] at HOO
  have HLO:Hid (lo=lR sz dz):=hlo
  rw[<-hn]
  clear hn hlo HNr HRW
  go_loopw [7,27] (fun v i wr=>∃ k:Nat,k<=n/\i=.int .i64 k/\wr.ownsRow u.heap.size 3 1 v (k*lo) ((srD dz lo (O.take k)).map (Value.int .i64))/\Below u.heap.size u wr) (fun _ i _=>n-(intOf i).toNat)
  case atStart=>
   refine⟨0,Nat.zero_le _,rfl,?_,(Below.refl _ u).alloc (Nat.le_refl _) _⟩
   rw[Nat.zero_mul]
   exact World.ownsRow_made u _ N (Nat.le_refl _) (by have:=HNn.out;have:=HN.2.1;unfold maxLen;omega) (by simp[madeCells])
  case round=>
   obtain⟨k,hk,rfl,hown,hB⟩:=hrel
   have HB:Hid (Below u.heap.size u wr):=hB
   have hn4:n<=4096:=HLe.2.1
   have hol1:n<=O.length:=by have:=HOO.2.1;omega
   have hol2:O.length<=n:=by have:=HOO.2.1;omega
   obtain⟨M,hM⟩:∃ M,M=k*lo:=⟨_,rfl⟩
   have hlen:(srD dz lo (O.take k)).length=M:=by rw[hM];exact srD_take_len HLe.1 HOO.2.2 HOO.2.1 hk
   obtain⟨g7,c7,rfl,hN7⟩:=own_cap hown
   rw[hlen] at hown ⊢
   rw[<-hM] at hown
   have HW:Hid (wr.ownsRow u.heap.size 3 1 (.slice g7 M c7) M ((srD dz lo (O.take k)).map (Value.int .i64))):=hown
   have HN7:Hid (NewC u.heap.size wr g7 (srD dz lo (O.take k)) c7):=hN7
   have HM:Hid (M=k*lo/\(srD dz lo (O.take k)).length=M):=⟨hM,hlen⟩
   clear hown hN7 hM hlen
   by_cases hlt:k<n
   ·obtain⟨bo,oo,rfl,hbo,hcO⟩:=(HN2.below hB).at (q:=k) (by omega)
    have ck:=hcO k (by omega)
    have hox:=ord_at HOO.2.2 (i:=k) (by omega)
    obtain⟨x,hx⟩:∃ x:Nat,x=(nth O k).toNat:=⟨_,rfl⟩
    have hxn:x<n:=by omega
    rw[show nth O k=(x:Int) by omega] at ck
    obtain⟨ad,cp,ec,hIr⟩:=rwV_at (W:=wr) (n₀:=u.heap.size) (HDu.below hB) HLe.1 (HRo.of_block (hB.block B hBu)) hxn
    have hll:=rwL_length HLe.1 hxn
    rw[hll] at ec
    have HX:Hid (x=(nth O k).toNat):=hx
    have hll4:M+lo<=4096:=by
     have h6:=Nat.mul_le_mul_right lo (show k+1<=n by omega)
     have h7:=HM.1
     have h8:=HLe.out
     rw[Nat.add_mul,Nat.one_mul] at h6
     omega
    have HLr:Hid ((rwL dz lo x).length=lo/\IsInts wr.heap.size wr ad (rwL dz lo x)):=⟨hll,hIr.mono hB.size⟩
    clear hcO hox hx hll hIr hB
    go_wp2_with (at_builtin;refine app_all rfl _ _ rfl _ u.heap.size (.slice g7 M c7) (srD dz lo (O.take k)) M HM.2 ad (rwL dz lo x) lo cp HLr.1 rfl rfl HW.out HLr.2 (by omega) HB.size ?_;intro g1 gc1 w1 hown1 hN1 hB1)
    refine⟨⟨k+1,by omega,by go_num,?_,HB.trans hB1⟩,by simp[intOf];omega⟩
    rw[srD_take (by omega),<-HX.out,Nat.add_mul,Nat.one_mul,<-HM.1]
    exact hown1
   ·obtain rfl:k=n:=by omega
    have HT:Hid (srD dz lo (O.take k)=gdD sz dz):=by
     show _=_
     rw[List.take_of_length_le hol2]
     unfold gdD
     rw[HOO.1,HLO.out]
    rw[HT.out] at HN7 HM
    have HA:Hid (Abx wr w.heap.size (.bool c) (.slice sa sz.length sc) (.slice da dz.length dc)):=HA2.go hB
    have HRR:Hid (Abx wr (w.heap.size+1) (.bool false) (.slice none 0 0) (.slice none 0 0)):=HR2.go hB
    have HBw:Hid (Below w.heap.size w wr):=HB2.trans (hB.mono HB2.size)
    have HY:Hid (NewC w.heap.size wr g7 (gdD sz dz) c7):=HN7.low HB2.size
    have hR1:w.heap.size+1<u.heap.size:=HR2.lt
    have e0:=HA.c0
    have e1:=HA.c1
    have hl6:=HN.2.2
    clear hB hlt hk
    go_wp2_with fail
    refine bT 7 (fun w'=>w'.cell? ⟨w.heap.size,0,none⟩=some (.bool c)/\w'.cell? ⟨w.heap.size,1,none⟩=some (.slice sa sz.length sc)) 9 (⟨e0,e1⟩) fun hq0=>?_
    refine pT 0 hq0 ?_;refine lT 1 hq0 ?_;refine pT 2 hq0 ?_;refine lT 3 hq0 ?_;refine pT 5 hq0 ?_
    clear hq0
    refine oT 4 fun K hK=>?_
    go_simp
    go_wp2_with (go_at_call 22;refine (clone_any sa sc sz (by omega) wr.drew ((HI.1.1.below HBw.out).mono HBw.size)).mono ?_;rintro e w3 ⟨ga,gac,rfl,hN,hBc⟩)
    have HBc:Hid (Below wr.heap.size wr w3):=(Below.refl _ wr).drew.trans hBc
    have HNn3:Hid (NewC wr.heap.size w3 ga sz gac):=hN
    have A3:=HA.go HBc.out
    have R3:=HRR.go HBc.out
    have r0:=R3.c0
    have r1:=R3.c1
    have r2:=R3.c2
    have f0:=R3.fr 0
    have f1:=R3.fr 1
    have f2:=R3.fr 2
    clear hN hBc
    refine hK.out _ _ (fun _=>⟨A3.c0,A3.c1⟩) ?_
    clear hK K
    refine pT 6 (⟨A3.c0,A3.c1⟩) ?_
    refine oT 7 fun K hK=>?_
    go_simp
    refine hK.out _ _ (fun h=>absurd h (by decide)) ?_
    clear hK K
    refine oT 8 fun K hK=>?_
    go_simp
    refine hK.out _ _ (fun h=>absurd h (by decide)) ?_
    clear hK K
    refine dT ?_
    go_wp2_with fail
    have F:=R3.set3 (.bool c) (.slice ga sz.length gac) (.slice g7 M c7)
    have q0:=F.c0
    have q1:=F.c1
    have q2:=F.c2
    refine bodyPost_ret (v:=.tuple #[.agg #[.bool c,.slice ga sz.length gac,.slice g7 M c7],.nilIface]) (by simp[results,Tryz.results11,go_sem,q0,q1,q2]) rfl ?_
    have hwr:w.heap.size+1<wr.heap.size:=HRR.lt
    have hX:=(HNn3.set3 (b:=w.heap.size+1) (by omega) (.bool c) (.slice ga sz.length gac) (.slice g7 M c7)).low (lo':=w.heap.size) (by omega)
    have hY:=(((HN7.out).go HBc.out).set3 (b:=w.heap.size+1) (by omega) (.bool c) (.slice ga sz.length gac) (.slice g7 M c7)).low (lo':=w.heap.size) (by omega)
    have hZ:=bel_set3 (HBw.trans (HBc.mono HBw.size)) (b:=w.heap.size+1) (by omega) (.bool c) (.slice ga sz.length gac) (.slice g7 M c7)
    have hUB:=ub_ok (c:=c) H3.out hX hY hZ
    rw[HM.2] at hUB
    exact hUB
 ·have H3:Hid (gdE c sz dz≠0):=h3
  have HU:Hid (Calls Tryz.prog 20 #[.agg #[.bool c,.slice sa sz.length sc,.slice da dz.length dc]] W1 fun r w'=>∃ g gc,r=.returned (.tuple #[.slice g 0 gc,.iface 43 (.int .i64 (gdE c sz dz))])/\Below W1.heap.size W1 w'):=gup_no (c:=c) up_holds h1 h2 hsW hdW h3
  clear hsW hdW h3
  go_wp2_with fail
  refine HU.mono ?_
  rintro e v1 ⟨g,gc,rfl,hB1⟩
  have HB1:Hid (Below w.heap.size w v1):=HB0.trans (hB1.mono HB0.size)
  have R3:Hid (Abx v1 (w.heap.size+1) (.bool false) (.slice none 0 0) (.slice none 0 0)):=HR0.go hB1
  have r0:=R3.c0
  have r1:=R3.c1
  have r2:=R3.c2
  have f0:=R3.fr 0
  have f1:=R3.fr 1
  have f2:=R3.fr 2
  clear p0 p1 p2 hB1 HU
  generalize gdE c sz dz=e0 at *
  go_wp2_with fail
  have F:=R3.set3 (.bool false) (.slice none 0 0) (.slice none 0 0)
  have q0:=F.c0
  have q1:=F.c1
  have q2:=F.c2
  exact bodyPost_ret (v:=.tuple #[.agg #[.bool false,.slice none 0 0,.slice none 0 0],.iface 43 (.int .i64 e0)]) (by simp[results,Tryz.results11,go_sem,q0,q1,q2]) rfl (ub_no rfl H3.out (bel_set3 HB1.out (by omega) _ _ _))
def pkR (bys:List Ar):List (List Int):=bys.map fun b=>b.2.2
def pkF:List Ar->List Int->List Int
 | [],_=>[]
 | b::r,t=>place b.2.1 (t.take b.2.1.length)::pkF r (t.drop b.2.1.length)
theorem gaT_cons (r:List Int)(rs:List (List Int))(x:Int)(t:List Int):gaT (r::rs) (x::t)=nth r x.toNat::gaT rs t:=by
 unfold gaT
 rw[List.length_cons,List.range_succ_eq_map,List.map_cons,List.map_map]
 rfl
theorem pkR_prod:∀ (bys:List Ar),flL bys=0->prod (gaS (pkR bys))=prod (pkS bys)
 | [],_=>rfl
 | b::r,h=>by
  obtain⟨f1,f2⟩:=flL_cons h
  show (b.2.2.length:Int)*prod (gaS (pkR r))=prod (b.2.1++pkS r)
  rw[prod_append,pkR_prod r f2,(flawE_zero f1).2.1]
theorem pkF_fact:∀ (bys:List Ar) (t:List Int),flL bys=0->insB (pkS bys) t=true->insB (gaS (pkR bys)) (pkF bys t)=true/\place (gaS (pkR bys)) (pkF bys t)=place (pkS bys) t/\gaT (pkR bys) (pkF bys t)=pkT bys t
 | [],t,_,ht=>by
  match t,ht with
  | [],_=>exact⟨rfl,rfl,rfl⟩
 | b::r,t,h,ht=>by
  obtain⟨f1,f2⟩:=flL_cons h
  have hlen:=insB_len ht
  simp only[pkS,List.length_append] at hlen
  have hk:(t.take b.2.1.length).length=b.2.1.length:=by rw[List.length_take];omega
  have ht':insB (b.2.1++pkS r) (t.take b.2.1.length++t.drop b.2.1.length)=true:=by rw[List.take_append_drop];exact ht
  obtain⟨i1,i2⟩:=insB_append hk ht'
  obtain⟨g1,g2,g3⟩:=pkF_fact r _ f2 i2
  have hp:=place_bd i1
  have hd:=(flawE_zero f1).2.1
  have hpl:=place_append (s:=b.2.1) (a:=t.take b.2.1.length) (pkS r) (t.drop b.2.1.length) hk
  rw[List.take_append_drop] at hpl
  refine⟨?_,?_,?_⟩
  ·show insB ((b.2.2.length:Int)::gaS (pkR r)) (place b.2.1 (t.take b.2.1.length)::pkF r (t.drop b.2.1.length))=true
   exact ins_cons.2 ⟨⟨hp.1,by rw[hd];exact hp.2⟩,g1⟩
  ·show place b.2.1 (t.take b.2.1.length)*prod (gaS (pkR r))+place (gaS (pkR r)) (pkF r (t.drop b.2.1.length))=place (b.2.1++pkS r) t
   rw[hpl,g2,pkR_prod r f2]
  ·show gaT (b.2.2::pkR r) (place b.2.1 (t.take b.2.1.length)::pkF r (t.drop b.2.1.length))=_
   rw[gaT_cons,g3]
   rfl
theorem pkR_in:∀ (bys:List Ar),flL bys=0->AllIn (gaS (pkR bys))
 | [],_=>fun y hy=>by cases hy
 | b::r,h=>fun y hy=>by
  obtain⟨f1,f2⟩:=flL_cons h
  have hs:=(flawE_short f1).2
  rcases List.mem_cons.1 hy with e | e
  ·have e':y=(b.2.2.length:Int):=e
   omega
  ·exact pkR_in r f2 y e
theorem pkR_length (bys:List Ar):(pkR bys).length=bys.length:=by simp[pkR]
theorem pkR_err {bys:List Ar}(hf:flL bys=0)(hl:bys.length<=6)(he:errOf (pkS bys)=0):errOf (gaS (pkR bys))=0:=
 errOf_zero.2 ⟨by rw[gaS_length,pkR_length];exact hl,pkR_in bys hf,by rw[pkR_prod bys hf];exact (errOf_zero.1 he).2.2⟩
theorem pk_ga {bys:List Ar}(hf:flL bys=0)(hl:bys.length<=6)(he:errOf (pkS bys)=0){k:Nat}(hk:k<(prod (pkS bys)).toNat):pkT bys (cr (pkS bys) k)=gaT (pkR bys) (cr (gaS (pkR bys)) k):=by
 obtain⟨c1,c2⟩:=cr_in he hk
 obtain⟨g1,g2,g3⟩:=pkF_fact bys _ hf c1
 have:=(cr_place (pkR_err hf hl he) g1).1
 rw[g2,c2,Int.toNat_natCast] at this
 rw[<-g3,<-this]
theorem rl_pkR (bs:List ArV)(k:Nat):rl (pkR (bya bs)) k=(arz bs k).2.2.2:=by
 unfold rl pkR bya arz
 simp only[List.getD_eq_getElem?_getD,List.getElem?_map]
 cases bs[k]?<;>rfl
end Go.Proofs.YtkmmkcpfhnifhaaGreat
namespace Go.Proofs.YtkmmkcpfhnifhaaGreat
open Go.RowKit Go.Shelf
attribute [local go_sem] Oper.semAt_some
def av (b:ArV):Value:=.agg #[.bool b.1,.slice b.2.1.1.1 b.2.1.2.length b.2.1.1.2,.slice b.2.2.1.1 b.2.2.2.length b.2.2.1.2]
theorem IsAs.cells {n:Nat}{W:World}{a:Option Addr}{bs:List ArV}(h:IsAs n W a bs){j:Nat}(hj:j<bs.length):∃ b off,a=some ⟨b,off,none⟩/\b<n/\W.cell? ⟨b,off+j*3,none⟩=some (.bool (arz bs j).1)/\W.cell? ⟨b,off+j*3+1,none⟩=some (.slice (arz bs j).2.1.1.1 (arz bs j).2.1.2.length (arz bs j).2.1.1.2)/\W.cell? ⟨b,off+j*3+2,none⟩=some (.slice (arz bs j).2.2.1.1 (arz bs j).2.2.2.length (arz bs j).2.2.1.2):=by
 obtain⟨b,off,e,hb,hc⟩:=h.at hj
 exact⟨b,off,e,hb,hc j hj⟩
theorem IsC.kept7 {n Bs:Nat}{W W':World}{a:Option Addr}{zs:List Int}{cap:Nat}(hk:Kpt n Bs W W')(h:IsC n W a zs cap):IsC n W' a zs cap:=⟨h.1.kept hk,h.2⟩
theorem IsAs.kept {n Bs:Nat}{W W':World}{a:Option Addr}{bs:List ArV}(hk:Kpt n Bs W W')(h:IsAs n W a bs):IsAs n W' a bs:=by
 refine⟨?_,fun j hj=>⟨(h.2 j hj).1,(h.2 j hj).2.1,(h.2 j hj).2.2.1.kept7 hk,(h.2 j hj).2.2.2.1.kept7 hk,(h.2 j hj).2.2.2.2⟩⟩
 rcases h.1 with e | ⟨b,off,e,hb,hc⟩
 ·exact .inl e
 ·exact .inr ⟨b,off,e,hb,fun j hj=>⟨(World.cell?_of_block (w:=W) (hk b (.inl hb))).trans (hc j hj).1,(World.cell?_of_block (w:=W) (hk b (.inl hb))).trans (hc j hj).2.1,(World.cell?_of_block (w:=W) (hk b (.inl hb))).trans (hc j hj).2.2⟩⟩
theorem ba1_in (F:Fence)(n:Nat)(hf1:F.fn 157)(hro:F.round=none)(hn:1<=n)(l Bs n₀:Nat)(a:Option Addr)(cap:Nat)(bs:List ArV)(hreach:bs.length<=9223372036854775807)(J Jx:List (Ax bs.length)->World->Prop)
  (hY:∀ pre x W,J pre W->pre.length<bs.length->YieldAt F (n-1) Tryz.prog l #[.int .i64 (x.1:Int),av (arz bs x.1)] W fun e W'=>
   (e=.returned (.bool true)/\J (pre++[x]) W'/\Kpt n₀ Bs W W')\/(e=.returned (.bool false)/\Jx (pre++[x]) W'))
  (W:World)(hBs:W.cell? ⟨Bs,0,none⟩=some (.slice a bs.length cap))(hI:IsAs n₀ W a bs)(h0:J [] W):
  CallsIn F n Tryz.prog 157 #[.func (.yield l) #[] #[],.pointer (some ⟨Bs,0,none⟩)] W fun e W'=>(∃ v,e=.returned v) ∧
   ((∃ ys,ys=dn bs.length bs.length/\J ys W')\/(∃ pre,(∃ k,k<=bs.length/\pre=dn bs.length k)/\Jx pre W')):=by
 refine callsIn_of_wp Tryz.func157 rfl hf1 ?_ hro
 simp only[Tryz.ntmps157,List.size_toArray,List.length_cons,List.length_nil,Nat.reduceAdd,Nat.reduceSub,Array.replicate_succ,Array.replicate_zero,List.push_toArray,List.append_toArray,List.nil_append,List.cons_append]
 gi_wp2
 gi_loopw [3] (fun i wr=>((∃ q:Nat,q<bs.length/\i=.int .i64 q/\J (dn bs.length (bs.length-1-q)) wr)\/(i=.int .i64 (-1)/\J (dn bs.length bs.length) wr))/\Kpt n₀ Bs W wr)
  (fun i _=>(intOf i+1).toNat)
 case atStart=>
  refine⟨?_,Kpt.refl _ _ _⟩
  by_cases hz:bs.length=0
  ·right
   refine⟨int_eq (by omega),?_⟩
   have:dn bs.length bs.length=[]:=by rw[hz];rfl
   rw[this];exact h0
  ·left
   refine⟨bs.length-1,by omega,int_eq (by omega),?_⟩
   have:bs.length-1-(bs.length-1)=0:=by omega
   rw[this];exact h0
 case round=>
  obtain⟨hc,hkp⟩:=hrel
  have hBs':wr.cell? ⟨Bs,0,none⟩=some (.slice a bs.length cap):=(World.cell?_of_block (w:=W) (hkp Bs (.inr rfl))).trans hBs
  rcases hc with ⟨q,hq,rfl,hJs⟩ | ⟨rfl,hJs⟩
  ·obtain⟨b,off,rfl,hb,cc0,cc1,cc2⟩:=(hI.kept hkp).cells hq
   obtain⟨fn,tmps,assign,body,hy,hR⟩:=hY _ ⟨q,hq⟩ wr hJs (by rw[dn_length _ _ (by omega)];omega)
   dsimp only[av] at hy
   clear hY
   gi_wp2
   refine hR.mono ?_
   rintro e W3 (⟨rfl,hJ3,hk3⟩ | ⟨rfl,hJx3⟩)
   ·gi_wp2
    go_roundw
    case rel=>
     refine⟨?_,hkp.trans hk3⟩
     rw[<-dn_next] at hJ3
     by_cases h1:q=0
     ·right
      subst h1
      exact⟨int_eq (by omega),hJ3⟩
     ·left
      refine⟨q-1,by omega,int_eq (by omega),?_⟩
      have:bs.length-1-(q-1)=bs.length-q:=by omega
      rw[this];exact hJ3
    case measure=>simp[intOf]
   ·gi_wp2
    refine bodyPost_ret (results_none rfl _ _ _) rfl ?_
    exact⟨⟨_,rfl⟩,.inr ⟨_,⟨bs.length-q,by omega,(dn_next _ _ _).symm⟩,hJx3⟩⟩
  ·gi_wp2
   go_end0
   exact⟨⟨_,rfl⟩,.inl ⟨_,rfl,hJs⟩⟩
theorem ba_in (F:Fence)(n:Nat)(hf:F.fn 89)(hro:F.round=none)(a:Option Addr)(len cap:Nat)(w:World):
  CallsIn F n Tryz.prog 89 #[.slice a len cap] w fun e w'=>e=.returned (.func (.func 157) #[] #[.pointer (some ⟨w.heap.size,0,none⟩)])/\w'=w.alloc (.cells #[.slice a len cap] 38):=by
 refine callsIn_of_wp Tryz.func89 rfl hf ?_ hro
 simp only[Tryz.ntmps89,List.size_toArray,List.length_cons,List.length_nil,Nat.reduceAdd,Nat.reduceSub,Array.replicate_succ,Array.replicate_zero,List.push_toArray,List.append_toArray,List.nil_append,List.cons_append]
 gi_wp2
 go_ret
 exact⟨rfl,rfl⟩
theorem ba_stops (F:Fence)(n:Nat)(hf1:F.fn 157)(hro:F.round=none)(hn:1<=n)(Bs n₀:Nat)(a:Option Addr)(cap:Nat)(bs:List ArV)(hreach:bs.length<=9223372036854775807)(w:World)(hBs:Bs<w.heap.size)(hn₀:n₀<=w.heap.size)
  (hc:w.cell? ⟨Bs,0,none⟩=some (.slice a bs.length cap))(hI:IsAs n₀ w a bs):
  SeqStopsK F n Tryz.prog 157 #[.pointer (some ⟨Bs,0,none⟩)] (fun x:Ax bs.length=>#[Value.int .i64 (x.1:Int),av (arz bs x.1)]) (Kpt n₀ Bs) (fun ys=>ys=dn bs.length bs.length)
   (fun pre=>∃ k,k<=bs.length/\pre=dn bs.length k) bs.length w:=fun l J Jx W hW _ _ hY h0=>
 ba1_in F n hf1 hro hn l Bs n₀ a cap bs hreach J Jx hY W ((hW.cell (p:=⟨Bs,0,none⟩) hBs).trans hc) (hI.below (hW.mono hn₀)) h0
end Go.Proofs.YtkmmkcpfhnifhaaGreat
namespace Go.Proofs.YtkmmkcpfhnifhaaGreat
open Go.RowKit
def alE (c:Bool)(s dz:List Int)(bys:List Ar):Int:=if flawE c s dz≠0 then flawE c s dz else flL bys
theorem flL_ok {x:Ar}(r:List Ar)(h:flawE x.1 x.2.1 x.2.2=0):flL (x::r)=flL r:=if_neg (not_not_intro h)
theorem flL_no {x:Ar}(r:List Ar)(h:flawE x.1 x.2.1 x.2.2≠0):flL (x::r)=flawE x.1 x.2.1 x.2.2:=if_pos h
theorem alE_ok {c:Bool}{s dz:List Int}(l:List Ar)(h:flawE c s dz=0):alE c s dz l=flL l:=if_neg (not_not_intro h)
theorem alE_no {c:Bool}{s dz:List Int}(l:List Ar)(h:flawE c s dz≠0):alE c s dz l=flawE c s dz:=if_pos h
theorem alE_zero {c:Bool}{s dz:List Int}{bys:List Ar}(h:alE c s dz bys=0):flawE c s dz=0/\flL bys=0:=by
 by_cases e:flawE c s dz=0
 ·rw[alE_ok _ e] at h;exact⟨e,h⟩
 ·rw[alE_no _ e] at h;exact absurd h e
theorem pkE_al {c:Bool}{s dz:List Int}{bys:List Ar}(h:alE c s dz bys≠0):pkE c s dz bys=alE c s dz bys:=by
 unfold pkE
 by_cases e:flawE c s dz=0
 ·rw[alE_ok _ e] at h ⊢
  rw[if_neg (not_not_intro e),if_pos h]
 ·rw[alE_no _ e,if_pos e]
theorem pkE_nm {c:Bool}{s dz:List Int}{bys:List Ar}(h:alE c s dz bys=0):pkE c s dz bys=nmE s bys:=by
 unfold pkE
 rw[if_neg (not_not_intro (alE_zero h).1),if_neg (not_not_intro (alE_zero h).2)]
theorem flL_append (l r:List Ar)(h:flL l=0):flL (l++r)=flL r:=by
 induction l with
 | nil=>rfl
 | cons x l ih=>
  obtain⟨h1,h2⟩:=flL_cons h
  rw[List.cons_append,flL_ok _ h1,ih h2]
theorem fl_next (bs:List ArV){k:Nat}(h:k<bs.length)(h0:flL ((bya bs).take k)=0)(hf:flawE (arz bs k).1 (arz bs k).2.1.2 (arz bs k).2.2.2=0):flL ((bya bs).take (k+1))=0:=by
 rw[bya_take bs h,flL_append _ _ h0,flL_ok _ hf];rfl
theorem fl_bad (bs:List ArV){k:Nat}(h:k<bs.length)(h0:flL ((bya bs).take k)=0)(hf:flawE (arz bs k).1 (arz bs k).2.1.2 (arz bs k).2.2.2≠0):flL (bya bs)=flawE (arz bs k).1 (arz bs k).2.1.2 (arz bs k).2.2.2:=by
 rw[bya_cut bs h,flL_append _ _ h0]
 exact flL_no _ hf
def ciE (s:List Int)(bys:List Ar):Int:=if bys.length≠s.length then 3 else if chL bys=true then 6 else 0
theorem ciE_zero {s:List Int}{bys:List Ar}:ciE s bys=0 ↔ bys.length=s.length/\chL bys=false:=by
 unfold ciE
 by_cases h:bys.length=s.length
 ·rw[if_neg (not_not_intro h)]
  cases hc:chL bys<;>simp[h]
 ·rw[if_pos h];exact⟨fun e=>absurd e (by decide),fun e=>absurd e.1 h⟩
theorem nmE_ci {s:List Int}{bys:List Ar}(h:ciE s bys≠0):nmE s bys=ciE s bys:=by
 unfold ciE at h ⊢
 unfold nmE
 by_cases h1:bys.length=s.length
 ·rw[if_neg (not_not_intro h1)] at h ⊢
  rw[if_neg (not_not_intro h1)]
  by_cases h2:chL bys=true
  ·rw[if_pos h2,if_pos h2]
  ·rw[if_neg h2] at h;exact absurd rfl h
 ·rw[if_pos h1,if_pos h1]
theorem nmE_err {s:List Int}{bys:List Ar}(h:ciE s bys=0)(he:errOf (pkS bys)≠0):nmE s bys=errOf (pkS bys):=by
 obtain⟨h1,h2⟩:=ciE_zero.1 h
 unfold nmE
 rw[if_neg (not_not_intro h1),if_neg (by rw[h2];decide),if_pos he]
theorem nmE_ix {s:List Int}{bys:List Ar}(h:ciE s bys=0)(he:errOf (pkS bys)=0)(hi:ixB bys s=false):nmE s bys=5:=by
 obtain⟨h1,h2⟩:=ciE_zero.1 h
 unfold nmE
 rw[if_neg (not_not_intro h1),if_neg (by rw[h2];decide),if_neg (not_not_intro he),if_pos hi]
theorem nmE_ok {s:List Int}{bys:List Ar}(h:ciE s bys=0)(he:errOf (pkS bys)=0)(hi:ixB bys s=true):nmE s bys=0:=by
 obtain⟨h1,h2⟩:=ciE_zero.1 h
 exact nmE_zero.2 ⟨h1,h2,he,hi⟩
end Go.Proofs.YtkmmkcpfhnifhaaGreat
