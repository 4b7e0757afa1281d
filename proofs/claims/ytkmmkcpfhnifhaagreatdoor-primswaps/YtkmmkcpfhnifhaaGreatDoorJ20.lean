/- What the program tells, in part. -/
import Derived.Test.YtkmmkcpfhnifhaaGreatDoorJ15
set_option linter.unusedVariables false
set_option maxHeartbeats 4000000
set_option maxRecDepth 100000
namespace Go.Proofs.YtkmmkcpfhnifhaaGreatDoor
open Go.RowKit Go.Shelf
attribute [local go_sem] Oper.semAt_some
theorem bw1_in (F:Fence)(n:Nat)(hf1:F.fn 263)(hro:F.round=none)(hn:1<=n)(l Bs n₀:Nat)(a:Option Addr)(cap:Nat)(zs:List Int)(hreach:zs.length<=9223372036854775807)(J Jx:List (Ax zs.length)->World->Prop)
  (hY:∀ pre x W,J pre W->pre.length<zs.length->YieldAt F (n-1) Tryz.prog l #[.int .i64 (x.1:Int),.int .i64 (nth zs x.1)] W fun e W'=>
   (e=.returned (.bool true)/\J (pre++[x]) W'/\Kpt n₀ Bs W W')\/(e=.returned (.bool false)/\Jx (pre++[x]) W'))
  (W:World)(hBs:W.cell? ⟨Bs,0,none⟩=some (.slice a zs.length cap))(hI:IsInts n₀ W a zs)(h0:J [] W):
  CallsIn F n Tryz.prog 263 #[.func (.yield l) #[] #[],.pointer (some ⟨Bs,0,none⟩)] W fun e W'=>(∃ v,e=.returned v) ∧
   ((∃ ys,ys=dn zs.length zs.length/\J ys W')\/(∃ pre,(∃ k,k<=zs.length/\pre=dn zs.length k)/\Jx pre W')):=by
 refine callsIn_of_wp Tryz.func263 rfl hf1 ?_ hro
 simp only[Tryz.ntmps263,List.size_toArray,List.length_cons,List.length_nil,Nat.reduceAdd,Nat.reduceSub,Array.replicate_succ,Array.replicate_zero,List.push_toArray,List.append_toArray,List.nil_append,List.cons_append]
 gi_wp2
 gi_loopw [3] (fun i wr=>((∃ q:Nat,q<zs.length/\i=.int .i64 q/\J (dn zs.length (zs.length-1-q)) wr)\/(i=.int .i64 (-1)/\J (dn zs.length zs.length) wr))/\Kpt n₀ Bs W wr)
  (fun i _=>(intOf i+1).toNat)
 case atStart=>
  refine⟨?_,Kpt.refl _ _ _⟩
  by_cases hz:zs.length=0
  ·right
   refine⟨int_eq (by omega),?_⟩
   have:dn zs.length zs.length=[]:=by rw[hz];rfl
   rw[this];exact h0
  ·left
   refine⟨zs.length-1,by omega,int_eq (by omega),?_⟩
   have:zs.length-1-(zs.length-1)=0:=by omega
   rw[this];exact h0
 case round=>
  obtain⟨hc,hkp⟩:=hrel
  have hBs':wr.cell? ⟨Bs,0,none⟩=some (.slice a zs.length cap):=(World.cell?_of_block (w:=W) (hkp Bs (.inr rfl))).trans hBs
  rcases hc with ⟨q,hq,rfl,hJs⟩ | ⟨rfl,hJs⟩
  ·obtain⟨b,off,rfl,hb,hcell⟩:=(hI.kept hkp).at hq
   have hcq:=hcell q hq
   obtain⟨fn,tmps,assign,body,hy,hR⟩:=hY _ ⟨q,hq⟩ wr hJs (by rw[dn_length _ _ (by omega)];omega)
   dsimp only at hy
   clear hcell hY
   gi_wp2
   refine hR.mono ?_
   rintro e W3 (⟨rfl,hJ3,hk3⟩ | ⟨rfl,hJx3⟩)
   ·gi_wp2
    go_roundw
    case rel=>
     refine⟨?_,hkp.trans hk3⟩
     rw[<-dn_next] at hJ3
     by_cases h1:q=0
     ·right
      subst h1
      exact⟨int_eq (by omega),hJ3⟩
     ·left
      refine⟨q-1,by omega,int_eq (by omega),?_⟩
      have:zs.length-1-(q-1)=zs.length-q:=by omega
      rw[this];exact hJ3
    case measure=>simp[intOf]
   ·gi_wp2
    refine bodyPost_ret (results_none rfl _ _ _) rfl ?_
    exact⟨⟨_,rfl⟩,.inr ⟨_,⟨zs.length-q,by omega,(dn_next _ _ _).symm⟩,hJx3⟩⟩
  ·gi_wp2
   go_end0
   exact⟨⟨_,rfl⟩,.inl ⟨_,rfl,hJs⟩⟩
theorem bw_in (F:Fence)(n:Nat)(hf:F.fn 241)(hro:F.round=none)(a:Option Addr)(len cap:Nat)(w:World):
  CallsIn F n Tryz.prog 241 #[.slice a len cap] w fun e w'=>e=.returned (.func (.func 263) #[] #[.pointer (some ⟨w.heap.size,0,none⟩)])/\w'=w.alloc (.cells #[.slice a len cap] 25):=by
 refine callsIn_of_wp Tryz.func241 rfl hf ?_ hro
 simp only[Tryz.ntmps241,List.size_toArray,List.length_cons,List.length_nil,Nat.reduceAdd,Nat.reduceSub,Array.replicate_succ,Array.replicate_zero,List.push_toArray,List.append_toArray,List.nil_append,List.cons_append]
 gi_wp2
 go_ret
 exact⟨rfl,rfl⟩
theorem bw_stops (F:Fence)(n:Nat)(hf1:F.fn 263)(hro:F.round=none)(hn:1<=n)(Bs n₀:Nat)(a:Option Addr)(cap:Nat)(zs:List Int)(hreach:zs.length<=9223372036854775807)(w:World)(hBs:Bs<w.heap.size)(hn₀:n₀<=w.heap.size)
  (hc:w.cell? ⟨Bs,0,none⟩=some (.slice a zs.length cap))(hI:IsInts n₀ w a zs):
  SeqStopsK F n Tryz.prog 263 #[.pointer (some ⟨Bs,0,none⟩)] (fun x:Ax zs.length=>#[Value.int .i64 (x.1:Int),Value.int .i64 (nth zs x.1)]) (Kpt n₀ Bs) (fun ys=>ys=dn zs.length zs.length)
   (fun pre=>∃ k,k<=zs.length/\pre=dn zs.length k) zs.length w:=fun l J Jx W hW _ _ hY h0=>
 bw1_in F n hf1 hro hn l Bs n₀ a cap zs hreach J Jx hY W ((hW.cell (p:=⟨Bs,0,none⟩) hBs).trans hc) (hI.below (hW.mono hn₀)) h0
theorem source_any (a:Option Addr)(cap:Nat)(zs:List Int)(a':Option Addr)(cap':Nat)(us:List Int)(p:Nat)(he:errOf zs=0)(hp:(p:Int)<prod zs)(hl:us.length=zs.length)(w:World)(hI:IsInts w.heap.size w a zs)(hI':IsInts w.heap.size w a' us):
  Calls Tryz.prog 233 #[.slice a zs.length cap,.slice a' us.length cap',.int .i64 (p:Nat)] w fun e w'=>e=.returned (.int .i64 (srV zs us p (dn zs.length zs.length)))/\Below w.heap.size w w':=by
 have hz:=errOf_zero.1 he
 have hpos:AllPos zs:=allPos_of_prod hz.2.1 (by omega)
 have hlz:zs.length<=6:=hz.1
 have hp3:(p:Int)<4096:=by omega
 have HA:Hid (AllIn zs):=hz.2.1
 have HP:Hid (AllPos zs):=hpos
 have HL:Hid (us.length=zs.length):=hl
 have hreach:zs.length<=9223372036854775807:=by omega
 clear hz hpos hl he hp
 refine (callsIn_wide (n:=5)).1 ?_
 refine callsIn_of_wp_marks Tryz.func233 rfl trivial ?_ rfl
 simp only[Tryz.ntmps233,List.size_toArray,List.length_cons,List.length_nil,Nat.reduceAdd,Nat.reduceSub,Array.replicate_succ,Array.replicate_zero,List.push_toArray,List.append_toArray,List.nil_append,List.cons_append]
 gi_wp2_with fail
 refine⟨trivial,(bw_in Fence.wide 4 trivial rfl _ _ _ _).mono ?_⟩
 rintro e w' ⟨rfl,rfl⟩
 gi_wp2_with fail
 have b0:=Boxed.new w 25 (.slice a' us.length cap')
 have b1:=Boxed.new (w.alloc (.cells #[.slice a' us.length cap'] 25)) 3 (.int .i64 (p:Int))
 have b2:=Boxed.new ((w.alloc (.cells #[.slice a' us.length cap'] 25)).alloc (.cells #[.int .i64 (p:Int)] 3)) 3 (.int .i64 0)
 have bN:=Boxed.new (((w.alloc (.cells #[.slice a' us.length cap'] 25)).alloc (.cells #[.int .i64 (p:Int)] 3)).alloc (.cells #[.int .i64 0] 3)) 25 (.slice a zs.length cap)
 simp only[World.size_alloc] at b1 b2 bN
 replace b0:=((b0.alloc (.cells #[.int .i64 (p:Int)] 3)).alloc (.cells #[.int .i64 0] 3)).alloc (.cells #[.slice a zs.length cap] 25)
 replace b1:=(b1.alloc (.cells #[.int .i64 0] 3)).alloc (.cells #[.slice a zs.length cap] 25)
 replace b2:=b2.alloc (.cells #[.slice a zs.length cap] 25)
 have hB0:Below w.heap.size w ((((w.alloc (.cells #[.slice a' us.length cap'] 25)).alloc (.cells #[.int .i64 (p:Int)] 3)).alloc (.cells #[.int .i64 0] 3)).alloc (.cells #[.slice a zs.length cap] 25)):=((((Below.refl _ w).alloc (Nat.le_refl _) _).alloc (by simp) _).alloc (by simp;omega) _).alloc (by simp;omega) _
 have b2':Boxed ((((w.alloc (.cells #[.slice a' us.length cap'] 25)).alloc (.cells #[.int .i64 (p:Int)] 3)).alloc (.cells #[.int .i64 0] 3)).alloc (.cells #[.slice a zs.length cap] 25)) (w.heap.size+1+1) 3 (.int .i64 (srV zs us p [])):=b2
 have b1':Boxed ((((w.alloc (.cells #[.slice a' us.length cap'] 25)).alloc (.cells #[.int .i64 (p:Int)] 3)).alloc (.cells #[.int .i64 0] 3)).alloc (.cells #[.slice a zs.length cap] 25)) (w.heap.size+1) 3 (.int .i64 (srQ zs us p [])):=b1
 refine wpIn_rangeFunc_ownG rfl (by omega) (gf:=263) (lb:=#[.pointer (some ⟨w.heap.size+1+1+1,0,none⟩)]) rfl trivial (enters_of Tryz.func263 (by kernel_rfl) rfl)
  (bw_stops Fence.wide (5-1) trivial rfl (by omega) (w.heap.size+1+1+1) w.heap.size a cap zs hreach _ (by simp) (by simp;omega) bN.cell (hI.below hB0)) (fun h k=>h.trans k) (kpt_b (by simp;omega) (by simp)) (Below.refl _ _) (fun _=>rfl)
  (fun pre W=>((Boxed W (w.heap.size+1+1) 3 (.int .i64 (srV zs us p pre))/\Boxed W (w.heap.size+1) 3 (.int .i64 (srQ zs us p pre)))/\Boxed W w.heap.size 25 (.slice a' us.length cap'))/\Below w.heap.size w W)
  (fun _ _ _=>False)
  (OwnFrom.and (OwnFrom.and (OwnFrom.and (Own.from (boxed_own _ _ _) _) (Own.from (boxed_own _ _ _) _)) (Own.from (boxed_own _ _ _) _)) (ownFrom_below (Nat.le_refl _) (by simp;omega)))
  (fun _ _ _ _ _ hs _ _=>hs)
  ⟨⟨⟨b2',b1'⟩,b0⟩,hB0⟩
  (fun x=>{ tmps:=#[.slice a zs.length cap,.slice a' us.length cap',.int .i64 (p:Int),undef,.pointer (some ⟨w.heap.size,0,none⟩),.pointer (some ⟨w.heap.size+1,0,none⟩),.int .i64 0,.pointer (some ⟨w.heap.size+1+1,0,none⟩),.int .i64 (x.1:Int),.int .i64 (nth zs x.1),
   .slice a zs.length cap,.func (.func 263) #[] #[.pointer (some ⟨w.heap.size+1+1+1,0,none⟩)],.int .i64 (x.1:Int),.int .i64 (nth zs x.1),undef,undef,undef,undef,undef,undef,undef,undef,undef,undef,undef,undef,undef,undef],defers:=[] }) ?assign ?body ?done ?stop
 case assign=>
  intro l x W K hK
  gi_wp2
  exact hK
 case body=>
  rintro l pre ⟨k,hk⟩ W ⟨⟨⟨hr,hq⟩,ht⟩,hB⟩ _
  have hqb:=srQ_bd (u:=us) (p:=p) HP.out (by omega) pre
  have hx1:0<nth zs k:=HP.out _ (nth_mem zs k hk)
  have hx2:nth zs k<=4096:=(HA.out _ (nth_mem zs k hk)).2
  have hku:k<us.length:=by rw[HL.out];exact hk
  obtain⟨b,off,rfl,hbb,hcell⟩:=(hI'.below hB).at hku
  have hck:=hcell k hku
  clear hcell
  dsimp only
  refine wpIn_mono (Q:=fun e _ W'=>e=.normal/\W'=((W.setCell ⟨w.heap.size+1+1,0,none⟩ (.int .i64 (wrap64 (srV zs us p pre+wrap64 (srQ zs us p pre%nth zs k*nth us k))))).setCell ⟨w.heap.size+1,0,none⟩ (.int .i64 (srQ zs us p pre/nth zs k))).drew) ?_ ?_
  ·have c0:=hr.cell
   have f0:=hr.frozen
   have c1:=hq.cell
   have f1:=hq.frozen
   have c2:=ht.cell
   generalize nth us k=U0 at *
   generalize nth zs k=L0 at *
   generalize srV zs us p pre=V0 at *
   generalize srQ zs us p pre=Q0 at *
   obtain⟨hq1,hq2⟩:=hqb
   have hL0:¬ L0=0:=by omega
   clear b0 b1 b2 b1' b2' bN hB0 hI hI' hr ht hq hB HA HP HL hreach
   gi_wp2
   refine anyT_beginIn 10 (fun w'=>w'.cell? ⟨w.heap.size+1+1,0,none⟩=some (.int .i64 V0)/\w'.cell? ⟨w.heap.size+1,0,none⟩=some (.int .i64 Q0)/\w'.cell? ⟨w.heap.size,0,none⟩=some (.slice (some ⟨b,off,none⟩) us.length cap')/\w'.cell? ⟨b,off+k,none⟩=some (.int .i64 U0)) 11 #[false,false,false,false,false,false,false,false,false,false,false] (by kernel_rfl) rfl rfl (by kernel_rfl) ?_
   refine anyT_take 0 14 ?rv0 #[true,false,false,false,false,false,false,false,false,false,false] rfl rfl rfl (by kernel_rfl) (by kernel_rfl) (by kernel_rfl) (fun _ _ _ h=>h) (by kernel_rfl) (by decide) (by kernel_rfl) ?ry0 (⟨c0,c1,c2,hck⟩) ?rm0
   case ry0=>first | exact Or.inl ⟨by rfl,by intro w' hw';(try dsimp only at hw');go_simp;first | done | rfl⟩
   case rm0=>
   simp only[Act.put,List.setIfInBounds_toArray,List.set_cons_zero,List.set_cons_succ]
   refine anyT_take 1 15 ?rv1 #[true,true,false,false,false,false,false,false,false,false,false] rfl rfl rfl (by kernel_rfl) (by kernel_rfl) (by kernel_rfl) (fun _ _ _ h=>h) (by kernel_rfl) (by decide) (by kernel_rfl) ?ry1 (⟨c0,c1,c2,hck⟩) ?rm1
   case ry1=>first | exact Or.inl ⟨by rfl,by intro w' hw';(try dsimp only at hw');go_simp;first | done | rfl⟩
   case rm1=>
   simp only[Act.put,List.setIfInBounds_toArray,List.set_cons_zero,List.set_cons_succ]
   refine anyT_put 2 16 ?rv2 #[true,true,true,false,false,false,false,false,false,false,false] rfl rfl rfl (by kernel_rfl) (by kernel_rfl) (by kernel_rfl) (fun _ _ _ h=>h) (by decide) ?ry2 (fun _=>⟨c0,c1,c2,hck⟩) ?rm2
   case ry2=>first | exact Or.inl ⟨by rfl,by intro w';go_simp;first | done | rfl⟩
   case rm2=>
   simp only[Act.put,List.setIfInBounds_toArray,List.set_cons_zero,List.set_cons_succ]
   refine anyT_put 3 17 ?rv3 #[true,true,true,true,false,false,false,false,false,false,false] rfl rfl rfl (by kernel_rfl) (by kernel_rfl) (by kernel_rfl) (fun _ _ _ h=>h) (by decide) ?ry3 (fun _=>⟨c0,c1,c2,hck⟩) ?rm3
   case ry3=>first | exact Or.inl ⟨by rfl,by intro w';go_simp;first | done | rfl⟩
   case rm3=>
   simp only[Act.put,List.setIfInBounds_toArray,List.set_cons_zero,List.set_cons_succ]
   refine anyT_take 4 18 ?rv4 #[true,true,true,true,true,false,false,false,false,false,false] rfl rfl rfl (by kernel_rfl) (by kernel_rfl) (by kernel_rfl) (fun _ _ _ h=>h) (by kernel_rfl) (by decide) (by kernel_rfl) ?ry4 (⟨c0,c1,c2,hck⟩) ?rm4
   case ry4=>first | exact Or.inl ⟨by rfl,by intro w' hw';(try dsimp only at hw');go_simp;first | done | rfl⟩
   case rm4=>
   simp only[Act.put,List.setIfInBounds_toArray,List.set_cons_zero,List.set_cons_succ]
   refine anyT_put 5 19 ?rv5 #[true,true,true,true,true,true,false,false,false,false,false] rfl rfl rfl (by kernel_rfl) (by kernel_rfl) (by kernel_rfl) (fun _ _ _ h=>h) (by decide) ?ry5 (fun _=>⟨c0,c1,c2,hck⟩) ?rm5
   case ry5=>first | exact Or.inl ⟨by rfl,by intro w';go_simp;first | done | rfl⟩
   case rm5=>
   simp only[Act.put,List.setIfInBounds_toArray,List.set_cons_zero,List.set_cons_succ]
   refine anyT_put 6 20 ?rv6 #[true,true,true,true,true,true,true,false,false,false,false] rfl rfl rfl (by kernel_rfl) (by kernel_rfl) (by kernel_rfl) (fun _ _ _ h=>h) (by decide) ?ry6 (fun _=>⟨c0,c1,c2,hck⟩) ?rm6
   case ry6=>first | exact Or.inl ⟨by rfl,by intro w';go_simp;first | done | rfl⟩
   case rm6=>
   simp only[Act.put,List.setIfInBounds_toArray,List.set_cons_zero,List.set_cons_succ]
   refine anyT_take 7 21 ?rv7 #[true,true,true,true,true,true,true,true,false,false,false] rfl rfl rfl (by kernel_rfl) (by kernel_rfl) (by kernel_rfl) (fun _ _ _ h=>h) (by kernel_rfl) (by decide) (by kernel_rfl) ?ry7 (⟨c0,c1,c2,hck⟩) ?rm7
   case ry7=>first | exact Or.inl ⟨by rfl,by intro w' hw';(try dsimp only at hw');go_simp;first | done | rfl⟩
   case rm7=>
   simp only[Act.put,List.setIfInBounds_toArray,List.set_cons_zero,List.set_cons_succ]
   refine anyT_put 8 22 ?rv8 #[true,true,true,true,true,true,true,true,true,false,false] rfl rfl rfl (by kernel_rfl) (by kernel_rfl) (by kernel_rfl) (fun _ _ _ h=>h) (by decide) ?ry8 (fun _=>⟨c0,c1,c2,hck⟩) ?rm8
   case ry8=>first | exact Or.inl ⟨by rfl,by intro w';go_simp;first | done | rfl⟩
   case rm8=>
   simp only[Act.put,List.setIfInBounds_toArray,List.set_cons_zero,List.set_cons_succ]
   refine anyT_put 9 23 ?rv9 #[true,true,true,true,true,true,true,true,true,true,false] rfl rfl rfl (by kernel_rfl) (by kernel_rfl) (by kernel_rfl) (fun _ _ _ h=>h) (by decide) ?ry9 (fun _=>⟨c0,c1,c2,hck⟩) ?rm9
   case ry9=>first | exact Or.inl ⟨by rfl,by intro w';go_simp;first | done | rfl⟩
   case rm9=>
   simp only[Act.put,List.setIfInBounds_toArray,List.set_cons_zero,List.set_cons_succ]
   refine anyT_one 10 #[true,true,true,true,true,true,true,true,true,true,true] (by kernel_rfl) rfl rfl (fun K hK=>?_)
   go_simp
   refine hK.out _ _ (fun h=>absurd h (by decide)) ?_
   clear hK K
   refine anyT_done (by kernel_rfl) ?_
   simp only[onN]
   gi_wp2
  ·rintro e a9 W' ⟨rfl,rfl⟩
   have et:srQ zs us p pre%nth zs k=(srQ zs us p pre).tmod (nth zs k):=(Int.tmod_eq_emod_of_nonneg hqb.1).symm
   have ed:srQ zs us p pre/nth zs k=(srQ zs us p pre).tdiv (nth zs k):=(Int.tdiv_eq_ediv_of_nonneg hqb.1).symm
   refine⟨((((KeepsOthers.setCell _ _ _).trans (KeepsOthers.setCell _ _ _)).trans (KeepsOthers.drew _))).from _,((Kpt.setCell W 0 _ (by omega) (by omega)).set 0 _ (by omega) (by omega)).drew,⟨⟨?_,?_⟩,?_⟩,((hB.setCell (p:=⟨w.heap.size+1+1,0,none⟩) (by simp;omega) _).setCell (p:=⟨w.heap.size+1,0,none⟩) (by simp) _).drew⟩
   ·rw[et,srV_snoc]
    exact (hr.set _).other (by omega) _
   ·rw[ed,srQ_snoc]
    exact (hq.other (by omega) _).set _
   ·exact (ht.other (by omega) _).other (by omega) _
 case done=>
  rintro D ys W hD rfl ⟨⟨⟨hr,hq⟩,ht⟩,hB⟩ hK
  have c1:=hr.cell
  gi_wp2
  refine⟨by simp,.inl ⟨_,_,rfl,run_takeDeferred hK,?_⟩⟩
  exact⟨_,results_tmp rfl _ _ _,rfl,hB.trans (belowK_b (w:=w) (Nat.le_refl _) W D _ _ (by simp at hD;omega) hK rfl rfl)⟩
 case stop=>
  rintro D c pre W _ _ h _
  exact h.elim
end Go.Proofs.YtkmmkcpfhnifhaaGreatDoor
namespace Go.Proofs.YtkmmkcpfhnifhaaGreatDoor
open Go.RowKit
def seenB (ps:List Int)(k j:Nat):Bool:=(List.range k).any fun i=>nth ps i == (j:Int)
theorem seenB_succ (ps:List Int)(k j:Nat):seenB ps (k+1) j=(seenB ps k j || nth ps k == (j:Int)):=by
 simp[seenB,List.range_succ]
theorem seenB_iff (ps:List Int)(k j:Nat):seenB ps k j=true ↔ ∃ i,i<k/\nth ps i=j:=by
 simp[seenB]
def OrdTo (ps:List Int)(k:Nat):Prop:=(∀ j,j<k->0<=nth ps j/\nth ps j<ps.length)/\∀ i j,i<j->j<k->nth ps i≠nth ps j
theorem OrdTo.zero (ps:List Int):OrdTo ps 0:=⟨fun j hj=>by omega,fun i j _ hj=>by omega⟩
theorem OrdTo.step {ps:List Int}{k:Nat}(h:OrdTo ps k){m:Nat}(hm:nth ps k=m)(h2:m<ps.length)(h3:seenB ps k m=false):OrdTo ps (k+1):=by
 refine⟨fun j hj=>?_,fun i j hij hj e=>?_⟩
 ·by_cases e:j=k
  ·subst e;omega
  ·exact h.1 j (by omega)
 ·by_cases e2:j=k
  ·subst e2
   have:seenB ps j m=true:=(seenB_iff ps j m).2 ⟨i,hij,by rw[e,hm]⟩
   rw[h3] at this;cases this
  ·exact h.2 i j hij (by omega) e
theorem ordB_low {ps:List Int}{k:Nat}(hk:k<ps.length)(h:nth ps k<0):ordB ps=false:=by
 rw[<-Bool.not_eq_true,ordB_iff];intro ho;have:=ho.1 k hk;omega
theorem ordB_high {ps:List Int}{k:Nat}(hk:k<ps.length)(h:(ps.length:Int)<=nth ps k):ordB ps=false:=by
 rw[<-Bool.not_eq_true,ordB_iff];intro ho;have:=ho.1 k hk;omega
theorem ordB_seen {ps:List Int}{k:Nat}(hk:k<ps.length){m:Nat}(hm:nth ps k=m)(h:seenB ps k m=true):ordB ps=false:=by
 rw[<-Bool.not_eq_true,ordB_iff];intro ho
 obtain⟨i,hi,e⟩:=(seenB_iff ps k m).1 h
 exact ho.2 i k hi hk (by rw[e,hm])
theorem Tryz.infoBool:(Tryz.prog.info? 4).map (fun i=>(i.zero,i.size,i.bytes))=some (some (.bool false),1,1):=by kernel_rfl
theorem isord_any (a:Option Addr)(cap:Nat)(ps:List Int)(hl:ps.length<=100000)(w:World)(hI:IsInts w.heap.size w a ps):
  Calls Tryz.prog 259 #[.slice a ps.length cap] w fun e w'=>e=.returned (.bool (ordB ps))/\Below w.heap.size w w':=by
 have hmk:=run_make_row' (P:=Tryz.prog) 232 4 (.bool false) 1 Tryz.underlying232 Tryz.infoBool rfl .i64 .i64 ps.length (by omega) (by omega)
 go_enter Tryz.func259,Tryz.ntmps259
 go_wp2_with fail
 clear hmk
 go_loopw [11] (fun i wr=>∃ k:Nat,k<=ps.length/\i=.int .i64 k/\OrdTo ps k/\wr.rowIs w.heap.size 4 ps.length (fun j=>.bool (seenB ps k j))/\Below w.heap.size w wr) (fun i _=>ps.length-(intOf i).toNat)
 case atStart=>exact⟨0,Nat.zero_le _,rfl,OrdTo.zero ps,(World.rowIs_made w (.bool false) ps.length 4),(Below.refl _ w).alloc (Nat.le_refl _) _⟩
 case round=>
  obtain⟨k,hk,rfl,hord,hrow,hB⟩:=hrel
  by_cases hlt:k<ps.length
  ·obtain⟨b,off,rfl,hb,hcell⟩:=(hI.below hB).at hlt
   have hc:=hcell k hlt
   clear hcell
   by_cases h1:nth ps k<0
   ·have hfin:Hid (ordB ps=false):=ordB_low hlt h1
    go_wp2_with fail
    go_ret
    exact⟨ret_bool hfin.symm,hB⟩
   ·by_cases h2:(ps.length:Int)<=nth ps k
    ·have hfin:Hid (ordB ps=false):=ordB_high hlt h2
     have hd1:decide (nth ps k<0)=false:=by simpa using h1
     go_wp2_with fail
     go_ret
     exact⟨ret_bool hfin.symm,hB⟩
    ·obtain⟨m,hm⟩:=Int.eq_ofNat_of_zero_le (Int.not_lt.1 h1)
     have HM:Hid (nth ps k=m):=hm
     rw[hm] at hc h1 h2
     clear hm
     have hmn:m<ps.length:=by omega
     have hcm:=hrow.cell hmn
     have hfm:=hrow.frozen m
     have hd1:decide ((m:Int)<0)=false:=by simp
     have hd2:decide ((ps.length:Int)<=(m:Int))=false:=by simp;omega
     cases h3:seenB ps k m with
     | true=>
      have hfin:Hid (ordB ps=false):=ordB_seen hlt HM.out h3
      rw[h3] at hcm
      clear h3
      go_wp2_with fail
      go_ret
      exact⟨ret_bool hfin.symm,hB⟩
     | false=>
      have hst:OrdTo ps (k+1):=hord.step HM.out hmn h3
      rw[h3] at hcm
      clear h3
      go_wp2_with fail
      refine⟨⟨k+1,by omega,by go_num,hst,(hrow.set m (.bool true)).congr (fun j hj=>?_),hB.setCell (p:=⟨w.heap.size,m,none⟩) (Nat.le_refl _) _⟩,by simp[intOf];omega⟩
      rw[seenB_succ,HM.out]
      by_cases e:j=m
      ·subst e;simp
      ·have e2:((m:Int) == (j:Int))=false:=by rw[beq_eq_false_iff_ne];omega
       simp[e,e2]
  ·obtain rfl:k=ps.length:=by omega
   have hfin:Hid (ordB ps=true):=(ordB_iff ps).2 hord
   go_wp2_with fail
   go_ret
   exact⟨ret_bool hfin.symm,hB⟩
end Go.Proofs.YtkmmkcpfhnifhaaGreatDoor
namespace Go.Proofs.YtkmmkcpfhnifhaaGreatDoor
open Go.RowKit Go.Shelf
attribute [local go_sem] Oper.semAt_some
theorem axes_new (a:Option Addr)(cap:Nat)(zs:List Int)(a':Option Addr)(cap':Nat)(ps:List Int)(hreach:zs.length<=9223372036854775807)(hreach':ps.length<=9223372036854775807)(w:World)(hI:IsInts w.heap.size w a zs)(hI':IsInts w.heap.size w a' ps):
  Calls Tryz.prog 232 #[.slice a zs.length cap,.slice a' ps.length cap'] w fun e w'=>∃ g c,e=.returned (.tuple #[.slice g (axVal zs ps).length c,errV (axErr zs ps)])/\NewC w.heap.size w' g (axVal zs ps) c/\Below w.heap.size w w':=by
 refine (callsIn_wide (n:=5)).1 ?_
 refine callsIn_of_wp_marks Tryz.func232 rfl trivial ?_ rfl
 simp only[Tryz.ntmps232,List.size_toArray,List.length_cons,List.length_nil,Nat.reduceAdd,Nat.reduceSub,Array.replicate_succ,Array.replicate_zero,List.push_toArray,List.append_toArray,List.nil_append,List.cons_append]
 gi_wp2_with fail
 have b0:=Boxed.new w 25 (.slice a' ps.length cap')
 have hB0:Below w.heap.size w (w.alloc (.cells #[.slice a' ps.length cap'] 25)):=(Below.refl _ w).alloc (Nat.le_refl _) _
 have hsz:(w.alloc (.cells #[.slice a' ps.length cap'] 25)).heap.size=w.heap.size+1:=by simp
 generalize (w.alloc (.cells #[.slice a' ps.length cap'] 25))=W0 at *
 by_cases he:errOf zs=0
 ·refine⟨trivial,(callsIn_wide.2 (count_ok a cap zs hreach W0 ((hI.below hB0).mono (by omega)) he)).mono ?_⟩
  rintro e w1 ⟨rfl,hb⟩
  replace b0:=boxed_below b0 hb (by omega)
  have hB1:Below w.heap.size w w1:=hB0.trans (hb.mono (by omega))
  have hs1:w.heap.size+1<=w1.heap.size:=by have:=hb.size;omega
  clear hB0 hb hsz
  have c0:=b0.cell
  by_cases hl:ps.length=zs.length
  ·have hne:((ps.length:Int) != (zs.length:Int))=false:=by simp[hl]
   have hlz:zs.length<=6:=(errOf_zero.1 he).1
   have HL:Hid (ps.length=zs.length):=hl
   have HE:Hid (errOf zs=0):=he
   have hlp:ps.length<=6:=by omega
   clear he hl
   gi_wp2_with fail
   refine⟨trivial,(callsIn_wide.2 (isord_any a' cap' ps (by omega) w1 ((hI'.below hB1).mono hB1.size))).mono ?_⟩
   rintro e w2 ⟨rfl,hb2⟩
   replace b0:=boxed_below b0 hb2 (by omega)
   have hB2:Below w.heap.size w w2:=hB1.trans (hb2.mono hB1.size)
   have hs2:w.heap.size+1<=w2.heap.size:=by have:=hb2.size;omega
   clear hb2 hne c0
   have c0:=b0.cell
   by_cases ho:ordB ps=true
   ·have HO:Hid (IsOrd ps):=(ordB_iff ps).1 ho
    have e0:Hid (axErr zs ps=0):=axErr_zero.2 ⟨HE.out,HL.out,HO.out⟩
    rw[ho]
    clear ho
    have hmk:=run_make_row' (P:=Tryz.prog) 25 3 (.int .i64 0) 8 Tryz.underlying25 Tryz.infoInt rfl .i64 .i64 zs.length (by omega) (by omega)
    gi_wp2_with fail
    refine⟨trivial,(fl_in Fence.wide 4 trivial rfl _ _ _ _).mono ?_⟩
    rintro e w' ⟨rfl,rfl⟩
    clear hmk
    gi_wp2_with fail
    have r0:=World.rowIs_made w2 (.int .i64 0) zs.length 3
    have bt:=Boxed.new (w2.alloc (.cells (madeCells #[.int .i64 0] zs.length) 3)) 25 (.slice (some ⟨w2.heap.size,0,none⟩) zs.length zs.length)
    have bN:=Boxed.new ((w2.alloc (.cells (madeCells #[.int .i64 0] zs.length) 3)).alloc (.cells #[.slice (some ⟨w2.heap.size,0,none⟩) zs.length zs.length] 25)) 25 (.slice a zs.length cap)
    simp only[World.size_alloc] at bt bN
    replace r0:=(r0.alloc (.cells #[.slice (some ⟨w2.heap.size,0,none⟩) zs.length zs.length] 25)).alloc (.cells #[.slice a zs.length cap] 25)
    replace r0:=r0.congr (g:=fun j=>.int .i64 (nth (axl zs ps []) j)) (fun i _=>by simp only[axl,List.foldl_nil,nth_replicate])
    replace bt:=bt.alloc (.cells #[.slice a zs.length cap] 25)
    replace b0:=((b0.alloc (.cells (madeCells #[.int .i64 0] zs.length) 3)).alloc (.cells #[.slice (some ⟨w2.heap.size,0,none⟩) zs.length zs.length] 25)).alloc (.cells #[.slice a zs.length cap] 25)
    have hB3:Below w.heap.size w (((w2.alloc (.cells (madeCells #[.int .i64 0] zs.length) 3)).alloc (.cells #[.slice (some ⟨w2.heap.size,0,none⟩) zs.length zs.length] 25)).alloc (.cells #[.slice a zs.length cap] 25)):=((hB2.alloc (by omega) _).alloc (by simp;omega) _).alloc (by simp;omega) _
    clear c0
    refine wpIn_rangeFunc_ownG rfl (by omega) (gf:=224) (lb:=#[.pointer (some ⟨w2.heap.size+1+1,0,none⟩)]) rfl trivial (enters_of Tryz.func224 (by kernel_rfl) rfl)
     (fl_stops Fence.wide (5-1) trivial rfl (by omega) (w2.heap.size+1+1) w.heap.size a cap zs hreach _ (by simp) (by simp;omega) bN.cell (hI.below hB3)) (fun h k=>h.trans k) (kpt_b (by simp;omega) (by simp)) (Below.refl _ _) (fun _=>rfl)
     (fun pre W=>((W.rowIs w2.heap.size 3 zs.length (fun j=>.int .i64 (nth (axl zs ps pre) j))/\Boxed W (w2.heap.size+1) 25 (.slice (some ⟨w2.heap.size,0,none⟩) zs.length zs.length))/\Boxed W w.heap.size 25 (.slice a' ps.length cap'))/\Below w.heap.size w W)
     (fun _ _ _=>False)
     (OwnFrom.and (OwnFrom.and (OwnFrom.and (Own.from (rowIs_own _ _ _ _) _) (Own.from (boxed_own _ _ _) _)) (Own.from (boxed_own _ _ _) _)) (ownFrom_below (Nat.le_refl _) (by simp;omega)))
     (fun _ _ _ _ _ hs _ _=>hs)
     ⟨⟨⟨r0,bt⟩,b0⟩,hB3⟩
     (fun x=>{ tmps:=#[.slice a zs.length cap,.slice a' ps.length cap',undef,.pointer (some ⟨w.heap.size,0,none⟩),.slice none 0 0,.nilIface,.int .i64 (prod zs),.nilIface,.pointer (some ⟨w2.heap.size+1,0,none⟩),.int .i64 (x.1:Int),.int .i64 (nth zs x.1),.tuple #[.int .i64 (prod zs),.nilIface],
      .slice a zs.length cap,.tuple #[.int .i64 (prod zs),.nilIface],.int .i64 (prod zs),.nilIface,.nilIface,.bool false,undef,.slice a' ps.length cap',.int .i64 ps.length,.slice a zs.length cap,.int .i64 zs.length,.bool false,undef,.slice a' ps.length cap',.bool true,.bool false,undef,
      .slice a zs.length cap,.int .i64 zs.length,.slice (some ⟨w2.heap.size,0,none⟩) zs.length zs.length,.slice a zs.length cap,.func (.func 224) #[] #[.pointer (some ⟨w2.heap.size+1+1,0,none⟩)],.int .i64 (x.1:Int),.int .i64 (nth zs x.1),undef,undef,undef,undef,undef,undef,undef,undef],defers:=[] }) ?assign ?body ?done ?stop
    case assign=>
     intro l x W K hK
     gi_wp2
     exact hK
    case body=>
     rintro l pre ⟨k,hk⟩ W ⟨⟨⟨hr,ht⟩,hq⟩,hB⟩ _
     have hkp:k<ps.length:=by rw[HL.out];exact hk
     have hbo:=HO.1 k hkp
     obtain⟨b,off,rfl,hbb,hcell⟩:=(hI'.below hB).at hkp
     have hck:=hcell k hkp
     clear hcell
     obtain⟨m,hm⟩:=Int.eq_ofNat_of_zero_le hbo.1
     have hmz:m<zs.length:=by have:=HL.out;omega
     rw[hm] at hck
     have HM:Hid (nth ps k=m):=hm
     clear hm hbo
     dsimp only
     refine wpIn_mono (Q:=fun e _ W'=>e=.normal/\W'=(W.setCell ⟨w2.heap.size,m,none⟩ (.int .i64 (nth zs k))).drew) ?_ ?_
     ·have c0:=hq.cell
      have c1:=ht.cell
      have c2:=hr.cell hmz
      have f2:=hr.frozen m
      generalize nth (axl zs ps pre) m=V0 at *
      generalize nth zs k=X0 at *
      clear r0 b0 bt bN hB2 hB1 hB3 hI hI' hr ht hq hB HE HL HO HM e0 hreach hreach' hs1
      have hfol:Tryz.prog.follows Departure.mixedOrders=true:=by kernel_rfl
      gi_wp2
      gi_region_with_o (fail)
      all_goals gi_wp2
     ·rintro e a9 W' ⟨rfl,rfl⟩
      refine⟨((KeepsOthers.setCell _ _ _).trans (KeepsOthers.drew _)).from _,(Kpt.setCell W m _ (by omega) (by omega)).drew,⟨⟨?_,?_⟩,?_⟩,(hB.setCell (p:=⟨w2.heap.size,m,none⟩) (by simp;omega) _).drew⟩
      ·rw[axl_snoc,HM.out,Int.toNat_natCast]
       refine (hr.set m _).drew.congr fun j hj=>?_
       rw[nth_set _ _ _ _ (by rw[axl_length];exact hmz)]
       by_cases e:j=m
       ·rw[if_pos e,if_pos e]
       ·rw[if_neg e,if_neg e]
      ·exact boxed_setRow ht (by omega) _ _
      ·exact boxed_setRow hq (by omega) _ _
    case done=>
     rintro D ys W hD rfl ⟨⟨⟨hr,ht⟩,hq⟩,hB⟩ hK
     have c1:=ht.cell
     gi_wp2
     refine⟨by simp,.inl ⟨_,_,rfl,run_takeDeferred hK,?_⟩⟩
     have hl:=(axVal_spec e0.out).1
     refine⟨.tuple #[.slice (some ⟨w2.heap.size,0,none⟩) zs.length zs.length,.nilIface],by simp[results,Tryz.f232,go_sem],some ⟨w2.heap.size,0,none⟩,zs.length,ret2s hl.symm ?_,⟨.inr ⟨w2.heap.size,0,rfl,by omega,?_,fun j hj=>?_,fun j=>?_⟩,by omega⟩,hB.trans (belowK_b (w:=w) (Nat.le_refl _) W D _ _ (by simp at hD;omega) hK rfl rfl)⟩
     ·rw[e0.out];rfl
     ·have:=hr.lt;simp[World.putObj];exact this
     ·have hj':j<zs.length:=by omega
      have hc:=hr.cell hj'
      rw[Nat.zero_add]
      refine (cell_kept hc (grownBy_putObj' _ D (.deferred none)) (fun r e=>by cases e;exact⟨_,hK,rfl⟩)).trans ?_
      rw[axVal_ok e0.out]
     ·exact (hr.of_block (w':=W.putObj D (.deferred none)) (World.putObj_heap_other (by simp at hD;omega))).frozen _
    case stop=>
     rintro D c pre W _ _ h _
     exact h.elim
   ·have ho':ordB ps=false:=by simpa using ho
    have e5:Hid (axErr zs ps=5):=axErr_ord HE.out HL.out (fun h=>ho ((ordB_iff ps).2 h))
    rw[ho']
    clear ho ho'
    gi_wp2
    refine⟨.tuple #[.slice none 0 0,.iface 28 (.int .i64 5)],by simp[results,Tryz.f232,go_sem],none,0,ret2s (n:=0) ?_ ?_,?_,hB2⟩
    ·rw[axVal_bad (by rw[e5.out];decide)];rfl
    ·rw[e5.out];rfl
    ·rw[axVal_bad (by rw[e5.out];decide)];exact⟨.inl rfl,Nat.le_refl _⟩
  ·have hne:((ps.length:Int) != (zs.length:Int))=true:=by simp;omega
   have e4:Hid (axErr zs ps=4):=axErr_len he hl
   clear he
   gi_wp2
   refine⟨.tuple #[.slice none 0 0,.iface 28 (.int .i64 4)],by simp[results,Tryz.f232,go_sem],none,0,ret2s (n:=0) ?_ ?_,?_,hB1⟩
   ·rw[axVal_bad (by rw[e4.out];decide)];rfl
   ·rw[e4.out];rfl
   ·rw[axVal_bad (by rw[e4.out];decide)];exact⟨.inl rfl,Nat.le_refl _⟩
 ·refine⟨trivial,(callsIn_wide.2 (count_no a cap zs hreach W0 ((hI.below hB0).mono (by omega)) he)).mono ?_⟩
  rintro e w1 ⟨rfl,hb⟩
  have hB1:Below w.heap.size w w1:=hB0.trans (hb.mono (by omega))
  have HE:Hid (errOf zs≠0):=he
  clear he
  gi_wp2
  refine⟨.tuple #[.slice none 0 0,.iface 28 (.int .i64 (errOf zs))],by simp[results,Tryz.f232,go_sem],none,0,ret2s (n:=0) ?_ ?_,?_,hB1⟩
  ·rw[axVal_bad (by rw[axErr_bad HE.out];exact HE.out)];rfl
  ·rw[axErr_bad HE.out,errV_pos HE.out]
  ·rw[axVal_bad (by rw[axErr_bad HE.out];exact HE.out)];exact⟨.inl rfl,Nat.le_refl _⟩
end Go.Proofs.YtkmmkcpfhnifhaaGreatDoor
