/- What the program tells, in part. -/
import Derived.Test.YtkmmkcpfhnifhaaGreatDoorJ32
set_option linter.unusedVariables false
set_option maxHeartbeats 4000000
set_option maxRecDepth 100000
namespace Go.Proofs.YtkmmkcpfhnifhaaGreatDoor
open Go.RowKit Go.Shelf
attribute [local go_sem] Oper.semAt_some
def gT (f:Int)(zs:List Int)(z:Int){n:Nat}(pre:List (Ax n)):Int × Int:=pre.foldl (fun a x=>if a.2≠0 then (0,a.2) else (twoV f (nth zs x.1) a.1,twoE f (nth zs x.1) a.1)) (z,0)
theorem gT_snoc (f:Int)(zs:List Int)(z:Int){n:Nat}(pre:List (Ax n))(x:Ax n)(h:(gT f zs z pre).2=0):gT f zs z (pre++[x])=(twoV f (nth zs x.1) (gT f zs z pre).1,twoE f (nth zs x.1) (gT f zs z pre).1):=by
 unfold gT at *
 rw[List.foldl_append,List.foldl_cons,List.foldl_nil,if_neg (not_not_intro h)]
theorem gT_no (f:Int)(zs:List Int)(z:Int){n:Nat}(pre:List (Ax n))(x:Ax n)(h:(gT f zs z pre).2≠0):gT f zs z (pre++[x])=(0,(gT f zs z pre).2):=by
 unfold gT at *
 rw[List.foldl_append,List.foldl_cons,List.foldl_nil,if_pos h]
theorem gT_in {f:Int}{zs:List Int}{z:Int}{n:Nat}(T:∀ j,In64 (nth zs j))(hz:In64 z)(pre:List (Ax n)):In64 (gT f zs z pre).1:=by
 have h:∀ (pre:List (Ax n)) (a:Int × Int),In64 a.1->In64 (pre.foldl (fun a x=>if a.2≠0 then (0,a.2) else (twoV f (nth zs x.1) a.1,twoE f (nth zs x.1) a.1)) a).1:=by
  intro pre
  induction pre with
  | nil=>intro a ha;exact ha
  | cons x pre ih=>
   intro a ha
   rw[List.foldl_cons]
   refine ih _ ?_
   split
   ·exact (by unfold In64;decide:In64 0)
   ·exact In64.two (T _) ha
 exact h pre _ hz
theorem drop_cons12 {zs:List Int}{k:Nat}(h:k<zs.length):zs.drop k=nth zs k::zs.drop (k+1):=by
 rw[List.drop_eq_getElem_cons h,nth_get zs k h]
theorem gT_dn (f:Int)(zs:List Int)(z:Int):∀ k,k<=zs.length->gT f zs z (dn zs.length k)=fd f (zs.drop (zs.length-k)++[z])
 | 0,_=>by
  rw[Nat.sub_zero,List.drop_length,List.nil_append];rfl
 | k+1,hk=>by
  have ih:=gT_dn f zs z k (by omega)
  have e:zs.drop (zs.length-(k+1))=nth zs (zs.length-1-k)::zs.drop (zs.length-k):=by
   have h:=drop_cons12 (zs:=zs) (k:=zs.length-(k+1)) (by omega)
   rw[show zs.length-(k+1)+1=zs.length-k by omega] at h
   rw[h,show zs.length-(k+1)=zs.length-1-k by omega]
  rw[e,List.cons_append]
  obtain⟨d,r,hd⟩:∃ d r,zs.drop (zs.length-k)++[z]=d::r:=by
   cases h:zs.drop (zs.length-k) with
   | nil=>exact⟨z,[],rfl⟩
   | cons d r=>exact⟨d,r++[z],rfl⟩
  rw[hd] at ih ⊢
  rw[dn_succ _ k (by omega),fd]
  by_cases h:(gT f zs z (dn zs.length k)).2=0
  ·rw[gT_snoc f zs z _ _ h,if_neg (by rw[<-ih];exact not_not_intro h),ih]
  ·rw[gT_no f zs z _ _ h,if_pos (by rw[<-ih];exact h),ih]
theorem fdE_suffix (f:Int):∀ (a b:List Int),b≠[]->fdE f b≠0->fdE f (a++b)=fdE f b
 | [],_,_,_=>rfl
 | c::a,b,hb,h=>by
  have ih:=fdE_suffix f a b hb h
  rw[List.cons_append,fdE_cons f c (by simp[hb]),ih,if_pos h]
theorem box_lt {W:World}{B:Nat}{t:TypeId}{v:Value}(h:Boxed W B t v):B<W.heap.size:=by
 unfold Boxed at h
 exact (Array.getElem?_eq_some_iff.1 h).1
theorem keeps_b {W W1:World}(h:Below W.heap.size W W1)(B:Nat):KeepsFrom B W W1:=⟨h.size,fun k o _ hk ho=>(h.block k (Array.getElem?_eq_some_iff.1 hk).1).trans hk⟩
theorem kpt_below {n₀ Bs:Nat}{W W1:World}(h:Below W.heap.size W W1)(hn:n₀<=W.heap.size)(hB:Bs<W.heap.size):Kpt n₀ Bs W W1:=fun k hk=>h.block k (by omega)
def FdP (f:Int)(L:List Int)(w:World)(e:Ending)(w':World):Prop:=∃ v,e=.returned (.tuple #[.int .i64 v,errV (fdE f L)])/\(fdE f L=0->v=fdV f L)/\Below w.heap.size w w'
theorem ffold_nil (f:Int)(a:Option Addr)(cap:Nat)(w:World):Calls Tryz.prog 183 #[.int .i64 f,.slice a 0 cap] w (FdP f [] w):=by
 by_cases h0:neutE f=0
 ·have hN:∀ w,Calls Tryz.prog 111 #[.int .i64 f] w fun e w'=>e=.returned (.tuple #[.int .i64 (neutV f),.nilIface])/\w'=w:=fun w=>(neut_any f w).mono fun e w' h=>by rw[h0] at h;exact h
  have HE:Hid (neutE f=0):=h0
  clear h0
  go_enter Tryz.func183,Tryz.ntmps183
  go_wp2_with fail
  refine (hN _).mono ?_
  rintro e w1 ⟨rfl,rfl⟩
  go_wp2_with fail
  exact bodyPost_ret (v:=.tuple #[.int .i64 (neutV f),.nilIface]) (by simp[results,Tryz.results183,go_sem]) rfl ⟨neutV f,by rw[fdE_nil,HE.out];rfl,fun _=>rfl,(((Below.refl _ w).alloc (Nat.le_refl _) _).alloc (by simp) _).alloc (by simp;omega) _⟩
 ·have hN:∀ w,Calls Tryz.prog 111 #[.int .i64 f] w fun e w'=>e=.returned (.tuple #[.int .i64 (neutV f),.iface 28 (.int .i64 (neutE f))])/\w'=w:=fun w=>(neut_any f w).mono fun e w' h=>by rw[errV_pos h0] at h;exact h
  have HE:Hid (neutE f≠0):=h0
  clear h0
  go_enter Tryz.func183,Tryz.ntmps183
  go_wp2_with fail
  refine (hN _).mono ?_
  rintro e w1 ⟨rfl,rfl⟩
  go_wp2_with fail
  exact bodyPost_ret (v:=.tuple #[.int .i64 (neutV f),.iface 28 (.int .i64 (neutE f))]) (by simp[results,Tryz.results183,go_sem]) rfl ⟨neutV f,by rw[fdE_nil,errV_pos HE.out],fun _=>rfl,(((Below.refl _ w).alloc (Nat.le_refl _) _).alloc (by simp) _).alloc (by simp;omega) _⟩
theorem ffold_snoc (f:Int)(b off:Nat)(zs:List Int)(z:Int)(n cap:Nat)(hn:zs.length=n)(h4:n<=4096)(hcap:n+1<=cap)(w:World)(hb:b<w.heap.size)(hI:IsInts w.heap.size w (some ⟨b,off,none⟩) zs)(hz:w.cell? ⟨b,off+n,none⟩=some (.int .i64 z))(T:∀ j,In64 (nth zs j))(Tz:In64 z):
  Calls Tryz.prog 183 #[.int .i64 f,.slice (some ⟨b,off,none⟩) (n+1:Nat) cap] w (FdP f (zs++[z]) w):=by
 subst hn
 have h10:((zs.length:Int)+1 == 0)=false:=by simp;omega
 have hz3:(((w.alloc (.cells #[.int .i64 f] 22)).alloc (.cells #[.int .i64 0] 3)).alloc (.cells #[.nilIface] 32)).cell? ⟨b,off+zs.length,none⟩=some (.int .i64 z):=by
  rw[World.cell?_alloc_lt _ _ _ (by simp;omega),World.cell?_alloc_lt _ _ _ (by simp;omega),World.cell?_alloc_lt _ _ _ hb];exact hz
 refine (callsIn_wide (n:=5)).1 ?_
 refine callsIn_of_wp_marks Tryz.func183 rfl trivial ?_ rfl
 simp only[Tryz.ntmps183,List.size_toArray,List.length_cons,List.length_nil,Nat.reduceAdd,Nat.reduceSub,Array.replicate_succ,Array.replicate_zero,List.push_toArray,List.append_toArray,List.nil_append,List.cons_append]
 gi_wp2_with fail
 refine⟨trivial,(bw_in Fence.wide 4 trivial rfl _ _ _ _).mono ?_⟩
 rintro e w' ⟨rfl,rfl⟩
 gi_wp2_with fail
 have b0:=Boxed.new w 22 (.int .i64 f)
 have b1:=Boxed.new (w.alloc (.cells #[.int .i64 f] 22)) 3 (.int .i64 0)
 have b2:=Boxed.new ((w.alloc (.cells #[.int .i64 f] 22)).alloc (.cells #[.int .i64 0] 3)) 32 (.nilIface)
 have b3:=Boxed.new (((w.alloc (.cells #[.int .i64 f] 22)).alloc (.cells #[.int .i64 0] 3)).alloc (.cells #[.nilIface] 32)) 3 (.int .i64 z)
 have b4:=Boxed.new ((((w.alloc (.cells #[.int .i64 f] 22)).alloc (.cells #[.int .i64 0] 3)).alloc (.cells #[.nilIface] 32)).alloc (.cells #[.int .i64 z] 3)) 25 (.slice (some ⟨b,off,none⟩) zs.length cap)
 simp only[World.size_alloc] at b1 b2 b3 b4
 replace b0:=((((b0.alloc (.cells #[.int .i64 0] 3)).alloc (.cells #[.nilIface] 32)).alloc (.cells #[.int .i64 z] 3)).alloc (.cells #[.slice (some ⟨b,off,none⟩) zs.length cap] 25))
 replace b1:=(((b1.alloc (.cells #[.nilIface] 32)).alloc (.cells #[.int .i64 z] 3)).alloc (.cells #[.slice (some ⟨b,off,none⟩) zs.length cap] 25))
 replace b2:=((b2.alloc (.cells #[.int .i64 z] 3)).alloc (.cells #[.slice (some ⟨b,off,none⟩) zs.length cap] 25))
 replace b3:=(b3.alloc (.cells #[.slice (some ⟨b,off,none⟩) zs.length cap] 25))
 have hB0:Below w.heap.size w (((((w.alloc (.cells #[.int .i64 f] 22)).alloc (.cells #[.int .i64 0] 3)).alloc (.cells #[.nilIface] 32)).alloc (.cells #[.int .i64 z] 3)).alloc (.cells #[.slice (some ⟨b,off,none⟩) zs.length cap] 25)):=((((((Below.refl _ w).alloc (by simp<;>omega) _).alloc (by simp<;>omega) _).alloc (by simp<;>omega) _).alloc (by simp<;>omega) _).alloc (by simp<;>omega) _)
 refine wpIn_rangeFunc_ownG rfl (by omega) (gf:=263) (lb:=#[.pointer (some ⟨w.heap.size+1+1+1+1,0,none⟩)]) rfl trivial (enters_of Tryz.func263 (by kernel_rfl) rfl)
  (bw_stops Fence.wide (5-1) trivial rfl (by omega) (w.heap.size+1+1+1+1) w.heap.size (some ⟨b,off,none⟩) cap zs (by omega) _ (by simp) (by simp;omega) b4.cell (hI.below hB0)) (fun h k=>h.trans k) (kpt_b (by simp;omega) (by simp)) (Below.refl _ _) (fun _=>rfl)
  (fun pre W=>((((((gT f zs z pre).2=0/\Boxed W (w.heap.size+1+1+1) 3 (.int .i64 (gT f zs z pre).1))/\Boxed W (w.heap.size) 22 (.int .i64 f))/\Boxed W (w.heap.size+1) 3 (.int .i64 0))/\Boxed W (w.heap.size+1+1) 32 (.nilIface))/\Boxed W (w.heap.size+1+1+1+1) 25 (.slice (some ⟨b,off,none⟩) zs.length cap))/\Below w.heap.size w W)
  (fun c pre W=>(((c=.ret/\(gT f zs z pre).2≠0)/\Boxed W (w.heap.size+1) 3 (.int .i64 0))/\Boxed W (w.heap.size+1+1) 32 (.iface 28 (.int .i64 (gT f zs z pre).2)))/\Below w.heap.size w W)
  (OwnFrom.and (OwnFrom.and (OwnFrom.and (OwnFrom.and (OwnFrom.and (OwnFrom.and (ownFrom_pure _ _) (Own.from (boxed_own _ _ _) _)) (Own.from (boxed_own _ _ _) _)) (Own.from (boxed_own _ _ _) _)) (Own.from (boxed_own _ _ _) _)) (Own.from (boxed_own _ _ _) _)) (ownFrom_below (Nat.le_refl _) (by simp;omega)))
  (fun c=>OwnFrom.and (OwnFrom.and (OwnFrom.and (ownFrom_pure _ _) (Own.from (boxed_own _ _ _) _)) (Own.from (boxed_own _ _ _) _)) (ownFrom_below (Nat.le_refl _) (by simp;omega)))
  ⟨⟨⟨⟨⟨⟨rfl,b3⟩,b0⟩,b1⟩,b2⟩,b4⟩,hB0⟩
  (fun x=>{ tmps:=#[.int .i64 f,.slice (some ⟨b,off,none⟩) (zs.length+1) cap,.pointer (some ⟨w.heap.size,0,none⟩),undef,.pointer (some ⟨w.heap.size+1,0,none⟩),.pointer (some ⟨w.heap.size+1+1,0,none⟩),.int .i64 (zs.length:Int),.pointer (some ⟨w.heap.size+1+1+1,0,none⟩),undef,.int .i64 (nth zs x.1),undef,undef,.slice (some ⟨b,off,none⟩) (zs.length+1) cap,.int .i64 ((zs.length:Int)+1),.bool false,undef,undef,undef,undef,.slice (some ⟨b,off,none⟩) (zs.length+1) cap,.int .i64 ((zs.length:Int)+1),.int .i64 (zs.length:Int),.slice (some ⟨b,off,none⟩) (zs.length+1) cap,.int .i64 (zs.length:Int),.pointer (some ⟨b,off+zs.length,none⟩),.int .i64 z,.slice (some ⟨b,off,none⟩) (zs.length+1) cap,.int .i64 (zs.length:Int),.slice (some ⟨b,off,none⟩) zs.length cap,.func (.func 263) #[] #[.pointer (some ⟨w.heap.size+1+1+1+1,0,none⟩)],.int .i64 (x.1:Int),.int .i64 (nth zs x.1),undef,undef,undef,undef,undef,undef,undef,undef,undef,undef,undef,undef],defers:=[] }) ?assign ?body ?done ?stop
 case assign=>
  intro l x W K hK
  gi_wp2
  exact hK
 case body=>
  rintro l pre ⟨k,hk⟩ W ⟨⟨⟨⟨⟨⟨hok,h3⟩,h0⟩,h1⟩,h2⟩,h4b⟩,hB⟩ _
  have hTw:=two_any f (nth zs k) (gT f zs z pre).1 (T k) (gT_in T Tz pre) W
  have HG:Hid (gT f zs z (pre++[⟨k,hk⟩])=(twoV f (nth zs k) (gT f zs z pre).1,twoE f (nth zs k) (gT f zs z pre).1)):=gT_snoc f zs z pre ⟨k,hk⟩ hok
  have HK:Hid (Boxed W (w.heap.size+1+1+1) 3 (.int .i64 (gT f zs z pre).1)/\Boxed W (w.heap.size) 22 (.int .i64 f)/\Boxed W (w.heap.size+1) 3 (.int .i64 0)/\Boxed W (w.heap.size+1+1) 32 (.nilIface)/\Boxed W (w.heap.size+1+1+1+1) 25 (.slice (some ⟨b,off,none⟩) zs.length cap)/\Below w.heap.size w W):=⟨h3,h0,h1,h2,h4b,hB⟩
  have hsz:=box_lt h4b
  generalize (gT f zs z pre).1=V0 at *
  generalize nth zs k=X0 at *
  dsimp only
  have c0:=h0.cell
  have c3:=h3.cell
  clear b0 b1 b2 b3 b4 hB0 hI h0 h1 h2 h3 h4b hB hok hz3 hz
  by_cases he:twoE f X0 V0=0
  ·rw[he] at hTw HG
   gi_wp2_with fail
   refine⟨trivial,(CallsIn.inRound l (callsIn_wide.2 hTw)).mono ?_⟩
   rintro e W1 ⟨rfl,hB1⟩
   rw[errV_zero]
   have HB1:Hid (Below W.heap.size W W1):=hB1
   have k3:=boxed_below HK.1 hB1 (by omega)
   have c4:=k3.cell
   have f4:=k3.frozen
   have hs1:=hB1.size
   clear hTw c3 c0 he hB1
   gi_wp2_with fail
   refine⟨(keeps_b HB1.out _).trans ((KeepsOthers.setCell _ _ _).from _),(kpt_below HB1.out (by omega) (by omega)).set 0 _ (by omega) (by omega),⟨⟨⟨⟨⟨by rw[HG.out],?_⟩,?_⟩,?_⟩,?_⟩,?_⟩,(HK.2.2.2.2.2.trans (HB1.mono (by omega))).setCell (p:=⟨w.heap.size+1+1+1,0,none⟩) (by simp;omega) _⟩
   ·rw[HG.out];exact k3.set _
   ·exact (boxed_below HK.2.1 HB1.out (by omega)).other (by omega) _
   ·exact (boxed_below HK.2.2.1 HB1.out (by omega)).other (by omega) _
   ·exact (boxed_below HK.2.2.2.1 HB1.out (by omega)).other (by omega) _
   ·exact (boxed_below HK.2.2.2.2.1 HB1.out (by omega)).other (by omega) _
  ·have HE:Hid (twoE f X0 V0≠0):=he
   rw[errV_pos he] at hTw
   gi_wp2_with fail
   refine⟨trivial,(CallsIn.inRound l (callsIn_wide.2 hTw)).mono ?_⟩
   rintro e W1 ⟨rfl,hB1⟩
   have HB1:Hid (Below W.heap.size W W1):=hB1
   have k1:=boxed_below HK.2.2.1 hB1 (by omega)
   have k2:=boxed_below HK.2.2.2.1 hB1 (by omega)
   have c4:=k1.cell
   have f4:=k1.frozen
   have c5:=k2.cell
   have f5:=k2.frozen
   have hs1:=hB1.size
   clear hTw c3 c0 he hB1
   gi_wp2_with fail
   refine⟨(keeps_b HB1.out _).trans (((KeepsOthers.setCell _ _ _).trans (KeepsOthers.setCell _ _ _)).from _),⟨⟨⟨rfl,by rw[HG.out];exact HE.out⟩,(k1.set (.int .i64 0)).other (by omega) _⟩,?_⟩,((HK.2.2.2.2.2.trans (HB1.mono (by omega))).setCell (p:=⟨w.heap.size+1,0,none⟩) (by simp<;>omega) _).setCell (p:=⟨w.heap.size+1+1,0,none⟩) (by simp;omega) _⟩
   rw[HG.out];exact (k2.other (by omega) _).set _
 case done=>
  rintro D ys W hD rfl ⟨⟨⟨⟨⟨⟨hok,h3⟩,h0⟩,h1⟩,h2⟩,h4b⟩,hB⟩ hK
  have hg:=gT_dn f zs z zs.length (Nat.le_refl _)
  rw[Nat.sub_self,List.drop_zero] at hg
  rw[hg] at hok h3
  have HV:Hid (fdE f (zs++[z])=0):=hok
  have c1:=h1.cell
  have f1:=h1.frozen
  have c2:=h2.cell
  have f2:=h2.frozen
  have c3:=h3.cell
  obtain⟨V,hV⟩:∃ V,V=(fd f (zs++[z])).1:=⟨_,rfl⟩
  have HVV:Hid (V=fdV f (zs++[z])):=hV
  rw[<-hV] at c3
  clear hok hg hV h3
  gi_wp2
  have e1:=(h1.set (.int .i64 V)).other (B':=w.heap.size+1+1) (by omega) .nilIface
  have e2:=(h2.other (B':=w.heap.size+1) (by omega) (.int .i64 V)).set .nilIface
  have hK':=((KeepsOthers.setCell W ⟨w.heap.size+1,0,none⟩ (.int .i64 V)).trans (KeepsOthers.setCell _ ⟨w.heap.size+1+1,0,none⟩ .nilIface)).same D _ hK rfl
  refine⟨by simp,.inl ⟨_,_,rfl,run_takeDeferred hK',?_⟩⟩
  have c8:=cell_kept e1.cell (grownBy_putObj' _ D (.deferred none)) (fun r e=>by cases e;exact⟨_,hK',rfl⟩)
  have c9:=cell_kept e2.cell (grownBy_putObj' _ D (.deferred none)) (fun r e=>by cases e;exact⟨_,hK',rfl⟩)
  refine⟨.tuple #[.int .i64 V,.nilIface],by simp[results,Tryz.f183,go_sem,c8,c9],V,by rw[HV.out];rfl,fun _=>HVV.out,((hB.setCell (p:=⟨w.heap.size+1,0,none⟩) (by simp<;>omega) _).setCell (p:=⟨w.heap.size+1+1,0,none⟩) (by simp;omega) _).trans (belowK_b (w:=w) (Nat.le_refl _) _ D _ _ (by simp at hD;omega) hK' rfl rfl)⟩
 case stop=>
  rintro D c pre W hD ⟨k,hk,rfl⟩ ⟨⟨⟨⟨rfl,hx⟩,h1⟩,h2⟩,hB⟩ hK
  rw[gT_dn f zs z k hk] at hx h2
  have hE:fdE f (zs++[z])=(fd f (zs.drop (zs.length-k)++[z])).2:=by
   have h:=fdE_suffix f (zs.take (zs.length-k)) (zs.drop (zs.length-k)++[z]) (by simp) hx
   rw[<-List.append_assoc,List.take_append_drop] at h
   exact h
  rw[<-hE] at hx h2
  have HX:Hid (fdE f (zs++[z])≠0):=hx
  clear hx hE
  gi_wp2
  refine⟨by simp,.inl ⟨_,_,rfl,run_takeDeferred hK,?_⟩⟩
  have c8:=cell_kept h1.cell (grownBy_putObj' _ D (.deferred none)) (fun r e=>by cases e;exact⟨_,hK,rfl⟩)
  have c9:=cell_kept h2.cell (grownBy_putObj' _ D (.deferred none)) (fun r e=>by cases e;exact⟨_,hK,rfl⟩)
  refine⟨.tuple #[.int .i64 0,.iface 28 (.int .i64 (fdE f (zs++[z])))],by simp[results,Tryz.f183,go_sem,c8,c9],0,by rw[errV_pos HX.out],fun h=>absurd h HX.out,hB.trans (belowK_b (w:=w) (Nat.le_refl _) _ D _ _ (by simp at hD;omega) hK rfl rfl)⟩
end Go.Proofs.YtkmmkcpfhnifhaaGreatDoor
namespace Go.Proofs.YtkmmkcpfhnifhaaGreatDoor
open Go.RowKit
theorem own_max {w:World}{base:Nat}{e:TypeId}{v:Value}{n:Nat}{xs:List Value}(h:w.ownsRow base e 1 v n xs):∀ g m c,v=.slice g m c->c<=9223372036854775807:=by
 intro g m c hv
 rcases h.2 with ⟨e1,_⟩ | ⟨g',cap',cur,e1,_,_,_,h1,_⟩
 ·rw[e1] at hv;simp only[Value.slice.injEq] at hv;omega
 ·rw[e1] at hv;simp only[Value.slice.injEq] at hv;unfold maxLen at h1;omega
theorem clone_cap (a:Option Addr)(cap:Nat)(zs:List Int)(h1:zs.length<=100000)(w:World)(hI:IsInts w.heap.size w a zs):
  Calls Tryz.prog 179 #[.slice a zs.length cap] w fun e w'=>∃ g c,e=.returned (.slice g zs.length c)/\NewC w.heap.size w' g zs c/\c<=9223372036854775807/\Below w.heap.size w w':=by
 have q0:∀ (w:World) (a:Option Addr) (n c n' c':Nat),(binOp .eql 25 (.slice a n c) (.slice none n' c')).run Tryz.prog w=.ok (.bool a.isNone) w:=fun w a n c n' c'=>Lib.run_eql_slice_nil w _ _ a n c n' c' Tryz.underlying25
 obtain⟨i0,hi,hz0,hz1,hz2⟩:=info_parts Tryz.infoInt
 cases a with
 | none=>
  have hz:zs=[]:=by
   rcases hI with h | ⟨_,_,h,_⟩
   ·exact h
   ·cases h
  subst hz
  go_enter Tryz.func179,Tryz.ntmps179
  go_wp2_with fail
  go_ret
  exact⟨none,0,rfl,⟨.inl rfl,Nat.le_refl _⟩,by decide,Below.refl _ _⟩
 | some ad=>
  have H0:=empty_own w 3
  have hI':=(hI.below ((Below.refl _ w).alloc (Nat.le_refl _) (.cells #[] 3)))
  have hnews:∀ j u,(zs.map (Value.int .i64))[j]?=some u->(w.alloc (.cells #[] 3)).cell? (ad.add j)=some u:=by
   intro j u hj
   rw[List.getElem?_map] at hj
   by_cases hl:j<zs.length
   ·obtain⟨b,off,e,hb,hc⟩:=hI'.at hl
    cases e
    rw[List.getElem?_eq_getElem hl] at hj
    simp only[Option.map_some] at hj
    obtain rfl:=Option.some.inj hj
    rw[<-nth_get zs j hl]
    have e:(⟨b,off,none⟩:Addr).add j=⟨b,off+j,none⟩:=by
     unfold Addr.add;split
     ·rename_i h0;subst h0;rfl
     ·rfl
    rw[e];exact hc j hl
   ·rw[List.getElem?_eq_none (by omega)] at hj;cases hj
  clear hI hI'
  go_enter Tryz.func179,Tryz.ntmps179
  go_wp2_with (at_builtin;refine wpList_append_own _ rfl _ _ 25 rfl w.heap.size 3 i0 (.int .i64 0) 1 8 Tryz.underlying25 hi hz0 hz1 hz2 rfl (by decide) _ _ _ rfl H0 ad zs.length cap (zs.map (Value.int .i64)) rfl (by simp) hnews (fun x hx=>by obtain⟨y,_,rfl⟩:=List.mem_map.1 hx;rfl) (by unfold maxLen;omega) (by omega) (by simp) ?_;intro v' w3 hown' hgrow3 hnil3)
  rw[List.nil_append,Nat.zero_add] at hown'
  have hB:Below w.heap.size w w3:=((Below.refl _ w).alloc (Nat.le_refl _) _).grown hgrow3 (by simp) (own_ge H0)
  have hmx:=own_max hown'
  obtain⟨g,c,rfl,hIJ⟩:=own_cap hown'
  have hcm:=hmx _ _ _ rfl
  go_wp2_with fail
  go_ret
  exact⟨g,c,rfl,hIJ,hcm,hB⟩
end Go.Proofs.YtkmmkcpfhnifhaaGreatDoor
