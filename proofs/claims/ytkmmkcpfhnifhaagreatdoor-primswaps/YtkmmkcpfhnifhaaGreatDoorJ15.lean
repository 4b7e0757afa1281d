/- What the program tells, in part. -/
import Derived.Test.YtkmmkcpfhnifhaaGreatDoorJ14
set_option linter.unusedVariables false
set_option maxHeartbeats 4000000
set_option maxRecDepth 100000
namespace Go.Proofs.YtkmmkcpfhnifhaaGreatDoor
open Go.RowKit Go.Shelf
attribute [local go_sem] Oper.semAt_some
theorem br1_in (F:Fence)(n:Nat)(hf1:F.fn 274)(hro:F.round=none)(hn:1<=n)(l Bs n₀:Nat)(a:Option Addr)(cap:Nat)(rs:List Rw)(hreach:rs.length<=9223372036854775807)(J Jx:List (Ax rs.length)->World->Prop)
  (hY:∀ pre x W,J pre W->pre.length<rs.length->YieldAt F (n-1) Tryz.prog l #[.int .i64 (x.1:Int),rv (rwa rs x.1)] W fun e W'=>
   (e=.returned (.bool true)/\J (pre++[x]) W'/\Kpt n₀ Bs W W')\/(e=.returned (.bool false)/\Jx (pre++[x]) W'))
  (W:World)(hBs:W.cell? ⟨Bs,0,none⟩=some (.slice a rs.length cap))(hI:IsR n₀ W a rs)(h0:J [] W):
  CallsIn F n Tryz.prog 274 #[.func (.yield l) #[] #[],.pointer (some ⟨Bs,0,none⟩)] W fun e W'=>(∃ v,e=.returned v) ∧
   ((∃ ys,ys=dn rs.length rs.length/\J ys W')\/(∃ pre,(∃ k,k<=rs.length/\pre=dn rs.length k)/\Jx pre W')):=by
 refine callsIn_of_wp Tryz.func274 rfl hf1 ?_ hro
 simp only[Tryz.ntmps274,List.size_toArray,List.length_cons,List.length_nil,Nat.reduceAdd,Nat.reduceSub,Array.replicate_succ,Array.replicate_zero,List.push_toArray,List.append_toArray,List.nil_append,List.cons_append]
 gi_wp2
 gi_loopw [3] (fun i wr=>((∃ q:Nat,q<rs.length/\i=.int .i64 q/\J (dn rs.length (rs.length-1-q)) wr)\/(i=.int .i64 (-1)/\J (dn rs.length rs.length) wr))/\Kpt n₀ Bs W wr)
  (fun i _=>(intOf i+1).toNat)
 case atStart=>
  refine⟨?_,Kpt.refl _ _ _⟩
  by_cases hz:rs.length=0
  ·right
   refine⟨int_eq (by omega),?_⟩
   have:dn rs.length rs.length=[]:=by rw[hz];rfl
   rw[this];exact h0
  ·left
   refine⟨rs.length-1,by omega,int_eq (by omega),?_⟩
   have:rs.length-1-(rs.length-1)=0:=by omega
   rw[this];exact h0
 case round=>
  obtain⟨hc,hkp⟩:=hrel
  have hBs':wr.cell? ⟨Bs,0,none⟩=some (.slice a rs.length cap):=(World.cell?_of_block (w:=W) (hkp Bs (.inr rfl))).trans hBs
  rcases hc with ⟨q,hq,rfl,hJs⟩ | ⟨rfl,hJs⟩
  ·obtain⟨b,off,rfl,hb,hcell⟩:=(hI.kept hkp).at hq
   have hcq:=hcell q hq
   obtain⟨fn,tmps,assign,body,hy,hR⟩:=hY _ ⟨q,hq⟩ wr hJs (by rw[dn_length _ _ (by omega)];omega)
   dsimp only at hy
   clear hcell hY
   gi_wp2
   refine hR.mono ?_
   rintro e W3 (⟨rfl,hJ3,hk3⟩ | ⟨rfl,hJx3⟩)
   ·gi_wp2
    go_roundw
    case rel=>
     refine⟨?_,hkp.trans hk3⟩
     rw[<-dn_next] at hJ3
     by_cases h1:q=0
     ·right
      subst h1
      exact⟨int_eq (by omega),hJ3⟩
     ·left
      refine⟨q-1,by omega,int_eq (by omega),?_⟩
      have:rs.length-1-(q-1)=rs.length-q:=by omega
      rw[this];exact hJ3
    case measure=>simp[intOf]
   ·gi_wp2
    refine bodyPost_ret (results_none rfl _ _ _) rfl ?_
    exact⟨⟨_,rfl⟩,.inr ⟨_,⟨rs.length-q,by omega,(dn_next _ _ _).symm⟩,hJx3⟩⟩
  ·gi_wp2
   go_end0
   exact⟨⟨_,rfl⟩,.inl ⟨_,rfl,hJs⟩⟩
theorem br_in (F:Fence)(n:Nat)(hf:F.fn 272)(hro:F.round=none)(a:Option Addr)(len cap:Nat)(w:World):
  CallsIn F n Tryz.prog 272 #[.slice a len cap] w fun e w'=>e=.returned (.func (.func 274) #[] #[.pointer (some ⟨w.heap.size,0,none⟩)])/\w'=w.alloc (.cells #[.slice a len cap] 161):=by
 refine callsIn_of_wp Tryz.func272 rfl hf ?_ hro
 simp only[Tryz.ntmps272,List.size_toArray,List.length_cons,List.length_nil,Nat.reduceAdd,Nat.reduceSub,Array.replicate_succ,Array.replicate_zero,List.push_toArray,List.append_toArray,List.nil_append,List.cons_append]
 gi_wp2
 go_ret
 exact⟨rfl,rfl⟩
theorem br_stops (F:Fence)(n:Nat)(hf1:F.fn 274)(hro:F.round=none)(hn:1<=n)(Bs n₀:Nat)(a:Option Addr)(cap:Nat)(rs:List Rw)(hreach:rs.length<=9223372036854775807)(w:World)(hBs:Bs<w.heap.size)(hn₀:n₀<=w.heap.size)
  (hc:w.cell? ⟨Bs,0,none⟩=some (.slice a rs.length cap))(hI:IsR n₀ w a rs):
  SeqStopsK F n Tryz.prog 274 #[.pointer (some ⟨Bs,0,none⟩)] (fun x:Ax rs.length=>#[Value.int .i64 (x.1:Int),rv (rwa rs x.1)]) (Kpt n₀ Bs) (fun ys=>ys=dn rs.length rs.length)
   (fun pre=>∃ k,k<=rs.length/\pre=dn rs.length k) rs.length w:=fun l J Jx W hW _ _ hY h0=>
 br1_in F n hf1 hro hn l Bs n₀ a cap rs hreach J Jx hY W ((hW.cell (p:=⟨Bs,0,none⟩) hBs).trans hc) (hI.below (hW.mono hn₀)) h0
end Go.Proofs.YtkmmkcpfhnifhaaGreatDoor
namespace Go.Proofs.YtkmmkcpfhnifhaaGreatDoor
def plainOp (o:Oper):Bool:=match o.op with
 | .move _ | .assign _ | .load .. | .store .. | .binOp .. | .unOp .. | .convert .. | .fieldAddr .. | .field .. | .indexAddr .. | .index .. | .extract .. | .makeInterface .. | .build .. | .alloc .. | .box .. | .slice .. | .makeSlice ..=>true
 | _=>false
def onN (Q:Exit->Act->World->Prop):Exit->Act->World->Prop
 | .normal,b,w=>Q .normal b w
 | _,_,_=>False
def plainR:Result Next->Prop
 | .ok (.value _) _=>True
 | .ok .skip _=>True
 | .halt _ _=>True
 | _=>False
theorem plain_v (s:Sem Value)(P:Program)(w:World):plainR ((do pure (Next.value (<-s)):Sem Next).run P w):=by
 rw[Sem.run_bind]
 cases s.run P w<;>simp[Result.andThen,plainR]
theorem plain_u (s:Sem Unit)(P:Program)(w:World):plainR ((do s;pure Next.skip:Sem Next).run P w):=by
 rw[Sem.run_bind]
 cases s.run P w<;>simp[Result.andThen,plainR]
theorem plain_run {o:Oper}(h:plainOp o=true)(ρ:Operand->Value)(P:Program)(w:World):plainR ((execOp ρ o).run P w):=by
 unfold plainOp at h
 unfold execOp
 cases ho:o.op<;>simp only[ho] at h ⊢<;>first | (cases h;done) | exact plain_v _ P w | exact plain_u _ P w | simp[plainR]
section
variable {F : Fence} {m : Nat} {P : Program} {ops : Array Oper} {Q : Exit → Act → World → Prop} {md : Region.Mode}
theorem upon_in {o:Oper}{a:Act}{K:Act->World->Prop}{r:Result Next}(hr:plainR r)(h:o.upon P a K (onN Q) r):o.uponIn F m P a K Q r:=by
 cases r with
 | ok x w'=>cases x<;>first | exact h | exact hr.elim
 | halt x w'=>cases x<;>exact h.elim
theorem plain_about {o:Oper}(h:plainOp o=true)(w:World)(ρ:Operand->Value):o.about P w ρ=none:=by
 unfold plainOp at h
 unfold Oper.about
 cases ho:o.op<;>simp only[ho] at h ⊢
 cases h
theorem plain_sem {o:Oper}(h:plainOp o=true)(ro:Option Nat)(ρ:Operand->Value):o.semAt ro ρ=execOp ρ o:=
 Oper.semAt_eq ro ρ o fun c hc=>by unfold plainOp at h;rw[hc] at h;cases h
theorem wpOp_in {i:Nat}{K:Act->World->Prop}{a:Act}{w:World}(hpl:∀ o,ops[i]?=some o->plainOp o=true)(h:wpOp P ops (onN Q) i K a w):wpOpIn F m P ops Q i K a w:=by
 unfold wpOp at h
 unfold wpOpIn
 cases ho:ops[i]? with
 | none=>simp only[ho] at h ⊢;exact h
 | some o=>
  have hp:=hpl o ho
  simp only[ho] at h ⊢
  have hab:∀ f,o.about P w a.eval=some f->F.fn f:=fun f hf=>by rw[plain_about hp] at hf;cases hf
  by_cases hw:Region.wanted o (yielded ops a.tmps)=true
  ·rw[if_pos hw] at h ⊢
   rcases h with h | ⟨_,h⟩
   ·refine⟨hab,?_⟩
    rw[plain_sem hp]
    exact upon_in (plain_run hp _ _ _) h
   ·obtain⟨_,_,h⟩:=h
    exact h.elim
  ·rw[if_neg hw] at h ⊢
   exact⟨hab,h⟩
theorem wpAny_in (hpl:ops.all plainOp=true):∀ (n:Nat) (l:Array Bool) (a:Act) (w:World),wpAny P md ops (onN Q) n l a w->wpAnyIn F m P md ops Q n l a w
 | 0,l,a,w,h=>h
 | n+1,l,a,w,h=>⟨h.1,fun i hi=>wpOpIn_mono (fun a w k=>wpAny_in hpl n _ a w k) (wpOp_in (fun o ho=>by
  obtain⟨hlt,he⟩:=Array.getElem?_eq_some_iff.1 ho
  rw[<-he]
  exact Array.all_eq_true.1 hpl i hlt) (h.2 i hi))⟩
theorem anyT_beginIn (s:Nat)(C:World->Prop)(n:Nat)(l:Array Bool){id:Nat}{a:Act}{w:World}(hm:P.follows .mixedOrders=true)(hn:ops.size=n)(hl:Array.replicate ops.size false=l)(hpl:ops.all plainOp=true)
  (h:anyT P .any ops (onN Q) s C n l a w.drew):(Code.region id ops true).wpIn F m P Q a w:=
 wpIn_region_any hm (wpAny_in hpl _ _ _ _ (by rw[hl,hn];exact h.plain))
end
end Go.Proofs.YtkmmkcpfhnifhaaGreatDoor
namespace Go.Proofs.YtkmmkcpfhnifhaaGreatDoor
open Go.RowKit Go.Shelf
attribute [local go_sem] Oper.semAt_some
theorem bxd {W:World}{b:Nat}{t:TypeId}{v:Value}(h:Boxed W b t v):Boxed W.drew b t v:=h
theorem src_any (fa:Option Addr)(fc:Nat)(rs:List Rw)(sa:Option Addr)(sc:Nat)(zs:List Int)(p:Nat)(he:errOf zs=0)(hl:rs.length=zs.length)(heS:errOf (gaS (rwl rs))=0)(hp:(p:Int)<prod (gaS (rwl rs)))(w:World)(hR:IsR w.heap.size w fa rs)(hI:IsInts w.heap.size w sa zs)(T:List Int)(hT:T=gaT (rwl rs) (cr (gaS (rwl rs)) p))(V:Int)(hV:V=if insB zs T=true then place zs T else 0)(B:Bool)(hBo:B=insB zs T):
  Calls Tryz.prog 264 #[.slice fa rs.length fc,.slice sa zs.length sc,.int .i64 (p:Nat)] w fun e w'=>e=.returned (.tuple #[.int .i64 V,.bool B])/\Below w.heap.size w w':=by
 have hz:=errOf_zero.1 he
 have hzS:=errOf_zero.1 heS
 have HP:Hid (AllPos (gaS (rwl rs))):=allPos_of_prod hzS.2.1 (by omega)
 have hlz:zs.length<=6:=hz.1
 have hp3:(p:Int)<4096:=by omega
 have HA:Hid (AllIn zs):=hz.2.1
 have HAS:Hid (AllIn (gaS (rwl rs))):=hzS.2.1
 have HL:Hid (rs.length=zs.length):=hl
 have HT:Hid (T=gaT (rwl rs) (cr (gaS (rwl rs)) p)):=hT
 have HM:Hid (prod zs<=4096):=hz.2.2
 have HVB:Hid (V=(if insB zs T=true then place zs T else 0)/\B=insB zs T):=⟨hV,hBo⟩
 have hrl:rs.length<=6:=by omega
 have hreach:rs.length<=9223372036854775807:=by omega
 have HN:Hid (rs.length=(rwl rs).length):=(rwl_length rs).symm
 clear hz hzS hl he heS hp hT hV hBo
 refine (callsIn_wide (n:=5)).1 ?_
 refine callsIn_of_wp_marks Tryz.func264 rfl trivial ?_ rfl
 simp only[Tryz.ntmps264,List.size_toArray,List.length_cons,List.length_nil,Nat.reduceAdd,Nat.reduceSub,Array.replicate_succ,Array.replicate_zero,List.push_toArray,List.append_toArray,List.nil_append,List.cons_append]
 gi_wp2_with fail
 refine⟨trivial,(br_in Fence.wide 4 trivial rfl _ _ _ _).mono ?_⟩
 rintro e w' ⟨rfl,rfl⟩
 gi_wp2_with fail
 have b0:=Boxed.new w 25 (.slice sa zs.length sc)
 have b1:=Boxed.new (w.alloc (.cells #[.slice sa zs.length sc] 25)) 3 (.int .i64 (p:Int))
 have b2:=Boxed.new ((w.alloc (.cells #[.slice sa zs.length sc] 25)).alloc (.cells #[.int .i64 (p:Int)] 3)) 3 (.int .i64 0)
 have b3:=Boxed.new (((w.alloc (.cells #[.slice sa zs.length sc] 25)).alloc (.cells #[.int .i64 (p:Int)] 3)).alloc (.cells #[.int .i64 0] 3)) 4 (.bool false)
 have b4:=Boxed.new ((((w.alloc (.cells #[.slice sa zs.length sc] 25)).alloc (.cells #[.int .i64 (p:Int)] 3)).alloc (.cells #[.int .i64 0] 3)).alloc (.cells #[.bool false] 4)) 3 (.int .i64 0)
 have b5:=Boxed.new (((((w.alloc (.cells #[.slice sa zs.length sc] 25)).alloc (.cells #[.int .i64 (p:Int)] 3)).alloc (.cells #[.int .i64 0] 3)).alloc (.cells #[.bool false] 4)).alloc (.cells #[.int .i64 0] 3)) 3 (.int .i64 1)
 have b6:=Boxed.new ((((((w.alloc (.cells #[.slice sa zs.length sc] 25)).alloc (.cells #[.int .i64 (p:Int)] 3)).alloc (.cells #[.int .i64 0] 3)).alloc (.cells #[.bool false] 4)).alloc (.cells #[.int .i64 0] 3)).alloc (.cells #[.int .i64 1] 3)) 161 (.slice fa rs.length fc)
 simp only[World.size_alloc] at b1 b2 b3 b4 b5 b6
 replace b0:=((((((b0.alloc (.cells #[.int .i64 (p:Int)] 3)).alloc (.cells #[.int .i64 0] 3)).alloc (.cells #[.bool false] 4)).alloc (.cells #[.int .i64 0] 3)).alloc (.cells #[.int .i64 1] 3)).alloc (.cells #[.slice fa rs.length fc] 161))
 replace b1:=(((((b1.alloc (.cells #[.int .i64 0] 3)).alloc (.cells #[.bool false] 4)).alloc (.cells #[.int .i64 0] 3)).alloc (.cells #[.int .i64 1] 3)).alloc (.cells #[.slice fa rs.length fc] 161))
 replace b2:=((((b2.alloc (.cells #[.bool false] 4)).alloc (.cells #[.int .i64 0] 3)).alloc (.cells #[.int .i64 1] 3)).alloc (.cells #[.slice fa rs.length fc] 161))
 replace b3:=(((b3.alloc (.cells #[.int .i64 0] 3)).alloc (.cells #[.int .i64 1] 3)).alloc (.cells #[.slice fa rs.length fc] 161))
 replace b4:=((b4.alloc (.cells #[.int .i64 1] 3)).alloc (.cells #[.slice fa rs.length fc] 161))
 replace b5:=(b5.alloc (.cells #[.slice fa rs.length fc] 161))
 have hB0:Below w.heap.size w (((((((w.alloc (.cells #[.slice sa zs.length sc] 25)).alloc (.cells #[.int .i64 (p:Int)] 3)).alloc (.cells #[.int .i64 0] 3)).alloc (.cells #[.bool false] 4)).alloc (.cells #[.int .i64 0] 3)).alloc (.cells #[.int .i64 1] 3)).alloc (.cells #[.slice fa rs.length fc] 161)):=((((((((Below.refl _ w).alloc (by simp<;>omega) _).alloc (by simp<;>omega) _).alloc (by simp<;>omega) _).alloc (by simp<;>omega) _).alloc (by simp<;>omega) _).alloc (by simp<;>omega) _).alloc (by simp<;>omega) _)
 refine wpIn_rangeFunc_ownG rfl (by omega) (gf:=274) (lb:=#[.pointer (some ⟨w.heap.size+1+1+1+1+1+1,0,none⟩)]) rfl trivial (enters_of Tryz.func274 (by kernel_rfl) rfl)
  (br_stops Fence.wide (5-1) trivial rfl (by omega) (w.heap.size+1+1+1+1+1+1) w.heap.size fa fc rs hreach _ (by simp) (by simp;omega) b6.cell (hR.below hB0)) (fun h k=>h.trans k) (kpt_b (by simp;omega) (by simp)) (Below.refl _ _) (fun _=>rfl)
  (fun pre W=>((((((gB (rwl rs) zs p pre=true/\Boxed W (w.heap.size+1+1+1+1) 3 (.int .i64 (gV (rwl rs) zs p pre)))/\Boxed W (w.heap.size+1+1+1+1+1) 3 (.int .i64 (gA (rwl rs) zs p pre)))/\Boxed W (w.heap.size+1) 3 (.int .i64 (gQ (rwl rs) zs p pre)))/\Boxed W w.heap.size 25 (.slice sa zs.length sc))/\Boxed W (w.heap.size+1+1) 3 (.int .i64 0))/\Boxed W (w.heap.size+1+1+1) 4 (.bool false))/\Below w.heap.size w W)
  (fun c pre W=>(((c=.ret/\gB (rwl rs) zs p pre=false)/\Boxed W (w.heap.size+1+1) 3 (.int .i64 0))/\Boxed W (w.heap.size+1+1+1) 4 (.bool false))/\Below w.heap.size w W)
  (OwnFrom.and (OwnFrom.and (OwnFrom.and (OwnFrom.and (OwnFrom.and (OwnFrom.and (OwnFrom.and (ownFrom_pure _ _) (Own.from (boxed_own _ _ _) _)) (Own.from (boxed_own _ _ _) _)) (Own.from (boxed_own _ _ _) _)) (Own.from (boxed_own _ _ _) _)) (Own.from (boxed_own _ _ _) _)) (Own.from (boxed_own _ _ _) _)) (ownFrom_below (Nat.le_refl _) (by simp;omega)))
  (fun c=>OwnFrom.and (OwnFrom.and (OwnFrom.and (ownFrom_pure _ _) (Own.from (boxed_own _ _ _) _)) (Own.from (boxed_own _ _ _) _)) (ownFrom_below (Nat.le_refl _) (by simp;omega)))
  ⟨⟨⟨⟨⟨⟨⟨rfl,b4⟩,b5⟩,b1⟩,b0⟩,b2⟩,b3⟩,hB0⟩
  (fun x=>{ tmps:=#[.slice fa rs.length fc,.slice sa zs.length sc,.int .i64 (p:Int),undef,.pointer (some ⟨w.heap.size,0,none⟩),.pointer (some ⟨w.heap.size+1,0,none⟩),.pointer (some ⟨w.heap.size+1+1,0,none⟩),.pointer (some ⟨w.heap.size+1+1+1,0,none⟩),.pointer (some ⟨w.heap.size+1+1+1+1,0,none⟩),.pointer (some ⟨w.heap.size+1+1+1+1+1,0,none⟩),.int .i64 (x.1:Int),rv (rwa rs x.1),undef,.slice fa rs.length fc,.func (.func 274) #[] #[.pointer (some ⟨w.heap.size+1+1+1+1+1+1,0,none⟩)],.int .i64 (x.1:Int),rv (rwa rs x.1),undef,undef,undef,undef,undef,undef,undef,undef,undef,undef,undef,undef,undef,undef,undef,undef,undef,undef,undef,undef,undef,undef,undef,undef,undef,undef,undef,undef,undef,undef,undef,undef,undef],defers:=[] }) ?assign ?body ?done ?stop
 case assign=>
  intro l x W K hK
  gi_wp2
  exact hK
 case body=>
  rintro l pre ⟨k,hk⟩ W ⟨⟨⟨⟨⟨⟨⟨hok,hv⟩,ha⟩,hq⟩,hsb⟩,h2⟩,h3⟩,hB⟩ _
  have hkz:k<zs.length:=by rw[<-HL.out];exact hk
  have hqb:=gQ_bd (zs:=zs) HP.out HN.out (p:=(p:Int)) (by omega) pre
  have hrow:=(hR.below hB).row hk
  have hgs:nth (gaS (rwl rs)) k=(rwa rs k).2.length:=by rw[gaS_nth (by rw[<-HN.out];exact hk),rwl_at]
  have hRp:0<(rwa rs k).2.length:=by have:=HP.out _ (nth_mem (gaS (rwl rs)) k (by rw[gaS_length,<-HN.out];exact hk));omega
  have hR4:(rwa rs k).2.length<=4096:=by have:=(HAS.nth k).2;omega
  have HQ:Hid (gQ (rwl rs) zs p (pre++[⟨k,hk⟩])=(gQ (rwl rs) zs p pre).tdiv ((rwa rs k).2.length:Int)):=by show _=_;rw[gQ_snoc,hgs]
  obtain⟨m,hm⟩:∃ m:Nat,(gQ (rwl rs) zs p pre).tmod ((rwa rs k).2.length:Int)=(m:Int):=⟨((gQ (rwl rs) zs p pre).tmod ((rwa rs k).2.length:Int)).toNat,by have:=Int.tmod_nonneg ((rwa rs k).2.length:Int) hqb.1;omega⟩
  have hml:m<(rwa rs k).2.length:=by have:=Int.tmod_lt_of_pos (gQ (rwl rs) zs p pre) (show (0:Int)<((rwa rs k).2.length:Int) by omega);omega
  have HG:Hid (gI (rwl rs) (gQ (rwl rs) zs p pre) k=nth (rwa rs k).2 m):=by show _=_;unfold gI;rw[hgs,hm,Int.toNat_natCast,rwl_at]
  have HV:Hid (gV (rwl rs) zs p (pre++[⟨k,hk⟩])=wrap64 (gV (rwl rs) zs p pre+wrap64 (nth (rwa rs k).2 m*gA (rwl rs) zs p pre))):=by show _=_;rw[gV_snoc,HG.out]
  have HAA:Hid (gA (rwl rs) zs p (pre++[⟨k,hk⟩])=wrap64 (gA (rwl rs) zs p pre*nth zs k)):=gA_snoc _ _ _ _ _ _
  have HBB:Hid (gB (rwl rs) zs p (pre++[⟨k,hk⟩])=decide (0<=nth (rwa rs k).2 m/\nth (rwa rs k).2 m<nth zs k)):=by show _=_;rw[gB_snoc,hok,Bool.true_and,HG.out]
  obtain⟨bi,oi,hri,hbi,hci⟩:=hrow.1.at hml
  have cm:=hci m hml
  obtain⟨b,off,rfl,hbb,hcell⟩:=(hI.below hB).at hkz
  have hck:=hcell k hkz
  have HRV:Hid (rv (rwa rs k)=.slice (some ⟨bi,oi,none⟩) (rwa rs k).2.length (rwa rs k).1.2):=by show _=_;unfold rv;rw[hri]
  clear hcell hci
  dsimp only
  rw[HRV.out]
  have em:gQ (rwl rs) zs p pre%((rwa rs k).2.length:Int)=(m:Int):=by rw[<-hm,Int.tmod_eq_emod_of_nonneg hqb.1]
  have ed:gQ (rwl rs) zs p pre/((rwa rs k).2.length:Int)=(gQ (rwl rs) zs p pre).tdiv ((rwa rs k).2.length:Int):=(Int.tdiv_eq_ediv_of_nonneg hqb.1).symm
  have HED:Hid (gQ (rwl rs) zs p (pre++[⟨k,hk⟩])=gQ (rwl rs) zs p pre/((rwa rs k).2.length:Int)):=by show _=_;rw[HQ.out,ed]
  clear ed hm hgs hri hrow HG HQ
  have c0:=hsb.cell
  have c1:=hq.cell
  have f1:=hq.frozen
  have c2:=h2.cell
  have f2:=h2.frozen
  have c3:=h3.cell
  have f3:=h3.frozen
  have c4:=hv.cell
  have f4:=hv.frozen
  have c5:=ha.cell
  have f5:=ha.frozen
  generalize gV (rwl rs) zs p pre=V0 at *
  generalize gA (rwl rs) zs p pre=A0 at *
  generalize gQ (rwl rs) zs p pre=Q0 at *
  generalize nth (rwa rs k).2 m=I0 at *
  generalize nth zs k=Z0 at *
  generalize (rwa rs k).2.length=L0 at *
  generalize (rwa rs k).1.2=C0 at *
  obtain⟨hq1,hq2⟩:=hqb
  by_cases h1:I0<0
  ·have HF:Hid (gB (rwl rs) zs p (pre++[⟨k,hk⟩])=false):=by show _=_;rw[HBB.out];simp;omega
   have HK:Hid (Boxed W (w.heap.size+1+1) 3 (.int .i64 0)/\Boxed W (w.heap.size+1+1+1) 4 (.bool false)/\Below w.heap.size w W):=⟨h2,h3,hB⟩
   clear b0 b1 b2 b3 b4 b5 b6 hB0 hI hR hv ha hq hsb h2 h3 hB HA HAS HP HL HT HM HN HV HAA HBB HED HRV hok
   gi_wp2
   exact⟨((KeepsOthers.setCell _ _ _).trans (KeepsOthers.setCell _ _ _)).from _,⟨⟨⟨rfl,HF.out⟩,(HK.1.set (.int .i64 0)).other (by omega) _⟩,(HK.2.1.other (by omega) _).set _⟩,(HK.2.2.setCell (p:=⟨w.heap.size+1+1,0,none⟩) (by simp;omega) _).setCell (p:=⟨w.heap.size+1+1+1,0,none⟩) (by simp;omega) _⟩
  ·by_cases h1':Z0<=I0
   ·have HF:Hid (gB (rwl rs) zs p (pre++[⟨k,hk⟩])=false):=by show _=_;rw[HBB.out];simp;omega
    have HK:Hid (Boxed W (w.heap.size+1+1) 3 (.int .i64 0)/\Boxed W (w.heap.size+1+1+1) 4 (.bool false)/\Below w.heap.size w W):=⟨h2,h3,hB⟩
    clear b0 b1 b2 b3 b4 b5 b6 hB0 hI hR hv ha hq hsb h2 h3 hB HA HAS HP HL HT HM HN HV HAA HBB HED HRV hok
    gi_wp2
    exact⟨((KeepsOthers.setCell _ _ _).trans (KeepsOthers.setCell _ _ _)).from _,⟨⟨⟨rfl,HF.out⟩,(HK.1.set (.int .i64 0)).other (by omega) _⟩,(HK.2.1.other (by omega) _).set _⟩,(HK.2.2.setCell (p:=⟨w.heap.size+1+1,0,none⟩) (by simp;omega) _).setCell (p:=⟨w.heap.size+1+1+1,0,none⟩) (by simp;omega) _⟩
   ·have HF:Hid (gB (rwl rs) zs p (pre++[⟨k,hk⟩])=true):=by show _=_;rw[HBB.out];simp;omega
    refine wpIn_mono (Q:=fun e _ W'=>e=.normal/\W'=(((W.setCell ⟨w.heap.size+1+1+1+1,0,none⟩ (.int .i64 (wrap64 (V0+wrap64 (I0*A0))))).setCell ⟨w.heap.size+1+1+1+1+1,0,none⟩ (.int .i64 (wrap64 (A0*Z0)))).drew).setCell ⟨w.heap.size+1,0,none⟩ (.int .i64 (Q0/(L0:Int)))) ?_ ?_
    ·clear b0 b1 b2 b3 b4 b5 b6 hB0 hI hR hv ha hq hsb h2 h3 hB HA HAS HP HL HT HM HN HV HAA HBB HED HRV hok HF
     have hfol:Tryz.prog.follows Departure.mixedOrders=true:=by kernel_rfl
     have hL0:¬ (L0:Int)=0:=by omega
     gi_wp2
     gi_region_with_o (fail)
     all_goals gi_wp2
    ·rintro e a9 W' ⟨rfl,rfl⟩
     refine⟨((((KeepsOthers.setCell _ _ _).trans (KeepsOthers.setCell _ _ _)).trans (KeepsOthers.drew _)).trans (KeepsOthers.setCell _ _ _)).from _,(((Kpt.setCell W 0 _ (by omega) (by omega)).set 0 _ (by omega) (by omega)).drew).set 0 _ (by omega) (by omega),⟨⟨⟨⟨⟨⟨HF.out,?_⟩,?_⟩,?_⟩,?_⟩,?_⟩,?_⟩,(((hB.setCell (p:=⟨w.heap.size+1+1+1+1,0,none⟩) (by simp;omega) _).setCell (p:=⟨w.heap.size+1+1+1+1+1,0,none⟩) (by simp;omega) _).drew).setCell (p:=⟨w.heap.size+1,0,none⟩) (by simp) _⟩
     ·rw[HV.out];exact Boxed.other (bxd (Boxed.other (Boxed.set _ hv) (by omega) _)) (by omega) _
     ·rw[HAA.out];exact Boxed.other (bxd (Boxed.set _ (Boxed.other ha (by omega) _))) (by omega) _
     ·rw[HED.out];exact Boxed.set _ (bxd (Boxed.other (Boxed.other hq (by omega) _) (by omega) _))
     ·exact Boxed.other (bxd (Boxed.other (Boxed.other hsb (by omega) _) (by omega) _)) (by omega) _
     ·exact Boxed.other (bxd (Boxed.other (Boxed.other h2 (by omega) _) (by omega) _)) (by omega) _
     ·exact Boxed.other (bxd (Boxed.other (Boxed.other h3 (by omega) _) (by omega) _)) (by omega) _
 case done=>
  rintro D ys W hD rfl ⟨⟨⟨⟨⟨⟨⟨hok,hv⟩,ha⟩,hq⟩,hsb⟩,h2⟩,h3⟩,hB⟩ hK
  obtain⟨g1,g2⟩:=g_all (zs:=zs) HN.out HL.out p
  rw[<-HT.out] at g1 g2
  rw[g1] at hok
  have hpb:=place_bd hok
  rw[g2,w_small (by omega) (by have:=HM.out;omega)] at hv
  have HOK:Hid (insB zs T=true):=hok
  clear g1 g2 hpb hok
  have c2:=h2.cell
  have f2:=h2.frozen
  have c3:=h3.cell
  have f3:=h3.frozen
  have c4:=hv.cell
  gi_wp2
  have e1:=(h2.set (.int .i64 (place zs T))).other (B':=w.heap.size+1+1+1) (by omega) (.bool true)
  have e2:=(h3.other (B':=w.heap.size+1+1) (by omega) (.int .i64 (place zs T))).set (.bool true)
  have hK':=((KeepsOthers.setCell W ⟨w.heap.size+1+1,0,none⟩ (.int .i64 (place zs T))).trans (KeepsOthers.setCell _ ⟨w.heap.size+1+1+1,0,none⟩ (.bool true))).same D _ hK rfl
  refine⟨by simp,.inl ⟨_,_,rfl,run_takeDeferred hK',?_⟩⟩
  have c8:=cell_kept e1.cell (grownBy_putObj' _ D (.deferred none)) (fun r e=>by cases e;exact⟨_,hK',rfl⟩)
  have c9:=cell_kept e2.cell (grownBy_putObj' _ D (.deferred none)) (fun r e=>by cases e;exact⟨_,hK',rfl⟩)
  refine⟨.tuple #[.int .i64 (place zs T),.bool true],by simp[results,Tryz.f264,go_sem,c8,c9],?_,((hB.setCell (p:=⟨w.heap.size+1+1,0,none⟩) (by simp;omega) _).setCell (p:=⟨w.heap.size+1+1+1,0,none⟩) (by simp;omega) _).trans (belowK_b (w:=w) (Nat.le_refl _) _ D _ _ (by simp at hD;omega) hK' rfl rfl)⟩
  rw[HVB.1,HVB.2,HOK.out,if_pos rfl]
 case stop=>
  rintro D c pre W hD ⟨k,hk,rfl⟩ ⟨⟨⟨⟨rfl,hx⟩,h2⟩,h3⟩,hB⟩ hK
  have HOK:Hid (insB zs T=false):=by show _=_;rw[HT.out];exact g_some HN.out HL.out p hk hx
  clear hx
  gi_wp2
  refine⟨by simp,.inl ⟨_,_,rfl,run_takeDeferred hK,?_⟩⟩
  have c8:=cell_kept h2.cell (grownBy_putObj' _ D (.deferred none)) (fun r e=>by cases e;exact⟨_,hK,rfl⟩)
  have c9:=cell_kept h3.cell (grownBy_putObj' _ D (.deferred none)) (fun r e=>by cases e;exact⟨_,hK,rfl⟩)
  refine⟨.tuple #[.int .i64 0,.bool false],by simp[results,Tryz.f264,go_sem,c8,c9],?_,hB.trans (belowK_b (w:=w) (Nat.le_refl _) _ D _ _ (by simp at hD;omega) hK rfl rfl)⟩
  rw[HVB.1,HVB.2,HOK.out,if_neg Bool.false_ne_true]
end Go.Proofs.YtkmmkcpfhnifhaaGreatDoor
namespace Go.Proofs.YtkmmkcpfhnifhaaGreatDoor
open Go.RowKit
theorem div3 {a r b L R:Int}(hr0:0<=r)(hr:r<L)(hb0:0<=b)(hb:b<R):((a*L+r)*R+b)/R=a*L+r/\((a*L+r)*R+b)%R=b/\(a*L+r)/L=a/\(a*L+r)%L=r:=by
 refine⟨?_,?_,?_,?_⟩
 ·rw[Int.add_comm,Int.add_mul_ediv_right _ _ (by omega),Int.ediv_eq_zero_of_lt hb0 hb];omega
 ·rw[Int.add_comm,Int.add_mul_emod_self_right];exact Int.emod_eq_of_lt hb0 hb
 ·rw[Int.add_comm,Int.add_mul_ediv_right _ _ (by omega),Int.ediv_eq_zero_of_lt hr0 hr];omega
 ·rw[Int.add_comm,Int.add_mul_emod_self_right];exact Int.emod_eq_of_lt hr0 hr
theorem stp_set {s:List Int}{x:Nat}(v:Int):stp (s.set x v) x=stp s x:=by unfold stp;rw[List.drop_set];simp
theorem place_other:∀ {s t:List Int} {x:Nat} (K v:Int),insB s t=true->x<s.length->place (s.set x K) (t.set x v)=place s t/stp s x/nth s x*(K*stp s x)+v*stp s x+place s t%stp s x
 | [],_,_,_,_,_,h=>by simp at h
 | _::_,[],_,_,_,h,_=>by simp[insB] at h
 | a::s,u::t,0,K,v,h,_=>by
  have h0:=ins_at h (x:=0) (by simp)
  rw[nth_zero,nth_zero] at h0
  have ht:insB s t=true:=by simp only[insB,Bool.and_eq_true] at h;exact h.2
  have hb:=place_bd ht
  have hd:=div3 (a:=0) (L:=a) (R:=prod s) h0.1 h0.2 hb.1 hb.2
  simp only[Int.zero_mul,Int.zero_add] at hd
  simp only[List.set_cons_zero,place,stp_zero,nth_zero]
  rw[hd.1,hd.2.1,hd.2.2.1]
  omega
 | a::s,u::t,x+1,K,v,h,hx=>by
  have ht:insB s t=true:=by simp only[insB,Bool.and_eq_true] at h;exact h.2
  have hx':x<s.length:=by simpa using hx
  have ih:=place_other K v ht hx'
  have hp:=al_pos ht
  have hR:=stp_pos hp x
  have hL:0<nth s x:=by have:=ins_at ht hx';omega
  have e:=al_split s hx'
  have e2:=prod_set hx' K
  simp only[List.set_cons_succ,place,stp_succ,nth_succ]
  rw[ih,e2]
  have e3:u*prod s+place s t=place s t+(u*prod (s.take x)*nth s x)*stp s x:=by rw[e];simp only[Int.mul_assoc];omega
  rw[e3,Int.add_mul_ediv_right _ _ (by omega),Int.add_mul_emod_self_right,Int.add_mul_ediv_right _ _ (by omega),Int.add_mul]
  have e4:u*(K*rest s x)=u*prod (s.take x)*(K*stp s x):=by
   unfold rest stp
   rw[Int.mul_assoc,<-Int.mul_assoc K,Int.mul_comm K,Int.mul_assoc]
  rw[e4]
  omega
section
variable {m s dz : List Int} {x : Nat} {c : Bool}
end
def blk (s:List Int)(x:Nat):Int:=prod (s.drop x)
theorem blk_eq {s:List Int}{x:Nat}(hx:x<s.length):blk s x=nth s x*stp s x:=by
 unfold blk stp
 rw[drop_nth s x hx]
 rfl
section
variable {x : Nat} {c c' : Bool} {s dz s' dz' : List Int}
theorem jn_same {k:Nat}(hl:s.length=s'.length)(hx:x<s.length)(ho:othB x s s'=true):s'=s.set x (nth s' x):=by
 refine nth_ext (by simp[hl]) fun k hk=>?_
 rw[nth_set _ _ _ _ hx]
 split
 ·rename_i e;rw[e]
 ·rename_i e;exact (othB_iff.1 ho k (by omega) e).symm
theorem jn_stp (hl:s.length=s'.length)(hx:x<s.length)(ho:othB x s s'=true):stp s' x=stp s x:=by
 rw[jn_same (k:=0) hl hx ho,stp_set]
theorem jn_lens (h:jnE x c s dz c' s' dz'=0):∃ O A B:Nat,(A:Int)=blk s x/\(B:Int)=blk s' x/\(jnD x s dz s' dz').length=O*(A+B)/\((jnD x s dz s' dz').length:Int)=prod (jnS x s s')/\(0<A+B->dz.length=O*A/\dz'.length=O*B)/\(jnD x s dz s' dz').length<=4096 ∧
  (∀ k j:Nat,k<O->j<A+B->nth (jnD x s dz s' dz') (k*(A+B)+j)=if j<A then nth dz (k*A+j) else nth dz' (k*B+(j-A))):=by
 obtain⟨h1,h2,h3,h4,h5,h6,h7⟩:=jnZ.1 h
 have hz:=errOf_zero.1 (flawE_zero h1).1
 have hz':=errOf_zero.1 (flawE_zero h2).1
 have hj:=errOf_zero.1 h7
 have hd:=(flawE_zero h1).2.1
 have hd':=(flawE_zero h2).2.1
 have e1:=blk_eq h4
 have e2:=blk_eq (s:=s') (x:=x) (by omega)
 rw[jn_stp h3 h4 h5] at e2
 have hR:0<=stp s x:=(stp_60 (flawE_zero h1).1 x).1
 have hLa:=(hz.2.1.nth x).1
 have hLb:=(hz'.2.1.nth x).1
 have hO:0<=prod (s.take x):=prod_nonneg fun y hy=>hz.2.1 y (List.mem_of_mem_take hy)
 have hA0:0<=nth s x*stp s x:=Int.mul_nonneg hLa hR
 have hB0:0<=nth s' x*stp s x:=Int.mul_nonneg hLb hR
 have hP:=al_split (jnS x s s') (x:=x) (by rw[jnS_length];exact h4)
 have t1:(jnS x s s').take x=s.take x:=by
  unfold jnS
  rw[List.take_set]
  exact List.set_eq_of_length_le (by rw[List.length_take];omega)
 have t2:stp (jnS x s s') x=stp s x:=stp_set _
 rw[t1,jnS_at h4,t2,Int.add_mul] at hP
 have hlen:((jnD x s dz s' dz').length:Int)=prod (jnS x s s'):=TA_len h7
 have hPa:=al_split s h4
 have hPb:=al_split s' (x:=x) (by omega)
 have t3:s'.take x=s.take x:=by
  rw[jn_same (k:=0) h3 h4 h5,List.take_set]
  exact List.set_eq_of_length_le (by rw[List.length_take];omega)
 rw[t3,jn_stp h3 h4 h5] at hPb
 obtain⟨O,hOe⟩:∃ O:Nat,(O:Int)=prod (s.take x):=⟨(prod (s.take x)).toNat,by omega⟩
 obtain⟨A,hAe⟩:∃ A:Nat,(A:Int)=nth s x*stp s x:=⟨(nth s x*stp s x).toNat,by omega⟩
 obtain⟨B,hBe⟩:∃ B:Nat,(B:Int)=nth s' x*stp s x:=⟨(nth s' x*stp s x).toNat,by omega⟩
 rw[<-hOe,<-hAe,<-hBe] at hP
 rw[<-hOe,<-hAe] at hPa
 rw[<-hOe,<-hBe] at hPb
 have hlen2:(jnD x s dz s' dz').length=O*(A+B):=by
  have:((jnD x s dz s' dz').length:Int)=((O*(A+B):Nat):Int):=by rw[hlen,hP];simp
  exact_mod_cast this
 refine⟨O,A,B,by rw[e1];exact hAe,by rw[e2];exact hBe,hlen2,hlen,fun _=>⟨?_,?_⟩,by omega,fun k j hk hj0=>?_⟩
 ·have:(dz.length:Int)=((O*A:Nat):Int):=by rw[hd,hPa];simp
  exact_mod_cast this
 ·have:(dz'.length:Int)=((O*B:Nat):Int):=by rw[hd',hPb];simp
  exact_mod_cast this
 ·have hlt:k*(A+B)+j<O*(A+B):=by
   have:(k+1)*(A+B)<=O*(A+B):=Nat.mul_le_mul_right _ hk
   rw[Nat.add_mul] at this
   omega
  have hi:k*(A+B)+j<(prod (jnS x s s')).toNat:=by omega
  obtain⟨ht,hp⟩:=cr_in h7 hi
  unfold jnD
  rw[TA_nth hi]
  generalize cr (jnS x s s') (k*(A+B)+j)=t at ht hp
  have hidx:=idx_at ht (x:=x) (by rw[jnS_length];exact h4)
  have hpo:=fun K v=>place_other K v ht (x:=x) (by rw[jnS_length];exact h4)
  have hpos:=al_pos ht
  have hRp:0<stp s x:=by have:=stp_pos hpos x;rwa [t2] at this
  have htx:=ins_at ht (x:=x) (by rw[jnS_length];exact h4)
  rw[jnS_at h4] at htx
  rw[t2,jnS_at h4,hp] at hidx
  have hl':t.length=s.length:=by have:=insB_len ht;rwa [jnS_length] at this
  obtain⟨L,hL⟩:∃ L,L=nth s x+nth s' x:=⟨_,rfl⟩
  obtain⟨R,hRe⟩:∃ R,R=stp s x:=⟨_,rfl⟩
  have hLp:0<L:=by omega
  have hT:((A+B:Nat):Int)=L*R:=by rw[hL,hRe,Int.add_mul];omega
  have hpk:((k*(A+B)+j:Nat):Int)=((k:Int)*L+(j:Int)/R)*R+(j:Int)%R:=by
   have:(j:Int)/R*R+(j:Int)%R=j:=by rw[Int.mul_comm];exact Int.mul_ediv_add_emod _ _
   have e:((k*(A+B)+j:Nat):Int)=(k:Int)*((A+B:Nat):Int)+j:=by simp
   rw[e,hT,Int.add_mul,Int.mul_assoc];omega
  have hj1:0<=(j:Int)/R:=Int.ediv_nonneg (by omega) (by omega)
  have hj2:(j:Int)/R<L:=by
   have:(j:Int)<L*R:=by omega
   exact (Int.ediv_lt_iff_lt_mul (by omega)).2 this
  have hj3:=Int.emod_nonneg (j:Int) (show R≠0 by omega)
  have hj4:=Int.emod_lt_of_pos (j:Int) (show 0<R by omega)
  obtain⟨d1,d2,d3,d4⟩:=div3 (a:=(k:Int)) hj1 hj2 hj3 hj4
  have hq:nth t x=(j:Int)/R:=by rw[<-hidx,<-hL,<-hRe,hpk,d1,d4]
  have hjj:(j:Int)/R*R+(j:Int)%R=j:=by rw[Int.mul_comm];exact Int.mul_ediv_add_emod _ _
  have hpl:∀ K v,place ((jnS x s s').set x K) (t.set x v)=k*(K*R)+v*R+(j:Int)%R:=fun K v=>by
   rw[hpo K v,t2,jnS_at h4,hp,<-hL,<-hRe,hpk,d1,d2,d3]
  unfold jnC cel
  have hiff:nth t x<nth s x ↔ j<A:=by
   rw[hq,Int.ediv_lt_iff_lt_mul (by omega),hRe,<-hAe]
   omega
  by_cases hja:j<A
  ·rw[if_pos (hiff.2 hja),if_pos hja]
   congr 1
   have hh:=hpl (nth s x) (nth t x)
   have s1:(jnS x s s').set x (nth s x)=s:=by unfold jnS;rw[set_set];exact set_get h4 rfl
   rw[s1,set_get (by omega) rfl,hq,hRe,<-hAe,<-hRe,Int.add_assoc,hjj] at hh
   rw[hh]
   have:(k:Int)*(A:Int)+(j:Int)=((k*A+j:Nat):Int):=by simp
   rw[this,Int.toNat_natCast]
  ·rw[if_neg (fun hc=>hja (hiff.1 hc)),if_neg hja]
   congr 1
   have hh:=hpl (nth s' x) (nth t x-nth s x)
   have s1:(jnS x s s').set x (nth s' x)=s':=by unfold jnS;rw[set_set];exact (jn_same (k:=0) h3 h4 h5).symm
   rw[s1,hq,Int.sub_mul,hRe,<-hAe,<-hBe,<-hRe] at hh
   rw[hq,hh]
   have:(k:Int)*(B:Int)+((j:Int)/R*R-A)+(j:Int)%R=((k*B+(j-A):Nat):Int):=by
    have:((k*B+(j-A):Nat):Int)=(k:Int)*(B:Int)+((j:Int)-A):=by
     rw[Int.natCast_add,Int.natCast_mul];omega
    rw[this];omega
   rw[this,Int.toNat_natCast]
end
theorem jn_take {D X Y:List Int}{O A B k:Nat}(hD:D.length=O*(A+B))(hX:X.length=O*A)(hY:Y.length=O*B)(hk:k<O)
  (h:∀ k j:Nat,k<O->j<A+B->nth D (k*(A+B)+j)=if j<A then nth X (k*A+j) else nth Y (k*B+(j-A))):
  D.take ((k+1)*(A+B))=D.take (k*(A+B))++(X.drop (k*A)).take A++(Y.drop (k*B)).take B:=by
 have b0:(k+1)*(A+B)<=O*(A+B):=Nat.mul_le_mul_right _ hk
 have b1:(k+1)*A<=O*A:=Nat.mul_le_mul_right _ hk
 have b2:(k+1)*B<=O*B:=Nat.mul_le_mul_right _ hk
 have m0:(k+1)*(A+B)=k*(A+B)+(A+B):=by rw[Nat.add_mul,Nat.one_mul]
 have m1:(k+1)*A=k*A+A:=by rw[Nat.add_mul,Nat.one_mul]
 have m2:(k+1)*B=k*B+B:=by rw[Nat.add_mul,Nat.one_mul]
 have l0:(D.take (k*(A+B))).length=k*(A+B):=by rw[List.length_take];omega
 have l1:((X.drop (k*A)).take A).length=A:=by rw[List.length_take,List.length_drop];omega
 have l2:((Y.drop (k*B)).take B).length=B:=by rw[List.length_take,List.length_drop];omega
 refine nth_ext (by rw[List.length_take,List.length_append,List.length_append,l0,l1,l2];omega) fun j hj=>?_
 rw[List.length_take] at hj
 rw[nth_take _ _ _ (by omega)]
 by_cases j0:j<k*(A+B)
 ·rw[nth_append_left _ _ _ (by rw[List.length_append];omega),nth_append_left _ _ _ (by omega),nth_take _ _ _ j0]
 ·obtain⟨i,rfl⟩:∃ i,j=k*(A+B)+i:=⟨j-k*(A+B),by omega⟩
  rw[h k i hk (by omega)]
  by_cases ja:i<A
  ·rw[if_pos ja,nth_append_left _ _ _ (by rw[List.length_append];omega)]
   unfold nth
   simp only[List.getD_eq_getElem?_getD]
   rw[List.getElem?_append_right (by omega),l0,Nat.add_sub_cancel_left,List.getElem?_take,if_pos ja,List.getElem?_drop]
  ·rw[if_neg ja]
   unfold nth
   simp only[List.getD_eq_getElem?_getD]
   rw[List.getElem?_append_right (by rw[List.length_append];omega),List.length_append,l0,l1,List.getElem?_take,if_pos (by omega),List.getElem?_drop]
   congr 2
   omega
end Go.Proofs.YtkmmkcpfhnifhaaGreatDoor
