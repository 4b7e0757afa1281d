/- What the program tells, in part. -/
import Derived.Test.YtkmmkcpfhnifhaaGreatDoorJ30
set_option linter.unusedVariables false
set_option maxHeartbeats 2000000
set_option maxRecDepth 100000
namespace Go.Proofs.YtkmmkcpfhnifhaaGreatDoor
open Go.RowKit
theorem chklines_any (c:Bool)(sa:Option Addr)(sc:Nat)(sz:List Int)(da:Option Addr)(dc:Nat)(dz:List Int)(ba:Option Addr)(bc:Nat)(bs:List BrV)(h1:sz.length<=9223372036854775807)(h2:dz.length<=9223372036854775807)(h3:bs.length<=9223372036854775807)(w:World)(hs:IsInts w.heap.size w sa sz)(hd:IsInts w.heap.size w da dz)(hb:IsBs w.heap.size w ba bs):
  Calls Tryz.prog 173 #[.agg #[.bool c,.slice sa sz.length sc,.slice da dz.length dc],.slice ba bs.length bc] w fun e w'=>e=.returned (errV (lnE8 c sz dz bs))/\Below w.heap.size w w':=by
 have HB0:Hid (Below w.heap.size w (w.alloc (.cells #[.bool c,.slice sa sz.length sc,.slice da dz.length dc] 27))):=(Below.refl _ w).alloc (Nat.le_refl _) _
 have pa:=Abx.new w (.bool c) (.slice sa sz.length sc) (.slice da dz.length dc)
 have p0:=pa.c0
 have p1:=pa.c1
 have p2:=pa.c2
 have HI:Hid (IsInts w.heap.size w sa sz/\IsInts w.heap.size w da dz/\IsBs w.heap.size w ba bs):=⟨hs,hd,hb⟩
 have hp:=chkall8 c sa sc sz da dc dz ba bc bs h1 h2 h3 (w.alloc (.cells #[.bool c,.slice sa sz.length sc,.slice da dz.length dc] 27)) ((HI.1.below HB0.out).mono HB0.size) ((HI.2.1.below HB0.out).mono HB0.size) ((HI.2.2.below HB0.out).mono HB0.size)
 clear hs hd hb
 by_cases h0:bsE c sz dz bs=0
 ·have HE:Hid (lnE8 c sz dz bs=if sz.length≠1\/lnB bs=false then 3 else 0):=by show _=_;unfold lnE8;rw[if_neg (not_not_intro h0)]
  have er0:errV 0=.nilIface:=rfl
  rw[h0,er0] at hp
  clear h0 er0
  go_enter Tryz.func173,Tryz.ntmps173
  go_wp2_with fail
  refine hp.mono ?_
  clear hp
  rintro e v1 ⟨rfl,hC⟩
  have HB1:Hid (Below w.heap.size w v1):=HB0.trans (hC.mono HB0.size)
  have HP:Hid (Abx v1 w.heap.size (.bool c) (.slice sa sz.length sc) (.slice da dz.length dc)):=pa.go hC
  clear hC pa p0 p1 p2 HB0
  have a0:=HP.c0
  have a1:=HP.c1
  have a2:=HP.c2
  go_wp2_with fail
  refine (isline_any c sa sc sz (.slice da dz.length dc) v1).mono ?_
  rintro e v2 ⟨rfl,hC⟩
  have HB2:Hid (Below w.heap.size w v2):=HB1.trans (hC.mono HB1.size)
  clear hC a0 a1 a2
  by_cases hl:sz.length=1
  ·rw[decide_eq_true hl]
   have HL:Hid (sz.length=1):=hl
   clear hl
   go_wp2_with fail
   go_loopw [20] (fun i wr=>∃ k:Nat,k<=bs.length/\i=.int .i64 k/\Hid (lnB (bs.take k)=true)/\Below w.heap.size w wr) (fun i _=>bs.length-(intOf i).toNat)
   case atStart=>exact⟨0,Nat.zero_le _,rfl,rfl,HB2.out⟩
   case round=>
    obtain⟨k,hk,rfl,HT,hB⟩:=hrel
    by_cases hlt:k<bs.length
    ·obtain⟨b,off,rfl,hbb,hcell⟩:=(HI.2.2.below hB).at hlt
     obtain⟨c0,c1,c2⟩:=hcell k hlt
     have HBw:Hid (Below w.heap.size w wr):=hB
     have HZ:Hid ((brz bs k).2.1.2.length=1->lnB (bs.take (k+1))=true):=fun q=>lnB_next hlt HT.out q
     have HY:Hid ((brz bs k).2.1.2.length≠1->lnB bs=false):=fun q=>lnB_bad hlt q
     clear hcell hB HT
     generalize brz bs k=B at *
     obtain⟨cb,⟨⟨sb,scb⟩,szb⟩,⟨⟨db,dcb⟩,dzb⟩⟩:=B
     unfold BrV.s at c1
     unfold BrV.d at c2
     dsimp only at c0 c1 c2 HZ HY
     have HBx:Hid (Below w.heap.size wr (wr.alloc (.cells #[.bool cb,.slice sb szb.length scb,.slice db dzb.length dcb] 27))):=(Below.refl _ wr).alloc HBw.size _
     have pb:=Abx.new wr (.bool cb) (.slice sb szb.length scb) (.slice db dzb.length dcb)
     have q0:=pb.c0
     have q1:=pb.c1
     have q2:=pb.c2
     go_wp2_with fail
     refine (isline_any cb sb scb szb (.slice db dzb.length dcb) _).mono ?_
     rintro e v3 ⟨rfl,hC⟩
     have HB3:Hid (Below w.heap.size w v3):=(HBw.trans HBx.out).trans (hC.mono (HBw.trans HBx.out).size)
     clear hC pb q0 q1 q2 c0 c1 c2
     by_cases hf:szb.length=1
     ·rw[decide_eq_true hf]
      have HN:Hid (lnB (bs.take (k+1))=true):=HZ.out hf
      clear hf HZ HY
      go_wp2_with fail
      exact⟨⟨k+1,by omega,by go_num,HN.out,HB3.out⟩,by simp[intOf];omega⟩
     ·rw[decide_eq_false hf]
      have HN:Hid (lnB bs=false):=HY.out hf
      clear hf HZ HY
      go_wp2_with fail
      go_ret
      exact⟨ret_err8 (by decide) (by rw[HE.out,if_pos (.inr HN.out)]),HB3.out⟩
    ·obtain rfl:k=bs.length:=by omega
     have hfin:Hid (lnB bs=true):=by
      have:=HT.out
      rwa [List.take_of_length_le (Nat.le_refl _)] at this
     clear HT
     go_wp2_with fail
     go_ret
     exact⟨ret_nil8 (by rw[HE.out,if_neg (by rw[hfin.out,HL.out];simp)]),hB⟩
  ·rw[decide_eq_false hl]
   have HL:Hid (sz.length≠1):=hl
   clear hl
   go_wp2_with fail
   go_ret
   exact⟨ret_err8 (by decide) (by rw[HE.out,if_pos (.inl HL.out)]),HB2.out⟩
 ·have HE:Hid (lnE8 c sz dz bs=bsE c sz dz bs/\bsE c sz dz bs≠0):=⟨by unfold lnE8;rw[if_pos h0],h0⟩
  rw[errV_pos h0] at hp
  clear h0
  go_enter Tryz.func173,Tryz.ntmps173
  go_wp2_with fail
  refine hp.mono ?_
  clear hp
  rintro e v1 ⟨rfl,hC⟩
  have HB1:Hid (Below w.heap.size w v1):=HB0.trans (hC.mono HB0.size)
  clear hC pa p0 p1 p2 HB0
  go_wp2_with fail
  go_ret
  exact⟨ret_err8 HE.2 HE.1,HB1.out⟩
theorem line8_any (c:Bool)(a:Option Addr)(cap:Nat)(zs:List Int)(w:World):
  Calls Tryz.prog 175 #[.bool c,.slice a zs.length cap] w fun e w'=>∃ sa sc,e=.returned (.agg #[.bool c,.slice sa 1 sc,.slice a zs.length cap])/\NewC w.heap.size w' sa [(zs.length:Int)] sc/\Below w.heap.size w w':=by
 go_enter Tryz.func175,Tryz.ntmps175
 go_wp2_with fail
 refine bodyPost_ret (v:=.agg #[.bool c,.slice (some ⟨w.heap.size+1,0,none⟩) 1 1,.slice a zs.length cap]) (by simp[results,Tryz.results175,go_sem]) rfl ⟨some ⟨w.heap.size+1,0,none⟩,1,rfl,⟨?_,Nat.le_refl _⟩,((Below.refl _ w).alloc (Nat.le_refl _) _).alloc (by simp) _⟩
 have:=new_ints1 (w.alloc (.cells #[.bool c,.slice (some ⟨w.heap.size+1,0,none⟩) 1 1,.slice a zs.length cap] 27)) 3 zs.length
 rw[World.size_alloc w] at this
 exact this.low (by omega)
theorem fdN_app_in {v:Int}:∀ {l r:List Int},v∈l->fdN true true v (l++r)=fdN true true v l
 | [],_,h=>by simp at h
 | x::l,r,h=>by
  show (if true=true/\x=v then 0 else fdN true true v (l++r)+1)=(if true=true/\x=v then 0 else fdN true true v l+1)
  by_cases e:x=v
  ·rw[if_pos ⟨rfl,e⟩,if_pos ⟨rfl,e⟩]
  ·rw[if_neg (fun q=>e q.2),if_neg (fun q=>e q.2),fdN_app_in]
   rcases List.mem_cons.1 h with h | h
   ·exact absurd h.symm e
   ·exact h
theorem fdN_app_new {v:Int}:∀ {l:List Int},v∉l->fdN true true v (l++[v])=l.length
 | [],_=>by simp[fdN]
 | x::l,h=>by
  show (if true=true/\x=v then 0 else fdN true true v (l++[v])+1)=_
  have h1:x≠v:=fun e=>h (by rw[e];exact List.mem_cons_self)
  rw[if_neg (fun q=>h1 q.2),fdN_app_new (fun q=>h (List.mem_cons_of_mem _ q)),List.length_cons]
def FirstD (D:DataW Unit)(zs:List Int):Prop:=
 ∀ v:Int,Maps.has D (.int .i64 v)=decide (v∈zs)/\(v∈zs->∀ z,D.atKey (.int .i64 v) z=.lit (.int .i64 (fdN true true v zs)))
theorem firstD_nil:FirstD (.map []) []:=fun v=>⟨by simp[Maps.has],fun h=>by simp at h⟩
theorem firstD_seen {D:DataW Unit}{zs:List Int}{k:Nat}(h:FirstD D (zs.take k))(hk:k<zs.length)(hm:nth zs k∈zs.take k):FirstD D (zs.take (k+1)):=fun v=>by
 rw[List.take_succ_eq_append_getElem hk,<-nth_get zs k hk]
 have hv:v∈zs.take k++[nth zs k] ↔ v∈zs.take k:=by
  rw[List.mem_append,List.mem_singleton]
  exact⟨fun q=>q.elim id (fun e=>by rw[e];exact hm),.inl⟩
 refine⟨by rw[(h v).1];exact decide_eq_decide.2 hv.symm,fun q z=>?_⟩
 rw[(h v).2 (hv.1 q) z,fdN_app_in (hv.1 q)]
theorem lit_ne {a b:Int}(h:a≠b):(Lit.int .i64 a)≠.int .i64 b:=fun e=>h (by injection e)
theorem firstD_new {D:DataW Unit}{zs:List Int}{k:Nat}(hD:Maps.IsMap D)(h:FirstD D (zs.take k))(hk:k<zs.length)(hm:nth zs k∉zs.take k)(hkey:WideAt.IsKeyLit (.int .i64 (nth zs k))):FirstD (D.put (.int .i64 (nth zs k)) (.lit (.int .i64 k))) (zs.take (k+1)):=fun v=>by
 rw[List.take_succ_eq_append_getElem hk,<-nth_get zs k hk]
 by_cases e:v=nth zs k
 ·rw[e]
  refine⟨by rw[Maps.has_put_same hD hkey];simp,fun _ z=>?_⟩
  rw[Maps.atKey_put_same hD hkey,fdN_app_new hm,List.length_take_of_le (by omega)]
 ·have hv:v∈zs.take k++[nth zs k] ↔ v∈zs.take k:=by
   rw[List.mem_append,List.mem_singleton]
   exact⟨fun q=>q.elim id (fun e'=>absurd e' e),.inl⟩
  refine⟨by rw[Maps.has_put_other (lit_ne e),(h v).1];exact decide_eq_decide.2 hv.symm,fun q z=>?_⟩
  rw[Maps.atKey_put_other (lit_ne e),(h v).2 (hv.1 q) z,fdN_app_in (hv.1 q)]
def FndD (D:DataW Unit)(c ch:Bool)(dz:List Int):Prop:=
 ∀ v:Int,Maps.has D (.int .i64 v)=hsB c dz ch v/\(hsB c dz ch v=true->∀ z,D.atKey (.int .i64 v) z=.lit (.int .i64 (fdN c ch v dz)))
theorem fdN_kind {c:Bool}{v:Int}:∀ dz:List Int,fdN c c v dz=fdN true true v dz
 | []=>rfl
 | x::r=>by simp only[fdN];rw[fdN_kind r]
theorem fndD_of {D:DataW Unit}{c ch:Bool}{dz:List Int}(e:c=ch)(h:FirstD D dz):FndD D c ch dz:=fun v=>by
 subst e
 have e1:hsB c dz c v=decide (v∈dz):=by unfold hsB;simp
 refine⟨by rw[(h v).1,e1],fun q z=>?_⟩
 rw[(h v).2 (hsB_iff.1 q).2 z,fdN_kind (c:=c)]
theorem fndD_no {D:DataW Unit}{c ch:Bool}{dz:List Int}(e:c≠ch)(h:FirstD D []):FndD D c ch dz:=fun v=>by
 have e1:hsB c dz ch v=false:=hsB_no.2 fun q=>e q.1
 refine⟨by rw[(h v).1,e1];simp,fun q=>by rw[e1] at q;cases q⟩
def fnV8 (c ch:Bool)(v:Int)(dz:List Int):Int:=if hsB c dz ch v=true then (fdN c ch v dz:Int) else 0
theorem fdV_of {D:DataW Unit}{c ch:Bool}{dz:List Int}{v a:Int}(h:FndD D c ch dz)(ha:D.atKey (.int .i64 v) (.lit (.int .i64 0))=.lit (.int .i64 a)):a=fnV8 c ch v dz:=by
 unfold fnV8
 by_cases q:hsB c dz ch v=true
 ·rw[if_pos q]
  rw[(h v).2 q] at ha
  injection ha with ha
  injection ha with _ ha
  exact ha.symm
 ·have q':hsB c dz ch v=false:=by simpa using q
  rw[if_neg q]
  rw[Maps.atKey_of_not_has (by rw[(h v).1,q'])] at ha
  injection ha with ha
  injection ha with _ ha
  exact ha.symm
theorem zero8 (w:World):(zeroValue 3).run Tryz.prog w=.ok (.int .i64 0) w:=by kernel_rfl
theorem law8:Maps.Keyed Tryz.prog 3:=Maps.int_keyed Tryz.underlying3
theorem wf8 {x:Int}(h:In64 x):(Lit.int .i64 x).wf=true:=WalkArith.wf_i64 (by unfold In64 at h;omega)
theorem key8 {x:Int}(h:In64 x):keyOf Tryz.prog 3 (.int .i64 x)=some (.int .i64 x):=Maps.keyOf_int_mk Tryz.underlying3 (wf8 h)
def Finds (lo:Nat)(W:World)(p:Nat)(c ch:Bool)(dz:List Int):Prop:=
 lo<=p/\p<W.heap.size/\∃ (B n:Nat) (D:DataW Unit),lo<=B/\W.cell? ⟨p,0,none⟩=some (.map (some B))/\W.ownsMap Tryz.prog 3 (plainElem Tryz.prog 3) B n D/\FndD D c ch dz
section
variable {lo p : Nat} {W W' : World} {c ch : Bool} {dz : List Int}
theorem owns_go {B n:Nat}{D:DataW Unit}(h:W.ownsMap Tryz.prog 3 (plainElem Tryz.prog 3) B n D)(hB:Below W.heap.size W W'):W'.ownsMap Tryz.prog 3 (plainElem Tryz.prog 3) B n D:=by
 have hl:=h.lt
 obtain⟨es,clock,hb,F,hs,hD⟩:=h
 exact⟨es,clock,(hB.block B hl).trans hb,F,hs,hD⟩
theorem Finds.go (h:Finds lo W p c ch dz)(hB:Below W.heap.size W W'):Finds lo W' p c ch dz:=by
 obtain⟨h1,h2,B,n,D,h3,h4,h5,h6⟩:=h
 exact⟨h1,Nat.lt_of_lt_of_le h2 hB.size,B,n,D,h3,(hB.cell (p:=⟨p,0,none⟩) h2).trans h4,owns_go h5 hB,h6⟩
theorem Finds.low {lo':Nat}(hl:lo'<=lo)(h:Finds lo W p c ch dz):Finds lo' W p c ch dz:=by
 obtain⟨h1,h2,B,n,D,h3,h4⟩:=h
 exact⟨by omega,h2,B,n,D,by omega,h4⟩
theorem Finds.set {a:Addr}(ha:a.block<lo)(u:Value)(h:Finds lo W p c ch dz):Finds lo (W.setCell a u) p c ch dz:=by
 obtain⟨h1,h2,B,n,D,h3,h4,h5,h6⟩:=h
 exact⟨h1,by simpa[World.setCell] using h2,B,n,D,h3,(World.cell?_of_block (Below.heap_setCell W a u p (by omega))).trans h4,h5.setCell (by omega) u,h6⟩
end
theorem find1_any (lo p:Nat)(c ch:Bool)(dz:List Int)(x:Int)(T:In64 x)(w:World)(h:Finds lo w p c ch dz):
  Calls Tryz.prog 237 #[.int .i64 x,.pointer (some ⟨p,0,none⟩)] w fun e w'=>e=.returned (.tuple #[.int .i64 (fnV8 c ch x dz),.bool (hsB c dz ch x)])/\w'=w:=by
 obtain⟨_,_,B,n,D,_,hc,hown,hF⟩:=h
 have HF:Hid (FndD D c ch dz):=hF
 have HO:Hid (w.ownsMap Tryz.prog 3 (plainElem Tryz.prog 3) B n D):=hown
 have HT:Hid (In64 x):=T
 have hh:Maps.has D (.int .i64 x)=hsB c dz ch x:=(hF x).1
 clear hF hown T
 go_enter Tryz.func237,Tryz.ntmps237
 go_wp2_with (at_lookup;refine wpList_lookup_own_ok_int _ rfl _ _ 213 rfl 3 3 .i64 law8 Tryz.underlying213 Tryz.underlying3 (zero8 _) B n D rfl HO.out _ _ rfl (key8 HT.out) ?_;intro a hat hwc;rw[hh])
 go_ret2
 exact⟨by rw[fdV_of HF.out hat];rfl,rfl⟩
def FinderP (c ch:Bool)(dz:List Int)(w:World)(e:Ending)(w':World):Prop:=
 ∃ p,e=.returned (.func (.func 237) #[] #[.pointer (some ⟨p,0,none⟩)])/\Finds w.heap.size w' p c ch dz/\Below w.heap.size w w'
theorem finder_any (c:Bool)(S:Value)(da:Option Addr)(dc:Nat)(dz:List Int)(ch:Bool)(h2:dz.length<=4096)(w:World)(hd:IsInts w.heap.size w da dz)(T:∀ j,In64 (nth dz j)):
  Calls Tryz.prog 174 #[.agg #[.bool c,S,.slice da dz.length dc],.bool ch] w (FinderP c ch dz w):=by
 have HD:Hid (IsInts w.heap.size w da dz):=hd
 have HT:Hid (∀ j,In64 (nth dz j)):=T
 have hmm:=@run_makeMap Tryz.prog
 clear hd T
 by_cases hk:c=ch
 ·subst hk
  go_enter Tryz.func174,Tryz.ntmps174
  go_wp2_with fail
  go_loopw [18] (fun i wr=>∃ k:Nat,k<=dz.length/\i=.int .i64 k/\(∃ D:DataW Unit,wr.ownsMap Tryz.prog 3 (plainElem Tryz.prog 3) (w.heap.size+1) k D/\FirstD D (dz.take k))/\wr.heap[w.heap.size+2]?=some (.cells #[.map (some (w.heap.size+1))] 213 (0,0))/\Below w.heap.size w wr) (fun i _=>dz.length-(intOf i).toNat)
  case atStart=>
   refine⟨0,Nat.zero_le _,rfl,⟨.map [],?_,firstD_nil⟩,?_,(((Below.refl _ w).alloc (Nat.le_refl _) _).alloc (by simp) _).alloc (by simp;omega) _⟩
   ·have:=World.ownsMap_made (H:=Unit) (w.alloc (.cells #[.bool c,S,.slice da dz.length dc] 27)) Tryz.prog 3 (plainElem Tryz.prog 3)
    rw[World.size_alloc] at this
    exact this.alloc _
   ·have:=heap_alloc_new ((w.alloc (.cells #[.bool c,S,.slice da dz.length dc] 27)).alloc (.map #[] 0)) (.cells #[.map (some (w.heap.size+1))] 213 (0,0))
    rw[World.size_alloc,World.size_alloc] at this
    exact this
  case round=>
   obtain⟨k,hk,rfl,⟨D,hown,hF⟩,hbx,hB⟩:=hrel
   have HO:Hid (wr.ownsMap Tryz.prog 3 (plainElem Tryz.prog 3) (w.heap.size+1) k D):=hown
   have HF:Hid (FirstD D (dz.take k)):=hF
   have HX:Hid (wr.heap[w.heap.size+2]?=some (.cells #[.map (some (w.heap.size+1))] 213 (0,0))):=hbx
   have HB:Hid (Below w.heap.size w wr):=hB
   have cb:=cell_of_one hbx
   clear hown hF hbx hB
   by_cases hlt:k<dz.length
   ·obtain⟨b,off,rfl,hb,hc⟩:=(HD.below HB.out).at hlt
    have ck:=hc k hlt
    clear hc
    obtain⟨x,hx⟩:∃ x,x=nth dz k:=⟨_,rfl⟩
    have HTx:Hid (In64 x):=by rw[hx];exact HT.out k
    have hh:=(HF.out x).1
    rw[<-hx] at ck
    have HX2:Hid (x=nth dz k):=hx
    clear hx
    by_cases hm:x∈dz.take k
    ·rw[decide_eq_true hm] at hh
     have HS:Hid (FirstD D (dz.take (k+1))):=firstD_seen HF.out hlt (by rw[<-HX2.out];exact hm)
     clear hm
     go_wp2_with (at_lookup;refine wpList_lookup_own_ok_int _ rfl _ _ 213 rfl 3 3 .i64 law8 Tryz.underlying213 Tryz.underlying3 (zero8 _) (w.heap.size+1) k D rfl HO.out _ _ rfl (key8 HTx.out) ?_;intro a hat hwc;rw[hh])
     exact⟨⟨k+1,by omega,by go_num,⟨D,HO.mono (Nat.le_succ _),HS.out⟩,HX.out,HB.out⟩,by simp[intOf];omega⟩
    ·rw[decide_eq_false hm] at hh
     have HS:Hid (FirstD (D.put (.int .i64 x) (.lit (.int .i64 k))) (dz.take (k+1))):=by rw[HX2.out];exact firstD_new HO.isMap HF.out hlt (by rw[<-HX2.out];exact hm) trivial
     clear hm
     go_wp2_with (first | (at_lookup;refine wpList_lookup_own_ok_int _ rfl _ _ 213 rfl 3 3 .i64 law8 Tryz.underlying213 Tryz.underlying3 (zero8 _) (w.heap.size+1) k D rfl HO.out _ _ rfl (key8 HTx.out) ?_;intro a hat hwc;rw[hh]) | (at_mapUpdate;refine wpList_mapUpdate_own _ rfl _ _ _ 213 rfl 3 3 law8 Tryz.underlying213 _ (w.heap.size+1) k D rfl HO.out (by unfold maxLen;omega) _ _ _ rfl rfl (key8 HTx.out) _ [] (plainElem_int Tryz.underlying3 (WalkArith.wf_i64 (by omega))) ?_;intro w1 hown1 hgrow1))
     refine⟨⟨k+1,by omega,by go_num,⟨_,hown1,HS.out⟩,?_,?_⟩,by simp[intOf];omega⟩
     ·have:=hgrow1.block (w.heap.size+2) (Array.getElem?_eq_some_iff.1 HX.out).1 (by simp)
      exact this.trans HX.out
     ·exact HB.grown hgrow1 HB.size (fun j hj=>by cases hj;omega)
   ·obtain rfl:k=dz.length:=by omega
    have hF':=HF.out
    rw[List.take_length] at hF'
    have hlt2:w.heap.size+2<wr.heap.size:=(Array.getElem?_eq_some_iff.1 HX.out).1
    have HG:Hid (Finds w.heap.size wr (w.heap.size+2) c c dz):=⟨by omega,hlt2,w.heap.size+1,dz.length,D,by omega,cb,HO.out,fndD_of rfl hF'⟩
    clear hF'
    go_wp2_with fail
    go_ret
    exact⟨w.heap.size+2,rfl,HG.out,HB.out⟩
 ·have hkk:(c == ch)=false:=by simpa using hk
  have HK:Hid (c≠ch):=hk
  clear hk
  go_enter Tryz.func174,Tryz.ntmps174
  go_wp2_with fail
  go_ret
  refine⟨w.heap.size+2,rfl,⟨by omega,by simp,w.heap.size+1,0,.map [],by omega,?_,?_,fndD_no HK.out firstD_nil⟩,(((Below.refl _ w).alloc (Nat.le_refl _) _).alloc (by simp) _).alloc (by simp;omega) _⟩
  ·have:=heap_alloc_new ((w.alloc (.cells #[.bool c,S,.slice da dz.length dc] 27)).alloc (.map #[] 0)) (.cells #[.map (some (w.heap.size+1))] 213 (0,0))
   rw[World.size_alloc,World.size_alloc] at this
   exact cell_of_one this
  ·have:=World.ownsMap_made (H:=Unit) (w.alloc (.cells #[.bool c,S,.slice da dz.length dc] 27)) Tryz.prog 3 (plainElem Tryz.prog 3)
   rw[World.size_alloc] at this
   exact this.alloc _
def kpQ (Q:Nat->Bool)(dz:List Int):Nat->List Int
 | 0=>[]
 | k+1=>if Q k=true then kpQ Q dz k++[nth dz k] else kpQ Q dz k
theorem kpQ_len (Q:Nat->Bool)(dz:List Int):∀ k,(kpQ Q dz k).length<=k
 | 0=>Nat.le_refl _
 | k+1=>by
  have:=kpQ_len Q dz k
  simp only[kpQ]
  split
  ·rw[List.length_append];simp;omega
  ·omega
def SoP (b:Bool)(w:World)(e:Ending)(w':World):Prop:=e=.returned (.bool b)/\Below w.heap.size w w'
def NoP (x:Int)(w:World)(e:Ending)(w':World):Prop:=e=.returned (.int .i64 x)/\Below w.heap.size w w'
def KeptP (L:List Int)(w:World)(e:Ending)(w':World):Prop:=∃ g gc,e=.returned (.slice g L.length gc)/\NewC w.heap.size w' g L gc/\Below w.heap.size w w'
theorem keptf8_any (c:Bool)(S:Value)(da:Option Addr)(dc:Nat)(dz:List Int)(f:Nat)(cs:List Value)(hE:∀ args w,(callFunc f args).run Tryz.prog w=.ok (.enter f args) w)(Q:Nat->Bool)(h2:dz.length<=4096)(w:World)(hd:IsInts w.heap.size w da dz)
  (H:∀ i,i<dz.length->∀ w',Below w.heap.size w w'->Calls Tryz.prog f (.int .i64 (i:Nat)::.int .i64 (nth dz i)::cs).toArray w' (SoP (Q i) w')):
  Calls Tryz.prog 176 #[.agg #[.bool c,S,.slice da dz.length dc],.func (.func f) #[] cs.toArray] w (KeptP (kpQ Q dz dz.length) w):=by
 have HD:Hid (IsInts w.heap.size w da dz):=hd
 have HH:Hid (∀ i,i<dz.length->∀ w',Below w.heap.size w w'->Calls Tryz.prog f (.int .i64 (i:Nat)::.int .i64 (nth dz i)::cs).toArray w' (SoP (Q i) w')):=H
 clear hd H
 go_enter Tryz.func176,Tryz.ntmps176
 go_wp2_with fail
 go_loopw [5,11] (fun v i wr=>∃ k:Nat,k<=dz.length/\i=.int .i64 k/\wr.ownsRow w.heap.size 3 1 v (kpQ Q dz k).length ((kpQ Q dz k).map (Value.int .i64))/\Below w.heap.size w wr) (fun _ i _=>dz.length-(intOf i).toNat)
 case atStart=>exact⟨0,Nat.zero_le _,rfl,World.ownsRow_nil _ _ _ _,(Below.refl _ w).alloc (Nat.le_refl _) _⟩
 case round=>
  obtain⟨k,hk,rfl,hown,hB⟩:=hrel
  by_cases hlt:k<dz.length
  ·obtain⟨b,off,rfl,hb,hc⟩:=(HD.below hB).at hlt
   have ck:=hc k hlt
   have HB:Hid (Below w.heap.size w wr):=hB
   have HW:Hid (wr.ownsRow w.heap.size 3 1 u5 (kpQ Q dz k).length ((kpQ Q dz k).map (Value.int .i64))):=hown
   have hkl:=kpQ_len Q dz k
   have HL:Hid ((kpQ Q dz k).length<=4096):=by show _<=_;omega
   clear hc hB hown hkl
   obtain⟨x,hx⟩:∃ x,x=nth dz k:=⟨_,rfl⟩
   have HX:Hid (x=nth dz k):=hx
   rw[<-hx] at ck
   clear hx
   have HC:Hid (Calls Tryz.prog f (.int .i64 (k:Nat)::.int .i64 x::cs).toArray wr (SoP (Q k) wr)):=by rw[HX.out];exact HH.out k hlt wr HB.out
   have HS:Hid (kpQ Q dz (k+1)=if Q k=true then kpQ Q dz k++[x] else kpQ Q dz k):=by show _=_;rw[HX.out];rfl
   cases hq:Q k
   ·rw[hq] at HS HC
    clear hq
    go_wp2_with fail
    refine HC.mono ?_
    rintro e w1 ⟨rfl,hb1⟩
    have HB1:Hid (Below wr.heap.size wr w1):=hb1
    clear hb1
    go_wp2_with fail
    refine⟨⟨k+1,by omega,by go_num,?_,HB.trans (HB1.mono HB.size)⟩,by simp[intOf];omega⟩
    rw[HS.out,if_neg (by decide)]
    exact own_go HW.out HB1.out
   ·rw[hq] at HS HC
    clear hq
    go_wp2_with fail
    refine HC.mono ?_
    rintro e w1 ⟨rfl,hb1⟩
    have HB1:Hid (Below wr.heap.size wr w1):=hb1
    have HW1:Hid (w1.ownsRow w.heap.size 3 1 u5 (kpQ Q dz k).length ((kpQ Q dz k).map (Value.int .i64))):=own_go HW.out hb1
    have hz:w.heap.size<=w1.heap.size:=Nat.le_trans HB.size hb1.size
    clear hb1
    generalize kpQ Q dz k=L at *
    go_wp2_with (at_builtin;refine app_list rfl _ _ rfl _ w.heap.size w1.heap.size u5 L x rfl rfl (HW1.alloc _) (heap_alloc_new w1 _) (by have:=HL.out;omega) (by simp;omega) ?_;intro g1 gc1 w3 hown1 hB3)
    refine⟨⟨k+1,by omega,by go_num,?_,(HB.trans (HB1.mono HB.size)).trans (((Below.refl _ w1).alloc hz _).trans hB3)⟩,by simp[intOf];omega⟩
    rw[HS.out,if_pos trivial,List.length_append]
    exact hown1
  ·obtain rfl:k=dz.length:=by omega
   obtain⟨g,gc,rfl,hN⟩:=own_cap hown
   clear hown
   go_wp2_with fail
   go_ret
   exact⟨g,gc,rfl,hN,hB⟩
abbrev FindV (p:Nat):Value:=.func (.func 237) #[] #[.pointer (some ⟨p,0,none⟩)]
theorem index1_any (lo p q r:Nat)(c ch:Bool)(da:Option Addr)(dc:Nat)(dz:List Int)(x:Int)(T:In64 x)(w:World)(h:Finds lo w p c ch dz)(hq:w.cell? ⟨q,0,none⟩=some (FindV p))(hr:w.cell? ⟨r,2,none⟩=some (.slice da dz.length dc)):
  Calls Tryz.prog 198 #[.int .i64 x,.pointer (some ⟨q,0,none⟩),.pointer (some ⟨r,0,none⟩)] w (NoP (fdN c ch x dz) w):=by
 have HF:Hid (Finds lo w p c ch dz):=h
 have HT:Hid (In64 x):=T
 clear h T
 unfold FindV at hq
 cases hb:hsB c dz ch x
 ·have HE:Hid ((fdN c ch x dz:Int)=dz.length):=by
   have h1:=fdN_le (c:=c) (ch:=ch) (v:=x) dz
   have h2:¬ fdN c ch x dz<dz.length:=fun q=>by rw[fdN_lt,hb] at q;cases q
   show _=_;omega
  have hp:=find1_any lo p c ch dz x HT.out w HF.out
  rw[hb] at hp
  clear hb
  go_enter Tryz.func198,Tryz.ntmps198
  go_wp2_with fail
  refine hp.mono ?_
  clear hp
  rintro e w1 ⟨rfl,rfl⟩
  go_wp2_with fail
  go_ret
  exact⟨by rw[HE.out];rfl,Below.refl _ _⟩
 ·have HE:Hid (fnV8 c ch x dz=(fdN c ch x dz:Int)):=by show _=_;unfold fnV8;rw[if_pos hb]
  have hp:=find1_any lo p c ch dz x HT.out w HF.out
  rw[hb] at hp
  clear hb
  go_enter Tryz.func198,Tryz.ntmps198
  go_wp2_with fail
  refine hp.mono ?_
  clear hp
  rintro e w1 ⟨rfl,rfl⟩
  go_wp2_with fail
  go_ret
  exact⟨by rw[<-HE.out];rfl,Below.refl _ _⟩
theorem in1_any (lo p q:Nat)(c ch:Bool)(dz:List Int)(x:Int)(T:In64 x)(w:World)(h:Finds lo w p c ch dz)(hq:w.cell? ⟨q,0,none⟩=some (FindV p)):
  Calls Tryz.prog 199 #[.int .i64 x,.pointer (some ⟨q,0,none⟩)] w (NoP (if hsB c dz ch x=true then 1 else 0) w):=by
 have HF:Hid (Finds lo w p c ch dz):=h
 have HT:Hid (In64 x):=T
 clear h T
 unfold FindV at hq
 cases hb:hsB c dz ch x
 ·have hp:=find1_any lo p c ch dz x HT.out w HF.out
  rw[hb] at hp
  clear hb
  go_enter Tryz.func199,Tryz.ntmps199
  go_wp2_with fail
  refine hp.mono ?_
  clear hp
  rintro e w1 ⟨rfl,rfl⟩
  go_wp2_with fail
  go_ret
  exact⟨rfl,Below.refl _ _⟩
 ·have hp:=find1_any lo p c ch dz x HT.out w HF.out
  rw[hb] at hp
  clear hb
  go_enter Tryz.func199,Tryz.ntmps199
  go_wp2_with fail
  refine hp.mono ?_
  clear hp
  rintro e w1 ⟨rfl,rfl⟩
  go_wp2_with fail
  go_ret
  exact⟨rfl,Below.refl _ _⟩
theorem nub1_any (lo p q:Nat)(c ch:Bool)(dz:List Int)(i:Nat)(x:Int)(T:In64 x)(w:World)(h:Finds lo w p c ch dz)(hq:w.cell? ⟨q,0,none⟩=some (FindV p)):
  Calls Tryz.prog 177 #[.int .i64 (i:Nat),.int .i64 x,.pointer (some ⟨q,0,none⟩)] w (SoP (fnV8 c ch x dz == (i:Int)) w):=by
 have HF:Hid (Finds lo w p c ch dz):=h
 have HT:Hid (In64 x):=T
 clear h T
 unfold FindV at hq
 go_enter Tryz.func177,Tryz.ntmps177
 go_wp2_with fail
 refine (find1_any lo p c ch dz x HT.out w HF.out).mono ?_
 rintro e w1 ⟨rfl,rfl⟩
 go_wp2_with fail
 go_ret
 exact⟨rfl,Below.refl _ _⟩
theorem meet1_any (lo p q:Nat)(c ch:Bool)(dz:List Int)(y:Value)(x:Int)(T:In64 x)(w:World)(h:Finds lo w p c ch dz)(hq:w.cell? ⟨q,0,none⟩=some (FindV p)):
  Calls Tryz.prog 201 #[y,.int .i64 x,.pointer (some ⟨q,0,none⟩)] w (SoP (hsB c dz ch x) w):=by
 have HF:Hid (Finds lo w p c ch dz):=h
 have HT:Hid (In64 x):=T
 clear h T
 unfold FindV at hq
 go_enter Tryz.func201,Tryz.ntmps201
 go_wp2_with fail
 refine (find1_any lo p c ch dz x HT.out w HF.out).mono ?_
 rintro e w1 ⟨rfl,rfl⟩
 go_wp2_with fail
 go_ret
 exact⟨rfl,Below.refl _ _⟩
theorem apart1_any (lo p q:Nat)(c ch:Bool)(dz:List Int)(y:Value)(x:Int)(T:In64 x)(w:World)(h:Finds lo w p c ch dz)(hq:w.cell? ⟨q,0,none⟩=some (FindV p)):
  Calls Tryz.prog 246 #[y,.int .i64 x,.pointer (some ⟨q,0,none⟩)] w (SoP (!hsB c dz ch x) w):=by
 have HF:Hid (Finds lo w p c ch dz):=h
 have HT:Hid (In64 x):=T
 clear h T
 unfold FindV at hq
 go_enter Tryz.func246,Tryz.ntmps246
 go_wp2_with fail
 refine (find1_any lo p c ch dz x HT.out w HF.out).mono ?_
 rintro e w1 ⟨rfl,rfl⟩
 go_wp2_with fail
 go_ret
 exact⟨rfl,Below.refl _ _⟩
theorem blk_go8 {w w':World}{b:Nat}{o:Obj}(h:w.heap[b]?=some o)(hB:Below w.heap.size w w'):w'.heap[b]?=some o:=by
 obtain⟨hlt,_⟩:=Array.getElem?_eq_some_iff.1 h
 exact (hB.block b hlt).trans h
theorem kpQ_sh {c:Bool}{dz:List Int}{c':Bool}{dz':List Int}{has:Bool}:∀ k,k<=dz.length->kpQ (fun i=>hsB c' dz' c (nth dz i) == has) dz k=shD c (dz.take k) c' dz' has
 | 0,_=>by simp[kpQ,shD]
 | k+1,hk=>by
  rw[shD_next (by omega),<-kpQ_sh k (by omega)]
  rfl
theorem kpQ_all {c:Bool}{dz:List Int}{c':Bool}{dz':List Int}{has:Bool}{Q:Nat->Bool}(h:∀ i,Q i=(hsB c' dz' c (nth dz i) == has)):kpQ Q dz dz.length=shD c dz c' dz' has:=by
 have e:Q=fun i=>hsB c' dz' c (nth dz i) == has:=funext h
 rw[e,kpQ_sh _ (Nat.le_refl _),List.take_length]
theorem kpQ_nb {dz:List Int}{c:Bool}:∀ k,k<=dz.length->kpQ (fun i=>fnV8 c c (nth dz i) dz == (i:Int)) dz k=nbK dz k
 | 0,_=>rfl
 | k+1,hk=>by
  have hm:=nbK_sub (dz:=dz) k (by omega)
  have hs:hsB c dz c (nth dz k)=true:=hsB_iff.2 ⟨rfl,nth_mem dz k (by omega)⟩
  have e:((fnV8 c c (nth dz k) dz == (k:Int))=true) ↔ ¬ nth dz k∈nbK dz k:=by
   unfold fnV8
   rw[if_pos hs,beq_iff_eq,hm]
   constructor
   ·rintro e ⟨j,hj,ej⟩
    have e':fdN c c (nth dz k) dz=k:=by omega
    exact fdN_before (c:=c) (ch:=c) (v:=nth dz k) dz j (by rw[e'];exact hj) ⟨rfl,ej⟩
   ·intro h
    have:=fdN_is (c:=c) (ch:=c) (v:=nth dz k) (dz:=dz) (k:=k) (by omega) (fun j hj q=>h ⟨j,hj,q.2⟩) (fun _=>⟨rfl,rfl⟩)
    rw[this]
  simp only[kpQ,nbK]
  rw[kpQ_nb k (by omega)]
  by_cases h:nth dz k∈nbK dz k
  ·rw[if_pos h,if_neg (fun q=>e.1 q h)]
  ·rw[if_neg h,if_pos (e.2 h)]
theorem apart_any (c:Bool)(sa:Option Addr)(sc:Nat)(sz:List Int)(da:Option Addr)(dc:Nat)(dz:List Int)(c':Bool)(sa':Option Addr)(sc':Nat)(sz':List Int)(da':Option Addr)(dc':Nat)(dz':List Int)(h2:dz.length<=4096)(h2':dz'.length<=4096)(w:World)(hd:IsInts w.heap.size w da dz)(hd':IsInts w.heap.size w da' dz')(T:∀ j,In64 (nth dz j))(T':∀ j,In64 (nth dz' j)):
  Calls Tryz.prog 200 #[.agg #[.bool c,.slice sa sz.length sc,.slice da dz.length dc],.agg #[.bool c',.slice sa' sz'.length sc',.slice da' dz'.length dc']] w (KeptP (shD c dz c' dz' false) w):=by
 have HI:Hid (IsInts w.heap.size w da dz/\IsInts w.heap.size w da' dz'):=⟨hd,hd'⟩
 have HT:Hid ((∀ j,In64 (nth dz j))/\(∀ j,In64 (nth dz' j))):=⟨T,T'⟩
 clear hd hd' T T'
 obtain⟨W0,hW0⟩:∃ W0,W0=(w.alloc (.cells #[.bool c,.slice sa sz.length sc,.slice da dz.length dc] 27)).alloc (.cells #[.bool c',.slice sa' sz'.length sc',.slice da' dz'.length dc'] 27):=⟨_,rfl⟩
 have HB0:Hid (Below w.heap.size w W0):=by rw[hW0];exact ((Below.refl _ w).alloc (Nat.le_refl _) _).alloc (by simp) _
 have PA:Hid (Abx W0 w.heap.size (.bool c) (.slice sa sz.length sc) (.slice da dz.length dc)):=by rw[hW0];exact (Abx.new w _ _ _).al _
 have PB:Hid (Abx W0 (w.heap.size+1) (.bool c') (.slice sa' sz'.length sc') (.slice da' dz'.length dc')):=by rw[hW0];exact Abx.new1 w _ _ _ _
 go_enter Tryz.func200,Tryz.ntmps200
 go_wp2_with fail
 rw[<-hW0]
 clear hW0
 refine (finder_any c' (.slice sa' sz'.length sc') da' dc' dz' c h2' W0 ((HI.2.below HB0.out).mono HB0.size) HT.2).mono ?_
 rintro e w1 ⟨p,rfl,hF,hB1⟩
 have HB1:Hid (Below w.heap.size w w1):=HB0.trans (hB1.mono HB0.size)
 have HF:Hid (Finds W0.heap.size w1 p c' c dz'):=hF
 have PA1:Hid (Abx w1 w.heap.size (.bool c) (.slice sa sz.length sc) (.slice da dz.length dc)):=PA.go hB1
 clear hF hB1 PB PA
 obtain⟨W2,hW2⟩:∃ W2,W2=w1.alloc (.cells #[FindV p] 163):=⟨_,rfl⟩
 have HB2:Hid (Below w.heap.size w W2):=by rw[hW2];exact HB1.alloc HB1.size _
 have HF2:Hid (Finds W0.heap.size W2 p c' c dz'):=by rw[hW2];exact HF.go ((Below.refl _ w1).alloc (Nat.le_refl _) _)
 have PA2:Hid (Abx W2 w.heap.size (.bool c) (.slice sa sz.length sc) (.slice da dz.length dc)):=by rw[hW2];exact PA1.al _
 have HQ:Hid (W2.heap[w1.heap.size]?=some (.cells #[FindV p] 163 (0,0))):=by rw[hW2];exact heap_alloc_new w1 _
 unfold FindV at hW2
 have pb:=PA1.al (.cells #[.func (.func 237) #[] #[.pointer (some ⟨p,0,none⟩)]] 163)
 have b0:=pb.c0
 have b1:=pb.c1
 have b2:=pb.c2
 clear pb
 go_wp2_with fail
 rw[<-hW2]
 clear hW2 b0 b1 b2
 refine (keptf8_any c (.slice sa sz.length sc) da dc dz 246 [.pointer (some ⟨w1.heap.size,0,none⟩)] (enters_of Tryz.func246 (by kernel_rfl) rfl) (fun i=>!hsB c' dz' c (nth dz i)) h2 W2 ((HI.1.below HB2.out).mono HB2.size) (fun i hi w' hB=>apart1_any _ p w1.heap.size c' c dz' _ _ (HT.1 i) w' (HF2.go hB) (cell_of_one (blk_go8 HQ.out hB)))).mono ?_
 rintro e w3 ⟨g,gc,rfl,hN,hB3⟩
 rw[kpQ_all (has:=false) (c:=c) (c':=c') (dz':=dz') (fun i=>by cases hsB c' dz' c (nth dz i)<;>rfl)] at hN ⊢
 have HN:Hid (NewC W2.heap.size w3 g (shD c dz c' dz' false) gc):=hN
 have HB3:Hid (Below W2.heap.size W2 w3):=hB3
 clear hN hB3
 go_wp2_with fail
 go_ret
 exact⟨g,gc,rfl,HN.low HB2.size,HB2.trans (HB3.mono HB2.size)⟩
end Go.Proofs.YtkmmkcpfhnifhaaGreatDoor
