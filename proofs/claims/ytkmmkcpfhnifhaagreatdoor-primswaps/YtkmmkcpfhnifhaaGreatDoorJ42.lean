/- What the program tells, in part. -/
import Derived.Test.YtkmmkcpfhnifhaaGreatDoorJ39
import Derived.Test.YtkmmkcpfhnifhaaGreatDoorJ41
import Derived.Test.YtkmmkcpfhnifhaaGreatDoorJ31
set_option linter.unusedVariables false
set_option maxHeartbeats 8000000
set_option maxRecDepth 100000
namespace Go.Proofs.YtkmmkcpfhnifhaaGreatDoor
open Go.RowKit
theorem new_put {lo:Nat}{W:World}{b off:Nat}{zs:List Int}(h0:lo<=b)(hb:b<W.heap.size)(hc:∀ j,j<zs.length->W.cell? ⟨b,off+j,none⟩=some (.int .i64 (nth zs j)))(hz:∀ j,W.frozen? ⟨b,off+j,none⟩=false){i:Nat}(hi:i<zs.length)(v:Int):
  NewInts lo (W.setCell ⟨b,off+i,none⟩ (.int .i64 v)) (some ⟨b,off,none⟩) (zs.set i v):=by
 refine .inr ⟨b,off,rfl,h0,by simpa[World.setCell] using hb,fun j hj=>?_,fun j=>by rw[World.frozen?_setCell];exact hz j⟩
 rw[List.length_set] at hj
 rw[nth_set _ _ _ _ hi]
 by_cases e:j=i
 ·subst e
  rw[if_pos rfl]
  exact World.cell?_setCell_same _ _ _ (hc j hj)
 ·rw[if_neg e,World.cell?_setCell_other _ _ _ _ (by intro e2;simp only[Addr.mk.injEq] at e2;omega)]
  exact hc j hj
theorem block_n (a:Option Addr)(cap:Nat)(zs:List Int)(x A:Nat)(hA:(A:Int)=blk zs x)(hx:x<zs.length)(he:errOf zs=0)(n₀:Nat)(w:World)(hI:IsC n₀ w a zs cap):
  Calls Tryz.prog 243 #[.int .i64 (x:Nat),.slice a zs.length cap] w fun e w'=>e=.returned (.int .i64 (A:Int))/\w'=w:=by
 rw[hA]
 exact block_any a cap zs x hx he n₀ w hI
theorem make_cap (N:Nat)(h:N<=100000)(W:World):(Instr.makeSlice 25 (.int .i64 0) (.int .i64 (N:Int))).run Tryz.prog W=.ok (.slice (some ⟨W.heap.size,0,none⟩) 0 N) (W.alloc (.cells (madeCells #[.int .i64 0] N) 3)):=by
 obtain⟨i0,hi,hz0,hz1,hz2⟩:=info_parts Tryz.infoInt
 have hr:=run_make (P:=Tryz.prog) W 25 3 i0 (.int .i64 0) Tryz.underlying25 hi hz0 .i64 .i64 0 (N:Int) (by omega) (by omega) (by rw[hz2];omega) (by omega)
 rw[hr,hz1,Int.toNat_natCast,Nat.mul_one]
 rfl
theorem jn_holds:CJn:=by
  intro x c sa sc sz da dc dz c' sa' sc' sz' da' dc' dz' w hx h1 h2 h1' h2' hs hd hs' hd' T T'
  have HI:Hid (IsC w.heap.size w sa sz sc/\IsC w.heap.size w da dz dc/\IsC w.heap.size w sa' sz' sc'/\IsC w.heap.size w da' dz' dc'):=⟨hs,hd,hs',hd'⟩
  have HX:Hid (In64 x):=hx
  clear hs hd hs' hd' T T' hx
  have HB0:Hid (Below w.heap.size w (((w.alloc (.cells #[.bool c,.slice sa sz.length sc,.slice da dz.length dc] 27)).alloc (.cells #[.bool c',.slice sa' sz'.length sc',.slice da' dz'.length dc'] 27)).alloc (.cells #[.bool false,.slice none 0 0,.slice none 0 0] 27))):=(((Below.refl _ w).alloc (Nat.le_refl _) _).alloc (by simp) _).alloc (by simp;omega) _
  have pa:=((Abx.new w (.bool c) (.slice sa sz.length sc) (.slice da dz.length dc)).al (.cells #[.bool c',.slice sa' sz'.length sc',.slice da' dz'.length dc'] 27)).al (.cells #[.bool false,.slice none 0 0,.slice none 0 0] 27)
  have pb:=(Abx.new1 w (.cells #[.bool c,.slice sa sz.length sc,.slice da dz.length dc] 27) (.bool c') (.slice sa' sz'.length sc') (.slice da' dz'.length dc')).al (.cells #[.bool false,.slice none 0 0,.slice none 0 0] 27)
  have pr:=Abx.new ((w.alloc (.cells #[.bool c,.slice sa sz.length sc,.slice da dz.length dc] 27)).alloc (.cells #[.bool c',.slice sa' sz'.length sc',.slice da' dz'.length dc'] 27)) (.bool false) (.slice none 0 0) (.slice none 0 0)
  simp only[World.size_alloc] at pr
  have p0:=pa.c0
  have p1:=pa.c1
  have p2:=pa.c2
  have q0:=pb.c0
  have q1:=pb.c1
  have q2:=pb.c2
  by_cases h3:jnP x c sz dz c' sz' dz'=0
  · have H3:Hid (jnP x c sz dz c' sz' dz'=0):=h3
    obtain⟨hf,hf',hl,hx0,hx1,ho,hcc⟩:=jnP_zero.1 h3
    obtain⟨xn,rfl⟩:∃ xn:Nat,x=(xn:Int):=⟨x.toNat,by omega⟩
    rw[Int.toNat_natCast] at hx1 ho
    have HF:Hid (flawE c sz dz=0/\flawE c' sz' dz'=0/\sz.length=sz'.length/\othB xn sz sz'=true/\c=c'):=⟨hf,hf',hl,ho,hcc⟩
    have hx1':xn<sz'.length:=by omega
    have hl6:sz.length<=6:=(flawE_short hf).1
    have hd4:dz.length<=4096:=(flawE_short hf).2
    have hd4':dz'.length<=4096:=(flawE_short hf').2
    have HJ:Hid (jnE (xn:Int) c sz dz c' sz' dz'=errOf (jnS xn sz sz')):=by have:=jnE_fit h3;rwa [Int.toNat_natCast] at this
    clear h3 hf hf' hl ho hcc hx0
    go_enter Tryz.func189,Tryz.ntmps189
    go_wp2_with fail
    have hp:=pair_any (xn:Int) HX.out c sa sc sz da dc dz c' sa' sc' sz' da' dc' dz' h1 h2 h1' h2' (((w.alloc (.cells #[.bool c,.slice sa sz.length sc,.slice da dz.length dc] 27)).alloc (.cells #[.bool c',.slice sa' sz'.length sc',.slice da' dz'.length dc'] 27)).alloc (.cells #[.bool false,.slice none 0 0,.slice none 0 0] 27)) ((HI.1.1.below HB0.out).mono HB0.size) ((HI.2.1.1.below HB0.out).mono HB0.size) ((HI.2.2.1.1.below HB0.out).mono HB0.size) ((HI.2.2.2.1.below HB0.out).mono HB0.size)
    rw[H3.out] at hp
    refine hp.mono ?_
    clear hp
    rintro e v1 ⟨rfl,hC⟩
    have HA1:Hid (Abx v1 w.heap.size (.bool c) (.slice sa sz.length sc) (.slice da dz.length dc)):=pa.go hC
    have HQ1:Hid (Abx v1 (w.heap.size+1) (.bool c') (.slice sa' sz'.length sc') (.slice da' dz'.length dc')):=pb.go hC
    have HR1:Hid (Abx v1 (w.heap.size+1+1) (.bool false) (.slice none 0 0) (.slice none 0 0)):=pr.go hC
    have HB1:Hid (Below w.heap.size w v1):=HB0.trans (hC.mono HB0.size)
    clear hC pa pb pr p0 p1 p2 q0 q1 q2 HB0
    have a1:=HA1.c1
    have er0:errV 0=.nilIface:=rfl
    rw[er0]
    clear er0
    go_wp2_with fail
    refine (clone_any sa sc sz (by omega) v1 ((HI.1.1.below HB1.out).mono HB1.size)).mono ?_
    rintro e v2 ⟨ga,gc,rfl,hN,hC⟩
    have HA2:Hid (Abx v2 w.heap.size (.bool c) (.slice sa sz.length sc) (.slice da dz.length dc)):=HA1.go hC
    have HQ2:Hid (Abx v2 (w.heap.size+1) (.bool c') (.slice sa' sz'.length sc') (.slice da' dz'.length dc')):=HQ1.go hC
    have HR2:Hid (Abx v2 (w.heap.size+1+1) (.bool false) (.slice none 0 0) (.slice none 0 0)):=HR1.go hC
    have HB2:Hid (Below w.heap.size w v2):=HB1.trans (hC.mono HB1.size)
    have hzv:w.heap.size+1+1<v1.heap.size:=HR1.lt
    have hzv2:v1.heap.size<=v2.heap.size:=hC.size
    clear hC a1 HA1 HQ1 HR1 HB1
    obtain⟨hN0,hgc⟩:=hN
    rcases hN0 with hN0 | ⟨bg,og,rfl,hbg,hbg2,hcG,hfG⟩
    · rw[hN0] at hx1;simp at hx1
    have cg:=hcG xn hx1
    have fg:=hfG xn
    have b1:=HQ2.c1
    obtain⟨bt,ot,rfl,hbt,hcT⟩:=(HI.2.2.1.1.below HB2.out).at hx1'
    have ct:=hcT xn hx1'
    have hz1:=(errOf_zero.1 (flawE_zero HF.1).1).2.1.nth xn
    have hz2:=(errOf_zero.1 (flawE_zero HF.2.1).1).2.1.nth xn
    have HG:Hid ((∀ j,j<sz.length->v2.cell? ⟨bg,og+j,none⟩=some (.int .i64 (nth sz j)))/\∀ j,v2.frozen? ⟨bg,og+j,none⟩=false):=⟨hcG,hfG⟩
    clear hcG hfG hcT
    have hbne:bt≠bg:=by omega
    have hwr:IntKind.i64.wrap (nth sz xn+nth sz' xn)=nth sz xn+nth sz' xn:=IntWalk.i64_in _ (by omega)
    go_wp2_with fail
    refine bT 10 (fun w'=>w'.cell? ⟨w.heap.size+1,1,none⟩=some (.slice (some ⟨bt,ot,none⟩) sz'.length sc')/\w'.cell? ⟨bt,ot+xn,none⟩=some (.int .i64 (nth sz' xn))/\w'.cell? ⟨bg,og+xn,none⟩=some (.int .i64 (nth sz xn))) 12 (⟨b1,ct,cg⟩) fun hq0=>?_
    refine pT 0 hq0 ?_;refine pT 1 hq0 ?_;refine pT 2 hq0 ?_;refine lT 3 hq0 ?_;refine pT 4 hq0 ?_;refine lT 5 hq0 ?_;refine pT 6 hq0 ?_;refine pT 7 hq0 ?_;refine lT 8 hq0 ?_
    refine pT 9 hq0 ?_
    clear hq0
    refine oT 10 fun K hK=>?_
    go_simp
    refine hK.out _ _ (fun h=>absurd h (by decide)) ?_
    clear hK K
    refine oT 11 fun K hK=>?_
    go_simp
    refine hK.out _ _ (fun h=>absurd h (by decide)) ?_
    clear hK K
    refine dT ?_
    clear hwr
    obtain⟨v3,hv3⟩:∃ v3,v3=(v2.setCell ⟨bg,og+xn,none⟩ (.int .i64 (nth sz xn+nth sz' xn))).drew:=⟨_,rfl⟩
    rw[<-hv3]
    obtain⟨S,hS⟩:∃ S,S=jnS xn sz sz':=⟨_,rfl⟩
    have HS:Hid (S=jnS xn sz sz'/\S.length=sz.length/\NewInts v1.heap.size v3 (some ⟨bg,og,none⟩) S):=by
      refine⟨hS,by rw[hS,jnS_length],?_⟩
      rw[hv3,hS]
      exact (new_put hbg hbg2 HG.1 HG.2 hx1 (nth sz xn+nth sz' xn)).dr
    have HA3:Hid (Abx v3 w.heap.size (.bool c) (.slice sa sz.length sc) (.slice da dz.length dc)):=by rw[hv3];exact (HA2.ot (a:=⟨bg,og+xn,none⟩) (by show w.heap.size≠bg;omega) _).dr
    have HQ3:Hid (Abx v3 (w.heap.size+1) (.bool c') (.slice (some ⟨bt,ot,none⟩) sz'.length sc') (.slice da' dz'.length dc')):=by rw[hv3];exact (HQ2.ot (a:=⟨bg,og+xn,none⟩) (by show w.heap.size+1≠bg;omega) _).dr
    have HR3:Hid (Abx v3 (w.heap.size+1+1) (.bool false) (.slice none 0 0) (.slice none 0 0)):=by rw[hv3];exact (HR2.ot (a:=⟨bg,og+xn,none⟩) (by show w.heap.size+1+1≠bg;omega) _).dr
    have HB3:Hid (Below w.heap.size w v3):=by rw[hv3];exact (HB2.setCell (p:=⟨bg,og+xn,none⟩) (by show w.heap.size<=bg;omega) _).drew
    rw[<-hS] at HJ
    clear hv3 hS HG HA2 HQ2 HR2 HB2 b1 ct cg fg hbg2 hbt hbne hz1 hz2
    go_wp2_with fail
    by_cases he:errOf S=0
    · have HE:Hid (errOf S=0/\jnE (xn:Int) c sz dz c' sz' dz'=0):=⟨he,HJ.trans he⟩
      obtain⟨O,A,B,hA,hB,hDl,hDp,hdl,hD4,hDn⟩:=jn_lens HE.2
      obtain⟨D,hD⟩:∃ D,D=jnD xn sz dz sz' dz':=⟨_,rfl⟩
      rw[<-hD] at hDl hDp hD4 hDn
      rw[<-HS.1] at hDp
      obtain⟨N,hN⟩:∃ N,N=D.length:=⟨_,rfl⟩
      have HNN:Hid ((N:Int)=prod S/\D.length=N/\N=O*(A+B)/\D=jnD xn sz dz sz' dz'):=⟨by rw[hN];exact hDp,hN.symm,by rw[hN];exact hDl,hD⟩
      have hN4:N<=4096:=by omega
      have HAB:Hid ((A:Int)=blk sz xn/\(B:Int)=blk sz' xn/\(0<A+B->dz.length=O*A/\dz'.length=O*B)/\∀ k j:Nat,k<O->j<A+B->nth D (k*(A+B)+j)=if j<A then nth dz (k*A+j) else nth dz' (k*B+(j-A))):=⟨hA,hB,hdl,hDn⟩
      clear he hDl hDp hD4 hDn hdl hA hB hN hD
      refine (count_l (some ⟨bg,og,none⟩) gc S sz.length HS.2.1 N (by omega) v3 HS.2.2.ints HE.1 HNN.1).mono ?_
      rintro e v4 ⟨rfl,hC⟩
      have HA4:Hid (Abx v4 w.heap.size (.bool c) (.slice sa sz.length sc) (.slice da dz.length dc)):=HA3.go hC
      have HQ4:Hid (Abx v4 (w.heap.size+1) (.bool c') (.slice (some ⟨bt,ot,none⟩) sz'.length sc') (.slice da' dz'.length dc')):=HQ3.go hC
      have HR4:Hid (Abx v4 (w.heap.size+1+1) (.bool false) (.slice none 0 0) (.slice none 0 0)):=HR3.go hC
      have HB4:Hid (Below w.heap.size w v4):=HB3.trans (hC.mono HB3.size)
      have HS4:Hid (NewInts v1.heap.size v4 (some ⟨bg,og,none⟩) S):=HS.2.2.go hC
      clear hC HA3 HQ3 HR3 HB3
      have a1:=HA4.c1
      have b1:=HQ4.c1
      go_wp2_with fail
      go_quiet (first | (go_at_call_of 243 sc;refine Calls.quiet_of_same (block_n sa sc sz xn A HAB.1 hx1 (flawE_zero HF.1).1 v4.heap.size _ ?_);exact ((HI.1.below HB4.out).mono HB4.size)) | (go_at_call_of 243 sc';refine Calls.quiet_of_same (block_n (some ⟨bt,ot,none⟩) sc' sz' xn B HAB.2.1 hx1' (flawE_zero HF.2.1).1 v4.heap.size _ ?_);exact ((HI.2.2.1.below HB4.out).mono HB4.size)))
      obtain⟨u,hu⟩:∃ u,u=v4.drewN nq:=⟨_,rfl⟩
      rw[<-hu]
      have HA5:Hid (Abx u w.heap.size (.bool c) (.slice sa sz.length sc) (.slice da dz.length dc)):=by rw[hu];exact HA4.out
      have HQ5:Hid (Abx u (w.heap.size+1) (.bool c') (.slice (some ⟨bt,ot,none⟩) sz'.length sc') (.slice da' dz'.length dc')):=by rw[hu];exact HQ4.out
      have HR5:Hid (Abx u (w.heap.size+1+1) (.bool false) (.slice none 0 0) (.slice none 0 0)):=by rw[hu];exact HR4.out
      have HB5:Hid (Below w.heap.size w u):=by rw[hu];exact below_drewN HB4.out _
      have HS5:Hid (NewInts v1.heap.size u (some ⟨bg,og,none⟩) S):=by rw[hu];exact HS4.out
      clear hu HA4 HQ4 HR4 HB4 HS4 a1 b1
      have hmk:=make_cap N (by omega)
      go_wp2_with fail
      clear hmk
      go_loopw [14,15] (fun v i wr=>∃ k:Nat,k<=N/\i=.int .i64 k/\wr.ownsRow u.heap.size 3 1 v (D.take (k*(A+B))).length ((D.take (k*(A+B))).map (Value.int .i64))/\(k*(A+B)<=N)/\Below u.heap.size u wr) (fun _ i _=>N-(intOf i).toNat)
      case atStart=>
        refine⟨0,Nat.zero_le _,rfl,?_,by simp,(Below.refl _ u).alloc (Nat.le_refl _) _⟩
        simp only[Nat.zero_mul,List.take_zero,List.length_nil,List.map_nil]
        exact World.ownsRow_made u _ N (Nat.le_refl _) (by unfold maxLen;omega) (by simp[madeCells])
      case round=>
        obtain⟨k,hk,rfl,hown,hkN,hBu⟩:=hrel
        have hB:Below w.heap.size w wr:=HB5.trans (hBu.mono HB5.size)
        obtain⟨g,cap,rfl,hNw⟩:=own_cap hown
        obtain⟨L,hL⟩:∃ L,L=(D.take (k*(A+B))).length:=⟨_,rfl⟩
        have hLk:L=k*(A+B):=by rw[hL,List.length_take,HNN.2.1];omega
        rw[<-hL] at hown
        rw[<-hL]
        by_cases hlt:L<N
        · have hkO:k<O:=by
            have h:=HNN.2.2.1
            rw[h,hLk] at hlt
            exact Nat.lt_of_mul_lt_mul_right hlt
          have hT:0<A+B:=by
            have h:=HNN.2.2.1
            by_cases h0:A+B=0
            · rw[h0,Nat.mul_zero] at h;omega
            · omega
          obtain⟨hdl,hdl'⟩:=HAB.2.2.1 hT
          have hON:O<=N:=by rw[HNN.2.2.1];exact Nat.le_mul_of_pos_right _ hT
          have HTK:Hid (D.take ((k+1)*(A+B))=D.take (k*(A+B))++(dz.drop (k*A)).take A++(dz'.drop (k*B)).take B):=jn_take (HNN.2.1.trans HNN.2.2.1) hdl hdl' hkO HAB.2.2.2
          obtain⟨P,hP⟩:∃ P,P=k*A:=⟨_,rfl⟩
          obtain⟨R,hR⟩:∃ R,R=k*B:=⟨_,rfl⟩
          have hPA:P+A<=dz.length:=by
            have:(k+1)*A<=O*A:=Nat.mul_le_mul_right _ hkO
            rw[Nat.add_mul,Nat.one_mul] at this;omega
          have hRB:R+B<=dz'.length:=by
            have:(k+1)*B<=O*B:=Nat.mul_le_mul_right _ hkO
            rw[Nat.add_mul,Nat.one_mul] at this;omega
          have hw1:IntKind.i64.wrap ((k:Int)*(A:Int))=(P:Int):=by
            have:(k:Int)*(A:Int)=(P:Int):=by rw[hP];simp
            rw[this];exact IntWalk.i64_in _ (by omega)
          have hw2:IntKind.i64.wrap (((k:Int)+1)*(A:Int))=((P+A:Nat):Int):=by
            have:((k:Int)+1)*(A:Int)=((P+A:Nat):Int):=by rw[hP,Int.add_mul];simp
            rw[this];exact IntWalk.i64_in _ (by omega)
          have hw3:IntKind.i64.wrap ((k:Int)*(B:Int))=(R:Int):=by
            have:(k:Int)*(B:Int)=(R:Int):=by rw[hR];simp
            rw[this];exact IntWalk.i64_in _ (by omega)
          have hw4:IntKind.i64.wrap (((k:Int)+1)*(B:Int))=((R+B:Nat):Int):=by
            have:((k:Int)+1)*(B:Int)=((R+B:Nat):Int):=by rw[hR,Int.add_mul];simp
            rw[this];exact IntWalk.i64_in _ (by omega)
          have HPR:Hid (P=k*A/\R=k*B/\L=k*(A+B)/\(k+1)*(A+B)=L+A+B/\L+A+B<=N):=by
            have e1:(k+1)*(A+B)=k*(A+B)+(A+B):=by rw[Nat.add_mul,Nat.one_mul]
            have e2:(k+1)*(A+B)<=O*(A+B):=Nat.mul_le_mul_right _ hkO
            have e3:=HNN.2.2.1
            refine⟨hP,hR,hLk,?_,?_⟩
            · omega
            · omega
          have hk4:k<4096:=by omega
          have hkN1:k<N:=by omega
          have e2:=(HA5.go hBu).c2
          have hzw:u.heap.size<=wr.heap.size:=hBu.size
          have HQ:Hid (Below u.heap.size u wr/\Below w.heap.size w wr):=⟨hBu,hB⟩
          have HID:Hid (IsC wr.heap.size wr da dz dc):=(HI.2.1.below hB).mono hB.size
          have HLl:Hid ((D.take (k*(A+B))).length=L):=hL.symm
          have hLn:L+dz.length<=1000000:=by omega
          clear hP hR hLk hL hBu hB hNw hkN hdl hdl' hT hkO
          generalize D.take (k*(A+B))=X at *
          go_wp2_with (first
            | ((with_reducible refine at_slice ?_); refine app_cut rfl 73 rfl _ _ _ rfl rfl _ _ rfl wr u.heap.size _ X L HLl.out da dz dz.length dc P (P + A) _ _ rfl rfl (by omega) hPA rfl rfl rfl (fun u => rfl) (fun u => rfl) hown HID.out hLn hzw ?_; intro y1 z1 w1 hown1 hB1
               rw[Nat.add_sub_cancel_left] at hown1
               have hXl:Hid ((X++(dz.drop P).take A).length=L+A):=(by show _=_;rw[List.length_append,HLl.out,List.length_take,List.length_drop];omega)
               have hBu1:Below u.heap.size u w1:=HQ.1.trans hB1
               have hB1':Below w.heap.size w w1:=HQ.2.trans (hB1.mono (by have:=HB5.size;omega))
               have g2:=(HQ5.go hBu1).c2
               have HID2:Hid (IsC w1.heap.size w1 da' dz' dc'):=(HI.2.2.2.below hB1').mono hB1'.size
               have hzw1:u.heap.size<=w1.heap.size:=hBu1.size
               have HQ1:Hid (Below u.heap.size u w1):=hBu1
               have hLn2:L+A+dz'.length<=1000000:=(by omega)
               clear hB1' hBu1 hB1 e2 hown
               obtain⟨g1,cap1,rfl,hNw1⟩:=own_cap (by rw[<-hXl.out] at hown1;exact hown1)
               rw[hXl.out] at hown1 ⊢
               clear hNw1)
            | ((with_reducible refine at_slice ?_);refine app_cut rfl 85 rfl _ _ _ rfl rfl _ _ rfl w1 u.heap.size _ (X++(dz.drop P).take A) (L+A) hXl.out da' dz' dz'.length dc' R (R+B) _ _ rfl rfl (by omega) hRB rfl rfl rfl (fun u=>rfl) (fun u=>rfl) hown1 HID2.out hLn2 hzw1 ?_;intro y2 z2 w2 hown2 hB2))
          rw[Nat.add_sub_cancel_left] at hown2
          refine⟨⟨k+1,by omega,by go_num,?_,?_,HQ1.trans hB2⟩,by simp[intOf];omega⟩
          · rw[HTK.out,<-HPR.1,<-HPR.2.1]
            have e:(X++(dz.drop P).take A++(dz'.drop R).take B).length=L+A+B:=by
              rw[List.length_append,hXl.out,List.length_take,List.length_drop];omega
            rw[e]
            exact hown2
          · rw[HPR.2.2.2.1];exact HPR.2.2.2.2
        · have hLN:L=N:=by omega
          have HDT:Hid (D.take (k*(A+B))=D):=List.take_of_length_le (by rw[HNN.2.1,<-hLk];omega)
          subst hLN
          have HY:Hid (NewC u.heap.size wr g D cap):=by have h:=hNw;rw[HDT.out] at h;exact h
          have HB6:Hid (Below w.heap.size w wr):=hB
          have HR6:Hid (Abx wr (w.heap.size+1+1) (.bool false) (.slice none 0 0) (.slice none 0 0)):=HR5.go hBu
          have HS6:Hid (NewInts v1.heap.size wr (some ⟨bg,og,none⟩) S):=HS5.go hBu
          have e0:=(HA5.go hBu).c0
          have r0:=HR6.c0
          have r1:=HR6.c1
          have r2:=HR6.c2
          have f0:=HR6.fr 0
          have f1:=HR6.fr 1
          have f2:=HR6.fr 2
          have hzu:w.heap.size+1+1<u.heap.size:=HR5.lt
          clear hown hBu hB hNw hL hLk hkN hlt hk
          go_wp2_with fail
          have F:=HR6.set3 (.bool c) (.slice (some ⟨bg,og,none⟩) sz.length gc) (.slice g L cap)
          have q0:=F.c0
          have q1:=F.c1
          have q2:=F.c2
          refine bodyPost_ret (v:=.tuple #[.agg #[.bool c,.slice (some ⟨bg,og,none⟩) sz.length gc,.slice g L cap],.nilIface]) (by simp[results,Tryz.results189,go_sem,q0,q1,q2]) rfl ?_
          have k1:=(HS6.set3 (b:=w.heap.size+1+1) (by omega) (.bool c) (.slice (some ⟨bg,og,none⟩) sz.length gc) (.slice g L cap)).low (lo':=w.heap.size) (by omega)
          have k2:=(HY.set3 (b:=w.heap.size+1+1) (by omega) (.bool c) (.slice (some ⟨bg,og,none⟩) sz.length gc) (.slice g L cap)).low (lo':=w.heap.size) (by omega)
          have k3:=bel_set3 HB6.out (b:=w.heap.size+1+1) (by omega) (.bool c) (.slice (some ⟨bg,og,none⟩) sz.length gc) (.slice g L cap)
          have hUB:=UB.mkok (c:=c) (xc:=gc) (yc:=cap) HE.2 ⟨k1,by rw[HS.2.1];exact hgc⟩ k2 k3
          rw[HS.2.1,HNN.2.1,HNN.2.2.2,HS.1] at hUB
          exact hUB
    · have HE:Hid (errOf S≠0):=he
      clear he
      refine (count_lno (some ⟨bg,og,none⟩) gc S sz.length HS.2.1 (by omega) v3 HS.2.2.ints HE.out).mono ?_
      rintro e v4 ⟨rfl,hC⟩
      have HR4:Hid (Abx v4 (w.heap.size+1+1) (.bool false) (.slice none 0 0) (.slice none 0 0)):=HR3.go hC
      have HB4:Hid (Below w.heap.size w v4):=HB3.trans (hC.mono HB3.size)
      clear hC
      have r0:=HR4.c0
      have r1:=HR4.c1
      have r2:=HR4.c2
      have f0:=HR4.fr 0
      have f1:=HR4.fr 1
      have f2:=HR4.fr 2
      go_wp2_with fail
      have F:=HR4.set3 (.bool false) (.slice none 0 0) (.slice none 0 0)
      have q0:=F.c0
      have q1:=F.c1
      have q2:=F.c2
      exact bodyPost_ret (v:=.tuple #[.agg #[.bool false,.slice none 0 0,.slice none 0 0],.iface 28 (.int .i64 (errOf S))]) (by simp[results,Tryz.results189,go_sem,q0,q1,q2]) rfl (UB.mkno HJ.out HE.out (bel_set3 HB4.out (by omega) _ _ _))
  · have H3:Hid (jnP x c sz dz c' sz' dz'≠0):=h3
    have HE:Hid (jnE x c sz dz c' sz' dz'=jnP x c sz dz c' sz' dz'):=jnE_pair h3
    clear h3
    go_enter Tryz.func189,Tryz.ntmps189
    go_wp2_with fail
    have hp:=pair_any x HX.out c sa sc sz da dc dz c' sa' sc' sz' da' dc' dz' h1 h2 h1' h2' (((w.alloc (.cells #[.bool c,.slice sa sz.length sc,.slice da dz.length dc] 27)).alloc (.cells #[.bool c',.slice sa' sz'.length sc',.slice da' dz'.length dc'] 27)).alloc (.cells #[.bool false,.slice none 0 0,.slice none 0 0] 27)) ((HI.1.1.below HB0.out).mono HB0.size) ((HI.2.1.1.below HB0.out).mono HB0.size) ((HI.2.2.1.1.below HB0.out).mono HB0.size) ((HI.2.2.2.1.below HB0.out).mono HB0.size)
    rw[errV_pos H3.out] at hp
    refine hp.mono ?_
    clear hp
    rintro e v1 ⟨rfl,hC⟩
    have HA1:Hid (Abx v1 w.heap.size (.bool c) (.slice sa sz.length sc) (.slice da dz.length dc)):=pa.go hC
    have HQ1:Hid (Abx v1 (w.heap.size+1) (.bool c') (.slice sa' sz'.length sc') (.slice da' dz'.length dc')):=pb.go hC
    have HR1:Hid (Abx v1 (w.heap.size+1+1) (.bool false) (.slice none 0 0) (.slice none 0 0)):=pr.go hC
    have HB1:Hid (Below w.heap.size w v1):=HB0.trans (hC.mono HB0.size)
    clear hC pa pb pr p0 p1 p2 q0 q1 q2 HB0
    have r0:=HR1.c0
    have r1:=HR1.c1
    have r2:=HR1.c2
    have f0:=HR1.fr 0
    have f1:=HR1.fr 1
    have f2:=HR1.fr 2
    go_wp2_with fail
    have F:=HR1.set3 (.bool false) (.slice none 0 0) (.slice none 0 0)
    have q0:=F.c0
    have q1:=F.c1
    have q2:=F.c2
    exact bodyPost_ret (v:=.tuple #[.agg #[.bool false,.slice none 0 0,.slice none 0 0],.iface 28 (.int .i64 (jnP x c sz dz c' sz' dz'))]) (by simp[results,Tryz.results189,go_sem,q0,q1,q2]) rfl (UB.mkno HE.out H3.out (bel_set3 HB1.out (by omega) _ _ _))
def TellP8 (sz D:List Int)(w:World)(e:Ending)(w':World):Prop:=
 ∃ xa xc ya yc,e=.returned (.agg #[.bool false,.slice xa sz.length xc,.slice ya D.length yc])/\NewC w.heap.size w' xa sz xc/\NewC w.heap.size w' ya D yc/\Below w.heap.size w w'
theorem row_go8 {w w':World}{b:Nat}{t:TypeId}{n:Nat}{f:Nat->Value}(h:w.rowIs b t n f)(hB:Below w.heap.size w w'):w'.rowIs b t n f:=h.of_block (hB.block b h.lt)
theorem tell8_any (c:Bool)(sa:Option Addr)(sc:Nat)(sz:List Int)(da:Option Addr)(dc:Nat)(dz:List Int)(f:Nat)(cs:List Value)(hE:∀ args w,(callFunc f args).run Tryz.prog w=.ok (.enter f args) w)(D:List Int)(hD:D.length=dz.length)(h1:sz.length<=100000)(h2:dz.length<=4096)(w:World)(hs:IsInts w.heap.size w sa sz)(hd:IsInts w.heap.size w da dz)
  (H:∀ i,i<dz.length->∀ w',Below w.heap.size w w'->Calls Tryz.prog f (.int .i64 (nth dz i)::cs).toArray w' (NoP (nth D i) w')):
  Calls Tryz.prog 197 #[.agg #[.bool c,.slice sa sz.length sc,.slice da dz.length dc],.func (.func f) #[] cs.toArray] w (TellP8 sz D w):=by
 have HI:Hid (IsInts w.heap.size w sa sz/\IsInts w.heap.size w da dz):=⟨hs,hd⟩
 obtain⟨n,hn⟩:∃ n,n=dz.length:=⟨_,rfl⟩
 have HH:Hid (∀ i,i<n->∀ w',Below w.heap.size w w'->Calls Tryz.prog f (.int .i64 (nth dz i)::cs).toArray w' (NoP (nth D i) w')):=by rw[hn];exact H
 rw[<-hn] at h2 ⊢
 have HN:Hid (n=dz.length/\D.length=n):=⟨hn,by rw[hn];exact hD⟩
 clear hs hd H hn hD
 have hmk:=run_make_row' (P:=Tryz.prog) 25 3 (.int .i64 0) 8 Tryz.underlying25 Tryz.infoInt rfl .i64 .i64 n (by omega) (by omega)
 go_enter Tryz.func197,Tryz.ntmps197
 go_wp2_with fail
 clear hmk
 go_loopw [15] (fun i wr=>∃ k:Nat,k<=n/\i=.int .i64 k/\wr.rowIs (w.heap.size+2) 3 n (upTo (nth D) k)/\Abx wr w.heap.size (.bool c) (.slice sa sz.length sc) (.slice da n dc)/\Abx wr (w.heap.size+1) (.bool false) (.slice none 0 0) (.slice none 0 0)/\Below w.heap.size w wr) (fun i _=>n-(intOf i).toNat)
 case atStart=>
  refine⟨0,Nat.zero_le _,rfl,?_,((Abx.new w _ _ _).al _).al _,(Abx.new1 w _ _ _ _).al _,(((Below.refl _ w).alloc (Nat.le_refl _) _).alloc (by simp) _).alloc (by simp;omega) _⟩
  have:=World.rowIs_made ((w.alloc (.cells #[.bool c,.slice sa sz.length sc,.slice da n dc] 27)).alloc (.cells #[.bool false,.slice none 0 0,.slice none 0 0] 27)) (.int .i64 0) n 3
  rw[World.size_alloc,World.size_alloc] at this
  exact this.congr (fun j _=>by simp[upTo])
 case round=>
  obtain⟨k,hk,rfl,hrow,hA,hR,hB⟩:=hrel
  have HA:Hid (Abx wr w.heap.size (.bool c) (.slice sa sz.length sc) (.slice da n dc)):=hA
  have HR:Hid (Abx wr (w.heap.size+1) (.bool false) (.slice none 0 0) (.slice none 0 0)):=hR
  have HB:Hid (Below w.heap.size w wr):=hB
  have HW:Hid (wr.rowIs (w.heap.size+2) 3 n (upTo (nth D) k)):=hrow
  clear hA hR hB hrow
  by_cases hlt:k<n
  ·obtain⟨b,off,rfl,hb,hc⟩:=(HI.2.below HB.out).at (q:=k) (by rw[<-HN.1];exact hlt)
   have ck:=hc k (by rw[<-HN.1];exact hlt)
   clear hc
   obtain⟨x,hx⟩:∃ x,x=nth dz k:=⟨_,rfl⟩
   have HX:Hid (x=nth dz k):=hx
   rw[<-hx] at ck
   clear hx
   have HC:Hid (Calls Tryz.prog f (.int .i64 x::cs).toArray wr (NoP (nth D k) wr)):=by rw[HX.out];exact HH.out k hlt wr HB.out
   go_wp2_with fail
   refine HC.mono ?_
   rintro e w1 ⟨rfl,hb1⟩
   have hrow:=row_go8 HW.out hb1
   have c2:=hrow.cell hlt
   have f2:=hrow.frozen k
   have HW1:Hid (w1.rowIs (w.heap.size+2) 3 n (upTo (nth D) k)):=hrow
   have HB1:Hid (Below wr.heap.size wr w1):=hb1
   clear hb1 hrow
   go_wp2_with fail
   exact⟨⟨k+1,by omega,by go_num,upTo_set HW1.out _ rfl,(HA.go HB1.out).ot (a:=⟨w.heap.size+1+1,k,none⟩) (by show w.heap.size≠w.heap.size+1+1;omega) _,(HR.go HB1.out).ot (a:=⟨w.heap.size+1+1,k,none⟩) (by show w.heap.size+1≠w.heap.size+1+1;omega) _,
    (HB.trans (HB1.mono HB.size)).setCell (p:=⟨w.heap.size+1+1,k,none⟩) (by show w.heap.size<=w.heap.size+1+1;omega) _⟩,by simp[intOf];omega⟩
  ·obtain rfl:k=n:=by omega
   have c1:=HA.c1
   have HX:Hid (NewInts (w.heap.size+2) wr (some ⟨w.heap.size+1+1,0,none⟩) D):=upTo_new HW.out (Nat.le_refl _) _ HN.2 (fun j hj=>rfl)
   have HSw:Hid (IsInts wr.heap.size wr sa sz):=(HI.1.below HB.out).mono HB.size
   go_wp2_with (at_builtin;refine app_all rfl _ _ rfl _ wr.heap.size (.slice none 0 0) [] 0 rfl sa sz sz.length sc rfl rfl rfl (World.ownsRow_nil _ _ _ _) HSw.out (by omega) (Nat.le_refl _) ?_;intro g gc w3 hown3 hN3 hB3;rw[List.nil_append] at hN3;have HJ:Hid (NewC wr.heap.size w3 g sz gc):=hN3;have HB3:Hid (Below wr.heap.size wr w3):=hB3;have R3:Hid (Abx w3 (w.heap.size+1) (.bool false) (.slice none 0 0) (.slice none 0 0)):=HR.go hB3;clear hown3 hN3 hB3;have r0:=R3.c0;have r1:=R3.c1;have r2:=R3.c2;have f0:=R3.fr 0;have f1:=R3.fr 1;have f2:=R3.fr 2)
   have F:=R3.set3 (.bool false) (.slice g sz.length gc) (.slice (some ⟨w.heap.size+1+1,0,none⟩) k k)
   have q0:=F.c0
   have q1:=F.c1
   have q2:=F.c2
   have z1:=HR.lt
   refine bodyPost_ret (v:=.agg #[.bool false,.slice g sz.length gc,.slice (some ⟨w.heap.size+1+1,0,none⟩) k k]) (by simp[results,Tryz.results197,go_sem,q0,q1,q2]) rfl ⟨g,gc,some ⟨w.heap.size+1+1,0,none⟩,k,by rw[HN.2],(HJ.set3 z1 _ _ _).low HB.size,⟨((HX.go HB3.out).set3 (by omega) _ _ _).low (by omega),by rw[HN.2];exact Nat.le_refl _⟩,bel_set3 (HB.trans (HB3.mono HB.size)) (by omega) _ _ _⟩
end Go.Proofs.YtkmmkcpfhnifhaaGreatDoor
