/- What the program tells, in part. -/
import Derived.Test.YtkmmkcpfhnifhaaGreatDoorJ16
set_option linter.unusedVariables false
set_option maxHeartbeats 4000000
set_option maxRecDepth 100000
namespace Go.Proofs.YtkmmkcpfhnifhaaGreatDoor
open Go.RowKit
def upF (f:Nat->Int)(k:Nat)(v:Int)(j:Nat):Value:=if j=k then .int .i64 v else upTo f k j
theorem upF_done {wr:World}{B:Nat}{t:TypeId}{n:Nat}{f:Nat->Int}{k:Nat}{v:Int}(h:wr.rowIs B t n (upF f k v))(hv:v=f k):wr.rowIs B t n (upTo f (k+1)):=by
 refine h.congr fun j hj=>?_
 unfold upF upTo
 by_cases e:j=k
 ·subst e;rw[if_pos rfl,if_pos (by omega),hv]
 ·rw[if_neg e]
  by_cases e2:j<k
  ·rw[if_pos e2,if_pos (by omega)]
  ·rw[if_neg e2,if_neg (by omega)]
theorem upF_set {wr:World}{B:Nat}{t:TypeId}{n:Nat}{f:Nat->Int}{k:Nat}{v:Int}(h:wr.rowIs B t n (upF f k v))(u:Int):(wr.setCell ⟨B,k,none⟩ (.int .i64 u)).rowIs B t n (upF f k u):=by
 refine (h.set k _).congr fun j hj=>?_
 unfold upF
 by_cases e:j=k
 ·rw[if_pos e,if_pos e]
 ·rw[if_neg e,if_neg e,if_neg e]
theorem upF_first {wr:World}{B:Nat}{t:TypeId}{n:Nat}{f:Nat->Int}{k:Nat}(h:wr.rowIs B t n (upTo f k))(u:Int):(wr.setCell ⟨B,k,none⟩ (.int .i64 u)).rowIs B t n (upF f k u):=by
 refine (h.set k _).congr fun j hj=>?_
 unfold upF
 rfl
theorem gather_any (fa:Option Addr) (fc:Nat) (rs:List Rw) (c:Bool) (sa:Option Addr) (sc:Nat) (sz:List Int) (da:Option Addr) (dc:Nat) (dz:List Int) (hf:flawE c sz dz=0) (hl:rs.length=sz.length) (w:World) (hR:IsR w.heap.size w fa rs) (hs:IsC w.heap.size w sa sz sc) (hd:IsC w.heap.size w da dz dc) :
    Calls Tryz.prog 245 #[.slice fa rs.length fc,.agg #[.bool c,.slice sa sz.length sc,.slice da dz.length dc]] w (UB (errOf (gaS (rwl rs))) (onc (errOf (gaS (rwl rs))) c) (onl (errOf (gaS (rwl rs))) (gaS (rwl rs))) (onl (errOf (gaS (rwl rs))) (gaD c sz dz (rwl rs))) w):=by
  have HI:Hid (IsC w.heap.size w sa sz sc/\IsC w.heap.size w da dz dc/\IsR w.heap.size w fa rs):=⟨hs,hd,hR⟩
  have HF:Hid (errOf sz=0/\(dz.length:Int)=prod sz):=⟨(flawE_zero hf).1,(flawE_zero hf).2.1⟩
  have HL:Hid (rs.length=sz.length):=hl
  have hn6:rs.length<=6:=by have:=(flawE_short hf).1;omega
  have hd4:dz.length<=4096:=(flawE_short hf).2
  clear hs hd hR hf hl
  have HB0:Hid (Below w.heap.size w ((w.alloc (.cells #[.bool c,.slice sa sz.length sc,.slice da dz.length dc] 27)).alloc (.cells #[.bool false,.slice none 0 0,.slice none 0 0] 27))):=((Below.refl _ w).alloc (Nat.le_refl _) _).alloc (by simp) _
  have pa:=(Abx.new w (.bool c) (.slice sa sz.length sc) (.slice da dz.length dc)).al (.cells #[.bool false,.slice none 0 0,.slice none 0 0] 27)
  have pr:=Abx.new1 w (.cells #[.bool c,.slice sa sz.length sc,.slice da dz.length dc] 27) (.bool false) (.slice none 0 0) (.slice none 0 0)
  obtain⟨S,hS⟩:∃ S,S=gaS (rwl rs):=⟨_,rfl⟩
  obtain⟨D,hD⟩:∃ D,D=gaD c sz dz (rwl rs):=⟨_,rfl⟩
  rw[<-hS,<-hD]
  have HS:Hid (S=gaS (rwl rs)/\S.length=rs.length/\∀ k,k<rs.length->nth S k=(rwa rs k).2.length):=⟨hS,by rw[hS,gaS_length,rwl_length],fun k hk=>by rw[hS,gaS_nth (by rw[rwl_length];exact hk),rwl_at]⟩
  have HD:Hid (D=gaD c sz dz (rwl rs)):=hD
  clear hS hD
  obtain⟨n,hn⟩:∃ n,n=rs.length:=⟨_,rfl⟩
  have HN:Hid (n=rs.length/\S.length=n):=⟨hn,by rw[hn];exact HS.2.1⟩
  rw[<-hn]
  rw[<-hn] at hn6
  clear hn
  have r0:=World.rowIs_made ((w.alloc (.cells #[.bool c,.slice sa sz.length sc,.slice da dz.length dc] 27)).alloc (.cells #[.bool false,.slice none 0 0,.slice none 0 0] 27)) (.int .i64 0) n 3
  simp only[World.size_alloc] at r0
  have HR0:Hid (((((w.alloc (.cells #[.bool c,.slice sa sz.length sc,.slice da dz.length dc] 27)).alloc (.cells #[.bool false,.slice none 0 0,.slice none 0 0] 27)).alloc (.cells (madeCells #[.int .i64 0] n) 3)).rowIs (w.heap.size+1+1) 3 n (upTo (nth S) 0))/\Abx (((w.alloc (.cells #[.bool c,.slice sa sz.length sc,.slice da dz.length dc] 27)).alloc (.cells #[.bool false,.slice none 0 0,.slice none 0 0] 27)).alloc (.cells (madeCells #[.int .i64 0] n) 3)) w.heap.size (.bool c) (.slice sa sz.length sc) (.slice da dz.length dc)/\Abx (((w.alloc (.cells #[.bool c,.slice sa sz.length sc,.slice da dz.length dc] 27)).alloc (.cells #[.bool false,.slice none 0 0,.slice none 0 0] 27)).alloc (.cells (madeCells #[.int .i64 0] n) 3)) (w.heap.size+1) (.bool false) (.slice none 0 0) (.slice none 0 0)/\Below w.heap.size w (((w.alloc (.cells #[.bool c,.slice sa sz.length sc,.slice da dz.length dc] 27)).alloc (.cells #[.bool false,.slice none 0 0,.slice none 0 0] 27)).alloc (.cells (madeCells #[.int .i64 0] n) 3))):=
    ⟨r0.congr (fun j _=>by simp[upTo]),pa.al _,pr.al _,HB0.alloc HB0.size _⟩
  have hmk:=run_make_row' (P:=Tryz.prog) 25 3 (.int .i64 0) 8 Tryz.underlying25 Tryz.infoInt rfl .i64 .i64 n (by omega) (by omega)
  clear r0 pa pr HB0
  go_enter Tryz.func245,Tryz.ntmps245
  go_wp2_with fail
  clear hmk
  go_loopw [20] (fun i wr=>∃ k:Nat,k<=n/\i=.int .i64 k/\wr.rowIs (w.heap.size+1+1) 3 n (upTo (nth S) k)/\Abx wr w.heap.size (.bool c) (.slice sa sz.length sc) (.slice da dz.length dc)/\Abx wr (w.heap.size+1) (.bool false) (.slice none 0 0) (.slice none 0 0)/\Below w.heap.size w wr) (fun i _=>n-(intOf i).toNat)
  case atStart=>exact⟨0,Nat.zero_le _,rfl,HR0.out⟩
  case round=>
    obtain⟨k,hk,rfl,hrow,hA,hR,hB⟩:=hrel
    clear HR0
    by_cases hlt:k<n
    · have hkr:k<rs.length:=by rw[<-HN.1];exact hlt
      obtain⟨bf,of,rfl,hbf,hcF⟩:=(HI.2.2.below hB).at hkr
      have cf:=hcF k hkr
      unfold rv at cf
      have HV:Hid (((rwa rs k).2.length:Int)=nth S k):=(HS.2.2 k hkr).symm
      have c2:=hrow.cell hlt
      have f2:=hrow.frozen k
      have HQ:Hid (wr.rowIs (w.heap.size+1+1) 3 n (upTo (nth S) k)/\Abx wr w.heap.size (.bool c) (.slice sa sz.length sc) (.slice da dz.length dc)/\Abx wr (w.heap.size+1) (.bool false) (.slice none 0 0) (.slice none 0 0)/\Below w.heap.size w wr):=⟨hrow,hA,hR,hB⟩
      clear hrow hA hR hB hcF
      go_wp2_with fail
      refine⟨⟨k+1,by omega,by go_num,upTo_set HQ.1 _ HV.out,HQ.2.1.ot (a:=⟨w.heap.size+1+1,k,none⟩) (by show w.heap.size≠w.heap.size+1+1;omega) _,HQ.2.2.1.ot (a:=⟨w.heap.size+1+1,k,none⟩) (by show w.heap.size+1≠w.heap.size+1+1;omega) _,HQ.2.2.2.setCell (p:=⟨w.heap.size+1+1,k,none⟩) (by show w.heap.size<=w.heap.size+1+1;omega) _⟩,by simp[intOf];omega⟩
    · obtain rfl:k=n:=by omega
      have HNS:Hid (NewInts (w.heap.size+1+1) wr (some ⟨w.heap.size+1+1,0,none⟩) S):=upTo_new hrow (Nat.le_refl _) S HN.2 (fun j hj=>rfl)
      obtain⟨v,hv⟩:∃ v,v=wr:=⟨_,rfl⟩
      subst hv
      have HA:Hid (Abx v w.heap.size (.bool c) (.slice sa sz.length sc) (.slice da dz.length dc)):=hA
      have HR:Hid (Abx v (w.heap.size+1) (.bool false) (.slice none 0 0) (.slice none 0 0)):=hR
      have HB:Hid (Below w.heap.size w v):=hB
      clear hrow hA hR hB hlt hk
      go_wp2_with fail
      by_cases he:errOf S=0
      · have HE:Hid (errOf S=0):=he
        have hpn:=prod_nonneg (errOf_zero.1 he).2.1
        have hpm:=(errOf_zero.1 he).2.2
        obtain⟨N,hNe⟩:∃ N:Nat,(N:Int)=prod S:=⟨(prod S).toNat,by omega⟩
        have hN4:N<=4096:=by omega
        have HNe:Hid ((N:Int)=prod S):=hNe
        clear hpn hpm hNe he
        refine (count_l (some ⟨w.heap.size+1+1,0,none⟩) k S k HN.2 N (by omega) v HNS.ints HE.out HNe.out).mono ?_
        rintro e u ⟨rfl,hC⟩
        have HA2:Hid (Abx u w.heap.size (.bool c) (.slice sa sz.length sc) (.slice da dz.length dc)):=HA.go hC
        have HR2:Hid (Abx u (w.heap.size+1) (.bool false) (.slice none 0 0) (.slice none 0 0)):=HR.go hC
        have HB2:Hid (Below w.heap.size w u):=HB.trans (hC.mono HB.size)
        have HNS2:Hid (NewInts (w.heap.size+1+1) u (some ⟨w.heap.size+1+1,0,none⟩) S):=HNS.go hC
        clear hC HA HR HB HNS
        have HDl:Hid (D.length=N/\∀ j,j<N->nth D j=gaC c sz dz (rwl rs) (cr S j)):=by
          refine⟨?_,fun j hj=>?_⟩
          · rw[HD.out,gaD,TA_length,<-HS.1];have:=HNe.out;omega
          · rw[HD.out,gaD,TA_nth (by rw[<-HS.1];have:=HNe.out;omega),HS.1]
        have hmk:=run_make_row' (P:=Tryz.prog) 25 3 (.int .i64 0) 8 Tryz.underlying25 Tryz.infoInt rfl .i64 .i64 N (by omega) (by omega)
        go_wp2_with fail
        clear hmk
        go_loopw [44] (fun i wr=>∃ j:Nat,j<=N/\i=.int .i64 j/\wr.rowIs u.heap.size 3 N (upTo (nth D) j)/\Below u.heap.size u wr) (fun i _=>N-(intOf i).toNat)
        case atStart=>
          exact⟨0,Nat.zero_le _,rfl,(World.rowIs_made u (.int .i64 0) N 3).congr (fun j _=>by simp[upTo]),(Below.refl _ u).alloc (Nat.le_refl _) _⟩
        case round=>
          obtain⟨j,hj,rfl,hrow,hBu⟩:=hrel
          have hA:=HA2.go hBu
          have hB:Below w.heap.size w wr:=HB2.trans (hBu.mono HB2.size)
          have e0:=hA.c0
          by_cases hlt:j<N
          · have c2:=hrow.cell hlt
            have f2:=hrow.frozen j
            have hzu:w.heap.size<u.heap.size:=HA2.lt
            have HQ:Hid (wr.rowIs u.heap.size 3 N (upTo (nth D) j)/\Abx wr w.heap.size (.bool c) (.slice sa sz.length sc) (.slice da dz.length dc)/\Below u.heap.size u wr/\Below w.heap.size w wr):=⟨hrow,hA,hBu,hB⟩
            clear hrow hA hBu hB
            go_wp2_with fail
            refine (fll_any c wr).mono ?_
            rintro e w2 ⟨rfl,rfl⟩
            obtain⟨x,hx⟩:∃ x,x=w2.setCell ⟨u.heap.size,j,none⟩ (.int .i64 (fillE c)):=⟨_,rfl⟩
            have HX:Hid (x.rowIs u.heap.size 3 N (upF (nth D) j (fillE c))/\Abx x w.heap.size (.bool c) (.slice sa sz.length sc) (.slice da dz.length dc)/\Below u.heap.size u x/\Below w.heap.size w x):=by
              rw[hx]
              exact⟨upF_first HQ.1 _,HQ.2.1.ot (a:=⟨u.heap.size,j,none⟩) (by show w.heap.size≠u.heap.size;omega) _,HQ.2.2.1.setCell (p:=⟨u.heap.size,j,none⟩) (Nat.le_refl _) _,HQ.2.2.2.setCell (p:=⟨u.heap.size,j,none⟩) (by show w.heap.size<=u.heap.size;omega) _⟩
            have e1:(w2.setCell ⟨u.heap.size,j,none⟩ (.int .i64 (fillE c))).cell? ⟨w.heap.size,1,none⟩=some (.slice sa sz.length sc):=by rw[<-hx];exact HX.2.1.c1
            have HHX:Hid (x=w2.setCell ⟨u.heap.size,j,none⟩ (.int .i64 (fillE c))):=hx
            clear hx e0
            go_wp2_with fail
            rw[<-HHX.out]
            obtain⟨T,hT⟩:∃ T,T=gaT (rwl rs) (cr S j):=⟨_,rfl⟩
            have HT:Hid (T=gaT (rwl rs) (cr (gaS (rwl rs)) j)):=by rw[<-HS.1];exact hT
            have HDj:Hid (nth D j=if insB sz T=true then cel sz dz T else fillE c):=by rw[hT];exact HDl.2 j hlt
            have hjp:Hid ((j:Int)<prod (gaS (rwl rs))):=by rw[<-HS.1];have:=HNe.out;show (j:Int)<prod S;omega
            have hxs:HX.out=HX.out:=rfl
            clear hT e1 c2 f2 HHX HQ hxs
            by_cases hins:insB sz T=true
            · have hpb:=place_bd hins
              have hpd:=HF.2
              obtain⟨m,hm⟩:∃ m:Nat,(m:Int)=place sz T:=⟨(place sz T).toNat,by omega⟩
              have hmd:m<dz.length:=by omega
              have HV:Hid ((m:Int)=if insB sz T=true then place sz T else 0):=by rw[if_pos hins];exact hm
              have HBo:Hid (true=insB sz T):=hins.symm
              have HDm:Hid (nth dz m=nth D j):=by show _=_;rw[HDj.out,if_pos hins,cel,<-hm,Int.toNat_natCast]
              clear hpb hpd hm hins
              have h:=src_any fa fc rs sa sc sz j HF.1 HL.out (by rw[<-HS.1];exact HE.out) hjp.out x ((HI.2.2.below HX.2.2.2).mono HX.2.2.2.size) ((HI.1.1.below HX.2.2.2).mono HX.2.2.2.size) T HT.out (m:Int) HV.out true HBo.out
              rw[<-HN.1] at h
              refine h.mono ?_
              clear h
              rintro e w3 ⟨rfl,hBc⟩
              have hA3:=HX.2.1.go hBc
              have hrow3:w3.rowIs u.heap.size 3 N (upF (nth D) j (fillE c)):=HX.1.of_block (hBc.block u.heap.size HX.1.lt)
              have hBu3:Below u.heap.size u w3:=HX.2.2.1.trans (hBc.mono HX.2.2.1.size)
              have hB3:Below w.heap.size w w3:=HX.2.2.2.trans (hBc.mono HX.2.2.2.size)
              obtain⟨bd,od,rfl,hbd,hcD⟩:=(HI.2.1.1.below hB3).at hmd
              have cd:=hcD m hmd
              have e2:=hA3.c2
              have c2:=hrow3.cell hlt
              have f2:=hrow3.frozen j
              have HQ:Hid (w3.rowIs u.heap.size 3 N (upF (nth D) j (fillE c))/\Below u.heap.size u w3):=⟨hrow3,hBu3⟩
              clear hA3 hrow3 hBu3 hB3 hcD hBc HX
              go_wp2_with fail
              refine⟨⟨j+1,by omega,by go_num,upF_done (upF_set HQ.1 _) HDm.out,HQ.2.setCell (p:=⟨u.heap.size,j,none⟩) (Nat.le_refl _) _⟩,by simp[intOf];omega⟩
            · have HV:Hid ((0:Int)=if insB sz T=true then place sz T else 0):=by rw[if_neg hins];rfl
              have HBo : Hid (false = insB sz T) := by show _ = _; cases h : insB sz T; · rfl
                                                       · exact absurd h hins
              have HDm:Hid (fillE c=nth D j):=by show _=_;rw[HDj.out,if_neg hins]
              clear hins
              have h:=src_any fa fc rs sa sc sz j HF.1 HL.out (by rw[<-HS.1];exact HE.out) hjp.out x ((HI.2.2.below HX.2.2.2).mono HX.2.2.2.size) ((HI.1.1.below HX.2.2.2).mono HX.2.2.2.size) T HT.out 0 HV.out false HBo.out
              rw[<-HN.1] at h
              refine h.mono ?_
              clear h
              rintro e w3 ⟨rfl,hBc⟩
              have HQ:Hid (w3.rowIs u.heap.size 3 N (upF (nth D) j (fillE c))/\Below u.heap.size u w3):=⟨HX.1.of_block (hBc.block u.heap.size HX.1.lt),HX.2.2.1.trans (hBc.mono HX.2.2.1.size)⟩
              clear hBc HX
              go_wp2_with fail
              refine⟨⟨j+1,by omega,by go_num,upF_done HQ.1 HDm.out,HQ.2⟩,by simp[intOf];omega⟩
          · obtain rfl:j=N:=by omega
            have HY:Hid (NewInts u.heap.size wr (some ⟨u.heap.size,0,none⟩) D):=upTo_new hrow (Nat.le_refl _) D HDl.1 (fun j hj=>rfl)
            have HR3:Hid (Abx wr (w.heap.size+1) (.bool false) (.slice none 0 0) (.slice none 0 0)):=HR2.go hBu
            have HX3:Hid (NewInts (w.heap.size+1+1) wr (some ⟨w.heap.size+1+1,0,none⟩) S):=HNS2.go hBu
            have HB3:Hid (Below w.heap.size w wr):=hB
            have hzu:w.heap.size+1<u.heap.size:=HR2.lt
            have r0:=HR3.c0
            have r1:=HR3.c1
            have r2:=HR3.c2
            have f0:=HR3.fr 0
            have f1:=HR3.fr 1
            have f2:=HR3.fr 2
            clear hrow hA hB hBu hlt hj
            go_wp2_with fail
            have F:=HR3.set3 (.bool c) (.slice (some ⟨w.heap.size+1+1,0,none⟩) k k) (.slice (some ⟨u.heap.size,0,none⟩) j j)
            have q0:=F.c0
            have q1:=F.c1
            have q2:=F.c2
            refine bodyPost_ret (v:=.tuple #[.agg #[.bool c,.slice (some ⟨w.heap.size+1+1,0,none⟩) k k,.slice (some ⟨u.heap.size,0,none⟩) j j],.nilIface]) (by simp[results,Tryz.results245,go_sem,q0,q1,q2]) rfl ?_
            have hX:=(HX3.set3 (b:=w.heap.size+1) (by omega) (.bool c) (.slice (some ⟨w.heap.size+1+1,0,none⟩) k k) (.slice (some ⟨u.heap.size,0,none⟩) j j)).low (lo':=w.heap.size) (by omega)
            have hY:=(HY.set3 (b:=w.heap.size+1) (by omega) (.bool c) (.slice (some ⟨w.heap.size+1+1,0,none⟩) k k) (.slice (some ⟨u.heap.size,0,none⟩) j j)).low (lo':=w.heap.size) (by omega)
            have hZ:=bel_set3 HB3.out (b:=w.heap.size+1) (by omega) (.bool c) (.slice (some ⟨w.heap.size+1+1,0,none⟩) k k) (.slice (some ⟨u.heap.size,0,none⟩) j j)
            have hUB:=UB.mkok (c:=c) (xc:=k) (yc:=j) HE.out ⟨hX,by rw[HN.2];exact Nat.le_refl _⟩ ⟨hY,by rw[HDl.1];exact Nat.le_refl _⟩ hZ
            rw[HN.2,HDl.1] at hUB
            exact hUB
      · have HE:Hid (errOf S≠0):=he
        clear he
        refine (count_lno (some ⟨w.heap.size+1+1,0,none⟩) k S k HN.2 (by omega) v HNS.ints HE.out).mono ?_
        rintro e u ⟨rfl,hC⟩
        have HR2:Hid (Abx u (w.heap.size+1) (.bool false) (.slice none 0 0) (.slice none 0 0)):=HR.go hC
        have HB2:Hid (Below w.heap.size w u):=HB.trans (hC.mono HB.size)
        clear hC HA HR HB HNS
        have r0:=HR2.c0
        have r1:=HR2.c1
        have r2:=HR2.c2
        have f0:=HR2.fr 0
        have f1:=HR2.fr 1
        have f2:=HR2.fr 2
        go_wp2_with fail
        have F:=HR2.set3 (.bool false) (.slice none 0 0) (.slice none 0 0)
        have q0:=F.c0
        have q1:=F.c1
        have q2:=F.c2
        exact bodyPost_ret (v:=.tuple #[.agg #[.bool false,.slice none 0 0,.slice none 0 0],.iface 28 (.int .i64 (errOf S))]) (by simp[results,Tryz.results245,go_sem,q0,q1,q2]) rfl (UB.mkno rfl HE.out (bel_set3 HB2.out (by omega) _ _ _))
theorem alongb_any (x:Int)(c:Bool)(sa:Option Addr)(sc:Nat)(sz:List Int)(da:Option Addr)(dc:Nat)(dz:List Int)(f:Nat)(cs:List Value)(hE:∀ args w,(callFunc f args).run Tryz.prog w=.ok (.enter f args) w)(g:Int->Int)(hx:In64 x)(h1:sz.length<=9223372036854775807)(h2:dz.length<=9223372036854775807)(w:World)(hs:IsC w.heap.size w sa sz sc)(hd:IsInts w.heap.size w da dz)
  (hg:∀ i,0<=i->i<nth sz x.toNat->0<=g i/\g i<nth sz x.toNat)
  (H:∀ i:Nat,(i:Int)<nth sz x.toNat->nth sz x.toNat<=4096->∀ w',Below w.heap.size w w'->Calls Tryz.prog f (.int .i64 (i:Nat)::.int .i64 (nth sz x.toNat)::cs).toArray w' (fun e w''=>e=.returned (.int .i64 (g i))/\w''=w')):
  Calls Tryz.prog 161 #[.int .i64 x,.agg #[.bool c,.slice sa sz.length sc,.slice da dz.length dc],.func (.func f) #[] cs.toArray] w (UB (axE x c sz dz) (onc (axE x c sz dz) c) (axS5 x c sz dz) (onl (axE x c sz dz) (GA sz dz sz (mvT x.toNat g))) w):=by
 have HI:Hid (IsC w.heap.size w sa sz sc/\IsInts w.heap.size w da dz):=⟨hs,hd⟩
 have HH:Hid (∀ i:Nat,(i:Int)<nth sz x.toNat->nth sz x.toNat<=4096->∀ w',Below w.heap.size w w'->Calls Tryz.prog f (.int .i64 (i:Nat)::.int .i64 (nth sz x.toNat)::cs).toArray w' (fun e w''=>e=.returned (.int .i64 (g i))/\w''=w')):=H
 have HG:Hid (∀ i,0<=i->i<nth sz x.toNat->0<=g i/\g i<nth sz x.toNat):=hg
 have HX:Hid (In64 x):=hx
 clear hs hd H hg hx
 have HB0:Hid (Below w.heap.size w ((w.alloc (.cells #[.bool c,.slice sa sz.length sc,.slice da dz.length dc] 27)).alloc (.cells #[.bool false,.slice none 0 0,.slice none 0 0] 27))):=((Below.refl _ w).alloc (Nat.le_refl _) _).alloc (by simp) _
 have pa:=(Abx.new w (.bool c) (.slice sa sz.length sc) (.slice da dz.length dc)).al (.cells #[.bool false,.slice none 0 0,.slice none 0 0] 27)
 have pr:=Abx.new1 w (.cells #[.bool c,.slice sa sz.length sc,.slice da dz.length dc] 27) (.bool false) (.slice none 0 0) (.slice none 0 0)
 have p0:=pa.c0
 have p1:=pa.c1
 have p2:=pa.c2
 by_cases h3:flawE c sz dz=0
 ·have H3:Hid (flawE c sz dz=0):=h3
  have HL:Hid (sz.length<=6/\dz.length<=4096):=flawE_short h3
  clear h3
  go_enter Tryz.func161,Tryz.ntmps161
  go_wp2_with fail
  refine (check_ok c sa sc sz da dc dz h1 h2 _ ((HI.1.1.below HB0.out).mono HB0.size) ((HI.2.below HB0.out).mono HB0.size) H3.out).mono ?_
  rintro e v1 ⟨rfl,hC⟩
  have HB1:Hid (Below w.heap.size w v1):=HB0.trans (hC.mono HB0.size)
  have HP:Hid (Abx v1 w.heap.size (.bool c) (.slice sa sz.length sc) (.slice da dz.length dc)):=pa.go hC
  have HR:Hid (Abx v1 (w.heap.size+1) (.bool false) (.slice none 0 0) (.slice none 0 0)):=pr.go hC
  clear hC pa pr p0 p1 p2 HB0
  have p0:=HP.c0
  have p1:=HP.c1
  have p2:=HP.c2
  by_cases hx0:x<0
  ·have HE:Hid (axE x c sz dz=5):=axE_index6 H3.out (.inl hx0)
   have r0:=HR.c0
   have r1:=HR.c1
   have r2:=HR.c2
   have f0:=HR.fr 0
   have f1:=HR.fr 1
   have f2:=HR.fr 2
   go_wp2_with fail
   have F:=HR.set3 (.bool false) (.slice none 0 0) (.slice none 0 0)
   have q0:=F.c0
   have q1:=F.c1
   have q2:=F.c2
   exact bodyPost_ret (v:=.tuple #[.agg #[.bool false,.slice none 0 0,.slice none 0 0],.iface 28 (.int .i64 5)]) (by simp[results,Tryz.results161,go_sem,q0,q1,q2]) rfl (UB.mkno HE.out (by decide) (bel_set3 HB1.out (by omega) _ _ _))
  ·by_cases hx1:(sz.length:Int)<=x
   ·have HE:Hid (axE x c sz dz=5):=axE_index6 H3.out (.inr hx1)
    have r0:=HR.c0
    have r1:=HR.c1
    have r2:=HR.c2
    have f0:=HR.fr 0
    have f1:=HR.fr 1
    have f2:=HR.fr 2
    go_wp2_with fail
    have F:=HR.set3 (.bool false) (.slice none 0 0) (.slice none 0 0)
    have q0:=F.c0
    have q1:=F.c1
    have q2:=F.c2
    exact bodyPost_ret (v:=.tuple #[.agg #[.bool false,.slice none 0 0,.slice none 0 0],.iface 28 (.int .i64 5)]) (by simp[results,Tryz.results161,go_sem,q0,q1,q2]) rfl (UB.mkno HE.out (by decide) (bel_set3 HB1.out (by omega) _ _ _))
   ·obtain⟨xn,rfl⟩:∃ xn:Nat,x=(xn:Int):=⟨x.toNat,by omega⟩
    have hxl:xn<sz.length:=by omega
    have HE:Hid (axE (xn:Int) c sz dz=0):=axE_zero.2 ⟨H3.out,by omega,by omega⟩
    have HF:Hid (errOf sz=0/\(dz.length:Int)=prod sz):=⟨(flawE_zero H3.out).1,(flawE_zero H3.out).2.1⟩
    rw[Int.toNat_natCast] at HH HG ⊢
    clear hx0
    obtain⟨bs,os,rfl,hbs,hcS⟩:=(HI.1.1.below HB1.out).at hxl
    have cs1:=hcS xn hxl
    clear hcS
    go_wp2_with fail
    refine bT 10 (fun w'=>w'.cell? ⟨w.heap.size,1,none⟩=some (.slice (some ⟨bs,os,none⟩) sz.length sc)/\w'.cell? ⟨bs,os+xn,none⟩=some (.int .i64 (nth sz xn))) 11 (⟨p1,cs1⟩) fun hq0=>?_
    refine pT 0 hq0 ?_;refine lT 1 hq0 ?_;refine pT 2 hq0 ?_;refine pT 3 hq0 ?_;refine lT 4 hq0 ?_;refine pT 5 hq0 ?_;refine lT 6 hq0 ?_;refine pT 7 hq0 ?_
    clear hq0
    refine oT 8 fun K hK=>?_
    go_simp
    go_wp2_with (go_at_call 231;refine (step_any (some ⟨bs,os,none⟩) sc sz xn hxl HF.1 v1.heap.size v1.drew ((HI.1.below HB1.out).mono HB1.size)).mono ?_;rintro e w2 ⟨rfl,rfl⟩)
    refine hK.out _ _ (fun _=>⟨p1,cs1⟩) ?_
    clear hK K
    refine oT 9 fun K hK=>?_
    go_simp
    refine hK.out _ _ (fun _=>⟨p1,cs1⟩) ?_
    clear hK K
    refine oT 10 fun K hK=>?_
    go_simp
    refine hK.out _ _ (fun h=>absurd h (by decide)) ?_
    clear hK K
    refine dT ?_
    obtain⟨v,hv⟩:∃ v,v=v1.drew:=⟨_,rfl⟩
    rw[<-hv]
    have HB2:Hid (Below w.heap.size w v):=by rw[hv];exact HB1.drew
    have HP2:Hid (Abx v w.heap.size (.bool c) (.slice (some ⟨bs,os,none⟩) sz.length sc) (.slice da dz.length dc)):=by rw[hv];exact HP.out
    have HR2:Hid (Abx v (w.heap.size+1) (.bool false) (.slice none 0 0) (.slice none 0 0)):=by rw[hv];exact HR.out
    clear hv HP HR HB1 p0 p1 p2 cs1
    obtain⟨D,hD⟩:∃ D,D=GA sz dz sz (mvT xn g):=⟨_,rfl⟩
    have HD:Hid (D=GA sz dz sz (mvT xn g)/\D.length=dz.length):=⟨hD,by rw[hD,GA_length];have:=HF.2;omega⟩
    obtain⟨n,hn⟩:∃ n,n=dz.length:=⟨_,rfl⟩
    have HN:Hid (n=dz.length/\n<=4096):=⟨hn,by rw[hn];exact HL.2⟩
    obtain⟨st,hst⟩:∃ st,st=stp sz xn:=⟨_,rfl⟩
    have HST:Hid (st=stp sz xn):=hst
    obtain⟨L,hL⟩:∃ L,L=nth sz xn:=⟨_,rfl⟩
    have HLL:Hid (L=nth sz xn):=hL
    have p2:=HP2.c2
    rw[<-hn] at p2
    have hmk:=run_make_row' (P:=Tryz.prog) 25 3 (.int .i64 0) 8 Tryz.underlying25 Tryz.infoInt rfl .i64 .i64 n (by have:=HN.2;omega) (by have:=HN.2;omega)
    rw[<-hst,<-hL]
    rw[Int.toNat_natCast]
    clear hst hL hn hD
    go_wp2_with fail
    clear hmk p2
    go_loopw [46] (fun i wr=>∃ k:Nat,k<=n/\i=.int .i64 k/\wr.rowIs v.heap.size 3 n (upTo (nth D) k)/\Abx wr w.heap.size (.bool c) (.slice (some ⟨bs,os,none⟩) sz.length sc) (.slice da n dc)/\Abx wr (w.heap.size+1) (.bool false) (.slice none 0 0) (.slice none 0 0)/\Below w.heap.size w wr) (fun i _=>n-(intOf i).toNat)
    case atStart=>
     refine⟨0,Nat.zero_le _,rfl,(World.rowIs_made v (.int .i64 0) n 3).congr (fun j _=>by simp[upTo]),?_,HR2.al _,HB2.alloc HB2.size _⟩
     rw[HN.1];exact HP2.al _
    case round=>
     obtain⟨k,hk,rfl,hrow,hA,hR,hB⟩:=hrel
     have hvR:w.heap.size+1<v.heap.size:=HR2.lt
     by_cases hlt:k<n
     ·obtain⟨y1,y2,y3,y4,⟨i,y5,y6,y7,y8,y9,y10,y11⟩,m,y12,y13,y14⟩:=mv_round (g:=g) HF.1 HF.2 hxl (j:=k) (by rw[<-HN.1];exact hlt) HG.out
      rw[<-HST.out] at y1 y2 y5 y7 y8 y9
      rw[<-HLL.out] at y3 y4 y5 y6 y11
      rw[<-HN.1] at y12
      have HV:Hid (nth dz m=nth D k):=by show _=_;rw[HD.1];exact y14
      have HM:Hid (m<dz.length):=by rw[<-HN.1];exact y12
      have hsum:(k:Int)+(g i-i)*st=m:=by rw[<-y7,y13]
      obtain⟨G,hG⟩:∃ G,G=g i:=⟨_,rfl⟩
      rw[<-hG] at y8 y9 y10 y11 hsum
      obtain⟨P,hP⟩:∃ P,P=(G-i)*st:=⟨_,rfl⟩
      rw[<-hP] at y8 y9 hsum
      have hn5:n<=4096:=HN.2
      have hw:IntKind.i64.wrap ((k:Int)+IntKind.i64.wrap (IntKind.i64.wrap (G-(i:Int))*st))=(m:Int):=by
       rw[IntWalk.i64_in (G-(i:Int)) (by omega),<-hP,IntWalk.i64_in P (by omega),hsum];exact IntWalk.i64_in _ (by omega)
      have HGi:Hid (g i=G):=hG.symm
      have y10':0<=G:=y10
      obtain⟨bd,od,rfl,hbd,hcD⟩:=(HI.2.below hB).at HM.out
      have cd:=hcD m HM.out
      have HC:Hid (Calls Tryz.prog f (.int .i64 (i:Nat)::.int .i64 L::cs).toArray wr.drew (fun e w''=>e=.returned (.int .i64 G)/\w''=wr.drew)):=by
       have h:=HH.out i (by rw[<-HLL.out];exact y6) (by rw[<-HLL.out];exact y4) wr.drew hB.drew
       rw[<-HLL.out,<-hG] at h
       exact h
      have HQ:Hid (wr.rowIs v.heap.size 3 n (upTo (nth D) k)/\Abx wr w.heap.size (.bool c) (.slice (some ⟨bs,os,none⟩) sz.length sc) (.slice (some ⟨bd,od,none⟩) n dc)/\Abx wr (w.heap.size+1) (.bool false) (.slice none 0 0) (.slice none 0 0)/\Below w.heap.size w wr):=⟨hrow,hA,hR,hB⟩
      have e2:=hA.c2
      have c2:=hrow.cell hlt
      have f2:=hrow.frozen k
      clear hrow hA hR hB hcD y7 y13 y14 hP hG y10
      have hn4:n<=4096:=HN.2
      have HQI:Hid ((wrap64 ((k:Int)/st)).tmod L=(i:Int)):=by
       have e0:0<=(k:Int)/st:=Int.ediv_nonneg (by omega) (by omega)
       have e1:(k:Int)/st<=k:=Int.ediv_le_self _ (by omega)
       show _=_
       rw[wrap64_small (by omega) (by omega),Int.tmod_eq_emod_of_nonneg e0,y5]
      clear y5
      go_wp2_with fail
      rw[HQI.out]
      refine bT 16 (fun w'=>w'.cell? ⟨w.heap.size,2,none⟩=some (.slice (some ⟨bd,od,none⟩) n dc)/\w'.cell? ⟨bd,od+m,none⟩=some (.int .i64 (nth dz m))) 18 (⟨e2,cd⟩) fun hq12=>?_
      refine pT 0 hq12 ?_;refine pT 1 hq12 ?_;refine pT 2 hq12 ?_;refine lT 3 hq12 ?_;refine pT 4 hq12 ?_;refine pT 5 hq12 ?_;refine pT 6 hq12 ?_;refine pT 7 hq12 ?_
      refine pT 9 hq12 ?_;refine pT 11 hq12 ?_
      clear hq12
      refine oT 8 fun K hK=>?_
      go_simp
      go_wp2_with fail
      refine HC.mono ?_
      rintro e w2 ⟨rfl,rfl⟩
      refine hK.out _ _ (fun _=>⟨e2,cd⟩) ?_
      clear hK K
      refine pT 10 (⟨e2,cd⟩) ?_;refine pT 12 (⟨e2,cd⟩) ?_;refine pT 13 (⟨e2,cd⟩) ?_;refine pT 14 (⟨e2,cd⟩) ?_;refine lT 15 (⟨e2,cd⟩) ?_
      refine oT 16 fun K hK=>?_
      go_simp
      refine hK.out _ _ (fun h=>absurd h (by decide)) ?_
      clear hK K
      refine oT 17 fun K hK=>?_
      go_simp
      refine hK.out _ _ (fun h=>absurd h (by decide)) ?_
      clear hK K
      refine dT ?_
      go_wp2_with fail
      refine⟨⟨k+1,by omega,by go_num,upTo_set HQ.1 _ HV.out,HQ.2.1.ot (a:=⟨v.heap.size,k,none⟩) (by show w.heap.size≠v.heap.size;omega) _,HQ.2.2.1.ot (a:=⟨v.heap.size,k,none⟩) (by show w.heap.size+1≠v.heap.size;omega) _,(HQ.2.2.2.drew).setCell (p:=⟨v.heap.size,k,none⟩) (by show w.heap.size<=v.heap.size;omega) _⟩,by simp[intOf];omega⟩
     ·obtain rfl:k=n:=by omega
      have HY:Hid (NewInts v.heap.size wr (some ⟨v.heap.size,0,none⟩) D):=upTo_new hrow (Nat.le_refl _) D (by rw[HD.2,HN.1]) (fun j hj=>rfl)
      have HDk:Hid (D.length=k):=by show _=_;rw[HD.2,HN.1]
      have HA:Hid (Abx wr w.heap.size (.bool c) (.slice (some ⟨bs,os,none⟩) sz.length sc) (.slice da k dc)):=hA
      have HB:Hid (Below w.heap.size w wr):=hB
      have HRR:Hid (Abx wr (w.heap.size+1) (.bool false) (.slice none 0 0) (.slice none 0 0)):=hR
      have e0:=hA.c0
      have e1:=hA.c1
      have hl6:=HL.1
      clear hrow hA hR hB hk hlt
      go_wp2_with fail
      refine bT 7 (fun w'=>w'.cell? ⟨w.heap.size,0,none⟩=some (.bool c)/\w'.cell? ⟨w.heap.size,1,none⟩=some (.slice (some ⟨bs,os,none⟩) sz.length sc)) 9 (⟨e0,e1⟩) fun hq31=>?_
      refine pT 0 hq31 ?_;refine lT 1 hq31 ?_;refine pT 2 hq31 ?_;refine lT 3 hq31 ?_;refine pT 5 hq31 ?_
      clear hq31
      refine oT 4 fun K hK=>?_
      go_simp
      go_wp2_with (go_at_call 179;refine (clone_any (some ⟨bs,os,none⟩) sc sz (by omega) wr.drew ((HI.1.1.below HB.out).mono HB.size)).mono ?_;rintro e w3 ⟨ga,gc,rfl,hN,hBc⟩)
      have HBc:Hid (Below wr.heap.size wr w3):=(Below.refl _ wr).drew.trans hBc
      have HNn:Hid (NewC wr.heap.size w3 ga sz gc):=hN
      have A3:=HA.go HBc.out
      have R3:=HRR.go HBc.out
      have r0:=R3.c0
      have r1:=R3.c1
      have r2:=R3.c2
      have f0:=R3.fr 0
      have f1:=R3.fr 1
      have f2:=R3.fr 2
      clear hN hBc
      refine hK.out _ _ (fun _=>⟨A3.c0,A3.c1⟩) ?_
      clear hK K
      refine pT 6 (⟨A3.c0,A3.c1⟩) ?_
      refine oT 7 fun K hK=>?_
      go_simp
      refine hK.out _ _ (fun h=>absurd h (by decide)) ?_
      clear hK K
      refine oT 8 fun K hK=>?_
      go_simp
      refine hK.out _ _ (fun h=>absurd h (by decide)) ?_
      clear hK K
      refine dT ?_
      go_wp2_with fail
      have F:=R3.set3 (.bool c) (.slice ga sz.length gc) (.slice (some ⟨v.heap.size,0,none⟩) k k)
      have q0:=F.c0
      have q1:=F.c1
      have q2:=F.c2
      refine bodyPost_ret (v:=.tuple #[.agg #[.bool c,.slice ga sz.length gc,.slice (some ⟨v.heap.size,0,none⟩) k k],.nilIface]) (by simp[results,Tryz.results161,go_sem,q0,q1,q2]) rfl ?_
      have hwr:w.heap.size+1<wr.heap.size:=HRR.lt
      have hX:=(HNn.set3 (b:=w.heap.size+1) (by omega) (.bool c) (.slice ga sz.length gc) (.slice (some ⟨v.heap.size,0,none⟩) k k)).low (lo':=w.heap.size) (by omega)
      have hY:=((HY.go HBc.out).set3 (b:=w.heap.size+1) (by omega) (.bool c) (.slice ga sz.length gc) (.slice (some ⟨v.heap.size,0,none⟩) k k)).low (lo':=w.heap.size) (by omega)
      have hZ:=bel_set3 (HB.trans (HBc.mono HB.size)) (b:=w.heap.size+1) (by omega) (.bool c) (.slice ga sz.length gc) (.slice (some ⟨v.heap.size,0,none⟩) k k)
      have hUA:=UB.mkok (c:=c) (yc:=k) HE.out hX ⟨hY,by rw[HDk.out];exact Nat.le_refl _⟩ hZ
      rw[HDk.out,HD.1] at hUA
      exact hUA
 ·have H3:Hid (flawE c sz dz≠0):=h3
  have HE:Hid (axE x c sz dz=flawE c sz dz):=axE_flaw6 h3
  clear h3
  go_enter Tryz.func161,Tryz.ntmps161
  go_wp2_with fail
  refine (check_no c sa sc sz da dc dz h1 h2 _ ((HI.1.1.below HB0.out).mono HB0.size) ((HI.2.below HB0.out).mono HB0.size) H3.out).mono ?_
  rintro e v1 ⟨rfl,hC⟩
  have HB1:Hid (Below w.heap.size w v1):=HB0.trans (hC.mono HB0.size)
  have HR:Hid (Abx v1 (w.heap.size+1) (.bool false) (.slice none 0 0) (.slice none 0 0)):=pr.go hC
  clear hC pa pr p0 p1 p2 HB0
  have r0:=HR.c0
  have r1:=HR.c1
  have r2:=HR.c2
  have f0:=HR.fr 0
  have f1:=HR.fr 1
  have f2:=HR.fr 2
  go_wp2_with fail
  have F:=HR.set3 (.bool false) (.slice none 0 0) (.slice none 0 0)
  have q0:=F.c0
  have q1:=F.c1
  have q2:=F.c2
  exact bodyPost_ret (v:=.tuple #[.agg #[.bool false,.slice none 0 0,.slice none 0 0],.iface 28 (.int .i64 (flawE c sz dz))]) (by simp[results,Tryz.results161,go_sem,q0,q1,q2]) rfl (UB.mkno HE.out H3.out (bel_set3 HB1.out (by omega) _ _ _))
end Go.Proofs.YtkmmkcpfhnifhaaGreatDoor
