/- What the program tells, in part. -/
import Derived.Test.YtkmmkcpfhnifhaaGreatDoorJ36
import Derived.Test.YtkmmkcpfhnifhaaGreatDoorJ37
set_option linter.unusedVariables false
set_option maxHeartbeats 4000000
set_option maxRecDepth 100000
namespace Go.Proofs.YtkmmkcpfhnifhaaGreatDoor
open Go.RowKit
theorem e2F_way (f:Int)(c:Bool)(sz dz:List Int)(c':Bool)(sz' dz':List Int):e2F f c sz dz c' sz' dz'=
  if f<1\/16<f then 1 else if flawE c sz dz≠0 then flawE c sz dz else if flawE c' sz' dz'≠0 then flawE c' sz' dz' else if fitE sz sz'≠0 then fitE sz sz' else if ((c || c') && !tkC f)=true then 6 else 0:=by
 have e:((c || c') && !tkC f)=true ↔ (c=true\/c'=true)/\f≠8/\f≠9:=by
  unfold tkC
  simp
 have e1:flawsE c sz dz c' sz' dz'=if flawE c sz dz=0 then flawE c' sz' dz' else flawE c sz dz:=rfl
 have e2:sz=sz'->sz.length=sz'.length:=fun h=>by rw[h]
 unfold e2F fitE
 simp only[e]
 grind
theorem p2E_err {f:Int}{c:Bool}{sz dz:List Int}{c':Bool}{sz' dz':List Int}{e:Int}(h:e2F f c sz dz c' sz' dz'=e)(h0:e≠0):e2E f c sz dz c' sz' dz'=e:=by
 unfold e2E
 rw[h,if_pos h0]
theorem two11 {f:Int}(h:¬ (f<1\/16<f)):errV (twoE f 1 1)=.nilIface:=by
 unfold twoE
 rw[if_neg h,if_neg (by simp),if_neg (by simp)]
 rfl
theorem two11_no {f:Int}(h:f<1\/16<f):errV (twoE f 1 1)=.iface 28 (.int .i64 1):=by
 unfold twoE
 rw[if_pos h]
 rfl
theorem prod_nil0 {sz:List Int}(h:sz.length=0):prod sz=1:=by rw[List.eq_nil_of_length_eq_zero h];rfl
theorem e2N_in {f:Int}{c:Bool}{sz dz:List Int}{c':Bool}{sz' dz':List Int}(h:e2F f c sz dz c' sz' dz'=0):
  (sz.length=0->0<dz.length)/\(sz.length≠0->e2N sz sz'<=dz.length)/\(sz'.length=0->0<dz'.length)/\(sz'.length≠0->e2N sz sz'<=dz'.length):=by
 obtain⟨_,h1,h2,h3,_⟩:=e2F_zero.1 h
 have d1:=(flawE_zero h1).2.1
 have d2:=(flawE_zero h2).2.1
 refine⟨fun e=>?_,fun e=>?_,fun e=>?_,fun e=>?_⟩
 ·rw[prod_nil0 e] at d1;omega
 ·unfold e2N shp;rw[if_neg e];omega
 ·rw[prod_nil0 e] at d2;omega
 ·unfold e2N shp
  split
  ·omega
  ·rename_i e'
   rcases h3 with h | h | h
   ·exact absurd h e'
   ·exact absurd h e
   ·rw[h];omega
theorem e2N_r {f:Int}{c:Bool}{sz dz:List Int}{c':Bool}{sz' dz':List Int}(h:e2F f c sz dz c' sz' dz'=0)(h0:sz.length=0):e2N sz sz'=dz'.length:=by
 obtain⟨_,_,h2,_,_⟩:=e2F_zero.1 h
 have d2:=(flawE_zero h2).2.1
 unfold e2N shp
 rw[if_pos h0]
 omega
theorem e2N_l {f:Int}{c:Bool}{sz dz:List Int}{c':Bool}{sz' dz':List Int}(h:e2F f c sz dz c' sz' dz'=0)(h0:sz.length≠0):e2N sz sz'=dz.length:=by
 obtain⟨_,h1,_,_,_⟩:=e2F_zero.1 h
 have d1:=(flawE_zero h1).2.1
 unfold e2N shp
 rw[if_neg h0]
 omega
theorem cAt_cyc {sz dz:List Int}{n i:Nat}(h0:sz.length=0->dz.length=1)(hn:sz.length≠0->n<=dz.length)(hi:i<n):cAt sz dz i=e2C dz i:=by
 unfold cAt e2C cyA
 by_cases h:sz.length=0
 ·rw[if_pos h,h0 h,if_neg (by decide),Nat.mod_one]
 ·have:=hn h
  rw[if_neg h,if_neg (by omega),Nat.mod_eq_of_lt (by omega)]
theorem cAt_e2C {f:Int}{c:Bool}{sz dz:List Int}{c':Bool}{sz' dz':List Int}(h:e2F f c sz dz c' sz' dz'=0){i:Nat}(hi:i<e2N sz sz'):cAt sz dz i=e2C dz i/\cAt sz' dz' i=e2C dz' i:=by
 obtain⟨_,h1,h2,_,_⟩:=e2F_zero.1 h
 have d1:=(flawE_zero h1).2.1
 have d2:=(flawE_zero h2).2.1
 obtain⟨_,a2,_,a4⟩:=e2N_in h
 exact⟨cAt_cyc (fun e=>by rw[prod_nil0 e] at d1;omega) a2 hi,cAt_cyc (fun e=>by rw[prod_nil0 e] at d2;omega) a4 hi⟩
theorem p2E_no {f:Int}{c:Bool}{sz dz:List Int}{c':Bool}{sz' dz':List Int}(h:e2F f c sz dz c' sz' dz'=0){i:Nat}(hi:i<e2N sz sz')(hne:tcE f (c == c') (cAt sz dz i) (cAt sz' dz' i)≠0):
  tcE f (c == c') (cAt sz dz i) (cAt sz' dz' i)=6/\e2E f c sz dz c' sz' dz'=6:=by
 refine⟨(tcE_cell (e2F_zero.1 h).1 _ _ _).resolve_left hne,?_⟩
 unfold e2E
 rw[if_neg (by simpa using h),if_neg]
 intro h'
 unfold e2O at h'
 have:=List.all_eq_true.1 h' i (List.mem_range.2 hi)
 rw[(cAt_e2C h hi).1,(cAt_e2C h hi).2] at hne
 exact hne (by simpa using this)
theorem p2E_ok {f:Int}{c:Bool}{sz dz:List Int}{c':Bool}{sz' dz':List Int}(h:e2F f c sz dz c' sz' dz'=0)(hall:∀ i,i<e2N sz sz'->tcE f (c == c') (cAt sz dz i) (cAt sz' dz' i)=0):
  e2E f c sz dz c' sz' dz'=0/\upL (fun i=>tcV f (c == c') (cAt sz dz i) (cAt sz' dz' i)) (e2N sz sz')=e2V f c sz dz c' sz' dz':=by
 constructor
 ·unfold e2E
  rw[if_neg (by simpa using h),if_pos]
  unfold e2O
  refine List.all_eq_true.2 fun i hi=>?_
  have hi:=List.mem_range.1 hi
  have:=hall i hi
  rw[(cAt_e2C h hi).1,(cAt_e2C h hi).2] at this
  simpa using this
 ·refine nth_ext (by rw[upL_length,e2V_length]) fun j hj=>?_
  rw[upL_length] at hj
  rw[upL_nth _ _ hj,e2V_nth _ _ _ _ _ _ _ hj,(cAt_e2C h hj).1,(cAt_e2C h hj).2]
theorem in_cAt {sz dz:List Int}(T:∀ j,In64 (nth dz j))(i:Nat):In64 (cAt sz dz i):=by
 unfold cAt
 split
 ·exact T 0
 ·exact T i
def Nf (w0 w:World)(v:Value)(t:TypeId):Prop:=∃ b,v=.pointer (some ⟨b,0,none⟩)/\w0.heap.size<=b/\w.heap[b]?=some (.cells #[.nilFunc] t (0,0))
theorem Nf.go {w0 w w':World}{v:Value}{t:TypeId}(h:Nf w0 w v t)(hB:Below w.heap.size w w'):Nf w0 w' v t:=by
 obtain⟨b,e,h0,hb⟩:=h
 exact⟨b,e,h0,blk_to hb hB⟩
def St16 (B:Nat)(wa w0:World)(n:Nat)(g g':Nat->Int)(x1 x3 y4 y5:Bool)(v59 v61 v15 v16:Value)(w:World):Prop:=
 Below w0.heap.size w0 w/\(x1=true->GetF B wa w v59 n g)/\(x3=true->GetF B wa w v61 n g')/\(y4=true->Nf w0 w v15 178)/\(y5=true->Nf w0 w v16 178)/\(y4=true->y5=true->v15≠v16)
section
variable {B : Nat} {wa w0 w w' : World} {n : Nat} {g g' : Nat → Int} {x1 x3 y4 y5 : Bool} {v59 v61 v15 v16 : Value}
theorem St16.go (h:St16 B wa w0 n g g' x1 x3 y4 y5 v59 v61 v15 v16 w)(hB:Below w.heap.size w w'):St16 B wa w0 n g g' x1 x3 y4 y5 v59 v61 v15 v16 w':=by
 obtain⟨a1,a2,a3,a4,a5,a6⟩:=h
 exact⟨a1.trans (hB.mono a1.size),fun e=>(a2 e).go hB,fun e=>(a3 e).go hB,fun e=>(a4 e).go hB,fun e=>(a5 e).go hB,a6⟩
theorem Nf.new (h:Below w0.heap.size w0 w)(t:TypeId):Nf w0 (w.alloc (.cells #[.nilFunc] t)) (.pointer (some ⟨w.heap.size,0,none⟩)) t:=⟨_,rfl,h.size,(MapKept.heap_alloc w _).1⟩
theorem Nf.old {t:TypeId}(h:Nf w0 w v16 t):v16≠.pointer (some ⟨w.heap.size,0,none⟩):=by
 obtain⟨b,rfl,_,hb⟩:=h
 intro e
 have:=lt_of_block hb
 injection e with e1
 injection e1 with e2
 injection e2 with e3 e4 e5
 omega
theorem al_bel (w:World)(o:Obj):Below w.heap.size w (w.alloc o):=(Below.refl _ w).alloc (Nat.le_refl _) o
theorem St16.m1 (h:St16 B wa w0 n g g' false x3 y4 y5 v59 v61 v15 v16 w)(hB:Below w.heap.size w w'){v:Value}(hv:GetF B wa w' v n g):St16 B wa w0 n g g' true x3 y4 y5 v v61 v15 v16 w':=by
 obtain⟨a1,a2,a3,a4,a5,a6⟩:=h.go hB
 exact⟨a1,fun _=>hv,a3,a4,a5,a6⟩
theorem St16.m3 (h:St16 B wa w0 n g g' x1 false y4 y5 v59 v61 v15 v16 w)(hB:Below w.heap.size w w'){v:Value}(hv:GetF B wa w' v n g'):St16 B wa w0 n g g' x1 true y4 y5 v59 v v15 v16 w':=by
 obtain⟨a1,a2,a3,a4,a5,a6⟩:=h.go hB
 exact⟨a1,a2,fun _=>hv,a4,a5,a6⟩
theorem St16.m4 (h:St16 B wa w0 n g g' x1 x3 false y5 v59 v61 v15 v16 w):St16 B wa w0 n g g' x1 x3 true y5 v59 v61 (.pointer (some ⟨w.heap.size,0,none⟩)) v16 (w.alloc (.cells #[.nilFunc] 178)):=by
 obtain⟨a1,a2,a3,a4,a5,a6⟩:=h.go (al_bel w (.cells #[.nilFunc] 178))
 exact⟨a1,a2,a3,fun _=>Nf.new h.1 _,a5,fun _ e=>((h.2.2.2.2.1 e).old).symm⟩
theorem St16.m5 (h:St16 B wa w0 n g g' x1 x3 y4 false v59 v61 v15 v16 w):St16 B wa w0 n g g' x1 x3 y4 true v59 v61 v15 (.pointer (some ⟨w.heap.size,0,none⟩)) (w.alloc (.cells #[.nilFunc] 178)):=by
 obtain⟨a1,a2,a3,a4,a5,a6⟩:=h.go (al_bel w (.cells #[.nilFunc] 178))
 exact⟨a1,a2,a3,a4,fun _=>Nf.new h.1 _,fun e _=>(h.2.2.2.1 e).old⟩
end
def Got (B:Nat)(wa:World)(n:Nat)(g g':Nat->Int)(s15 s16:Value)(w:World):Prop:=
 ∃ b2 b3 u2 u3,s15=.pointer (some ⟨b2,0,none⟩)/\s16=.pointer (some ⟨b3,0,none⟩)/\w.heap[b2]?=some (.cells #[u2] 178 (0,0))/\w.heap[b3]?=some (.cells #[u3] 178 (0,0))/\GetF B wa w u2 n g/\GetF B wa w u3 n g'
theorem each_two_d:C2d:=by
 intro f c sa sc sz da dc dz c' sa' sc' sz' da' dc' dz' w hf h1 h2 h1' h2' hs hd hs' hd' T T'
 have HI:Hid ((IsInts w.heap.size w sa sz/\IsInts w.heap.size w da dz)/\(IsInts w.heap.size w sa' sz'/\IsInts w.heap.size w da' dz')):=⟨⟨hs,hd⟩,hs',hd'⟩
 have HT:Hid ((∀ j,In64 (nth dz j))/\∀ j,In64 (nth dz' j)):=⟨T,T'⟩
 have HF:=e2F_way f c sz dz c' sz' dz'
 have HFH:Hid (_):=HF
 clear HF
 obtain⟨W0,hW0⟩:∃ W0,W0=((w.alloc (.cells #[.bool c,.slice sa sz.length sc,.slice da dz.length dc] 27)).alloc (.cells #[.bool c',.slice sa' sz'.length sc',.slice da' dz'.length dc'] 27)).alloc (.cells #[.bool false,.slice none 0 0,.slice none 0 0] 27):=⟨_,rfl⟩
 have HB0:Hid (Below w.heap.size w W0):=by rw[hW0];exact (((Below.refl _ w).alloc (Nat.le_refl _) _).alloc (by simp) _).alloc (by simp;omega) _
 have Pa0:Hid (Abx W0 w.heap.size (.bool c) (.slice sa sz.length sc) (.slice da dz.length dc)):=by rw[hW0];exact ((Abx.new w _ _ _).al _).al _
 have Qb0:Hid (Abx W0 (w.heap.size+1) (.bool c') (.slice sa' sz'.length sc') (.slice da' dz'.length dc')):=by rw[hW0];exact (Abx.new1 w _ _ _ _).al _
 have Rr0:Hid (Abx W0 (w.heap.size+1+1) (.bool false) (.slice none 0 0) (.slice none 0 0)):=by
  rw[hW0]
  have:=Abx.new1 (w.alloc (.cells #[.bool c,.slice sa sz.length sc,.slice da dz.length dc] 27)) (.cells #[.bool c',.slice sa' sz'.length sc',.slice da' dz'.length dc'] 27) (.bool false) (.slice none 0 0) (.slice none 0 0)
  rwa [World.size_alloc] at this
 have HW:Hid (W0=_):=hW0
 clear hs hd hs' hd' T T' hW0
 go_enter Tryz.func213,Tryz.ntmps213
 go_wp2_with fail
 rw[<-HW.out]
 refine (two_any f 1 1 (by unfold In64;decide) (by unfold In64;decide) W0).mono ?_
 rintro e w1 ⟨rfl,hb⟩
 have HB1:Hid (Below w.heap.size w w1):=HB0.trans (hb.mono HB0.size)
 have Pa1:Hid (Abx w1 w.heap.size (.bool c) (.slice sa sz.length sc) (.slice da dz.length dc)):=Pa0.go hb
 have Qb1:Hid (Abx w1 (w.heap.size+1) (.bool c') (.slice sa' sz'.length sc') (.slice da' dz'.length dc')):=Qb0.go hb
 have Rr1:Hid (Abx w1 (w.heap.size+1+1) (.bool false) (.slice none 0 0) (.slice none 0 0)):=Rr0.go hb
 clear hb
 by_cases hg:f<1\/16<f
 ·have HE:Hid (e2E f c sz dz c' sz' dz'=1):=p2E_err (by rw[HFH.out,if_pos hg]) (by decide)
  rw[two11_no hg]
  have r0:=Rr1.c0
  have r1:=Rr1.c1
  have r2:=Rr1.c2
  have f0:=Rr1.fr 0
  have f1:=Rr1.fr 1
  have f2:=Rr1.fr 2
  go_wp2_with fail
  have F:=Rr1.set3 (.bool false) (.slice none 0 0) (.slice none 0 0)
  have z0:=F.c0
  have z1:=F.c1
  have z2:=F.c2
  exact bodyPost_ret (v:=.tuple #[.agg #[.bool false,.slice none 0 0,.slice none 0 0],.iface 28 (.int .i64 1)]) (by simp[results,Tryz.results213,go_sem,z0,z1,z2]) rfl (P2d.no HE.out (by decide) (bel_set3 HB1.out (by omega) _ _ _))
 ·have HG:Hid (¬ (f<1\/16<f)):=hg
  rw[two11 hg]
  clear hg
  have p0:=Pa1.c0
  have p1:=Pa1.c1
  have p2:=Pa1.c2
  go_wp2_with fail
  clear p0 p1 p2
  refine (check_any c sa sc sz da dc dz h1 h2 w1 ((HI.1.1.below HB1.out).mono HB1.size) ((HI.1.2.below HB1.out).mono HB1.size)).mono ?_
  rintro e w2 ⟨rfl,hb⟩
  have HB2:Hid (Below w.heap.size w w2):=HB1.trans (hb.mono HB1.size)
  have Pa2:Hid (Abx w2 w.heap.size (.bool c) (.slice sa sz.length sc) (.slice da dz.length dc)):=Pa1.go hb
  have Qb2:Hid (Abx w2 (w.heap.size+1) (.bool c') (.slice sa' sz'.length sc') (.slice da' dz'.length dc')):=Qb1.go hb
  have Rr2:Hid (Abx w2 (w.heap.size+1+1) (.bool false) (.slice none 0 0) (.slice none 0 0)):=Rr1.go hb
  clear hb
  by_cases hx:flawE c sz dz=0
  ·have HX:Hid (flawE c sz dz=0):=hx
   rw[hx,show errV 0=.nilIface from rfl]
   clear hx
   have p0:=Qb2.c0
   have p1:=Qb2.c1
   have p2:=Qb2.c2
   go_wp2_with fail
   clear p0 p1 p2
   refine (check_any c' sa' sc' sz' da' dc' dz' h1' h2' w2 ((HI.2.1.below HB2.out).mono HB2.size) ((HI.2.2.below HB2.out).mono HB2.size)).mono ?_
   rintro e w3 ⟨rfl,hb⟩
   have HB3:Hid (Below w.heap.size w w3):=HB2.trans (hb.mono HB2.size)
   have Pa3:Hid (Abx w3 w.heap.size (.bool c) (.slice sa sz.length sc) (.slice da dz.length dc)):=Pa2.go hb
   have Qb3:Hid (Abx w3 (w.heap.size+1) (.bool c') (.slice sa' sz'.length sc') (.slice da' dz'.length dc')):=Qb2.go hb
   have Rr3:Hid (Abx w3 (w.heap.size+1+1) (.bool false) (.slice none 0 0) (.slice none 0 0)):=Rr2.go hb
   clear hb
   by_cases hy:flawE c' sz' dz'=0
   ·have HY:Hid (flawE c' sz' dz'=0):=hy
    rw[hy,show errV 0=.nilIface from rfl]
    clear hy
    have p0:=Pa3.c0
    have p1:=Pa3.c1
    have p2:=Pa3.c2
    have q0:=Qb3.c0
    have q1:=Qb3.c1
    have q2:=Qb3.c2
    go_wp2_with fail
    clear p0 p1 p2 q0 q1 q2
    refine (fit_any c sa sc sz (.slice da dz.length dc) c' sa' sc' sz' (.slice da' dz'.length dc') h1 w3 ((HI.1.1.below HB3.out).mono HB3.size) ((HI.2.1.below HB3.out).mono HB3.size)).mono ?_
    rintro e w4 ⟨rfl,hb⟩
    have HB4:Hid (Below w.heap.size w w4):=HB3.trans (hb.mono HB3.size)
    have Pa4:Hid (Abx w4 w.heap.size (.bool c) (.slice sa sz.length sc) (.slice da dz.length dc)):=Pa3.go hb
    have Qb4:Hid (Abx w4 (w.heap.size+1) (.bool c') (.slice sa' sz'.length sc') (.slice da' dz'.length dc')):=Qb3.go hb
    have Rr4:Hid (Abx w4 (w.heap.size+1+1) (.bool false) (.slice none 0 0) (.slice none 0 0)):=Rr3.go hb
    clear hb
    by_cases hz:fitE sz sz'=0
    ·have HZ:Hid (fitE sz sz'=0):=hz
     rw[hz,show errV 0=.nilIface from rfl]
     clear hz
     have p0:=Pa4.c0
     have p1:=Pa4.c1
     have p2:=Pa4.c2
     have q0:=Qb4.c0
     have q1:=Qb4.c1
     have q2:=Qb4.c2
     by_cases hch:((c || c') && !tkC f)=true
     ·have HE:Hid (e2E f c sz dz c' sz' dz'=6):=p2E_err (by rw[HFH.out,if_neg HG.out,if_neg (by simpa using HX.out),if_neg (by simpa using HY.out),if_neg (by simpa using HZ.out),if_pos hch]) (by decide)
      go_wp2_with fail
      refine (pairing_no f c c' hch w4).mono ?_
      rintro e w5 ⟨rfl,hb⟩
      have HB5:Hid (Below w.heap.size w w5):=HB4.trans (hb.mono HB4.size)
      have Pa5:Hid (Abx w5 w.heap.size (.bool c) (.slice sa sz.length sc) (.slice da dz.length dc)):=Pa4.go hb
      have Qb5:Hid (Abx w5 (w.heap.size+1) (.bool c') (.slice sa' sz'.length sc') (.slice da' dz'.length dc')):=Qb4.go hb
      have Rr5:Hid (Abx w5 (w.heap.size+1+1) (.bool false) (.slice none 0 0) (.slice none 0 0)):=Rr4.go hb
      clear hb
      have Rr6:Hid (Abx (w5.alloc (.cells #[.nilFunc] 191)) (w.heap.size+1+1) (.bool false) (.slice none 0 0) (.slice none 0 0)):=Rr5.al _
      have HB6:Hid (Below w.heap.size w (w5.alloc (.cells #[.nilFunc] 191))):=HB5.alloc HB5.size _
      clear hch p0 p1 p2 q0 q1 q2
      have r0:=Rr6.c0
      have r1:=Rr6.c1
      have r2:=Rr6.c2
      have f0:=Rr6.fr 0
      have f1:=Rr6.fr 1
      have f2:=Rr6.fr 2
      go_wp2_with fail
      have F:=Rr6.set3 (.bool false) (.slice none 0 0) (.slice none 0 0)
      have z0:=F.c0
      have z1:=F.c1
      have z2:=F.c2
      exact bodyPost_ret (v:=.tuple #[.agg #[.bool false,.slice none 0 0,.slice none 0 0],.iface 28 (.int .i64 6)]) (by simp[results,Tryz.results213,go_sem,z0,z1,z2]) rfl (P2d.no HE.out (by decide) (bel_set3 HB6.out (by omega) _ _ _))
     ·have HC:Hid (((c || c') && !tkC f)=false):=by show _=_;simpa using hch
      have H0:Hid (e2F f c sz dz c' sz' dz'=0):=by show _=_;rw[HFH.out,if_neg HG.out,if_neg (by simpa using HX.out),if_neg (by simpa using HY.out),if_neg (by simpa using HZ.out),if_neg hch]
      go_wp2_with fail
      refine (pairing_ok f c c' HC.out w4).mono ?_
      rintro e w5 ⟨v,rfl,hF,hb⟩
      have HB5:Hid (Below w.heap.size w w5):=HB4.trans (hb.mono HB4.size)
      have Pa5:Hid (Abx w5 w.heap.size (.bool c) (.slice sa sz.length sc) (.slice da dz.length dc)):=Pa4.go hb
      have Qb5:Hid (Abx w5 (w.heap.size+1) (.bool c') (.slice sa' sz'.length sc') (.slice da' dz'.length dc')):=Qb4.go hb
      have Rr5:Hid (Abx w5 (w.heap.size+1+1) (.bool false) (.slice none 0 0) (.slice none 0 0)):=Rr4.go hb
      clear hb
      obtain⟨k1,d1,rfl⟩:=hF.fn
      obtain⟨w6,hw6⟩:∃ w6,w6=w5.alloc (.cells #[.func (.func k1) #[] #[.pointer (some ⟨d1,0,none⟩)]] 191):=⟨_,rfl⟩
      have hb:Below w5.heap.size w5 w6:=by rw[hw6];exact (Below.refl _ w5).alloc (Nat.le_refl _) _
      have HFF:Hid (PairF w5.heap.size w6 (.func (.func k1) #[] #[.pointer (some ⟨d1,0,none⟩)]) f (c == c')/\w6.heap[w5.heap.size]?=some (.cells #[.func (.func k1) #[] #[.pointer (some ⟨d1,0,none⟩)]] 191 (0,0))/\w5.heap.size<w6.heap.size):=⟨hF.bel hb,by rw[hw6];exact (MapKept.heap_alloc w5 _).1,by rw[hw6];simp⟩
      have HB6:Hid (Below w.heap.size w w6):=HB5.trans (hb.mono HB5.size)
      have Pa6:Hid (Abx w6 w.heap.size (.bool c) (.slice sa sz.length sc) (.slice da dz.length dc)):=Pa5.go hb
      have Qb6:Hid (Abx w6 (w.heap.size+1) (.bool c') (.slice sa' sz'.length sc') (.slice da' dz'.length dc')):=Qb5.go hb
      have Rr6:Hid (Abx w6 (w.heap.size+1+1) (.bool false) (.slice none 0 0) (.slice none 0 0)):=Rr5.go hb
      clear hb
      have HW6:Hid (w6=_):=hw6
      clear hw6 hF hch p0 p1 p2 q0 q1 q2
      obtain⟨n,hn⟩:∃ n,n=e2N sz sz':=⟨_,rfl⟩
      have HN:Hid ((sz.length=0->0<dz.length)/\(sz.length≠0->n<=dz.length)/\(sz'.length=0->0<dz'.length)/\(sz'.length≠0->n<=dz'.length)):=by rw[hn];exact e2N_in H0.out
      have HNe:Hid (n=e2N sz sz'):=hn
      clear hn
      go_upto_region 16 with fail
      rw[<-HW6.out]
      go_cut [15,16] (fun s15 s16 wd=>Got w.heap.size w n (cAt sz dz) (cAt sz' dz') s15 s16 wd/\Below w6.heap.size w6 wd)
      case first=>
       have p0:=Pa6.c0
       have p1:=Pa6.c1
       have p2:=Pa6.c2
       have q0:=Qb6.c0
       have q1:=Qb6.c1
       have q2:=Qb6.c2
       refine anyT_begin 7 (fun w'=>w'.cell? ⟨w.heap.size,0,none⟩=some (.bool c)/\w'.cell? ⟨w.heap.size,1,none⟩=some (.slice sa sz.length sc)/\w'.cell? ⟨w.heap.size,2,none⟩=some (.slice da dz.length dc)/\w'.cell? ⟨w.heap.size+1,0,none⟩=some (.bool c')/\w'.cell? ⟨w.heap.size+1,1,none⟩=some (.slice sa' sz'.length sc')/\w'.cell? ⟨w.heap.size+1,2,none⟩=some (.slice da' dz'.length dc')) 8 #[false,false,false,false,false,false,false,false] (by kernel_rfl) rfl rfl ?_
       refine anyT_take 0 58 ?rv0 #[true,false,false,false,false,false,false,false] rfl rfl rfl (by kernel_rfl) (by kernel_rfl) (by kernel_rfl) (fun _ _ _ h=>h) (by kernel_rfl) (by decide) (by kernel_rfl) ?ry0 (⟨p0,p1,p2,q0,q1,q2⟩) ?rm0
       case ry0=>first | exact Or.inl ⟨by rfl,by intro w' hw';(try dsimp only at hw');go_simp;first | done | rfl⟩
       case rm0=>
       simp only[Act.put,List.setIfInBounds_toArray,List.set_cons_zero,List.set_cons_succ]
       refine anyT_take 2 60 ?rv1 #[true,false,true,false,false,false,false,false] rfl rfl rfl (by kernel_rfl) (by kernel_rfl) (by kernel_rfl) (fun _ _ _ h=>h) (by kernel_rfl) (by decide) (by kernel_rfl) ?ry1 (⟨p0,p1,p2,q0,q1,q2⟩) ?rm1
       case ry1=>first | exact Or.inl ⟨by rfl,by intro w' hw';(try dsimp only at hw');go_simp;first | done | rfl⟩
       case rm1=>
       simp only[Act.put,List.setIfInBounds_toArray,List.set_cons_zero,List.set_cons_succ]
       refine free4 7 2 6 rfl 1 3 4 5 59 61 15 16 (fun x1 x3 y4 y5=>#[true,x1,true,x3,y4,y5,false,false]) (St16 w.heap.size w w6.drew n (cAt sz dz) (cAt sz' dz')) (by kernel_rfl) (by intros;rfl) (by intros;rfl) (by intros;rfl) (by intros;rfl) ?hx ?h1 ?h3 ?h4 ?h5 ?h0 rfl ?hinit
       case hx=>(intro x1 x3 y4 y5 v59 v61 v15 v16 w' h;have hb:Below w6.heap.size w6 w':=(Below.refl _ w6).drew.trans h.1;exact⟨(Pa6.go hb).c0,(Pa6.go hb).c1,(Pa6.go hb).c2,(Qb6.go hb).c0,(Qb6.go hb).c1,(Qb6.go hb).c2⟩)
       case h1=>(intro x3 y4 y5 v59 v61 v15 v16 w' hst;refine op_at 1 rfl (fun K hK=>?_);simp only[put4,Act.put,List.setIfInBounds_toArray,List.set_cons_zero,List.set_cons_succ];go_simp;go_wp2_with (go_at_call 252;refine (cellsf_any c sa sc sz da dc dz n HN.1 HN.2.1 w.heap.size w w' HI.1.2).mono ?_;rintro e w2 ⟨v,rfl,hF,hB⟩);exact hK.out _ _ ⟨v,rfl,hst.m1 hB hF⟩)
       case h3=>(intro x1 y4 y5 v59 v61 v15 v16 w' hst;refine op_at 3 rfl (fun K hK=>?_);simp only[put4,Act.put,List.setIfInBounds_toArray,List.set_cons_zero,List.set_cons_succ];go_simp;go_wp2_with (go_at_call 252;refine (cellsf_any c' sa' sc' sz' da' dc' dz' n HN.2.2.1 HN.2.2.2 w.heap.size w w' HI.2.2).mono ?_;rintro e w2 ⟨v,rfl,hF,hB⟩);exact hK.out _ _ ⟨v,rfl,hst.m3 hB hF⟩)
       case h4=>(intro x1 x3 y5 v59 v61 v15 v16 w' hst;refine op_at 4 rfl (fun K hK=>?_);simp only[put4,Act.put,List.setIfInBounds_toArray,List.set_cons_zero,List.set_cons_succ];go_simp;exact hK.out _ _ ⟨_,rfl,hst.m4⟩)
       case h5=>(intro x1 x3 y4 v59 v61 v15 v16 w' hst;refine op_at 5 rfl (fun K hK=>?_);simp only[put4,Act.put,List.setIfInBounds_toArray,List.set_cons_zero,List.set_cons_succ];go_simp;exact hK.out _ _ ⟨_,rfl,hst.m5⟩)
       case hinit=>exact⟨Below.refl _ _,fun h=>absurd h (by decide),fun h=>absurd h (by decide),fun h=>absurd h (by decide),fun h=>absurd h (by decide),fun h=>absurd h (by decide)⟩
       intro v59 v61 v15 v16 w7 hst
       obtain⟨hb,hG,hG',hN2,hN3,hne⟩:=hst
       obtain⟨b2,rfl,l2,B2⟩:=hN2 rfl
       obtain⟨b3,rfl,l3,B3⟩:=hN3 rfl
       obtain⟨k2,d2,g2⟩:∃ k d,v59=.func (.func k) #[] #[.pointer (some ⟨d,0,none⟩)]:=by (obtain⟨k,d,_,e,_⟩:=hG rfl;exact⟨k,d,e⟩)
       obtain⟨k3,d3,g3⟩:∃ k d,v61=.func (.func k) #[] #[.pointer (some ⟨d,0,none⟩)]:=by (obtain⟨k,d,_,e,_⟩:=hG' rfl;exact⟨k,d,e⟩)
       subst g2 g3
       have FF:Hid (GetF w.heap.size w w7 _ n (cAt sz dz)/\GetF w.heap.size w w7 _ n (cAt sz' dz')):=⟨hG rfl,hG' rfl⟩
       have n23:b2≠b3:=fun e=>hne rfl rfl (by rw[e])
       have HB7:Hid (Below w6.heap.size w6 w7):=(Below.refl _ w6).drew.trans hb
       have Pa7:=Pa6.go HB7.out
       have Qb7:=Qb6.go HB7.out
       have z0:=Pa6.lt
       have z1:=Qb6.lt
       have LL:Hid (w6.heap.size<=b2/\w6.heap.size<=b3):=⟨l2,l3⟩
       have BB:Hid ((w7.heap[b2]?=_)/\(w7.heap[b3]?=_)):=⟨B2,B3⟩
       have s1:=cell_of_one B2
       have fz1:=free_of_one B2
       clear hb hG hG' hN2 hN3 hne l2 l3 B2 B3
       simp only[put4,Act.put,List.setIfInBounds_toArray,List.set_cons_zero,List.set_cons_succ]
       refine anyT_one 6 #[true,true,true,true,true,true,true,false] (by kernel_rfl) rfl rfl (fun K hK=>?_)
       go_simp
       have B3':=(Below.heap_setCell w7 ⟨b2,0,none⟩ (.func (.func k2) #[] #[.pointer (some ⟨d2,0,none⟩)]) b3 (fun e=>n23 e.symm)).trans BB.2
       have s2:=cell_of_one B3'
       have fz2:=free_of_one B3'
       have Pa8:=Pa7.ot (a:=⟨b2,0,none⟩) (by have:=LL.1;show w.heap.size≠b2;omega) (.func (.func k2) #[] #[.pointer (some ⟨d2,0,none⟩)])
       have Qb8:=Qb7.ot (a:=⟨b2,0,none⟩) (by have:=LL.1;show w.heap.size+1≠b2;omega) (.func (.func k2) #[] #[.pointer (some ⟨d2,0,none⟩)])
       refine hK.out _ _ (fun _=>⟨Pa8.c0,Pa8.c1,Pa8.c2,Qb8.c0,Qb8.c1,Qb8.c2⟩) ?_
       clear hK K
       refine anyT_one 7 #[true,true,true,true,true,true,true,true] (by kernel_rfl) rfl rfl (fun K hK=>?_)
       go_simp
       refine hK.out _ _ (fun h=>absurd h (by decide)) ?_
       clear hK K
       refine anyT_done (by kernel_rfl) ?_
       go_wp2_with fail
       go_meet
       have X2:=(Below.heap_setCell (w7.setCell ⟨b2,0,none⟩ (.func (.func k2) #[] #[.pointer (some ⟨d2,0,none⟩)])) ⟨b3,0,none⟩ (.func (.func k3) #[] #[.pointer (some ⟨d3,0,none⟩)]) b2 n23).trans (one_setCell (u:=.func (.func k2) #[] #[.pointer (some ⟨d2,0,none⟩)]) BB.1)
       have X3:=one_setCell (u:=.func (.func k3) #[] #[.pointer (some ⟨d3,0,none⟩)]) B3'
       exact⟨⟨b2,b3,_,_,rfl,rfl,X2,X3,(FF.1.set BB.1 rfl).set B3' rfl,(FF.2.set BB.1 rfl).set B3' rfl⟩,
        (HB7.setCell (p:=⟨b2,0,none⟩) LL.1 _).setCell (p:=⟨b3,0,none⟩) LL.2 _⟩
      case rest=>
       obtain⟨⟨b2,b3,y2,y3,rfl,rfl,X2,X3,F2,F3⟩,hb⟩:=hcut
       have HB8:Hid (Below w.heap.size w wc):=HB6.trans (hb.mono HB6.size)
       have Pa8:Hid (Abx wc w.heap.size (.bool c) (.slice sa sz.length sc) (.slice da dz.length dc)):=Pa6.go hb
       have Qb8:Hid (Abx wc (w.heap.size+1) (.bool c') (.slice sa' sz'.length sc') (.slice da' dz'.length dc')):=Qb6.go hb
       have Rr8:Hid (Abx wc (w.heap.size+1+1) (.bool false) (.slice none 0 0) (.slice none 0 0)):=Rr6.go hb
       have XX:Hid ((wc.heap[w5.heap.size]?=_)/\(wc.heap[b2]?=_)/\(wc.heap[b3]?=_)):=⟨(hb.block _ HFF.2.2).trans HFF.2.1,X2,X3⟩
       have FF:Hid (PairF w5.heap.size wc (.func (.func k1) #[] #[.pointer (some ⟨d1,0,none⟩)]) f (c == c')/\GetF w.heap.size w wc y2 n (cAt sz dz)/\GetF w.heap.size w wc y3 n (cAt sz' dz')):=⟨HFF.1.go hb,F2,F3⟩
       clear hb X2 X3 F2 F3
       have p0:=Pa8.c0
       have p1:=Pa8.c1
       have p2:=Pa8.c2
       have q0:=Qb8.c0
       have q1:=Qb8.c1
       have q2:=Qb8.c2
       go_wp2_with fail
       clear p0 p1 p2 q0 q1 q2
       refine (wider_any c sa sc sz da dz.length dc c' sa' sc' sz' da' dz'.length dc' wc).mono ?_
       rintro e w9 ⟨rfl,hb⟩
       have HB89:Hid (Below wc.heap.size wc w9):=hb
       have HB9:Hid (Below w.heap.size w w9):=HB8.trans (hb.mono HB8.size)
       have Pa9:Hid (Abx w9 w.heap.size (.bool c) (.slice sa sz.length sc) (.slice da dz.length dc)):=Pa8.go hb
       have Qb9:Hid (Abx w9 (w.heap.size+1) (.bool c') (.slice sa' sz'.length sc') (.slice da' dz'.length dc')):=Qb8.go hb
       have Rr9:Hid (Abx w9 (w.heap.size+1+1) (.bool false) (.slice none 0 0) (.slice none 0 0)):=Rr8.go hb
       clear hb
       by_cases h0:sz.length=0
       ·rw[if_pos h0]
        have HS:Hid (n=dz'.length/\shp sz sz'=sz'):=⟨by rw[HNe.out];exact e2N_r H0.out h0,if_pos h0⟩
        clear h0
        have HH:Hid (∀ i,i<dz'.length->∀ w',Below w9.heap.size w9 w'->Calls Tryz.prog 254 (.int .i64 (i:Nat)::[.pointer (some ⟨w5.heap.size,0,none⟩),.pointer (some ⟨b2,0,none⟩),.pointer (some ⟨b3,0,none⟩)]).toArray w' (AskP (fun i=>tcV f (c == c') (cAt sz dz i) (cAt sz' dz' i)) (fun i=>tcE f (c == c') (cAt sz dz i) (cAt sz' dz' i)) i w')):=fun i hi w' hB=>by
         have hB':Below wc.heap.size wc w':=HB89.trans (hB.mono HB89.size)
         exact two1_any f (c == c') n (cAt sz dz) (cAt sz' dz') w5.heap.size b2 b3 (.func (.func k1) #[] #[.pointer (some ⟨d1,0,none⟩)]) y2 y3 i (by rw[HS.1];exact hi) w' _ _ _ (blk_to XX.1 hB') (blk_to XX.2.1 hB') (blk_to XX.2.2 hB') w.heap.size w (HB8.trans (hB'.mono HB8.size)) (Nat.le_trans HB8.size hB'.size) w5.heap.size (FF.1.go hB') (FF.2.1.go hB') (FF.2.2.go hB') (in_cAt HT.1 i) (in_cAt HT.2 i)
        have HL:Hid (sz'.length<=6/\dz'.length<=4096):=flawE_short HY.out
        go_wp2_with fail
        refine (tell_all c' sa' sc' sz' da' dc' dz' 254 [.pointer (some ⟨w5.heap.size,0,none⟩),.pointer (some ⟨b2,0,none⟩),.pointer (some ⟨b3,0,none⟩)] (enters_of Tryz.func254 (by kernel_rfl) rfl) (fun i=>tcV f (c == c') (cAt sz dz i) (cAt sz' dz' i)) (fun i=>tcE f (c == c') (cAt sz dz i) (cAt sz' dz' i)) (by have:=HL.1;omega) HL.2 w9 ((HI.2.1.below HB9.out).mono HB9.size) HH.out).mono ?_
        rintro e w10 (⟨i,hi,hne,rfl,hb⟩ | ⟨hall,xa,xc,ya,yc,rfl,hX,hY,hb⟩)
        ·have HE:Hid (tcE f (c == c') (cAt sz dz i) (cAt sz' dz' i)=6/\e2E f c sz dz c' sz' dz'=6):=p2E_no H0.out (by rw[<-HNe.out,HS.1];exact hi) hne
         have Rr10:Hid (Abx w10 (w.heap.size+1+1) (.bool false) (.slice none 0 0) (.slice none 0 0)):=Rr9.go hb
         have HB10:Hid (Below w.heap.size w w10):=HB9.trans (hb.mono HB9.size)
         clear hb hne
         have r0:=Rr10.c0
         have r1:=Rr10.c1
         have r2:=Rr10.c2
         have f0:=Rr10.fr 0
         have f1:=Rr10.fr 1
         have f2:=Rr10.fr 2
         go_wp2_with fail
         have F:=Rr10.set3 (.bool false) (.slice none 0 0) (.slice none 0 0)
         have z0:=F.c0
         have z1:=F.c1
         have z2:=F.c2
         exact bodyPost_ret (v:=.tuple #[.agg #[.bool false,.slice none 0 0,.slice none 0 0],.iface 28 (.int .i64 (tcE f (c == c') (cAt sz dz i) (cAt sz' dz' i)))]) (by simp[results,Tryz.results213,go_sem,z0,z1,z2]) rfl (P2d.no (HE.2.trans HE.1.symm) (by rw[HE.1];decide) (bel_set3 HB10.out (by omega) _ _ _))
        ·have HE:Hid (e2E f c sz dz c' sz' dz'=0/\upL (fun i=>tcV f (c == c') (cAt sz dz i) (cAt sz' dz' i)) dz'.length=e2V f c sz dz c' sz' dz'):=by
          rw[<-HS.1,HNe.out]
          exact p2E_ok H0.out fun i hi=>hall i (by rw[<-HS.1,HNe.out];exact hi)
         have Rr10:Hid (Abx w10 (w.heap.size+1+1) (.bool false) (.slice none 0 0) (.slice none 0 0)):=Rr9.go hb
         have HB10:Hid (Below w.heap.size w w10):=HB9.trans (hb.mono HB9.size)
         have HXY:Hid (NewC w9.heap.size w10 xa (shp sz sz') xc/\NewC w9.heap.size w10 ya (e2V f c sz dz c' sz' dz') yc):=⟨by rw[HS.2];exact hX,by rw[<-HE.2];exact hY⟩
         have zz:=Rr9.lt
         clear hb hX hY hall
         have r0:=Rr10.c0
         have r1:=Rr10.c1
         have r2:=Rr10.c2
         have f0:=Rr10.fr 0
         have f1:=Rr10.fr 1
         have f2:=Rr10.fr 2
         go_wp2_with fail
         have F:=Rr10.set3 (.bool false) (.slice xa sz'.length xc) (.slice ya dz'.length yc)
         have z0:=F.c0
         have z1:=F.c1
         have z2:=F.c2
         refine bodyPost_ret (v:=.tuple #[.agg #[.bool false,.slice xa sz'.length xc,.slice ya dz'.length yc],.nilIface]) (by simp[results,Tryz.results213,go_sem,z0,z1,z2]) rfl (.inr ⟨HE.1,xa,xc,ya,yc,by rw[e2V_length,HS.2,<-HNe.out,HS.1],?_,?_,bel_set3 HB10.out (by omega) _ _ _⟩)
         ·exact (HXY.1.set3 zz _ _ _).low HB9.size
         ·exact (HXY.2.set3 zz _ _ _).low HB9.size
       ·rw[if_neg h0]
        have HS:Hid (n=dz.length/\shp sz sz'=sz):=⟨by rw[HNe.out];exact e2N_l H0.out h0,if_neg h0⟩
        clear h0
        have HH:Hid (∀ i,i<dz.length->∀ w',Below w9.heap.size w9 w'->Calls Tryz.prog 254 (.int .i64 (i:Nat)::[.pointer (some ⟨w5.heap.size,0,none⟩),.pointer (some ⟨b2,0,none⟩),.pointer (some ⟨b3,0,none⟩)]).toArray w' (AskP (fun i=>tcV f (c == c') (cAt sz dz i) (cAt sz' dz' i)) (fun i=>tcE f (c == c') (cAt sz dz i) (cAt sz' dz' i)) i w')):=fun i hi w' hB=>by
         have hB':Below wc.heap.size wc w':=HB89.trans (hB.mono HB89.size)
         exact two1_any f (c == c') n (cAt sz dz) (cAt sz' dz') w5.heap.size b2 b3 (.func (.func k1) #[] #[.pointer (some ⟨d1,0,none⟩)]) y2 y3 i (by rw[HS.1];exact hi) w' _ _ _ (blk_to XX.1 hB') (blk_to XX.2.1 hB') (blk_to XX.2.2 hB') w.heap.size w (HB8.trans (hB'.mono HB8.size)) (Nat.le_trans HB8.size hB'.size) w5.heap.size (FF.1.go hB') (FF.2.1.go hB') (FF.2.2.go hB') (in_cAt HT.1 i) (in_cAt HT.2 i)
        have HL:Hid (sz.length<=6/\dz.length<=4096):=flawE_short HX.out
        go_wp2_with fail
        refine (tell_all c sa sc sz da dc dz 254 [.pointer (some ⟨w5.heap.size,0,none⟩),.pointer (some ⟨b2,0,none⟩),.pointer (some ⟨b3,0,none⟩)] (enters_of Tryz.func254 (by kernel_rfl) rfl) (fun i=>tcV f (c == c') (cAt sz dz i) (cAt sz' dz' i)) (fun i=>tcE f (c == c') (cAt sz dz i) (cAt sz' dz' i)) (by have:=HL.1;omega) HL.2 w9 ((HI.1.1.below HB9.out).mono HB9.size) HH.out).mono ?_
        rintro e w10 (⟨i,hi,hne,rfl,hb⟩ | ⟨hall,xa,xc,ya,yc,rfl,hX,hY,hb⟩)
        ·have HE:Hid (tcE f (c == c') (cAt sz dz i) (cAt sz' dz' i)=6/\e2E f c sz dz c' sz' dz'=6):=p2E_no H0.out (by rw[<-HNe.out,HS.1];exact hi) hne
         have Rr10:Hid (Abx w10 (w.heap.size+1+1) (.bool false) (.slice none 0 0) (.slice none 0 0)):=Rr9.go hb
         have HB10:Hid (Below w.heap.size w w10):=HB9.trans (hb.mono HB9.size)
         clear hb hne
         have r0:=Rr10.c0
         have r1:=Rr10.c1
         have r2:=Rr10.c2
         have f0:=Rr10.fr 0
         have f1:=Rr10.fr 1
         have f2:=Rr10.fr 2
         go_wp2_with fail
         have F:=Rr10.set3 (.bool false) (.slice none 0 0) (.slice none 0 0)
         have z0:=F.c0
         have z1:=F.c1
         have z2:=F.c2
         exact bodyPost_ret (v:=.tuple #[.agg #[.bool false,.slice none 0 0,.slice none 0 0],.iface 28 (.int .i64 (tcE f (c == c') (cAt sz dz i) (cAt sz' dz' i)))]) (by simp[results,Tryz.results213,go_sem,z0,z1,z2]) rfl (P2d.no (HE.2.trans HE.1.symm) (by rw[HE.1];decide) (bel_set3 HB10.out (by omega) _ _ _))
        ·have HE:Hid (e2E f c sz dz c' sz' dz'=0/\upL (fun i=>tcV f (c == c') (cAt sz dz i) (cAt sz' dz' i)) dz.length=e2V f c sz dz c' sz' dz'):=by
          rw[<-HS.1,HNe.out]
          exact p2E_ok H0.out fun i hi=>hall i (by rw[<-HS.1,HNe.out];exact hi)
         have Rr10:Hid (Abx w10 (w.heap.size+1+1) (.bool false) (.slice none 0 0) (.slice none 0 0)):=Rr9.go hb
         have HB10:Hid (Below w.heap.size w w10):=HB9.trans (hb.mono HB9.size)
         have HXY:Hid (NewC w9.heap.size w10 xa (shp sz sz') xc/\NewC w9.heap.size w10 ya (e2V f c sz dz c' sz' dz') yc):=⟨by rw[HS.2];exact hX,by rw[<-HE.2];exact hY⟩
         have zz:=Rr9.lt
         clear hb hX hY hall
         have r0:=Rr10.c0
         have r1:=Rr10.c1
         have r2:=Rr10.c2
         have f0:=Rr10.fr 0
         have f1:=Rr10.fr 1
         have f2:=Rr10.fr 2
         go_wp2_with fail
         have F:=Rr10.set3 (.bool false) (.slice xa sz.length xc) (.slice ya dz.length yc)
         have z0:=F.c0
         have z1:=F.c1
         have z2:=F.c2
         refine bodyPost_ret (v:=.tuple #[.agg #[.bool false,.slice xa sz.length xc,.slice ya dz.length yc],.nilIface]) (by simp[results,Tryz.results213,go_sem,z0,z1,z2]) rfl (.inr ⟨HE.1,xa,xc,ya,yc,by rw[e2V_length,HS.2,<-HNe.out,HS.1],?_,?_,bel_set3 HB10.out (by omega) _ _ _⟩)
         ·exact (HXY.1.set3 zz _ _ _).low HB9.size
         ·exact (HXY.2.set3 zz _ _ _).low HB9.size
    ·have HE:Hid (e2E f c sz dz c' sz' dz'=fitE sz sz'):=p2E_err (by rw[HFH.out,if_neg HG.out,if_neg (by simpa using HX.out),if_neg (by simpa using HY.out),if_pos hz]) hz
     have HZ:Hid (fitE sz sz'≠0):=hz
     rw[errV_pos hz]
     clear hz
     have r0:=Rr4.c0
     have r1:=Rr4.c1
     have r2:=Rr4.c2
     have f0:=Rr4.fr 0
     have f1:=Rr4.fr 1
     have f2:=Rr4.fr 2
     go_wp2_with fail
     have F:=Rr4.set3 (.bool false) (.slice none 0 0) (.slice none 0 0)
     have z0:=F.c0
     have z1:=F.c1
     have z2:=F.c2
     exact bodyPost_ret (v:=.tuple #[.agg #[.bool false,.slice none 0 0,.slice none 0 0],.iface 28 (.int .i64 (fitE sz sz'))]) (by simp[results,Tryz.results213,go_sem,z0,z1,z2]) rfl (P2d.no HE.out (by rw[<-HE.out];exact fun h=>HZ.out (HE.symm.trans h)) (bel_set3 HB4.out (by omega) _ _ _))
   ·have HE:Hid (e2E f c sz dz c' sz' dz'=flawE c' sz' dz'):=p2E_err (by rw[HFH.out,if_neg HG.out,if_neg (by simpa using HX.out),if_pos hy]) hy
    have HY:Hid (flawE c' sz' dz'≠0):=hy
    rw[errV_pos hy]
    clear hy
    have r0:=Rr3.c0
    have r1:=Rr3.c1
    have r2:=Rr3.c2
    have f0:=Rr3.fr 0
    have f1:=Rr3.fr 1
    have f2:=Rr3.fr 2
    go_wp2_with fail
    have F:=Rr3.set3 (.bool false) (.slice none 0 0) (.slice none 0 0)
    have z0:=F.c0
    have z1:=F.c1
    have z2:=F.c2
    exact bodyPost_ret (v:=.tuple #[.agg #[.bool false,.slice none 0 0,.slice none 0 0],.iface 28 (.int .i64 (flawE c' sz' dz'))]) (by simp[results,Tryz.results213,go_sem,z0,z1,z2]) rfl (P2d.no HE.out (by rw[<-HE.out];exact fun h=>HY.out (HE.symm.trans h)) (bel_set3 HB3.out (by omega) _ _ _))
  ·have HE:Hid (e2E f c sz dz c' sz' dz'=flawE c sz dz):=p2E_err (by rw[HFH.out,if_neg HG.out,if_pos hx]) hx
   have HX:Hid (flawE c sz dz≠0):=hx
   rw[errV_pos hx]
   clear hx
   have r0:=Rr2.c0
   have r1:=Rr2.c1
   have r2:=Rr2.c2
   have f0:=Rr2.fr 0
   have f1:=Rr2.fr 1
   have f2:=Rr2.fr 2
   go_wp2_with fail
   have F:=Rr2.set3 (.bool false) (.slice none 0 0) (.slice none 0 0)
   have z0:=F.c0
   have z1:=F.c1
   have z2:=F.c2
   exact bodyPost_ret (v:=.tuple #[.agg #[.bool false,.slice none 0 0,.slice none 0 0],.iface 28 (.int .i64 (flawE c sz dz))]) (by simp[results,Tryz.results213,go_sem,z0,z1,z2]) rfl (P2d.no HE.out (by rw[<-HE.out];exact fun h=>HX.out (HE.symm.trans h)) (bel_set3 HB2.out (by omega) _ _ _))
end Go.Proofs.YtkmmkcpfhnifhaaGreatDoor
