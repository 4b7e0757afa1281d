/- What the program tells, in part. -/
import Derived.Test.YtkmmkcpfhnifhaaGreatDoorJ17
import Derived.Test.YtkmmkcpfhnifhaaGreatDoorJ13
set_option linter.unusedVariables false
set_option maxHeartbeats 2000000
set_option maxRecDepth 100000
namespace Go.Proofs.YtkmmkcpfhnifhaaGreatDoor
open Go.RowKit
def CRtB:Prop:=∀ (n x:Int) (c:Bool) (sa:Option Addr) (sc:Nat) (sz:List Int) (da:Option Addr) (dc:Nat) (dz:List Int) (w:World),In64 n->In64 x->sz.length<=9223372036854775807->dz.length<=9223372036854775807->IsC w.heap.size w sa sz sc->IsInts w.heap.size w da dz->(∀ j,In64 (nth dz j)) →
 Calls Tryz.prog 121 #[.int .i64 n,.int .i64 x,.agg #[.bool c,.slice sa sz.length sc,.slice da dz.length dc]] w (UB (axE x c sz dz) (onc (axE x c sz dz) c) (axS5 x c sz dz) (rtD5 x n c sz dz) w)
theorem rot_val {i n L:Int}(h0:0<=i)(h1:i<L):(i+n.tmod L+L)%L=(i+n)%L:=by
 have e:=Int.tmod_add_mul_tdiv n L
 have e2:i+n.tmod L+L=(i+n)+L*(1-n.tdiv L):=by
  rw[Int.mul_sub,Int.mul_one];omega
 rw[e2,Int.add_mul_emod_self_left]
theorem rot_bd {n L:Int}(hL:0<L):-L<n.tmod L/\n.tmod L<L:=by
 refine⟨?_,Int.tmod_lt_of_pos n hL⟩
 by_cases hn:0<=n
 ·have:=Int.tmod_nonneg L hn;omega
 ·have:=Int.tmod_lt_of_pos (-n) hL
  rw[Int.neg_tmod] at this
  omega
theorem rt1_any (n:Int)(p:Nat)(i:Nat)(L:Int)(h:(i:Int)<L)(hL:L<=4096)(w:World)(hn:In64 n)(hc:w.cell? ⟨p,0,none⟩=some (.int .i64 n)):
  Calls Tryz.prog 192 #[.int .i64 (i:Nat),.int .i64 L,.pointer (some ⟨p,0,none⟩)] w (fun e w'=>e=.returned (.int .i64 ((i+n)%L))/\w'=w):=by
 have hb:=rot_bd (n:=n) (L:=L) (by omega)
 obtain⟨hb1,hb2⟩:=hb
 have hL0:L≠0:=by omega
 have hL1:L≠-1:=by omega
 have HV:Hid ((i+n.tmod L+L)%L=(i+n)%L):=rot_val (by omega) h
 obtain⟨hn1,hn2⟩:=hn
 go_enter Tryz.func192,Tryz.ntmps192
 go_wp2_with fail
 go_ret
 exact⟨ret_int HV.out,rfl⟩
theorem rtb_holds:CRtB:=by
 intro n x c sa sc sz da dc dz w hn hx h1 h2 hs hd T
 have HI:Hid (IsC w.heap.size w sa sz sc/\IsInts w.heap.size w da dz):=⟨hs,hd⟩
 have HX:Hid (In64 x/\In64 n):=⟨hx,hn⟩
 clear hs hd hx T hn
 obtain⟨S,hS⟩:∃ S,S=axS5 x c sz dz:=⟨_,rfl⟩
 obtain⟨D,hD⟩:∃ D,D=rtD5 x n c sz dz:=⟨_,rfl⟩
 obtain⟨C,hC⟩:∃ C,C=onc (axE x c sz dz) c:=⟨_,rfl⟩
 obtain⟨E,hE⟩:∃ E,E=errV (axE x c sz dz):=⟨_,rfl⟩
 obtain⟨W0,hW0⟩:∃ W0,W0=((w.alloc (.cells #[.int .i64 n] 3)).alloc (.cells #[.bool c,.slice sa sz.length sc,.slice da dz.length dc] 27)).alloc (.cells #[.bool false,.slice none 0 0,.slice none 0 0] 27):=⟨_,rfl⟩
 have HB0:Hid (Below w.heap.size w W0):=by rw[hW0];exact (((Below.refl _ w).alloc (Nat.le_refl _) _).alloc (by simp) _).alloc (by simp;omega) _
 have B0:Hid (W0.heap[w.heap.size]?=some (.cells #[.int .i64 n] 3 (0,0))):=by
  rw[hW0]
  exact ((Below.heap_alloc _ _ w.heap.size (by simp;omega)).trans (Below.heap_alloc _ _ w.heap.size (by simp))).trans (MapKept.heap_alloc w _).1
 have P0:Hid (Abx W0 (w.heap.size+1) (.bool c) (.slice sa sz.length sc) (.slice da dz.length dc)):=by rw[hW0];exact (Abx.new1 w _ _ _ _).al _
 have R0:Hid (Abx W0 (w.heap.size+1+1) (.bool false) (.slice none 0 0) (.slice none 0 0)):=by
  rw[hW0]
  have:=Abx.new1 (w.alloc (.cells #[.int .i64 n] 3)) (.cells #[.bool c,.slice sa sz.length sc,.slice da dz.length dc] 27) (.bool false) (.slice none 0 0) (.slice none 0 0)
  rwa [World.size_alloc] at this
 have HZ:Hid (W0.heap.size=w.heap.size+3):=by show _=_;rw[hW0];simp
 have hU:=alongb_any x c sa sc sz da dc dz 192 [.pointer (some ⟨w.heap.size,0,none⟩)] (enters_of Tryz.func192 (by kernel_rfl) rfl) (fun i=>(i+n)%nth sz x.toNat) HX.1 h1 h2 W0 ((HI.1.below HB0.out).mono HB0.size) ((HI.2.below HB0.out).mono HB0.size) (fun i h0 h1=>⟨Int.emod_nonneg _ (by omega),Int.emod_lt_of_pos _ (by omega)⟩)
  (fun i hi hL w' hB=>rt1_any n w.heap.size i _ hi hL w' HX.2 (by
   have hb:w'.heap[w.heap.size]?=some (.cells #[.int .i64 n] 3 (0,0)):=(hB.block w.heap.size (by have:=HZ.out;omega)).trans B0.out
   simp only[World.cell?,hb];rfl))
 have hU':Calls Tryz.prog 161 #[.int .i64 x,.agg #[.bool c,.slice sa sz.length sc,.slice da dz.length dc],.func (.func 192) #[] #[.pointer (some ⟨w.heap.size,0,none⟩)]] W0 (UB (axE x c sz dz) C S D W0):=by rw[hS,hD,hC];exact hU
 unfold UB at hU'
 rw[<-hE] at hU'
 have HU:Hid (UB (axE x c sz dz) (onc (axE x c sz dz) c) (axS5 x c sz dz) (rtD5 x n c sz dz) w=UB (axE x c sz dz) C S D w/\errV (axE x c sz dz)=E):=by rw[hS,hD,hC,hE];exact⟨rfl,rfl⟩
 rw[HU.1]
 have p0:=P0.c0
 have p1:=P0.c1
 have p2:=P0.c2
 rw[hW0] at p0 p1 p2
 have HW:Hid (W0=_):=hW0
 clear hS hD hC hE hU hW0
 go_enter Tryz.func121,Tryz.ntmps121
 go_wp2_with fail
 rw[<-HW.out]
 refine hU'.mono ?_
 rintro e v1 ⟨xa,xc,ya,yc,rfl,hX,hY,hB⟩
 have HR:=R0.go hB
 have HB1:Hid (Below w.heap.size w v1):=HB0.trans (hB.mono HB0.size)
 have HN:Hid (NewC (w.heap.size+3) v1 xa S xc/\NewC (w.heap.size+3) v1 ya D yc):=by
  rw[HZ.out] at hX hY
  exact⟨hX,hY⟩
 clear hB hX hY p0 p1 p2 hU'
 have r_0:=HR.c0
 have r_1:=HR.c1
 have r_2:=HR.c2
 have f_0:=HR.fr 0
 have f_1:=HR.fr 1
 have f_2:=HR.fr 2
 go_wp2_with fail
 have FF:=HR.set3 (.bool C) (.slice xa S.length xc) (.slice ya D.length yc)
 have q0:=FF.c0
 have q1:=FF.c1
 have q2:=FF.c2
 refine bodyPost_ret (v:=.tuple #[.agg #[.bool C,.slice xa S.length xc,.slice ya D.length yc],E]) (by simp[results,Tryz.results121,go_sem,q0,q1,q2]) rfl ?_
 unfold UB
 rw[HU.2]
 exact⟨xa,xc,ya,yc,rfl,(HN.1.set3 (by omega) _ _ _).low (by omega),(HN.2.set3 (by omega) _ _ _).low (by omega),bel_set3 HB1.out (by omega) _ _ _⟩
def CIx:Prop:=∀ (c:Bool) (sa:Option Addr) (sc:Nat) (sz:List Int) (da:Option Addr) (dc:Nat) (dz:List Int) (c':Bool) (sa':Option Addr) (sc':Nat) (sz':List Int) (da':Option Addr) (dc':Nat) (dz':List Int) (w:World),sz.length<=9223372036854775807->dz.length<=9223372036854775807->sz'.length<=9223372036854775807->dz'.length<=9223372036854775807->IsInts w.heap.size w sa sz->IsInts w.heap.size w da dz->IsInts w.heap.size w sa' sz'->IsInts w.heap.size w da' dz'->(∀ j,In64 (nth dz j))->(∀ j,In64 (nth dz' j)) →
 Calls Tryz.prog 124 #[.agg #[.bool c,.slice sa sz.length sc,.slice da dz.length dc],.agg #[.bool c',.slice sa' sz'.length sc',.slice da' dz'.length dc']] w (UB (ixE c sz dz c' sz' dz') (onc (ixE c sz dz c' sz' dz') false) (onl (ixE c sz dz c' sz' dz') (sz')) (onl (ixE c sz dz c' sz' dz') (ixD c dz c' dz')) w)
def CIn:Prop:=∀ (c:Bool) (sa:Option Addr) (sc:Nat) (sz:List Int) (da:Option Addr) (dc:Nat) (dz:List Int) (c':Bool) (sa':Option Addr) (sc':Nat) (sz':List Int) (da':Option Addr) (dc':Nat) (dz':List Int) (w:World),sz.length<=9223372036854775807->dz.length<=9223372036854775807->sz'.length<=9223372036854775807->dz'.length<=9223372036854775807->IsInts w.heap.size w sa sz->IsInts w.heap.size w da dz->IsInts w.heap.size w sa' sz'->IsInts w.heap.size w da' dz'->(∀ j,In64 (nth dz j))->(∀ j,In64 (nth dz' j)) →
 Calls Tryz.prog 125 #[.agg #[.bool c,.slice sa sz.length sc,.slice da dz.length dc],.agg #[.bool c',.slice sa' sz'.length sc',.slice da' dz'.length dc']] w (UB (flawsE c sz dz c' sz' dz') (onc (flawsE c sz dz c' sz' dz') false) (onl (flawsE c sz dz c' sz' dz') (sz)) (onl (flawsE c sz dz c' sz' dz') (inD c dz c' dz')) w)
def CNb:Prop:=∀ (c:Bool) (sa:Option Addr) (sc:Nat) (sz:List Int) (da:Option Addr) (dc:Nat) (dz:List Int) (w:World),sz.length<=9223372036854775807->dz.length<=9223372036854775807->IsInts w.heap.size w sa sz->IsInts w.heap.size w da dz->(∀ j,In64 (nth dz j)) →
 Calls Tryz.prog 107 #[.agg #[.bool c,.slice sa sz.length sc,.slice da dz.length dc]] w (UB (nbE c sz dz) (onc (nbE c sz dz) c) (onl (nbE c sz dz) ([((nbL dz).length:Int)])) (onl (nbE c sz dz) (nbL dz)) w)
def CWo:Prop:=∀ (c:Bool) (sa:Option Addr) (sc:Nat) (sz:List Int) (da:Option Addr) (dc:Nat) (dz:List Int) (c':Bool) (sa':Option Addr) (sc':Nat) (sz':List Int) (da':Option Addr) (dc':Nat) (dz':List Int) (w:World),sz.length<=9223372036854775807->dz.length<=9223372036854775807->sz'.length<=9223372036854775807->dz'.length<=9223372036854775807->IsInts w.heap.size w sa sz->IsInts w.heap.size w da dz->IsInts w.heap.size w sa' sz'->IsInts w.heap.size w da' dz'->(∀ j,In64 (nth dz j))->(∀ j,In64 (nth dz' j)) →
 Calls Tryz.prog 126 #[.agg #[.bool c,.slice sa sz.length sc,.slice da dz.length dc],.agg #[.bool c',.slice sa' sz'.length sc',.slice da' dz'.length dc']] w (UB (lsE c sz dz c' sz' dz') (onc (lsE c sz dz c' sz' dz') c) (onl (lsE c sz dz c' sz' dz') ([((shD c dz c' dz' false).length:Int)])) (onl (lsE c sz dz c' sz' dz') (shD c dz c' dz' false)) w)
def CMt:Prop:=∀ (c:Bool) (sa:Option Addr) (sc:Nat) (sz:List Int) (da:Option Addr) (dc:Nat) (dz:List Int) (c':Bool) (sa':Option Addr) (sc':Nat) (sz':List Int) (da':Option Addr) (dc':Nat) (dz':List Int) (w:World),sz.length<=9223372036854775807->dz.length<=9223372036854775807->sz'.length<=9223372036854775807->dz'.length<=9223372036854775807->IsInts w.heap.size w sa sz->IsInts w.heap.size w da dz->IsInts w.heap.size w sa' sz'->IsInts w.heap.size w da' dz'->(∀ j,In64 (nth dz j))->(∀ j,In64 (nth dz' j)) →
 Calls Tryz.prog 128 #[.agg #[.bool c,.slice sa sz.length sc,.slice da dz.length dc],.agg #[.bool c',.slice sa' sz'.length sc',.slice da' dz'.length dc']] w (UB (lsE c sz dz c' sz' dz') (onc (lsE c sz dz c' sz' dz') c) (onl (lsE c sz dz c' sz' dz') ([((shD c dz c' dz' true).length:Int)])) (onl (lsE c sz dz c' sz' dz') (shD c dz c' dz' true)) w)
def CUn:Prop:=∀ (c:Bool) (sa:Option Addr) (sc:Nat) (sz:List Int) (da:Option Addr) (dc:Nat) (dz:List Int) (c':Bool) (sa':Option Addr) (sc':Nat) (sz':List Int) (da':Option Addr) (dc':Nat) (dz':List Int) (w:World),sz.length<=9223372036854775807->dz.length<=9223372036854775807->sz'.length<=9223372036854775807->dz'.length<=9223372036854775807->IsInts w.heap.size w sa sz->IsInts w.heap.size w da dz->IsInts w.heap.size w sa' sz'->IsInts w.heap.size w da' dz'->(∀ j,In64 (nth dz j))->(∀ j,In64 (nth dz' j)) →
 Calls Tryz.prog 127 #[.agg #[.bool c,.slice sa sz.length sc,.slice da dz.length dc],.agg #[.bool c',.slice sa' sz'.length sc',.slice da' dz'.length dc']] w (UB (unE c sz dz c' sz' dz') (onc (unE c sz dz c' sz' dz') c) (onl (unE c sz dz c' sz' dz') ([((unD c dz c' dz').length:Int)])) (onl (unE c sz dz c' sz' dz') (unD c dz c' dz')) w)
section
variable (c : Bool) (sz dz : List Int) (c' : Bool) (sz' dz' : List Int)
theorem ix8_len:(onl (ixE c sz dz c' sz' dz') sz').length<=4096/\(onl (ixE c sz dz c' sz' dz') (ixD c dz c' dz')).length<=4096:=
 ⟨onl_le6 fun h=>by have:=(flawE_short (ixE_zero.1 h).2.1).1;omega,onl_le6 fun h=>by rw[ixD_length];exact (flawE_short (ixE_zero.1 h).2.1).2⟩
theorem in8_len:(onl (flawsE c sz dz c' sz' dz') sz).length<=4096/\(onl (flawsE c sz dz c' sz' dz') (inD c dz c' dz')).length<=4096:=
 ⟨onl_le6 fun h=>by have:=(flawE_short (flawsE_zero.1 h).1).1;omega,onl_le6 fun h=>by rw[inD_length];exact (flawE_short (flawsE_zero.1 h).1).2⟩
theorem sh8_len (has:Bool):(onl (lsE c sz dz c' sz' dz') [((shD c dz c' dz' has).length:Int)]).length<=4096/\(onl (lsE c sz dz c' sz' dz') (shD c dz c' dz' has)).length<=4096:=
 ⟨onl_le6 fun h=>by simp,onl_le6 fun h=>Nat.le_trans shD_le (flawE_short (lsE_zero.1 h).1).2⟩
theorem un8_len:(onl (unE c sz dz c' sz' dz') [((unD c dz c' dz').length:Int)]).length<=4096/\(onl (unE c sz dz c' sz' dz') (unD c dz c' dz')).length<=4096:=
 ⟨onl_le6 fun h=>by simp,onl_le6 fun h=>(unE_zero.1 h).2.2⟩
end
structure K2:Prop where
 two:C2d
 tk:CTk
 dr:CDr
 jn:CJn
 rt:CRtB
 kp:CKp
 sp:CSp
 ix:CIx
 inn:CIn
 wo:CWo
 mt:CMt
 un:CUn
 va:CVa
 dg:CDg
def No2 (w:World)(r:Ending)(w':World):Prop:=r=.returned .nilFunc/\Below w.heap.size w w'
theorem fu_rs (W:World):FuL (.func (.func 118) #[] #[]) W (fun l c sz dz=>anE (errOf l) c l (cyc dz (prod l).toNat (fillE c))):=
 ⟨118,[],rfl,(enters_of Tryz.func118 (by kernel_rfl) rfl),fun la lc l c sa sc sz da dc dz w hB hl T h4 hA=>rs16 la lc l c sa sc sz da dc dz w h4 hl.1 hA⟩
theorem fu_tk (H:CTk)(W:World):FuL (.func (.func 122) #[] #[]) W (fun l c sz dz=>anE (tkE l c sz dz) c (tkS l) (tkD l c sz dz)):=
 ⟨122,[],rfl,(enters_of Tryz.func122 (by kernel_rfl) rfl),fun la lc l c sa sc sz da dc dz w hB hl T h4 hA=>H la lc l c sa sc sz da dc dz w (by omega) T hA.h1 hA.h2 hl hA.1 hA.2.1 hA.2.2.1⟩
theorem fu_dr (H:CDr)(W:World):FuL (.func (.func 123) #[] #[]) W (fun l c sz dz=>anE (drE l c sz dz) c (drS sz l) (drD l c sz dz)):=
 ⟨123,[],rfl,(enters_of Tryz.func123 (by kernel_rfl) rfl),fun la lc l c sa sc sz da dc dz w hB hl T h4 hA=>H la lc l c sa sc sz da dc dz w (by omega) T hA.h1 hA.h2 hl hA.1 hA.2.1 hA.2.2.1⟩
theorem fu_kp (H:CKp)(W:World):FuM (.func (.func 133) #[] #[]) W (fun m x c sz dz=>anE (kpE m x c sz dz) c (kpS m x.toNat sz) (kpD m x.toNat sz dz)):=
 ⟨133,[],rfl,(enters_of Tryz.func133 (by kernel_rfl) rfl),fun la lc l x c sa sc sz da dc dz w hB hl T h4 hx h0 hA=>H la lc l x c sa sc sz da dc dz w (by omega) T (by have:=hA.s6.1;unfold In64;omega) hA.h1 hA.h2 hl hA.1 hA.2.1 hA.2.2.1⟩
theorem fu_sp (H:CSp)(W:World):FuM (.func (.func 134) #[] #[]) W (fun m x c sz dz=>anE (spE m x c sz dz) c (spS m x.toNat sz) (spD m x.toNat c sz dz)):=
 ⟨134,[],rfl,(enters_of Tryz.func134 (by kernel_rfl) rfl),fun la lc l x c sa sc sz da dc dz w hB hl T h4 hx h0 hA=>H la lc l x c sa sc sz da dc dz w (by omega) T (by have:=hA.s6.1;unfold In64;omega) hA.h1 hA.h2 hl hA.1 hA.2.1 hA.2.2.1⟩
theorem fu_rt (H:CRtB)(W:World):FuN (.func (.func 121) #[] #[]) W (fun n x c sz dz=>anE (axE x c sz dz) c sz (GA sz dz sz (rotT sz n x.toNat))):=
 ⟨121,[],rfl,(enters_of Tryz.func121 (by kernel_rfl) rfl),fun n x c sa sc sz da dc dz w hB hn hx h0 hA=>H n x c sa sc sz da dc dz w hn (by have:=hA.s6.1;unfold In64;omega) hA.h1 hA.h2 hA.1 hA.2.1.1 hA.2.2.1⟩
theorem fu_jn (H:CJn)(W:World):Fu2 (.func (.func 119) #[] #[]) W joA:=
 ⟨119,[],rfl,(enters_of Tryz.func119 (by kernel_rfl) rfl),fun c sa sc sz da dc dz c' sa' sc' sz' da' dc' dz' w hB hA hA'=>join_any H c sa sc sz da dc dz c' sa' sc' sz' da' dc' dz' w hA hA'⟩
theorem fu_va (H:CVa)(W:World):Fu2 (.func (.func 129) #[] #[]) W baA:=
 ⟨129,[],rfl,(enters_of Tryz.func129 (by kernel_rfl) rfl),fun c sa sc sz da dc dz c' sa' sc' sz' da' dc' dz' w hB hA hA'=>value_any H c sa sc sz da dc dz c' sa' sc' sz' da' dc' dz' w hA hA'⟩
theorem fu_dg (H:CDg)(W:World):Fu2 (.func (.func 130) #[] #[]) W diA:=
 ⟨130,[],rfl,(enters_of Tryz.func130 (by kernel_rfl) rfl),fun c sa sc sz da dc dz c' sa' sc' sz' da' dc' dz' w hB hA hA'=>digits_any H c sa sc sz da dc dz c' sa' sc' sz' da' dc' dz' w hA hA'⟩
theorem fu_ma (W:World):Fu2 (.func (.func 131) #[] #[]) W (p2A 32):=
 ⟨131,[],rfl,(enters_of Tryz.func131 (by kernel_rfl) rfl),fun c sa sc sz da dc dz c' sa' sc' sz' da' dc' dz' w hB hA hA'=>pmatch_any c sa sc sz da dc dz c' sa' sc' sz' da' dc' dz' w hA hA'⟩
theorem fu_wo (H:CWo)(W:World):Fu2 (.func (.func 126) #[] #[]) W (p2A 17):=
 ⟨126,[],rfl,(enters_of Tryz.func126 (by kernel_rfl) rfl),fun c sa sc sz da dc dz c' sa' sc' sz' da' dc' dz' w hB hA hA'=>H c sa sc sz da dc dz c' sa' sc' sz' da' dc' dz' w hA.h1 hA.h2 hA'.h1 hA'.h2 hA.1.1 hA.2.1.1 hA'.1.1 hA'.2.1.1 hA.2.2.1 hA'.2.2.1⟩
theorem fu_ix (H:CIx)(W:World):Fu2 (.func (.func 124) #[] #[]) W (p2A 24):=
 ⟨124,[],rfl,(enters_of Tryz.func124 (by kernel_rfl) rfl),fun c sa sc sz da dc dz c' sa' sc' sz' da' dc' dz' w hB hA hA'=>H c sa sc sz da dc dz c' sa' sc' sz' da' dc' dz' w hA.h1 hA.h2 hA'.h1 hA'.h2 hA.1.1 hA.2.1.1 hA'.1.1 hA'.2.1.1 hA.2.2.1 hA'.2.2.1⟩
theorem fu_inn (H:CIn)(W:World):Fu2 (.func (.func 125) #[] #[]) W (p2A 25):=
 ⟨125,[],rfl,(enters_of Tryz.func125 (by kernel_rfl) rfl),fun c sa sc sz da dc dz c' sa' sc' sz' da' dc' dz' w hB hA hA'=>H c sa sc sz da dc dz c' sa' sc' sz' da' dc' dz' w hA.h1 hA.h2 hA'.h1 hA'.h2 hA.1.1 hA.2.1.1 hA'.1.1 hA'.2.1.1 hA.2.2.1 hA'.2.2.1⟩
theorem fu_un (H:CUn)(W:World):Fu2 (.func (.func 127) #[] #[]) W (p2A 28):=
 ⟨127,[],rfl,(enters_of Tryz.func127 (by kernel_rfl) rfl),fun c sa sc sz da dc dz c' sa' sc' sz' da' dc' dz' w hB hA hA'=>H c sa sc sz da dc dz c' sa' sc' sz' da' dc' dz' w hA.h1 hA.h2 hA'.h1 hA'.h2 hA.1.1 hA.2.1.1 hA'.1.1 hA'.2.1.1 hA.2.2.1 hA'.2.2.1⟩
theorem fu_mt (H:CMt)(W:World):Fu2 (.func (.func 128) #[] #[]) W (p2A 29):=
 ⟨128,[],rfl,(enters_of Tryz.func128 (by kernel_rfl) rfl),fun c sa sc sz da dc dz c' sa' sc' sz' da' dc' dz' w hB hA hA'=>H c sa sc sz da dc dz c' sa' sc' sz' da' dc' dz' w hA.h1 hA.h2 hA'.h1 hA'.h2 hA.1.1 hA.2.1.1 hA'.1.1 hA'.2.1.1 hA.2.2.1 hA'.2.2.1⟩
theorem t2_17 (H:CWo)(w:World):Calls Tryz.prog 74 #[.int .i64 17] w (Mk2 (p2A 17) w):=by
 go_enter Tryz.func74,Tryz.ntmps74
 go_wp2_with fail
 go_ret
 exact⟨_,rfl,fu_wo H _,Below.refl _ _⟩
theorem t2_18  (w:World):Calls Tryz.prog 74 #[.int .i64 18] w (Mk2 (p2A 18) w):=by
 have HC:Hid (Calls Tryz.prog 117 #[.func (.func 118) #[] #[]] w (Mk2 (p2A 18) w)):=mk_list _ _ _ (fu_rs w)
 go_enter Tryz.func74,Tryz.ntmps74
 go_wp2_with fail
 refine HC.mono ?_
 rintro e v ⟨u,rfl,hU,hB⟩
 have HU:Hid (Fu2 u v (p2A 18)/\Below w.heap.size w v):=⟨hU,hB⟩
 obtain⟨F,cs,rfl,_,_⟩:=hU
 clear hB HC
 go_wp2_with fail
 go_ret
 exact⟨_,rfl,HU.out⟩
theorem t2_19 (H:CJn)(w:World):Calls Tryz.prog 74 #[.int .i64 19] w (Mk2 (p2A 19) w):=by
 go_enter Tryz.func74,Tryz.ntmps74
 go_wp2_with fail
 go_ret
 exact⟨_,rfl,fu_jn H _,Below.refl _ _⟩
theorem t2_20 (H:CRtB)(w:World):Calls Tryz.prog 74 #[.int .i64 20] w (Mk2 (p2A 20) w):=by
 have HC:Hid (Calls Tryz.prog 120 #[.func (.func 121) #[] #[]] w (Mk2 (p2A 20) w)):=mk_num _ _ _ (fu_rt H w)
 go_enter Tryz.func74,Tryz.ntmps74
 go_wp2_with fail
 refine HC.mono ?_
 rintro e v ⟨u,rfl,hU,hB⟩
 have HU:Hid (Fu2 u v (p2A 20)/\Below w.heap.size w v):=⟨hU,hB⟩
 obtain⟨F,cs,rfl,_,_⟩:=hU
 clear hB HC
 go_wp2_with fail
 go_ret
 exact⟨_,rfl,HU.out⟩
theorem t2_22 (H:CTk)(w:World):Calls Tryz.prog 74 #[.int .i64 22] w (Mk2 (p2A 22) w):=by
 have HC:Hid (Calls Tryz.prog 117 #[.func (.func 122) #[] #[]] w (Mk2 (p2A 22) w)):=mk_list _ _ _ (fu_tk H w)
 go_enter Tryz.func74,Tryz.ntmps74
 go_wp2_with fail
 refine HC.mono ?_
 rintro e v ⟨u,rfl,hU,hB⟩
 have HU:Hid (Fu2 u v (p2A 22)/\Below w.heap.size w v):=⟨hU,hB⟩
 obtain⟨F,cs,rfl,_,_⟩:=hU
 clear hB HC
 go_wp2_with fail
 go_ret
 exact⟨_,rfl,HU.out⟩
theorem t2_23 (H:CDr)(w:World):Calls Tryz.prog 74 #[.int .i64 23] w (Mk2 (p2A 23) w):=by
 have HC:Hid (Calls Tryz.prog 117 #[.func (.func 123) #[] #[]] w (Mk2 (p2A 23) w)):=mk_list _ _ _ (fu_dr H w)
 go_enter Tryz.func74,Tryz.ntmps74
 go_wp2_with fail
 refine HC.mono ?_
 rintro e v ⟨u,rfl,hU,hB⟩
 have HU:Hid (Fu2 u v (p2A 23)/\Below w.heap.size w v):=⟨hU,hB⟩
 obtain⟨F,cs,rfl,_,_⟩:=hU
 clear hB HC
 go_wp2_with fail
 go_ret
 exact⟨_,rfl,HU.out⟩
theorem t2_24 (H:CIx)(w:World):Calls Tryz.prog 74 #[.int .i64 24] w (Mk2 (p2A 24) w):=by
 go_enter Tryz.func74,Tryz.ntmps74
 go_wp2_with fail
 go_ret
 exact⟨_,rfl,fu_ix H _,Below.refl _ _⟩
theorem t2_25 (H:CIn)(w:World):Calls Tryz.prog 74 #[.int .i64 25] w (Mk2 (p2A 25) w):=by
 go_enter Tryz.func74,Tryz.ntmps74
 go_wp2_with fail
 go_ret
 exact⟨_,rfl,fu_inn H _,Below.refl _ _⟩
theorem t2_28 (H:CUn)(w:World):Calls Tryz.prog 74 #[.int .i64 28] w (Mk2 (p2A 28) w):=by
 go_enter Tryz.func74,Tryz.ntmps74
 go_wp2_with fail
 go_ret
 exact⟨_,rfl,fu_un H _,Below.refl _ _⟩
theorem t2_29 (H:CMt)(w:World):Calls Tryz.prog 74 #[.int .i64 29] w (Mk2 (p2A 29) w):=by
 go_enter Tryz.func74,Tryz.ntmps74
 go_wp2_with fail
 go_ret
 exact⟨_,rfl,fu_mt H _,Below.refl _ _⟩
theorem t2_30 (H:CVa)(w:World):Calls Tryz.prog 74 #[.int .i64 30] w (Mk2 (p2A 30) w):=by
 go_enter Tryz.func74,Tryz.ntmps74
 go_wp2_with fail
 go_ret
 exact⟨_,rfl,fu_va H _,Below.refl _ _⟩
theorem t2_31 (H:CDg)(w:World):Calls Tryz.prog 74 #[.int .i64 31] w (Mk2 (p2A 31) w):=by
 go_enter Tryz.func74,Tryz.ntmps74
 go_wp2_with fail
 go_ret
 exact⟨_,rfl,fu_dg H _,Below.refl _ _⟩
theorem t2_32  (w:World):Calls Tryz.prog 74 #[.int .i64 32] w (Mk2 (p2A 32) w):=by
 go_enter Tryz.func74,Tryz.ntmps74
 go_wp2_with fail
 go_ret
 exact⟨_,rfl,fu_ma _,Below.refl _ _⟩
theorem t2_33 (H:CKp)(w:World):Calls Tryz.prog 74 #[.int .i64 33] w (Mk2 (p2A 33) w):=by
 have HC:Hid (Calls Tryz.prog 132 #[.func (.func 133) #[] #[]] w (Mk2 (p2A 33) w)):=mk_mask _ _ _ (fu_kp H w)
 go_enter Tryz.func74,Tryz.ntmps74
 go_wp2_with fail
 refine HC.mono ?_
 rintro e v ⟨u,rfl,hU,hB⟩
 have HU:Hid (Fu2 u v (p2A 33)/\Below w.heap.size w v):=⟨hU,hB⟩
 obtain⟨F,cs,rfl,_,_⟩:=hU
 clear hB HC
 go_wp2_with fail
 go_ret
 exact⟨_,rfl,HU.out⟩
theorem t2_34 (H:CSp)(w:World):Calls Tryz.prog 74 #[.int .i64 34] w (Mk2 (p2A 34) w):=by
 have HC:Hid (Calls Tryz.prog 132 #[.func (.func 134) #[] #[]] w (Mk2 (p2A 34) w)):=mk_mask _ _ _ (fu_sp H w)
 go_enter Tryz.func74,Tryz.ntmps74
 go_wp2_with fail
 refine HC.mono ?_
 rintro e v ⟨u,rfl,hU,hB⟩
 have HU:Hid (Fu2 u v (p2A 34)/\Below w.heap.size w v):=⟨hU,hB⟩
 obtain⟨F,cs,rfl,_,_⟩:=hU
 clear hB HC
 go_wp2_with fail
 go_ret
 exact⟨_,rfl,HU.out⟩
theorem t2_six (H:C2d)(f:Int)(hf:In64 f)(h:1<=f/\f<=16)(w:World):Calls Tryz.prog 74 #[.int .i64 f] w (Mk2 (e2A f) w):=by
 have HC:Hid (Calls Tryz.prog 135 #[.int .i64 f] w (Mk2 (e2A f) w)):=mk_cells2_t f hf (decide_eq_true h) w H
 have t17:(f == 17)=false:=beq_eq_false_iff_ne.2 (by omega)
 have t18:(f == 18)=false:=beq_eq_false_iff_ne.2 (by omega)
 have t19:(f == 19)=false:=beq_eq_false_iff_ne.2 (by omega)
 have t20:(f == 20)=false:=beq_eq_false_iff_ne.2 (by omega)
 have t22:(f == 22)=false:=beq_eq_false_iff_ne.2 (by omega)
 have t23:(f == 23)=false:=beq_eq_false_iff_ne.2 (by omega)
 have t24:(f == 24)=false:=beq_eq_false_iff_ne.2 (by omega)
 have t25:(f == 25)=false:=beq_eq_false_iff_ne.2 (by omega)
 have t28:(f == 28)=false:=beq_eq_false_iff_ne.2 (by omega)
 have t29:(f == 29)=false:=beq_eq_false_iff_ne.2 (by omega)
 have t30:(f == 30)=false:=beq_eq_false_iff_ne.2 (by omega)
 have t31:(f == 31)=false:=beq_eq_false_iff_ne.2 (by omega)
 have t32:(f == 32)=false:=beq_eq_false_iff_ne.2 (by omega)
 have t33:(f == 33)=false:=beq_eq_false_iff_ne.2 (by omega)
 have t34:(f == 34)=false:=beq_eq_false_iff_ne.2 (by omega)
 clear h hf
 go_enter Tryz.func74,Tryz.ntmps74
 go_wp2_with fail
 refine HC.mono ?_
 rintro e v ⟨u,rfl,hU,hB⟩
 have HU:Hid (Fu2 u v (e2A f)/\Below w.heap.size w v):=⟨hU,hB⟩
 obtain⟨F,cs,rfl,_,_⟩:=hU
 clear hB
 clear HC
 go_wp2_with fail
 go_ret
 exact⟨_,rfl,HU.out⟩
theorem t2_no (f:Int)(hf:In64 f)(h:¬ ((1<=f/\f<=20)\/(22<=f/\f<=25)\/(28<=f/\f<=34)))(w:World):Calls Tryz.prog 74 #[.int .i64 f] w (No2 w):=by
 have HC:Hid (Calls Tryz.prog 135 #[.int .i64 f] w (No2 w)):=mk_cells2_f f hf (decide_eq_false (by omega)) w
 have t17:(f == 17)=false:=beq_eq_false_iff_ne.2 (by omega)
 have t18:(f == 18)=false:=beq_eq_false_iff_ne.2 (by omega)
 have t19:(f == 19)=false:=beq_eq_false_iff_ne.2 (by omega)
 have t20:(f == 20)=false:=beq_eq_false_iff_ne.2 (by omega)
 have t22:(f == 22)=false:=beq_eq_false_iff_ne.2 (by omega)
 have t23:(f == 23)=false:=beq_eq_false_iff_ne.2 (by omega)
 have t24:(f == 24)=false:=beq_eq_false_iff_ne.2 (by omega)
 have t25:(f == 25)=false:=beq_eq_false_iff_ne.2 (by omega)
 have t28:(f == 28)=false:=beq_eq_false_iff_ne.2 (by omega)
 have t29:(f == 29)=false:=beq_eq_false_iff_ne.2 (by omega)
 have t30:(f == 30)=false:=beq_eq_false_iff_ne.2 (by omega)
 have t31:(f == 31)=false:=beq_eq_false_iff_ne.2 (by omega)
 have t32:(f == 32)=false:=beq_eq_false_iff_ne.2 (by omega)
 have t33:(f == 33)=false:=beq_eq_false_iff_ne.2 (by omega)
 have t34:(f == 34)=false:=beq_eq_false_iff_ne.2 (by omega)
 clear h hf
 go_enter Tryz.func74,Tryz.ntmps74
 go_wp2_with fail
 refine HC.mono ?_
 rintro e v ⟨rfl,hB⟩
 have HB:Hid (Below w.heap.size w v):=hB
 clear hB
 clear HC
 go_wp2_with fail
 go_ret
 exact⟨rfl,HB.out⟩
theorem p2A_six {f:Int}(h:1<=f/\f<=16):p2A f=e2A f:=by
 have:f=1\/f=2\/f=3\/f=4\/f=5\/f=6\/f=7\/f=8\/f=9\/f=10\/f=11\/f=12\/f=13\/f=14\/f=15\/f=16:=by omega
 rcases this with rfl | rfl | rfl | rfl | rfl | rfl | rfl | rfl | rfl | rfl | rfl | rfl | rfl | rfl | rfl | rfl<;>rfl
theorem t2_any (K:K2)(f:Int)(hf:In64 f)(h:p2K f=true)(w:World):Calls Tryz.prog 74 #[.int .i64 f] w (Mk2 (p2A f) w):=by
 have h:=of_decide_eq_true h
 by_cases h6:1<=f/\f<=16
 ·rw[p2A_six h6];exact t2_six K.two f hf h6 w
 ·have:f=17\/f=18\/f=19\/f=20\/f=22\/f=23\/f=24\/f=25\/f=28\/f=29\/f=30\/f=31\/f=32\/f=33\/f=34:=by omega
  rcases this with rfl | rfl | rfl | rfl | rfl | rfl | rfl | rfl | rfl | rfl | rfl | rfl | rfl | rfl | rfl
  ·exact t2_17 K.wo w
  ·exact t2_18 w
  ·exact t2_19 K.jn w
  ·exact t2_20 K.rt w
  ·exact t2_22 K.tk w
  ·exact t2_23 K.dr w
  ·exact t2_24 K.ix w
  ·exact t2_25 K.inn w
  ·exact t2_28 K.un w
  ·exact t2_29 K.mt w
  ·exact t2_30 K.va w
  ·exact t2_31 K.dg w
  ·exact t2_32 w
  ·exact t2_33 K.kp w
  ·exact t2_34 K.sp w
theorem t2_none (f:Int)(hf:In64 f)(h:p2K f=false)(w:World):Calls Tryz.prog 74 #[.int .i64 f] w (No2 w):=t2_no f hf (of_decide_eq_false h) w
abbrev BrV:Type:=Bool × ((Option Addr × Nat) × List Int) × ((Option Addr × Nat) × List Int)
def BrV.s (b:BrV):Value:=.slice b.2.1.1.1 b.2.1.2.length b.2.1.1.2
def BrV.d (b:BrV):Value:=.slice b.2.2.1.1 b.2.2.2.length b.2.2.1.2
def brz (bs:List BrV)(j:Nat):BrV:=bs.getD j (false,(((none,0),[]),((none,0),[])))
def IsBv (n:Nat)(W:World)(b:BrV):Prop:=
 b.2.1.2.length<=9223372036854775807/\b.2.2.2.length<=9223372036854775807/\IsInts n W b.2.1.1.1 b.2.1.2/\IsInts n W b.2.2.1.1 b.2.2.2
def IsBs (n:Nat)(W:World)(a:Option Addr)(bs:List BrV):Prop:=
 (bs=[]\/∃ b off,a=some ⟨b,off,none⟩/\b<n/\∀ j,j<bs.length->W.cell? ⟨b,off+j*3,none⟩=some (.bool (brz bs j).1)/\W.cell? ⟨b,off+j*3+1,none⟩=some (brz bs j).s/\W.cell? ⟨b,off+j*3+2,none⟩=some (brz bs j).d)/\∀ j,j<bs.length->IsBv n W (brz bs j)
section
variable {n n' : Nat} {W W' : World} {a : Option Addr} {bs : List BrV}
theorem IsBv.below {b:BrV}(hB:Below n W W')(h:IsBv n W b):IsBv n W' b:=⟨h.1,h.2.1,h.2.2.1.below hB,h.2.2.2.below hB⟩
theorem IsBv.mono {b:BrV}(hn:n<=n')(h:IsBv n W b):IsBv n' W b:=⟨h.1,h.2.1,h.2.2.1.mono hn,h.2.2.2.mono hn⟩
theorem IsBs.below (hB:Below n W W')(h:IsBs n W a bs):IsBs n W' a bs:=by
 refine⟨?_,fun j hj=>(h.2 j hj).below hB⟩
 rcases h.1 with e | ⟨b,off,e,hb,hc⟩
 ·exact .inl e
 ·exact .inr ⟨b,off,e,hb,fun j hj=>⟨(hB.cell (p:=⟨b,off+j*3,none⟩) hb).trans (hc j hj).1,(hB.cell (p:=⟨b,off+j*3+1,none⟩) hb).trans (hc j hj).2.1,(hB.cell (p:=⟨b,off+j*3+2,none⟩) hb).trans (hc j hj).2.2⟩⟩
theorem IsBs.mono (hn:n<=n')(h:IsBs n W a bs):IsBs n' W a bs:=by
 refine⟨?_,fun j hj=>(h.2 j hj).mono hn⟩
 rcases h.1 with e | ⟨b,off,e,hb,hc⟩
 ·exact .inl e
 ·exact .inr ⟨b,off,e,by omega,hc⟩
theorem IsBs.at (h:IsBs n W a bs){j:Nat}(hj:j<bs.length):∃ b off,a=some ⟨b,off,none⟩/\b<n/\∀ j,j<bs.length->W.cell? ⟨b,off+j*3,none⟩=some (.bool (brz bs j).1)/\W.cell? ⟨b,off+j*3+1,none⟩=some (brz bs j).s/\W.cell? ⟨b,off+j*3+2,none⟩=some (brz bs j).d:=by
 rcases h.1 with e | h
 ·subst e;simp at hj
 ·exact h
end
theorem isBs_nil (n:Nat)(W:World)(a:Option Addr):IsBs n W a []:=⟨.inl rfl,fun j hj=>by simp at hj⟩
theorem isBs_one {W:World}{b:Nat}{c:Bool}{sa:Option Addr}{sc:Nat}{sz:List Int}{da:Option Addr}{dc:Nat}{dz:List Int}(h:Abx W b (.bool c) (.slice sa sz.length sc) (.slice da dz.length dc))(h1:sz.length<=9223372036854775807)(h2:dz.length<=9223372036854775807)(hs:IsInts W.heap.size W sa sz)(hd:IsInts W.heap.size W da dz):
  IsBs W.heap.size W (some ⟨b,0,none⟩) [(c,(((sa,sc),sz),((da,dc),dz)))]:=by
 refine⟨.inr ⟨b,0,rfl,h.lt,fun j hj=>?_⟩,fun j hj=>?_⟩
 ·obtain rfl:j=0:=by simp at hj;exact hj
  exact⟨h.c0,h.c1,h.c2⟩
 ·obtain rfl:j=0:=by simp at hj;exact hj
  exact⟨h1,h2,hs,hd⟩
def flB:List BrV->Int
 | []=>0
 | b::r=>if flawE b.1 b.2.1.2 b.2.2.2≠0 then flawE b.1 b.2.1.2 b.2.2.2 else flB r
def bsE (c:Bool)(sz dz:List Int)(bs:List BrV):Int:=if flawE c sz dz≠0 then flawE c sz dz else flB bs
theorem flB_append:∀ (l r:List BrV),flB l=0->flB (l++r)=flB r
 | [],_,_=>rfl
 | b::l,r,h=>by
  unfold flB at h
  by_cases e:flawE b.1 b.2.1.2 b.2.2.2=0
  ·rw[if_neg (not_not_intro e)] at h
   rw[List.cons_append,flB,if_neg (not_not_intro e)]
   exact flB_append l r h
  ·rw[if_pos e] at h;exact absurd h e
theorem brz_get {bs:List BrV}{k:Nat}(h:k<bs.length):brz bs k=bs[k]:=by unfold brz;rw[List.getD_eq_getElem?_getD,List.getElem?_eq_getElem h];rfl
theorem flB_next {bs:List BrV}{k:Nat}(hk:k<bs.length)(h:flB (bs.take k)=0)(e:flawE (brz bs k).1 (brz bs k).2.1.2 (brz bs k).2.2.2=0):flB (bs.take (k+1))=0:=by
 rw[brz_get hk] at e
 rw[List.take_succ_eq_append_getElem hk,flB_append _ _ h,flB,if_neg (not_not_intro e)];rfl
theorem flB_bad {bs:List BrV}{k:Nat}(hk:k<bs.length)(h:flB (bs.take k)=0)(e:flawE (brz bs k).1 (brz bs k).2.1.2 (brz bs k).2.2.2≠0):flB bs=flawE (brz bs k).1 (brz bs k).2.1.2 (brz bs k).2.2.2:=by
 rw[brz_get hk] at e ⊢
 obtain⟨b,hb⟩:∃ b,b=bs[k]:=⟨_,rfl⟩
 rw[<-hb] at e ⊢
 have:bs=bs.take k++(b::bs.drop (k+1)):=by rw[hb,<-List.drop_eq_getElem_cons hk,List.take_append_drop]
 rw[this,flB_append _ _ h,flB,if_pos e]
theorem bsE_nil {c:Bool}{sz dz:List Int}:bsE c sz dz []=flawE c sz dz:=by
 unfold bsE flB
 by_cases h:flawE c sz dz=0
 ·rw[if_neg (not_not_intro h),h]
 ·rw[if_pos h]
theorem bsE_one {c:Bool}{sz dz:List Int}{c':Bool}{p:Option Addr × Nat}{sz':List Int}{q:Option Addr × Nat}{dz':List Int}:bsE c sz dz [(c',((p,sz'),(q,dz')))]=flawsE c sz dz c' sz' dz':=by
 unfold bsE flawsE flB flB
 by_cases h:flawE c sz dz=0
 ·rw[if_neg (not_not_intro h),if_pos h]
  by_cases h':flawE c' sz' dz'=0
  ·rw[if_neg (not_not_intro h'),h']
  ·rw[if_pos h']
 ·rw[if_pos h,if_neg h]
theorem ret_err8 {e e':Int}(h0:e'≠0)(h:e=e'):Ending.returned (.iface 28 (.int .i64 e'))=.returned (errV e):=by rw[h,errV_pos h0]
theorem ret_nil8 {e:Int}(h:e=0):Ending.returned .nilIface=.returned (errV e):=by rw[h];rfl
theorem chkall8 (c:Bool)(sa:Option Addr)(sc:Nat)(sz:List Int)(da:Option Addr)(dc:Nat)(dz:List Int)(ba:Option Addr)(bc:Nat)(bs:List BrV)(h1:sz.length<=9223372036854775807)(h2:dz.length<=9223372036854775807)(h3:bs.length<=9223372036854775807)(w:World)(hs:IsInts w.heap.size w sa sz)(hd:IsInts w.heap.size w da dz)(hb:IsBs w.heap.size w ba bs):
  Calls Tryz.prog 47 #[.agg #[.bool c,.slice sa sz.length sc,.slice da dz.length dc],.slice ba bs.length bc] w fun e w'=>e=.returned (errV (bsE c sz dz bs))/\Below w.heap.size w w':=by
 have HB0:Hid (Below w.heap.size w (w.alloc (.cells #[.bool c,.slice sa sz.length sc,.slice da dz.length dc] 27))):=(Below.refl _ w).alloc (Nat.le_refl _) _
 have pa:=Abx.new w (.bool c) (.slice sa sz.length sc) (.slice da dz.length dc)
 have p0:=pa.c0
 have p1:=pa.c1
 have p2:=pa.c2
 have HI:Hid (IsInts w.heap.size w sa sz/\IsInts w.heap.size w da dz/\IsBs w.heap.size w ba bs):=⟨hs,hd,hb⟩
 clear hs hd hb
 by_cases h0:flawE c sz dz=0
 ·have HF:Hid (flawE c sz dz=0):=h0
  have HE:Hid (bsE c sz dz bs=flB bs):=by show _=_;unfold bsE;rw[if_neg (not_not_intro h0)]
  clear h0
  go_enter Tryz.func47,Tryz.ntmps47
  go_wp2_with fail
  refine (check_ok c sa sc sz da dc dz h1 h2 _ ((HI.1.below HB0.out).mono HB0.size) ((HI.2.1.below HB0.out).mono HB0.size) HF.out).mono ?_
  rintro e v1 ⟨rfl,hC⟩
  have HB1:Hid (Below w.heap.size w v1):=HB0.trans (hC.mono HB0.size)
  clear hC pa p0 p1 p2 HB0
  go_wp2_with fail
  go_loopw [16] (fun i wr=>∃ k:Nat,k<=bs.length/\i=.int .i64 k/\Hid (flB (bs.take k)=0)/\Below w.heap.size w wr) (fun i _=>bs.length-(intOf i).toNat)
  case atStart=>exact⟨0,Nat.zero_le _,rfl,rfl,HB1.out⟩
  case round=>
   obtain⟨k,hk,rfl,HT,hB⟩:=hrel
   by_cases hlt:k<bs.length
   ·have hav:=(HI.2.2.below hB).2 k hlt
    obtain⟨b,off,rfl,hbb,hcell⟩:=(HI.2.2.below hB).at hlt
    obtain⟨c0,c1,c2⟩:=hcell k hlt
    have HAV:Hid (IsBv w.heap.size wr (brz bs k)):=hav
    have HBw:Hid (Below w.heap.size w wr):=hB
    have HZ:Hid (flawE (brz bs k).1 (brz bs k).2.1.2 (brz bs k).2.2.2=0->flB (bs.take (k+1))=0):=fun q=>flB_next hlt HT.out q
    have HY:Hid (flawE (brz bs k).1 (brz bs k).2.1.2 (brz bs k).2.2.2≠0->flB bs=flawE (brz bs k).1 (brz bs k).2.1.2 (brz bs k).2.2.2):=fun q=>flB_bad hlt HT.out q
    clear hcell hav hB HT
    generalize brz bs k=B at *
    obtain⟨cb,⟨⟨sb,scb⟩,szb⟩,⟨⟨db,dcb⟩,dzb⟩⟩:=B
    unfold BrV.s at c1
    unfold BrV.d at c2
    dsimp only at c0 c1 c2 HAV HZ HY
    have HBx:Hid (Below w.heap.size wr (wr.alloc (.cells #[.bool cb,.slice sb szb.length scb,.slice db dzb.length dcb] 27))):=(Below.refl _ wr).alloc HBw.size _
    have pb:=Abx.new wr (.bool cb) (.slice sb szb.length scb) (.slice db dzb.length dcb)
    have q0:=pb.c0
    have q1:=pb.c1
    have q2:=pb.c2
    by_cases hf:flawE cb szb dzb=0
    ·have HN:Hid (flawE cb szb dzb=0/\flB (bs.take (k+1))=0):=⟨hf,HZ.out hf⟩
     clear hf HZ HY
     go_wp2_with fail
     refine (check_ok cb sb scb szb db dcb dzb HAV.1 HAV.2.1 _ ((HAV.2.2.1.below HBx.out).mono (HBw.trans HBx.out).size) ((HAV.2.2.2.below HBx.out).mono (HBw.trans HBx.out).size) HN.1).mono ?_
     rintro e v2 ⟨rfl,hC⟩
     clear pb q0 q1 q2 c0 c1 c2
     go_wp2_with fail
     exact⟨⟨k+1,by omega,by go_num,HN.2,(HBw.trans HBx.out).trans (hC.mono (HBw.trans HBx.out).size)⟩,by simp[intOf];omega⟩
    ·have HN:Hid (flawE cb szb dzb≠0/\flB bs=flawE cb szb dzb):=⟨hf,HY.out hf⟩
     clear hf HZ HY
     go_wp2_with fail
     refine (check_no cb sb scb szb db dcb dzb HAV.1 HAV.2.1 _ ((HAV.2.2.1.below HBx.out).mono (HBw.trans HBx.out).size) ((HAV.2.2.2.below HBx.out).mono (HBw.trans HBx.out).size) HN.1).mono ?_
     rintro e v2 ⟨rfl,hC⟩
     clear pb q0 q1 q2 c0 c1 c2
     go_wp2_with fail
     go_ret
     exact⟨ret_err8 HN.1 (by rw[HE.out,HN.2]),(HBw.trans HBx.out).trans (hC.mono (HBw.trans HBx.out).size)⟩
   ·obtain rfl:k=bs.length:=by omega
    have hfin:Hid (flB bs=0):=by
     have:=HT.out
     rwa [List.take_of_length_le (Nat.le_refl _)] at this
    clear HT
    go_wp2_with fail
    go_ret
    exact⟨ret_nil8 (by rw[HE.out,hfin.out]),hB⟩
 ·have HF:Hid (flawE c sz dz≠0):=h0
  have HE:Hid (bsE c sz dz bs=flawE c sz dz):=by show _=_;unfold bsE;rw[if_pos h0]
  clear h0
  go_enter Tryz.func47,Tryz.ntmps47
  go_wp2_with fail
  refine (check_no c sa sc sz da dc dz h1 h2 _ ((HI.1.below HB0.out).mono HB0.size) ((HI.2.1.below HB0.out).mono HB0.size) HF.out).mono ?_
  rintro e v1 ⟨rfl,hC⟩
  have HB1:Hid (Below w.heap.size w v1):=HB0.trans (hC.mono HB0.size)
  clear hC pa p0 p1 p2 HB0
  go_wp2_with fail
  go_ret
  exact⟨ret_err8 HF.out HE.out,HB1.out⟩
end Go.Proofs.YtkmmkcpfhnifhaaGreatDoor
