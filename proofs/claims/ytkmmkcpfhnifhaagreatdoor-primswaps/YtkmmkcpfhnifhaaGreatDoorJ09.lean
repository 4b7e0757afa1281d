/- What the program tells, in part. -/
import Derived.Test.YtkmmkcpfhnifhaaGreatDoorJ08
set_option linter.unusedVariables false
set_option maxHeartbeats 1000000
set_option maxRecDepth 100000
namespace Go.Proofs.YtkmmkcpfhnifhaaGreatDoor
open Go.RowKit
theorem ret2b {a b:Bool}{v u:Value}(h:a=b)(h2:v=u):Ending.returned (.tuple #[.bool a,v])=.returned (.tuple #[.bool b,u]):=by rw[h,h2]
theorem match_no1 (c c':Bool)(sa:Option Addr)(sc:Nat)(sz:List Int)(da:Option Addr)(dc:Nat)(dz:List Int)(sa':Option Addr)(sc':Nat)(sz':List Int)(da':Option Addr)(dc':Nat)(dz':List Int)
  (h1:sz.length<=9223372036854775807)(h2:dz.length<=9223372036854775807)(h1':sz'.length<=9223372036854775807)(h2':dz'.length<=9223372036854775807)(w:World)(hs:IsInts w.heap.size w sa sz)(hd:IsInts w.heap.size w da dz)(hs':IsInts w.heap.size w sa' sz')(hd':IsInts w.heap.size w da' dz')(hf:flawE c sz dz≠0):
  Calls Tryz.prog 206 #[.agg #[.bool c,.slice sa sz.length sc,.slice da dz.length dc],.agg #[.bool c',.slice sa' sz'.length sc',.slice da' dz'.length dc']] w fun e w'=>e=.returned (.tuple #[.bool false,.iface 28 (.int .i64 (flawE c sz dz))])/\Below w.heap.size w w':=by
 have HB0:Hid (Below w.heap.size w ((w.alloc (.cells #[.bool c,.slice sa sz.length sc,.slice da dz.length dc] 27)).alloc (.cells #[.bool c',.slice sa' sz'.length sc',.slice da' dz'.length dc'] 27))):=((Below.refl _ w).alloc (Nat.le_refl _) _).alloc (by simp) _
 have HI:Hid (IsInts w.heap.size w sa sz/\IsInts w.heap.size w da dz/\IsInts w.heap.size w sa' sz'/\IsInts w.heap.size w da' dz'):=⟨hs,hd,hs',hd'⟩
 clear hs hd hs' hd'
 have HF:Hid (flawE c sz dz≠0):=hf
 clear hf
 go_enter Tryz.func206,Tryz.ntmps206
 go_wp2_with fail
 refine (check_no c sa sc sz da dc dz h1 h2 _ ((HI.1.below HB0.out).mono HB0.size) ((HI.2.1.below HB0.out).mono HB0.size) HF.out).mono ?_
 rintro e w1 ⟨rfl,hC1⟩
 have HB1:Hid (Below w.heap.size w w1):=HB0.trans (hC1.mono HB0.size)
 clear hC1
 go_wp2_with fail
 go_ret2
 exact⟨rfl,HB1.out⟩
theorem match_no2 (c c':Bool)(sa:Option Addr)(sc:Nat)(sz:List Int)(da:Option Addr)(dc:Nat)(dz:List Int)(sa':Option Addr)(sc':Nat)(sz':List Int)(da':Option Addr)(dc':Nat)(dz':List Int)
  (h1:sz.length<=9223372036854775807)(h2:dz.length<=9223372036854775807)(h1':sz'.length<=9223372036854775807)(h2':dz'.length<=9223372036854775807)(w:World)(hs:IsInts w.heap.size w sa sz)(hd:IsInts w.heap.size w da dz)(hs':IsInts w.heap.size w sa' sz')(hd':IsInts w.heap.size w da' dz')(hf:flawE c sz dz=0)(hf':flawE c' sz' dz'≠0):
  Calls Tryz.prog 206 #[.agg #[.bool c,.slice sa sz.length sc,.slice da dz.length dc],.agg #[.bool c',.slice sa' sz'.length sc',.slice da' dz'.length dc']] w fun e w'=>e=.returned (.tuple #[.bool false,.iface 28 (.int .i64 (flawE c' sz' dz'))])/\Below w.heap.size w w':=by
 have HB0:Hid (Below w.heap.size w ((w.alloc (.cells #[.bool c,.slice sa sz.length sc,.slice da dz.length dc] 27)).alloc (.cells #[.bool c',.slice sa' sz'.length sc',.slice da' dz'.length dc'] 27))):=((Below.refl _ w).alloc (Nat.le_refl _) _).alloc (by simp) _
 have HI:Hid (IsInts w.heap.size w sa sz/\IsInts w.heap.size w da dz/\IsInts w.heap.size w sa' sz'/\IsInts w.heap.size w da' dz'):=⟨hs,hd,hs',hd'⟩
 clear hs hd hs' hd'
 have HF:Hid (flawE c sz dz=0):=hf
 have HF':Hid (flawE c' sz' dz'≠0):=hf'
 clear hf hf'
 go_enter Tryz.func206,Tryz.ntmps206
 go_wp2_with fail
 refine (check_ok c sa sc sz da dc dz h1 h2 _ ((HI.1.below HB0.out).mono HB0.size) ((HI.2.1.below HB0.out).mono HB0.size) HF.out).mono ?_
 rintro e w1 ⟨rfl,hC1⟩
 have HB1:Hid (Below w.heap.size w w1):=HB0.trans (hC1.mono HB0.size)
 have c0:w1.cell? ⟨w.heap.size,0,none⟩=some (.bool c):=(hC1.cell (p:=⟨w.heap.size,0,none⟩) (by simp;omega)).trans (by simp)
 have c1:w1.cell? ⟨w.heap.size,1,none⟩=some (.slice sa sz.length sc):=(hC1.cell (p:=⟨w.heap.size,1,none⟩) (by simp;omega)).trans (by simp)
 have c2:w1.cell? ⟨w.heap.size,2,none⟩=some (.slice da dz.length dc):=(hC1.cell (p:=⟨w.heap.size,2,none⟩) (by simp;omega)).trans (by simp)
 have d0:w1.cell? ⟨w.heap.size+1,0,none⟩=some (.bool c'):=(hC1.cell (p:=⟨w.heap.size+1,0,none⟩) (by simp)).trans (by simp)
 have d1:w1.cell? ⟨w.heap.size+1,1,none⟩=some (.slice sa' sz'.length sc'):=(hC1.cell (p:=⟨w.heap.size+1,1,none⟩) (by simp)).trans (by simp)
 have d2:w1.cell? ⟨w.heap.size+1,2,none⟩=some (.slice da' dz'.length dc'):=(hC1.cell (p:=⟨w.heap.size+1,2,none⟩) (by simp)).trans (by simp)
 have HZ:Hid (w.heap.size+1+1<=w1.heap.size):=by have:=hC1.size;simp at this;exact this
 clear hC1
 go_wp2_with fail
 refine (check_no c' sa' sc' sz' da' dc' dz' h1' h2' w1 ((HI.2.2.1.below HB1.out).mono HB1.size) ((HI.2.2.2.below HB1.out).mono HB1.size) HF'.out).mono ?_
 rintro e w2 ⟨rfl,hC2⟩
 have HB2:Hid (Below w.heap.size w w2):=HB1.trans (hC2.mono HB1.size)
 clear hC2
 go_wp2_with fail
 go_ret2
 exact⟨rfl,HB2.out⟩
theorem match_ff (sa:Option Addr)(sc:Nat)(sz:List Int)(da:Option Addr)(dc:Nat)(dz:List Int)(sa':Option Addr)(sc':Nat)(sz':List Int)(da':Option Addr)(dc':Nat)(dz':List Int)
  (h1:sz.length<=9223372036854775807)(h2:dz.length<=9223372036854775807)(h1':sz'.length<=9223372036854775807)(h2':dz'.length<=9223372036854775807)(w:World)(hs:IsInts w.heap.size w sa sz)(hd:IsInts w.heap.size w da dz)(hs':IsInts w.heap.size w sa' sz')(hd':IsInts w.heap.size w da' dz')(hf:flawE false sz dz=0)(hf':flawE false sz' dz'=0):
  Calls Tryz.prog 206 #[.agg #[.bool false,.slice sa sz.length sc,.slice da dz.length dc],.agg #[.bool false,.slice sa' sz'.length sc',.slice da' dz'.length dc']] w fun e w'=>e=.returned (.tuple #[.bool (eqB sz sz' && eqB dz dz'),.nilIface])/\Below w.heap.size w w':=by
 have HB0:Hid (Below w.heap.size w ((w.alloc (.cells #[.bool false,.slice sa sz.length sc,.slice da dz.length dc] 27)).alloc (.cells #[.bool false,.slice sa' sz'.length sc',.slice da' dz'.length dc'] 27))):=((Below.refl _ w).alloc (Nat.le_refl _) _).alloc (by simp) _
 have HI:Hid (IsInts w.heap.size w sa sz/\IsInts w.heap.size w da dz/\IsInts w.heap.size w sa' sz'/\IsInts w.heap.size w da' dz'):=⟨hs,hd,hs',hd'⟩
 clear hs hd hs' hd'
 have HF:Hid (flawE false sz dz=0):=hf
 have HF':Hid (flawE false sz' dz'=0):=hf'
 clear hf hf'
 go_enter Tryz.func206,Tryz.ntmps206
 go_wp2_with fail
 refine (check_ok false sa sc sz da dc dz h1 h2 _ ((HI.1.below HB0.out).mono HB0.size) ((HI.2.1.below HB0.out).mono HB0.size) HF.out).mono ?_
 rintro e w1 ⟨rfl,hC1⟩
 have HB1:Hid (Below w.heap.size w w1):=HB0.trans (hC1.mono HB0.size)
 have c0:w1.cell? ⟨w.heap.size,0,none⟩=some (.bool false):=(hC1.cell (p:=⟨w.heap.size,0,none⟩) (by simp;omega)).trans (by simp)
 have c1:w1.cell? ⟨w.heap.size,1,none⟩=some (.slice sa sz.length sc):=(hC1.cell (p:=⟨w.heap.size,1,none⟩) (by simp;omega)).trans (by simp)
 have c2:w1.cell? ⟨w.heap.size,2,none⟩=some (.slice da dz.length dc):=(hC1.cell (p:=⟨w.heap.size,2,none⟩) (by simp;omega)).trans (by simp)
 have d0:w1.cell? ⟨w.heap.size+1,0,none⟩=some (.bool false):=(hC1.cell (p:=⟨w.heap.size+1,0,none⟩) (by simp)).trans (by simp)
 have d1:w1.cell? ⟨w.heap.size+1,1,none⟩=some (.slice sa' sz'.length sc'):=(hC1.cell (p:=⟨w.heap.size+1,1,none⟩) (by simp)).trans (by simp)
 have d2:w1.cell? ⟨w.heap.size+1,2,none⟩=some (.slice da' dz'.length dc'):=(hC1.cell (p:=⟨w.heap.size+1,2,none⟩) (by simp)).trans (by simp)
 have HZ:Hid (w.heap.size+1+1<=w1.heap.size):=by have:=hC1.size;simp at this;exact this
 clear hC1
 go_wp2_with fail
 refine (check_ok false sa' sc' sz' da' dc' dz' h1' h2' w1 ((HI.2.2.1.below HB1.out).mono HB1.size) ((HI.2.2.2.below HB1.out).mono HB1.size) HF'.out).mono ?_
 rintro e w2 ⟨rfl,hC2⟩
 have HB2:Hid (Below w.heap.size w w2):=HB1.trans (hC2.mono HB1.size)
 replace c0:w2.cell? ⟨w.heap.size,0,none⟩=some (.bool false):=(hC2.cell (p:=⟨w.heap.size,0,none⟩) (by have:=HZ.out;simp;omega)).trans c0
 replace c1:w2.cell? ⟨w.heap.size,1,none⟩=some (.slice sa sz.length sc):=(hC2.cell (p:=⟨w.heap.size,1,none⟩) (by have:=HZ.out;simp;omega)).trans c1
 replace c2:w2.cell? ⟨w.heap.size,2,none⟩=some (.slice da dz.length dc):=(hC2.cell (p:=⟨w.heap.size,2,none⟩) (by have:=HZ.out;simp;omega)).trans c2
 replace d0:w2.cell? ⟨w.heap.size+1,0,none⟩=some (.bool false):=(hC2.cell (p:=⟨w.heap.size+1,0,none⟩) (by have:=HZ.out;simp;omega)).trans d0
 replace d1:w2.cell? ⟨w.heap.size+1,1,none⟩=some (.slice sa' sz'.length sc'):=(hC2.cell (p:=⟨w.heap.size+1,1,none⟩) (by have:=HZ.out;simp;omega)).trans d1
 replace d2:w2.cell? ⟨w.heap.size+1,2,none⟩=some (.slice da' dz'.length dc'):=(hC2.cell (p:=⟨w.heap.size+1,2,none⟩) (by have:=HZ.out;simp;omega)).trans d2
 clear hC2
 go_wp2_with fail
 refine (equal_any sa sc sz sa' sc' sz' h1 w.heap.size w2 (HI.1.below HB2.out) (HI.2.2.1.below HB2.out)).mono ?_
 rintro e w3 ⟨rfl,m3,rfl⟩
 have HB3:Hid (Below w.heap.size w (w2.drewN m3)):=bel_drewN HB2.out m3
 cases hx:eqB sz sz'
 ·go_wp2_with fail
  go_ret2
  exact⟨ret2b (by rw[hx];rfl) rfl,HB3.out⟩
 ·go_wp2_with fail
  refine (equal_any da dc dz da' dc' dz' h2 w.heap.size _ (HI.2.1.below HB3.out) (HI.2.2.2.below HB3.out)).mono ?_
  rintro e w4 ⟨rfl,m4,rfl⟩
  have HB4:Hid (Below w.heap.size w ((w2.drewN m3).drewN m4)):=bel_drewN HB3.out m4
  go_wp2_with fail
  go_ret2
  exact⟨ret2b (by rw[hx];rfl) rfl,bel_drewN HB2.out _⟩
theorem match_tt (sa:Option Addr)(sc:Nat)(sz:List Int)(da:Option Addr)(dc:Nat)(dz:List Int)(sa':Option Addr)(sc':Nat)(sz':List Int)(da':Option Addr)(dc':Nat)(dz':List Int)
  (h1:sz.length<=9223372036854775807)(h2:dz.length<=9223372036854775807)(h1':sz'.length<=9223372036854775807)(h2':dz'.length<=9223372036854775807)(w:World)(hs:IsInts w.heap.size w sa sz)(hd:IsInts w.heap.size w da dz)(hs':IsInts w.heap.size w sa' sz')(hd':IsInts w.heap.size w da' dz')(hf:flawE true sz dz=0)(hf':flawE true sz' dz'=0):
  Calls Tryz.prog 206 #[.agg #[.bool true,.slice sa sz.length sc,.slice da dz.length dc],.agg #[.bool true,.slice sa' sz'.length sc',.slice da' dz'.length dc']] w fun e w'=>e=.returned (.tuple #[.bool (eqB sz sz' && eqB dz dz'),.nilIface])/\Below w.heap.size w w':=by
 have HB0:Hid (Below w.heap.size w ((w.alloc (.cells #[.bool true,.slice sa sz.length sc,.slice da dz.length dc] 27)).alloc (.cells #[.bool true,.slice sa' sz'.length sc',.slice da' dz'.length dc'] 27))):=((Below.refl _ w).alloc (Nat.le_refl _) _).alloc (by simp) _
 have HI:Hid (IsInts w.heap.size w sa sz/\IsInts w.heap.size w da dz/\IsInts w.heap.size w sa' sz'/\IsInts w.heap.size w da' dz'):=⟨hs,hd,hs',hd'⟩
 clear hs hd hs' hd'
 have HF:Hid (flawE true sz dz=0):=hf
 have HF':Hid (flawE true sz' dz'=0):=hf'
 clear hf hf'
 go_enter Tryz.func206,Tryz.ntmps206
 go_wp2_with fail
 refine (check_ok true sa sc sz da dc dz h1 h2 _ ((HI.1.below HB0.out).mono HB0.size) ((HI.2.1.below HB0.out).mono HB0.size) HF.out).mono ?_
 rintro e w1 ⟨rfl,hC1⟩
 have HB1:Hid (Below w.heap.size w w1):=HB0.trans (hC1.mono HB0.size)
 have c0:w1.cell? ⟨w.heap.size,0,none⟩=some (.bool true):=(hC1.cell (p:=⟨w.heap.size,0,none⟩) (by simp;omega)).trans (by simp)
 have c1:w1.cell? ⟨w.heap.size,1,none⟩=some (.slice sa sz.length sc):=(hC1.cell (p:=⟨w.heap.size,1,none⟩) (by simp;omega)).trans (by simp)
 have c2:w1.cell? ⟨w.heap.size,2,none⟩=some (.slice da dz.length dc):=(hC1.cell (p:=⟨w.heap.size,2,none⟩) (by simp;omega)).trans (by simp)
 have d0:w1.cell? ⟨w.heap.size+1,0,none⟩=some (.bool true):=(hC1.cell (p:=⟨w.heap.size+1,0,none⟩) (by simp)).trans (by simp)
 have d1:w1.cell? ⟨w.heap.size+1,1,none⟩=some (.slice sa' sz'.length sc'):=(hC1.cell (p:=⟨w.heap.size+1,1,none⟩) (by simp)).trans (by simp)
 have d2:w1.cell? ⟨w.heap.size+1,2,none⟩=some (.slice da' dz'.length dc'):=(hC1.cell (p:=⟨w.heap.size+1,2,none⟩) (by simp)).trans (by simp)
 have HZ:Hid (w.heap.size+1+1<=w1.heap.size):=by have:=hC1.size;simp at this;exact this
 clear hC1
 go_wp2_with fail
 refine (check_ok true sa' sc' sz' da' dc' dz' h1' h2' w1 ((HI.2.2.1.below HB1.out).mono HB1.size) ((HI.2.2.2.below HB1.out).mono HB1.size) HF'.out).mono ?_
 rintro e w2 ⟨rfl,hC2⟩
 have HB2:Hid (Below w.heap.size w w2):=HB1.trans (hC2.mono HB1.size)
 replace c0:w2.cell? ⟨w.heap.size,0,none⟩=some (.bool true):=(hC2.cell (p:=⟨w.heap.size,0,none⟩) (by have:=HZ.out;simp;omega)).trans c0
 replace c1:w2.cell? ⟨w.heap.size,1,none⟩=some (.slice sa sz.length sc):=(hC2.cell (p:=⟨w.heap.size,1,none⟩) (by have:=HZ.out;simp;omega)).trans c1
 replace c2:w2.cell? ⟨w.heap.size,2,none⟩=some (.slice da dz.length dc):=(hC2.cell (p:=⟨w.heap.size,2,none⟩) (by have:=HZ.out;simp;omega)).trans c2
 replace d0:w2.cell? ⟨w.heap.size+1,0,none⟩=some (.bool true):=(hC2.cell (p:=⟨w.heap.size+1,0,none⟩) (by have:=HZ.out;simp;omega)).trans d0
 replace d1:w2.cell? ⟨w.heap.size+1,1,none⟩=some (.slice sa' sz'.length sc'):=(hC2.cell (p:=⟨w.heap.size+1,1,none⟩) (by have:=HZ.out;simp;omega)).trans d1
 replace d2:w2.cell? ⟨w.heap.size+1,2,none⟩=some (.slice da' dz'.length dc'):=(hC2.cell (p:=⟨w.heap.size+1,2,none⟩) (by have:=HZ.out;simp;omega)).trans d2
 clear hC2
 go_wp2_with fail
 refine (equal_any sa sc sz sa' sc' sz' h1 w.heap.size w2 (HI.1.below HB2.out) (HI.2.2.1.below HB2.out)).mono ?_
 rintro e w3 ⟨rfl,m3,rfl⟩
 have HB3:Hid (Below w.heap.size w (w2.drewN m3)):=bel_drewN HB2.out m3
 cases hx:eqB sz sz'
 ·go_wp2_with fail
  go_ret2
  exact⟨ret2b (by rw[hx];rfl) rfl,HB3.out⟩
 ·go_wp2_with fail
  refine (equal_any da dc dz da' dc' dz' h2 w.heap.size _ (HI.2.1.below HB3.out) (HI.2.2.2.below HB3.out)).mono ?_
  rintro e w4 ⟨rfl,m4,rfl⟩
  have HB4:Hid (Below w.heap.size w ((w2.drewN m3).drewN m4)):=bel_drewN HB3.out m4
  go_wp2_with fail
  go_ret2
  exact⟨ret2b (by rw[hx];rfl) rfl,bel_drewN HB2.out _⟩
theorem match_ft (sa:Option Addr)(sc:Nat)(sz:List Int)(da:Option Addr)(dc:Nat)(dz:List Int)(sa':Option Addr)(sc':Nat)(sz':List Int)(da':Option Addr)(dc':Nat)(dz':List Int)
  (h1:sz.length<=9223372036854775807)(h2:dz.length<=9223372036854775807)(h1':sz'.length<=9223372036854775807)(h2':dz'.length<=9223372036854775807)(w:World)(hs:IsInts w.heap.size w sa sz)(hd:IsInts w.heap.size w da dz)(hs':IsInts w.heap.size w sa' sz')(hd':IsInts w.heap.size w da' dz')(hf:flawE false sz dz=0)(hf':flawE true sz' dz'=0):
  Calls Tryz.prog 206 #[.agg #[.bool false,.slice sa sz.length sc,.slice da dz.length dc],.agg #[.bool true,.slice sa' sz'.length sc',.slice da' dz'.length dc']] w fun e w'=>e=.returned (.tuple #[.bool (false),.nilIface])/\Below w.heap.size w w':=by
 have HB0:Hid (Below w.heap.size w ((w.alloc (.cells #[.bool false,.slice sa sz.length sc,.slice da dz.length dc] 27)).alloc (.cells #[.bool true,.slice sa' sz'.length sc',.slice da' dz'.length dc'] 27))):=((Below.refl _ w).alloc (Nat.le_refl _) _).alloc (by simp) _
 have HI:Hid (IsInts w.heap.size w sa sz/\IsInts w.heap.size w da dz/\IsInts w.heap.size w sa' sz'/\IsInts w.heap.size w da' dz'):=⟨hs,hd,hs',hd'⟩
 clear hs hd hs' hd'
 have HF:Hid (flawE false sz dz=0):=hf
 have HF':Hid (flawE true sz' dz'=0):=hf'
 clear hf hf'
 go_enter Tryz.func206,Tryz.ntmps206
 go_wp2_with fail
 refine (check_ok false sa sc sz da dc dz h1 h2 _ ((HI.1.below HB0.out).mono HB0.size) ((HI.2.1.below HB0.out).mono HB0.size) HF.out).mono ?_
 rintro e w1 ⟨rfl,hC1⟩
 have HB1:Hid (Below w.heap.size w w1):=HB0.trans (hC1.mono HB0.size)
 have c0:w1.cell? ⟨w.heap.size,0,none⟩=some (.bool false):=(hC1.cell (p:=⟨w.heap.size,0,none⟩) (by simp;omega)).trans (by simp)
 have c1:w1.cell? ⟨w.heap.size,1,none⟩=some (.slice sa sz.length sc):=(hC1.cell (p:=⟨w.heap.size,1,none⟩) (by simp;omega)).trans (by simp)
 have c2:w1.cell? ⟨w.heap.size,2,none⟩=some (.slice da dz.length dc):=(hC1.cell (p:=⟨w.heap.size,2,none⟩) (by simp;omega)).trans (by simp)
 have d0:w1.cell? ⟨w.heap.size+1,0,none⟩=some (.bool true):=(hC1.cell (p:=⟨w.heap.size+1,0,none⟩) (by simp)).trans (by simp)
 have d1:w1.cell? ⟨w.heap.size+1,1,none⟩=some (.slice sa' sz'.length sc'):=(hC1.cell (p:=⟨w.heap.size+1,1,none⟩) (by simp)).trans (by simp)
 have d2:w1.cell? ⟨w.heap.size+1,2,none⟩=some (.slice da' dz'.length dc'):=(hC1.cell (p:=⟨w.heap.size+1,2,none⟩) (by simp)).trans (by simp)
 have HZ:Hid (w.heap.size+1+1<=w1.heap.size):=by have:=hC1.size;simp at this;exact this
 clear hC1
 go_wp2_with fail
 refine (check_ok true sa' sc' sz' da' dc' dz' h1' h2' w1 ((HI.2.2.1.below HB1.out).mono HB1.size) ((HI.2.2.2.below HB1.out).mono HB1.size) HF'.out).mono ?_
 rintro e w2 ⟨rfl,hC2⟩
 have HB2:Hid (Below w.heap.size w w2):=HB1.trans (hC2.mono HB1.size)
 replace c0:w2.cell? ⟨w.heap.size,0,none⟩=some (.bool false):=(hC2.cell (p:=⟨w.heap.size,0,none⟩) (by have:=HZ.out;simp;omega)).trans c0
 replace c1:w2.cell? ⟨w.heap.size,1,none⟩=some (.slice sa sz.length sc):=(hC2.cell (p:=⟨w.heap.size,1,none⟩) (by have:=HZ.out;simp;omega)).trans c1
 replace c2:w2.cell? ⟨w.heap.size,2,none⟩=some (.slice da dz.length dc):=(hC2.cell (p:=⟨w.heap.size,2,none⟩) (by have:=HZ.out;simp;omega)).trans c2
 replace d0:w2.cell? ⟨w.heap.size+1,0,none⟩=some (.bool true):=(hC2.cell (p:=⟨w.heap.size+1,0,none⟩) (by have:=HZ.out;simp;omega)).trans d0
 replace d1:w2.cell? ⟨w.heap.size+1,1,none⟩=some (.slice sa' sz'.length sc'):=(hC2.cell (p:=⟨w.heap.size+1,1,none⟩) (by have:=HZ.out;simp;omega)).trans d1
 replace d2:w2.cell? ⟨w.heap.size+1,2,none⟩=some (.slice da' dz'.length dc'):=(hC2.cell (p:=⟨w.heap.size+1,2,none⟩) (by have:=HZ.out;simp;omega)).trans d2
 clear hC2
 go_wp2_with fail
 go_ret2
 exact⟨rfl,HB2.out⟩
theorem match_tf (sa:Option Addr)(sc:Nat)(sz:List Int)(da:Option Addr)(dc:Nat)(dz:List Int)(sa':Option Addr)(sc':Nat)(sz':List Int)(da':Option Addr)(dc':Nat)(dz':List Int)
  (h1:sz.length<=9223372036854775807)(h2:dz.length<=9223372036854775807)(h1':sz'.length<=9223372036854775807)(h2':dz'.length<=9223372036854775807)(w:World)(hs:IsInts w.heap.size w sa sz)(hd:IsInts w.heap.size w da dz)(hs':IsInts w.heap.size w sa' sz')(hd':IsInts w.heap.size w da' dz')(hf:flawE true sz dz=0)(hf':flawE false sz' dz'=0):
  Calls Tryz.prog 206 #[.agg #[.bool true,.slice sa sz.length sc,.slice da dz.length dc],.agg #[.bool false,.slice sa' sz'.length sc',.slice da' dz'.length dc']] w fun e w'=>e=.returned (.tuple #[.bool (false),.nilIface])/\Below w.heap.size w w':=by
 have HB0:Hid (Below w.heap.size w ((w.alloc (.cells #[.bool true,.slice sa sz.length sc,.slice da dz.length dc] 27)).alloc (.cells #[.bool false,.slice sa' sz'.length sc',.slice da' dz'.length dc'] 27))):=((Below.refl _ w).alloc (Nat.le_refl _) _).alloc (by simp) _
 have HI:Hid (IsInts w.heap.size w sa sz/\IsInts w.heap.size w da dz/\IsInts w.heap.size w sa' sz'/\IsInts w.heap.size w da' dz'):=⟨hs,hd,hs',hd'⟩
 clear hs hd hs' hd'
 have HF:Hid (flawE true sz dz=0):=hf
 have HF':Hid (flawE false sz' dz'=0):=hf'
 clear hf hf'
 go_enter Tryz.func206,Tryz.ntmps206
 go_wp2_with fail
 refine (check_ok true sa sc sz da dc dz h1 h2 _ ((HI.1.below HB0.out).mono HB0.size) ((HI.2.1.below HB0.out).mono HB0.size) HF.out).mono ?_
 rintro e w1 ⟨rfl,hC1⟩
 have HB1:Hid (Below w.heap.size w w1):=HB0.trans (hC1.mono HB0.size)
 have c0:w1.cell? ⟨w.heap.size,0,none⟩=some (.bool true):=(hC1.cell (p:=⟨w.heap.size,0,none⟩) (by simp;omega)).trans (by simp)
 have c1:w1.cell? ⟨w.heap.size,1,none⟩=some (.slice sa sz.length sc):=(hC1.cell (p:=⟨w.heap.size,1,none⟩) (by simp;omega)).trans (by simp)
 have c2:w1.cell? ⟨w.heap.size,2,none⟩=some (.slice da dz.length dc):=(hC1.cell (p:=⟨w.heap.size,2,none⟩) (by simp;omega)).trans (by simp)
 have d0:w1.cell? ⟨w.heap.size+1,0,none⟩=some (.bool false):=(hC1.cell (p:=⟨w.heap.size+1,0,none⟩) (by simp)).trans (by simp)
 have d1:w1.cell? ⟨w.heap.size+1,1,none⟩=some (.slice sa' sz'.length sc'):=(hC1.cell (p:=⟨w.heap.size+1,1,none⟩) (by simp)).trans (by simp)
 have d2:w1.cell? ⟨w.heap.size+1,2,none⟩=some (.slice da' dz'.length dc'):=(hC1.cell (p:=⟨w.heap.size+1,2,none⟩) (by simp)).trans (by simp)
 have HZ:Hid (w.heap.size+1+1<=w1.heap.size):=by have:=hC1.size;simp at this;exact this
 clear hC1
 go_wp2_with fail
 refine (check_ok false sa' sc' sz' da' dc' dz' h1' h2' w1 ((HI.2.2.1.below HB1.out).mono HB1.size) ((HI.2.2.2.below HB1.out).mono HB1.size) HF'.out).mono ?_
 rintro e w2 ⟨rfl,hC2⟩
 have HB2:Hid (Below w.heap.size w w2):=HB1.trans (hC2.mono HB1.size)
 replace c0:w2.cell? ⟨w.heap.size,0,none⟩=some (.bool true):=(hC2.cell (p:=⟨w.heap.size,0,none⟩) (by have:=HZ.out;simp;omega)).trans c0
 replace c1:w2.cell? ⟨w.heap.size,1,none⟩=some (.slice sa sz.length sc):=(hC2.cell (p:=⟨w.heap.size,1,none⟩) (by have:=HZ.out;simp;omega)).trans c1
 replace c2:w2.cell? ⟨w.heap.size,2,none⟩=some (.slice da dz.length dc):=(hC2.cell (p:=⟨w.heap.size,2,none⟩) (by have:=HZ.out;simp;omega)).trans c2
 replace d0:w2.cell? ⟨w.heap.size+1,0,none⟩=some (.bool false):=(hC2.cell (p:=⟨w.heap.size+1,0,none⟩) (by have:=HZ.out;simp;omega)).trans d0
 replace d1:w2.cell? ⟨w.heap.size+1,1,none⟩=some (.slice sa' sz'.length sc'):=(hC2.cell (p:=⟨w.heap.size+1,1,none⟩) (by have:=HZ.out;simp;omega)).trans d1
 replace d2:w2.cell? ⟨w.heap.size+1,2,none⟩=some (.slice da' dz'.length dc'):=(hC2.cell (p:=⟨w.heap.size+1,2,none⟩) (by have:=HZ.out;simp;omega)).trans d2
 clear hC2
 go_wp2_with fail
 go_ret2
 exact⟨rfl,HB2.out⟩
theorem match_any (c c':Bool)(sa:Option Addr)(sc:Nat)(sz:List Int)(da:Option Addr)(dc:Nat)(dz:List Int)(sa':Option Addr)(sc':Nat)(sz':List Int)(da':Option Addr)(dc':Nat)(dz':List Int)
  (h1:sz.length<=9223372036854775807)(h2:dz.length<=9223372036854775807)(h1':sz'.length<=9223372036854775807)(h2':dz'.length<=9223372036854775807)(w:World)(hs:IsInts w.heap.size w sa sz)(hd:IsInts w.heap.size w da dz)(hs':IsInts w.heap.size w sa' sz')(hd':IsInts w.heap.size w da' dz'):
  Calls Tryz.prog 206 #[.agg #[.bool c,.slice sa sz.length sc,.slice da dz.length dc],.agg #[.bool c',.slice sa' sz'.length sc',.slice da' dz'.length dc']] w fun e w'=>e=.returned (.tuple #[.bool (mtB c sz dz c' sz' dz'),errV (flawsE c sz dz c' sz' dz')])/\Below w.heap.size w w':=by
 by_cases hf:flawE c sz dz=0
 ·by_cases hf':flawE c' sz' dz'=0
  ·rw[mtB_ok hf hf',flawsE_zero.2 ⟨hf,hf'⟩,errV_zero]
   cases c<;>cases c'
   ·exact match_ff sa sc sz da dc dz sa' sc' sz' da' dc' dz' h1 h2 h1' h2' w hs hd hs' hd' hf hf'
   ·exact match_ft sa sc sz da dc dz sa' sc' sz' da' dc' dz' h1 h2 h1' h2' w hs hd hs' hd' hf hf'
   ·exact match_tf sa sc sz da dc dz sa' sc' sz' da' dc' dz' h1 h2 h1' h2' w hs hd hs' hd' hf hf'
   ·exact match_tt sa sc sz da dc dz sa' sc' sz' da' dc' dz' h1 h2 h1' h2' w hs hd hs' hd' hf hf'
  ·have e:flawsE c sz dz c' sz' dz'=flawE c' sz' dz':=by simp[flawsE,hf]
   have b:mtB c sz dz c' sz' dz'=false:=by unfold mtB;rw[e,decide_eq_false hf'];rfl
   rw[e,b,errV_pos hf']
   exact match_no2 c c' sa sc sz da dc dz sa' sc' sz' da' dc' dz' h1 h2 h1' h2' w hs hd hs' hd' hf hf'
 ·have e:flawsE c sz dz c' sz' dz'=flawE c sz dz:=by simp[flawsE,hf]
  have b:mtB c sz dz c' sz' dz'=false:=by unfold mtB;rw[e,decide_eq_false hf];rfl
  rw[e,b,errV_pos hf]
  exact match_no1 c c' sa sc sz da dc dz sa' sc' sz' da' dc' dz' h1 h2 h1' h2' w hs hd hs' hd' hf
end Go.Proofs.YtkmmkcpfhnifhaaGreatDoor
