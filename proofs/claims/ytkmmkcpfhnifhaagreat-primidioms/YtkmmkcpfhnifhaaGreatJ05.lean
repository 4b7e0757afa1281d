/- What the program tells, in part. -/
import Derived.Test.YtkmmkcpfhnifhaaGreatJ04
set_option linter.unusedVariables false
set_option maxHeartbeats 4000000
set_option maxRecDepth 100000
namespace Go.Proofs.YtkmmkcpfhnifhaaGreat
open Go.RowKit
theorem ret2b {a b:Bool}{v u:Value}(h:a=b)(h2:v=u):Ending.returned (.tuple #[.bool a,v])=.returned (.tuple #[.bool b,u]):=by rw[h,h2]
theorem match_no1 (c c':Bool)(sa:Option Addr)(sc:Nat)(sz:List Int)(da:Option Addr)(dc:Nat)(dz:List Int)(sa':Option Addr)(sc':Nat)(sz':List Int)(da':Option Addr)(dc':Nat)(dz':List Int)
  (h1:sz.length<=9223372036854775807)(h2:dz.length<=9223372036854775807)(h1':sz'.length<=9223372036854775807)(h2':dz'.length<=9223372036854775807)(w:World)(hs:IsInts w.heap.size w sa sz)(hd:IsInts w.heap.size w da dz)(hs':IsInts w.heap.size w sa' sz')(hd':IsInts w.heap.size w da' dz')(hf:flawE c sz dz≠0):
  Calls Tryz.prog 139 #[.agg #[.bool c,.slice sa sz.length sc,.slice da dz.length dc],.agg #[.bool c',.slice sa' sz'.length sc',.slice da' dz'.length dc']] w fun e w'=>e=.returned (.tuple #[.bool false,.iface 43 (.int .i64 (flawE c sz dz))])/\Below w.heap.size w w':=by
 have HB0:Hid (Below w.heap.size w ((w.alloc (.cells #[.bool c,.slice sa sz.length sc,.slice da dz.length dc] 24)).alloc (.cells #[.bool c',.slice sa' sz'.length sc',.slice da' dz'.length dc'] 24))):=((Below.refl _ w).alloc (Nat.le_refl _) _).alloc (by simp) _
 have HI:Hid (IsInts w.heap.size w sa sz/\IsInts w.heap.size w da dz/\IsInts w.heap.size w sa' sz'/\IsInts w.heap.size w da' dz'):=⟨hs,hd,hs',hd'⟩
 clear hs hd hs' hd'
 have HF:Hid (flawE c sz dz≠0):=hf
 clear hf
 go_enter Tryz.func139,Tryz.ntmps139
 go_wp2_with fail
 refine (check_no c sa sc sz da dc dz h1 h2 _ ((HI.1.below HB0.out).mono HB0.size) ((HI.2.1.below HB0.out).mono HB0.size) HF.out).mono ?_
 rintro e w1 ⟨rfl,hC1⟩
 have HB1:Hid (Below w.heap.size w w1):=HB0.trans (hC1.mono HB0.size)
 clear hC1
 go_wp2_with fail
 go_ret2
 exact⟨rfl,HB1.out⟩
theorem match_no2 (c c':Bool)(sa:Option Addr)(sc:Nat)(sz:List Int)(da:Option Addr)(dc:Nat)(dz:List Int)(sa':Option Addr)(sc':Nat)(sz':List Int)(da':Option Addr)(dc':Nat)(dz':List Int)
  (h1:sz.length<=9223372036854775807)(h2:dz.length<=9223372036854775807)(h1':sz'.length<=9223372036854775807)(h2':dz'.length<=9223372036854775807)(w:World)(hs:IsInts w.heap.size w sa sz)(hd:IsInts w.heap.size w da dz)(hs':IsInts w.heap.size w sa' sz')(hd':IsInts w.heap.size w da' dz')(hf:flawE c sz dz=0)(hf':flawE c' sz' dz'≠0):
  Calls Tryz.prog 139 #[.agg #[.bool c,.slice sa sz.length sc,.slice da dz.length dc],.agg #[.bool c',.slice sa' sz'.length sc',.slice da' dz'.length dc']] w fun e w'=>e=.returned (.tuple #[.bool false,.iface 43 (.int .i64 (flawE c' sz' dz'))])/\Below w.heap.size w w':=by
 have HB0:Hid (Below w.heap.size w ((w.alloc (.cells #[.bool c,.slice sa sz.length sc,.slice da dz.length dc] 24)).alloc (.cells #[.bool c',.slice sa' sz'.length sc',.slice da' dz'.length dc'] 24))):=((Below.refl _ w).alloc (Nat.le_refl _) _).alloc (by simp) _
 have HI:Hid (IsInts w.heap.size w sa sz/\IsInts w.heap.size w da dz/\IsInts w.heap.size w sa' sz'/\IsInts w.heap.size w da' dz'):=⟨hs,hd,hs',hd'⟩
 clear hs hd hs' hd'
 have HF:Hid (flawE c sz dz=0):=hf
 have HF':Hid (flawE c' sz' dz'≠0):=hf'
 clear hf hf'
 go_enter Tryz.func139,Tryz.ntmps139
 go_wp2_with fail
 refine (check_ok c sa sc sz da dc dz h1 h2 _ ((HI.1.below HB0.out).mono HB0.size) ((HI.2.1.below HB0.out).mono HB0.size) HF.out).mono ?_
 rintro e w1 ⟨rfl,hC1⟩
 have HB1:Hid (Below w.heap.size w w1):=HB0.trans (hC1.mono HB0.size)
 have c0:w1.cell? ⟨w.heap.size,0,none⟩=some (.bool c):=(hC1.cell (p:=⟨w.heap.size,0,none⟩) (by simp;omega)).trans (by simp)
 have c1:w1.cell? ⟨w.heap.size,1,none⟩=some (.slice sa sz.length sc):=(hC1.cell (p:=⟨w.heap.size,1,none⟩) (by simp;omega)).trans (by simp)
 have c2:w1.cell? ⟨w.heap.size,2,none⟩=some (.slice da dz.length dc):=(hC1.cell (p:=⟨w.heap.size,2,none⟩) (by simp;omega)).trans (by simp)
 have d0:w1.cell? ⟨w.heap.size+1,0,none⟩=some (.bool c'):=(hC1.cell (p:=⟨w.heap.size+1,0,none⟩) (by simp)).trans (by simp)
 have d1:w1.cell? ⟨w.heap.size+1,1,none⟩=some (.slice sa' sz'.length sc'):=(hC1.cell (p:=⟨w.heap.size+1,1,none⟩) (by simp)).trans (by simp)
 have d2:w1.cell? ⟨w.heap.size+1,2,none⟩=some (.slice da' dz'.length dc'):=(hC1.cell (p:=⟨w.heap.size+1,2,none⟩) (by simp)).trans (by simp)
 have HZ:Hid (w.heap.size+1+1<=w1.heap.size):=by have:=hC1.size;simp at this;exact this
 clear hC1
 go_wp2_with fail
 refine (check_no c' sa' sc' sz' da' dc' dz' h1' h2' w1 ((HI.2.2.1.below HB1.out).mono HB1.size) ((HI.2.2.2.below HB1.out).mono HB1.size) HF'.out).mono ?_
 rintro e w2 ⟨rfl,hC2⟩
 have HB2:Hid (Below w.heap.size w w2):=HB1.trans (hC2.mono HB1.size)
 clear hC2
 go_wp2_with fail
 go_ret2
 exact⟨rfl,HB2.out⟩
theorem match_ff (sa:Option Addr)(sc:Nat)(sz:List Int)(da:Option Addr)(dc:Nat)(dz:List Int)(sa':Option Addr)(sc':Nat)(sz':List Int)(da':Option Addr)(dc':Nat)(dz':List Int)
  (h1:sz.length<=9223372036854775807)(h2:dz.length<=9223372036854775807)(h1':sz'.length<=9223372036854775807)(h2':dz'.length<=9223372036854775807)(w:World)(hs:IsInts w.heap.size w sa sz)(hd:IsInts w.heap.size w da dz)(hs':IsInts w.heap.size w sa' sz')(hd':IsInts w.heap.size w da' dz')(hf:flawE false sz dz=0)(hf':flawE false sz' dz'=0):
  Calls Tryz.prog 139 #[.agg #[.bool false,.slice sa sz.length sc,.slice da dz.length dc],.agg #[.bool false,.slice sa' sz'.length sc',.slice da' dz'.length dc']] w fun e w'=>e=.returned (.tuple #[.bool (eqB sz sz' && eqB dz dz'),.nilIface])/\Below w.heap.size w w':=by
 have HB0:Hid (Below w.heap.size w ((w.alloc (.cells #[.bool false,.slice sa sz.length sc,.slice da dz.length dc] 24)).alloc (.cells #[.bool false,.slice sa' sz'.length sc',.slice da' dz'.length dc'] 24))):=((Below.refl _ w).alloc (Nat.le_refl _) _).alloc (by simp) _
 have HI:Hid (IsInts w.heap.size w sa sz/\IsInts w.heap.size w da dz/\IsInts w.heap.size w sa' sz'/\IsInts w.heap.size w da' dz'):=⟨hs,hd,hs',hd'⟩
 clear hs hd hs' hd'
 have HF:Hid (flawE false sz dz=0):=hf
 have HF':Hid (flawE false sz' dz'=0):=hf'
 clear hf hf'
 go_enter Tryz.func139,Tryz.ntmps139
 go_wp2_with fail
 refine (check_ok false sa sc sz da dc dz h1 h2 _ ((HI.1.below HB0.out).mono HB0.size) ((HI.2.1.below HB0.out).mono HB0.size) HF.out).mono ?_
 rintro e w1 ⟨rfl,hC1⟩
 have HB1:Hid (Below w.heap.size w w1):=HB0.trans (hC1.mono HB0.size)
 have c0:w1.cell? ⟨w.heap.size,0,none⟩=some (.bool false):=(hC1.cell (p:=⟨w.heap.size,0,none⟩) (by simp;omega)).trans (by simp)
 have c1:w1.cell? ⟨w.heap.size,1,none⟩=some (.slice sa sz.length sc):=(hC1.cell (p:=⟨w.heap.size,1,none⟩) (by simp;omega)).trans (by simp)
 have c2:w1.cell? ⟨w.heap.size,2,none⟩=some (.slice da dz.length dc):=(hC1.cell (p:=⟨w.heap.size,2,none⟩) (by simp;omega)).trans (by simp)
 have d0:w1.cell? ⟨w.heap.size+1,0,none⟩=some (.bool false):=(hC1.cell (p:=⟨w.heap.size+1,0,none⟩) (by simp)).trans (by simp)
 have d1:w1.cell? ⟨w.heap.size+1,1,none⟩=some (.slice sa' sz'.length sc'):=(hC1.cell (p:=⟨w.heap.size+1,1,none⟩) (by simp)).trans (by simp)
 have d2:w1.cell? ⟨w.heap.size+1,2,none⟩=some (.slice da' dz'.length dc'):=(hC1.cell (p:=⟨w.heap.size+1,2,none⟩) (by simp)).trans (by simp)
 have HZ:Hid (w.heap.size+1+1<=w1.heap.size):=by have:=hC1.size;simp at this;exact this
 clear hC1
 go_wp2_with fail
 refine (check_ok false sa' sc' sz' da' dc' dz' h1' h2' w1 ((HI.2.2.1.below HB1.out).mono HB1.size) ((HI.2.2.2.below HB1.out).mono HB1.size) HF'.out).mono ?_
 rintro e w2 ⟨rfl,hC2⟩
 have HB2:Hid (Below w.heap.size w w2):=HB1.trans (hC2.mono HB1.size)
 replace c0:w2.cell? ⟨w.heap.size,0,none⟩=some (.bool false):=(hC2.cell (p:=⟨w.heap.size,0,none⟩) (by have:=HZ.out;simp;omega)).trans c0
 replace c1:w2.cell? ⟨w.heap.size,1,none⟩=some (.slice sa sz.length sc):=(hC2.cell (p:=⟨w.heap.size,1,none⟩) (by have:=HZ.out;simp;omega)).trans c1
 replace c2:w2.cell? ⟨w.heap.size,2,none⟩=some (.slice da dz.length dc):=(hC2.cell (p:=⟨w.heap.size,2,none⟩) (by have:=HZ.out;simp;omega)).trans c2
 replace d0:w2.cell? ⟨w.heap.size+1,0,none⟩=some (.bool false):=(hC2.cell (p:=⟨w.heap.size+1,0,none⟩) (by have:=HZ.out;simp;omega)).trans d0
 replace d1:w2.cell? ⟨w.heap.size+1,1,none⟩=some (.slice sa' sz'.length sc'):=(hC2.cell (p:=⟨w.heap.size+1,1,none⟩) (by have:=HZ.out;simp;omega)).trans d1
 replace d2:w2.cell? ⟨w.heap.size+1,2,none⟩=some (.slice da' dz'.length dc'):=(hC2.cell (p:=⟨w.heap.size+1,2,none⟩) (by have:=HZ.out;simp;omega)).trans d2
 clear hC2
 go_wp2_with fail
 refine (equal_any sa sc sz sa' sc' sz' h1 w.heap.size w2 (HI.1.below HB2.out) (HI.2.2.1.below HB2.out)).mono ?_
 rintro e w3 ⟨rfl,m3,rfl⟩
 have HB3:Hid (Below w.heap.size w (w2.drewN m3)):=bel_drewN HB2.out m3
 cases hx:eqB sz sz'
 ·go_wp2_with fail
  go_ret2
  exact⟨ret2b (by rw[hx];rfl) rfl,HB3.out⟩
 ·go_wp2_with fail
  refine (equal_any da dc dz da' dc' dz' h2 w.heap.size _ (HI.2.1.below HB3.out) (HI.2.2.2.below HB3.out)).mono ?_
  rintro e w4 ⟨rfl,m4,rfl⟩
  have HB4:Hid (Below w.heap.size w ((w2.drewN m3).drewN m4)):=bel_drewN HB3.out m4
  go_wp2_with fail
  go_ret2
  exact⟨ret2b (by rw[hx];rfl) rfl,bel_drewN HB2.out _⟩
theorem match_tt (sa:Option Addr)(sc:Nat)(sz:List Int)(da:Option Addr)(dc:Nat)(dz:List Int)(sa':Option Addr)(sc':Nat)(sz':List Int)(da':Option Addr)(dc':Nat)(dz':List Int)
  (h1:sz.length<=9223372036854775807)(h2:dz.length<=9223372036854775807)(h1':sz'.length<=9223372036854775807)(h2':dz'.length<=9223372036854775807)(w:World)(hs:IsInts w.heap.size w sa sz)(hd:IsInts w.heap.size w da dz)(hs':IsInts w.heap.size w sa' sz')(hd':IsInts w.heap.size w da' dz')(hf:flawE true sz dz=0)(hf':flawE true sz' dz'=0):
  Calls Tryz.prog 139 #[.agg #[.bool true,.slice sa sz.length sc,.slice da dz.length dc],.agg #[.bool true,.slice sa' sz'.length sc',.slice da' dz'.length dc']] w fun e w'=>e=.returned (.tuple #[.bool (eqB sz sz' && eqB dz dz'),.nilIface])/\Below w.heap.size w w':=by
 have HB0:Hid (Below w.heap.size w ((w.alloc (.cells #[.bool true,.slice sa sz.length sc,.slice da dz.length dc] 24)).alloc (.cells #[.bool true,.slice sa' sz'.length sc',.slice da' dz'.length dc'] 24))):=((Below.refl _ w).alloc (Nat.le_refl _) _).alloc (by simp) _
 have HI:Hid (IsInts w.heap.size w sa sz/\IsInts w.heap.size w da dz/\IsInts w.heap.size w sa' sz'/\IsInts w.heap.size w da' dz'):=⟨hs,hd,hs',hd'⟩
 clear hs hd hs' hd'
 have HF:Hid (flawE true sz dz=0):=hf
 have HF':Hid (flawE true sz' dz'=0):=hf'
 clear hf hf'
 go_enter Tryz.func139,Tryz.ntmps139
 go_wp2_with fail
 refine (check_ok true sa sc sz da dc dz h1 h2 _ ((HI.1.below HB0.out).mono HB0.size) ((HI.2.1.below HB0.out).mono HB0.size) HF.out).mono ?_
 rintro e w1 ⟨rfl,hC1⟩
 have HB1:Hid (Below w.heap.size w w1):=HB0.trans (hC1.mono HB0.size)
 have c0:w1.cell? ⟨w.heap.size,0,none⟩=some (.bool true):=(hC1.cell (p:=⟨w.heap.size,0,none⟩) (by simp;omega)).trans (by simp)
 have c1:w1.cell? ⟨w.heap.size,1,none⟩=some (.slice sa sz.length sc):=(hC1.cell (p:=⟨w.heap.size,1,none⟩) (by simp;omega)).trans (by simp)
 have c2:w1.cell? ⟨w.heap.size,2,none⟩=some (.slice da dz.length dc):=(hC1.cell (p:=⟨w.heap.size,2,none⟩) (by simp;omega)).trans (by simp)
 have d0:w1.cell? ⟨w.heap.size+1,0,none⟩=some (.bool true):=(hC1.cell (p:=⟨w.heap.size+1,0,none⟩) (by simp)).trans (by simp)
 have d1:w1.cell? ⟨w.heap.size+1,1,none⟩=some (.slice sa' sz'.length sc'):=(hC1.cell (p:=⟨w.heap.size+1,1,none⟩) (by simp)).trans (by simp)
 have d2:w1.cell? ⟨w.heap.size+1,2,none⟩=some (.slice da' dz'.length dc'):=(hC1.cell (p:=⟨w.heap.size+1,2,none⟩) (by simp)).trans (by simp)
 have HZ:Hid (w.heap.size+1+1<=w1.heap.size):=by have:=hC1.size;simp at this;exact this
 clear hC1
 go_wp2_with fail
 refine (check_ok true sa' sc' sz' da' dc' dz' h1' h2' w1 ((HI.2.2.1.below HB1.out).mono HB1.size) ((HI.2.2.2.below HB1.out).mono HB1.size) HF'.out).mono ?_
 rintro e w2 ⟨rfl,hC2⟩
 have HB2:Hid (Below w.heap.size w w2):=HB1.trans (hC2.mono HB1.size)
 replace c0:w2.cell? ⟨w.heap.size,0,none⟩=some (.bool true):=(hC2.cell (p:=⟨w.heap.size,0,none⟩) (by have:=HZ.out;simp;omega)).trans c0
 replace c1:w2.cell? ⟨w.heap.size,1,none⟩=some (.slice sa sz.length sc):=(hC2.cell (p:=⟨w.heap.size,1,none⟩) (by have:=HZ.out;simp;omega)).trans c1
 replace c2:w2.cell? ⟨w.heap.size,2,none⟩=some (.slice da dz.length dc):=(hC2.cell (p:=⟨w.heap.size,2,none⟩) (by have:=HZ.out;simp;omega)).trans c2
 replace d0:w2.cell? ⟨w.heap.size+1,0,none⟩=some (.bool true):=(hC2.cell (p:=⟨w.heap.size+1,0,none⟩) (by have:=HZ.out;simp;omega)).trans d0
 replace d1:w2.cell? ⟨w.heap.size+1,1,none⟩=some (.slice sa' sz'.length sc'):=(hC2.cell (p:=⟨w.heap.size+1,1,none⟩) (by have:=HZ.out;simp;omega)).trans d1
 replace d2:w2.cell? ⟨w.heap.size+1,2,none⟩=some (.slice da' dz'.length dc'):=(hC2.cell (p:=⟨w.heap.size+1,2,none⟩) (by have:=HZ.out;simp;omega)).trans d2
 clear hC2
 go_wp2_with fail
 refine (equal_any sa sc sz sa' sc' sz' h1 w.heap.size w2 (HI.1.below HB2.out) (HI.2.2.1.below HB2.out)).mono ?_
 rintro e w3 ⟨rfl,m3,rfl⟩
 have HB3:Hid (Below w.heap.size w (w2.drewN m3)):=bel_drewN HB2.out m3
 cases hx:eqB sz sz'
 ·go_wp2_with fail
  go_ret2
  exact⟨ret2b (by rw[hx];rfl) rfl,HB3.out⟩
 ·go_wp2_with fail
  refine (equal_any da dc dz da' dc' dz' h2 w.heap.size _ (HI.2.1.below HB3.out) (HI.2.2.2.below HB3.out)).mono ?_
  rintro e w4 ⟨rfl,m4,rfl⟩
  have HB4:Hid (Below w.heap.size w ((w2.drewN m3).drewN m4)):=bel_drewN HB3.out m4
  go_wp2_with fail
  go_ret2
  exact⟨ret2b (by rw[hx];rfl) rfl,bel_drewN HB2.out _⟩
theorem match_ft (sa:Option Addr)(sc:Nat)(sz:List Int)(da:Option Addr)(dc:Nat)(dz:List Int)(sa':Option Addr)(sc':Nat)(sz':List Int)(da':Option Addr)(dc':Nat)(dz':List Int)
  (h1:sz.length<=9223372036854775807)(h2:dz.length<=9223372036854775807)(h1':sz'.length<=9223372036854775807)(h2':dz'.length<=9223372036854775807)(w:World)(hs:IsInts w.heap.size w sa sz)(hd:IsInts w.heap.size w da dz)(hs':IsInts w.heap.size w sa' sz')(hd':IsInts w.heap.size w da' dz')(hf:flawE false sz dz=0)(hf':flawE true sz' dz'=0):
  Calls Tryz.prog 139 #[.agg #[.bool false,.slice sa sz.length sc,.slice da dz.length dc],.agg #[.bool true,.slice sa' sz'.length sc',.slice da' dz'.length dc']] w fun e w'=>e=.returned (.tuple #[.bool (false),.nilIface])/\Below w.heap.size w w':=by
 have HB0:Hid (Below w.heap.size w ((w.alloc (.cells #[.bool false,.slice sa sz.length sc,.slice da dz.length dc] 24)).alloc (.cells #[.bool true,.slice sa' sz'.length sc',.slice da' dz'.length dc'] 24))):=((Below.refl _ w).alloc (Nat.le_refl _) _).alloc (by simp) _
 have HI:Hid (IsInts w.heap.size w sa sz/\IsInts w.heap.size w da dz/\IsInts w.heap.size w sa' sz'/\IsInts w.heap.size w da' dz'):=⟨hs,hd,hs',hd'⟩
 clear hs hd hs' hd'
 have HF:Hid (flawE false sz dz=0):=hf
 have HF':Hid (flawE true sz' dz'=0):=hf'
 clear hf hf'
 go_enter Tryz.func139,Tryz.ntmps139
 go_wp2_with fail
 refine (check_ok false sa sc sz da dc dz h1 h2 _ ((HI.1.below HB0.out).mono HB0.size) ((HI.2.1.below HB0.out).mono HB0.size) HF.out).mono ?_
 rintro e w1 ⟨rfl,hC1⟩
 have HB1:Hid (Below w.heap.size w w1):=HB0.trans (hC1.mono HB0.size)
 have c0:w1.cell? ⟨w.heap.size,0,none⟩=some (.bool false):=(hC1.cell (p:=⟨w.heap.size,0,none⟩) (by simp;omega)).trans (by simp)
 have c1:w1.cell? ⟨w.heap.size,1,none⟩=some (.slice sa sz.length sc):=(hC1.cell (p:=⟨w.heap.size,1,none⟩) (by simp;omega)).trans (by simp)
 have c2:w1.cell? ⟨w.heap.size,2,none⟩=some (.slice da dz.length dc):=(hC1.cell (p:=⟨w.heap.size,2,none⟩) (by simp;omega)).trans (by simp)
 have d0:w1.cell? ⟨w.heap.size+1,0,none⟩=some (.bool true):=(hC1.cell (p:=⟨w.heap.size+1,0,none⟩) (by simp)).trans (by simp)
 have d1:w1.cell? ⟨w.heap.size+1,1,none⟩=some (.slice sa' sz'.length sc'):=(hC1.cell (p:=⟨w.heap.size+1,1,none⟩) (by simp)).trans (by simp)
 have d2:w1.cell? ⟨w.heap.size+1,2,none⟩=some (.slice da' dz'.length dc'):=(hC1.cell (p:=⟨w.heap.size+1,2,none⟩) (by simp)).trans (by simp)
 have HZ:Hid (w.heap.size+1+1<=w1.heap.size):=by have:=hC1.size;simp at this;exact this
 clear hC1
 go_wp2_with fail
 refine (check_ok true sa' sc' sz' da' dc' dz' h1' h2' w1 ((HI.2.2.1.below HB1.out).mono HB1.size) ((HI.2.2.2.below HB1.out).mono HB1.size) HF'.out).mono ?_
 rintro e w2 ⟨rfl,hC2⟩
 have HB2:Hid (Below w.heap.size w w2):=HB1.trans (hC2.mono HB1.size)
 replace c0:w2.cell? ⟨w.heap.size,0,none⟩=some (.bool false):=(hC2.cell (p:=⟨w.heap.size,0,none⟩) (by have:=HZ.out;simp;omega)).trans c0
 replace c1:w2.cell? ⟨w.heap.size,1,none⟩=some (.slice sa sz.length sc):=(hC2.cell (p:=⟨w.heap.size,1,none⟩) (by have:=HZ.out;simp;omega)).trans c1
 replace c2:w2.cell? ⟨w.heap.size,2,none⟩=some (.slice da dz.length dc):=(hC2.cell (p:=⟨w.heap.size,2,none⟩) (by have:=HZ.out;simp;omega)).trans c2
 replace d0:w2.cell? ⟨w.heap.size+1,0,none⟩=some (.bool true):=(hC2.cell (p:=⟨w.heap.size+1,0,none⟩) (by have:=HZ.out;simp;omega)).trans d0
 replace d1:w2.cell? ⟨w.heap.size+1,1,none⟩=some (.slice sa' sz'.length sc'):=(hC2.cell (p:=⟨w.heap.size+1,1,none⟩) (by have:=HZ.out;simp;omega)).trans d1
 replace d2:w2.cell? ⟨w.heap.size+1,2,none⟩=some (.slice da' dz'.length dc'):=(hC2.cell (p:=⟨w.heap.size+1,2,none⟩) (by have:=HZ.out;simp;omega)).trans d2
 clear hC2
 go_wp2_with fail
 go_ret2
 exact⟨rfl,HB2.out⟩
theorem match_tf (sa:Option Addr)(sc:Nat)(sz:List Int)(da:Option Addr)(dc:Nat)(dz:List Int)(sa':Option Addr)(sc':Nat)(sz':List Int)(da':Option Addr)(dc':Nat)(dz':List Int)
  (h1:sz.length<=9223372036854775807)(h2:dz.length<=9223372036854775807)(h1':sz'.length<=9223372036854775807)(h2':dz'.length<=9223372036854775807)(w:World)(hs:IsInts w.heap.size w sa sz)(hd:IsInts w.heap.size w da dz)(hs':IsInts w.heap.size w sa' sz')(hd':IsInts w.heap.size w da' dz')(hf:flawE true sz dz=0)(hf':flawE false sz' dz'=0):
  Calls Tryz.prog 139 #[.agg #[.bool true,.slice sa sz.length sc,.slice da dz.length dc],.agg #[.bool false,.slice sa' sz'.length sc',.slice da' dz'.length dc']] w fun e w'=>e=.returned (.tuple #[.bool (false),.nilIface])/\Below w.heap.size w w':=by
 have HB0:Hid (Below w.heap.size w ((w.alloc (.cells #[.bool true,.slice sa sz.length sc,.slice da dz.length dc] 24)).alloc (.cells #[.bool false,.slice sa' sz'.length sc',.slice da' dz'.length dc'] 24))):=((Below.refl _ w).alloc (Nat.le_refl _) _).alloc (by simp) _
 have HI:Hid (IsInts w.heap.size w sa sz/\IsInts w.heap.size w da dz/\IsInts w.heap.size w sa' sz'/\IsInts w.heap.size w da' dz'):=⟨hs,hd,hs',hd'⟩
 clear hs hd hs' hd'
 have HF:Hid (flawE true sz dz=0):=hf
 have HF':Hid (flawE false sz' dz'=0):=hf'
 clear hf hf'
 go_enter Tryz.func139,Tryz.ntmps139
 go_wp2_with fail
 refine (check_ok true sa sc sz da dc dz h1 h2 _ ((HI.1.below HB0.out).mono HB0.size) ((HI.2.1.below HB0.out).mono HB0.size) HF.out).mono ?_
 rintro e w1 ⟨rfl,hC1⟩
 have HB1:Hid (Below w.heap.size w w1):=HB0.trans (hC1.mono HB0.size)
 have c0:w1.cell? ⟨w.heap.size,0,none⟩=some (.bool true):=(hC1.cell (p:=⟨w.heap.size,0,none⟩) (by simp;omega)).trans (by simp)
 have c1:w1.cell? ⟨w.heap.size,1,none⟩=some (.slice sa sz.length sc):=(hC1.cell (p:=⟨w.heap.size,1,none⟩) (by simp;omega)).trans (by simp)
 have c2:w1.cell? ⟨w.heap.size,2,none⟩=some (.slice da dz.length dc):=(hC1.cell (p:=⟨w.heap.size,2,none⟩) (by simp;omega)).trans (by simp)
 have d0:w1.cell? ⟨w.heap.size+1,0,none⟩=some (.bool false):=(hC1.cell (p:=⟨w.heap.size+1,0,none⟩) (by simp)).trans (by simp)
 have d1:w1.cell? ⟨w.heap.size+1,1,none⟩=some (.slice sa' sz'.length sc'):=(hC1.cell (p:=⟨w.heap.size+1,1,none⟩) (by simp)).trans (by simp)
 have d2:w1.cell? ⟨w.heap.size+1,2,none⟩=some (.slice da' dz'.length dc'):=(hC1.cell (p:=⟨w.heap.size+1,2,none⟩) (by simp)).trans (by simp)
 have HZ:Hid (w.heap.size+1+1<=w1.heap.size):=by have:=hC1.size;simp at this;exact this
 clear hC1
 go_wp2_with fail
 refine (check_ok false sa' sc' sz' da' dc' dz' h1' h2' w1 ((HI.2.2.1.below HB1.out).mono HB1.size) ((HI.2.2.2.below HB1.out).mono HB1.size) HF'.out).mono ?_
 rintro e w2 ⟨rfl,hC2⟩
 have HB2:Hid (Below w.heap.size w w2):=HB1.trans (hC2.mono HB1.size)
 replace c0:w2.cell? ⟨w.heap.size,0,none⟩=some (.bool true):=(hC2.cell (p:=⟨w.heap.size,0,none⟩) (by have:=HZ.out;simp;omega)).trans c0
 replace c1:w2.cell? ⟨w.heap.size,1,none⟩=some (.slice sa sz.length sc):=(hC2.cell (p:=⟨w.heap.size,1,none⟩) (by have:=HZ.out;simp;omega)).trans c1
 replace c2:w2.cell? ⟨w.heap.size,2,none⟩=some (.slice da dz.length dc):=(hC2.cell (p:=⟨w.heap.size,2,none⟩) (by have:=HZ.out;simp;omega)).trans c2
 replace d0:w2.cell? ⟨w.heap.size+1,0,none⟩=some (.bool false):=(hC2.cell (p:=⟨w.heap.size+1,0,none⟩) (by have:=HZ.out;simp;omega)).trans d0
 replace d1:w2.cell? ⟨w.heap.size+1,1,none⟩=some (.slice sa' sz'.length sc'):=(hC2.cell (p:=⟨w.heap.size+1,1,none⟩) (by have:=HZ.out;simp;omega)).trans d1
 replace d2:w2.cell? ⟨w.heap.size+1,2,none⟩=some (.slice da' dz'.length dc'):=(hC2.cell (p:=⟨w.heap.size+1,2,none⟩) (by have:=HZ.out;simp;omega)).trans d2
 clear hC2
 go_wp2_with fail
 go_ret2
 exact⟨rfl,HB2.out⟩
theorem match_any (c c':Bool)(sa:Option Addr)(sc:Nat)(sz:List Int)(da:Option Addr)(dc:Nat)(dz:List Int)(sa':Option Addr)(sc':Nat)(sz':List Int)(da':Option Addr)(dc':Nat)(dz':List Int)
  (h1:sz.length<=9223372036854775807)(h2:dz.length<=9223372036854775807)(h1':sz'.length<=9223372036854775807)(h2':dz'.length<=9223372036854775807)(w:World)(hs:IsInts w.heap.size w sa sz)(hd:IsInts w.heap.size w da dz)(hs':IsInts w.heap.size w sa' sz')(hd':IsInts w.heap.size w da' dz'):
  Calls Tryz.prog 139 #[.agg #[.bool c,.slice sa sz.length sc,.slice da dz.length dc],.agg #[.bool c',.slice sa' sz'.length sc',.slice da' dz'.length dc']] w fun e w'=>e=.returned (.tuple #[.bool (mtB c sz dz c' sz' dz'),errV (flawsE c sz dz c' sz' dz')])/\Below w.heap.size w w':=by
 by_cases hf:flawE c sz dz=0
 ·by_cases hf':flawE c' sz' dz'=0
  ·rw[mtB_ok hf hf',flawsE_zero.2 ⟨hf,hf'⟩,errV_zero]
   cases c<;>cases c'
   ·exact match_ff sa sc sz da dc dz sa' sc' sz' da' dc' dz' h1 h2 h1' h2' w hs hd hs' hd' hf hf'
   ·exact match_ft sa sc sz da dc dz sa' sc' sz' da' dc' dz' h1 h2 h1' h2' w hs hd hs' hd' hf hf'
   ·exact match_tf sa sc sz da dc dz sa' sc' sz' da' dc' dz' h1 h2 h1' h2' w hs hd hs' hd' hf hf'
   ·exact match_tt sa sc sz da dc dz sa' sc' sz' da' dc' dz' h1 h2 h1' h2' w hs hd hs' hd' hf hf'
  ·have e:flawsE c sz dz c' sz' dz'=flawE c' sz' dz':=by simp[flawsE,hf]
   have b:mtB c sz dz c' sz' dz'=false:=by unfold mtB;rw[e,decide_eq_false hf'];rfl
   rw[e,b,errV_pos hf']
   exact match_no2 c c' sa sc sz da dc dz sa' sc' sz' da' dc' dz' h1 h2 h1' h2' w hs hd hs' hd' hf hf'
 ·have e:flawsE c sz dz c' sz' dz'=flawE c sz dz:=by simp[flawsE,hf]
  have b:mtB c sz dz c' sz' dz'=false:=by unfold mtB;rw[e,decide_eq_false hf];rfl
  rw[e,b,errV_pos hf]
  exact match_no1 c c' sa sc sz da dc dz sa' sc' sz' da' dc' dz' h1 h2 h1' h2' w hs hd hs' hd' hf
theorem pmatch_t  (c:Bool)(sa:Option Addr)(sc:Nat)(sz:List Int)(da:Option Addr)(dc:Nat)(dz:List Int)(c':Bool)(sa':Option Addr)(sc':Nat)(sz':List Int)(da':Option Addr)(dc':Nat)(dz':List Int)(w:World)(hA:ArF w c sa sc sz da dc dz)(hA':ArF w c' sa' sc' sz' da' dc' dz')(h:mtB c sz dz c' sz' dz'=true):
  Calls Tryz.prog 76 #[.agg #[.bool c,.slice sa sz.length sc,.slice da dz.length dc],.agg #[.bool c',.slice sa' sz'.length sc',.slice da' dz'.length dc']] w (AnP (anA false [] [1]) w):=by
 have HA:Hid (ArF w c sa sc sz da dc dz/\ArF w c' sa' sc' sz' da' dc' dz'):=⟨hA,hA'⟩
 have h6:=hA.s6.1
 have h6':=hA'.s6.1
 clear hA hA'
 have h':Hid (mtB c sz dz c' sz' dz'=true):=h
 clear h
 obtain⟨hb,pa,pb,pr⟩:=ent2 w (.bool c) (.slice sa sz.length sc) (.slice da dz.length dc) (.bool c') (.slice sa' sz'.length sc') (.slice da' dz'.length dc')
 have a0:=pa.c0
 have a1:=pa.c1
 have a2:=pa.c2
 have b0:=pb.c0
 have b1:=pb.c1
 have b2:=pb.c2
 have hz0:=hb.size
 have hlt0:=pr.lt
 go_enter Tryz.func76,Tryz.ntmps76
 go_wp2_with fail
 have HM:Hid (Calls Tryz.prog 139 #[.agg #[.bool c,.slice sa sz.length sc,.slice da dz.length dc],.agg #[.bool c',.slice sa' sz'.length sc',.slice da' dz'.length dc']] (((w.alloc (.cells #[.bool c,.slice sa sz.length sc,.slice da dz.length dc] 24)).alloc (.cells #[.bool c',.slice sa' sz'.length sc',.slice da' dz'.length dc'] 24)).alloc (.cells #[.bool false,.slice none 0 0,.slice none 0 0] 24)) (fun e w''=>e=.returned (.tuple #[.bool true,.nilIface])/\Below ((((w.alloc (.cells #[.bool c,.slice sa sz.length sc,.slice da dz.length dc] 24)).alloc (.cells #[.bool c',.slice sa' sz'.length sc',.slice da' dz'.length dc'] 24)).alloc (.cells #[.bool false,.slice none 0 0,.slice none 0 0] 24))).heap.size (((w.alloc (.cells #[.bool c,.slice sa sz.length sc,.slice da dz.length dc] 24)).alloc (.cells #[.bool c',.slice sa' sz'.length sc',.slice da' dz'.length dc'] 24)).alloc (.cells #[.bool false,.slice none 0 0,.slice none 0 0] 24)) w'')):=by show Calls _ _ _ _ _;refine (match_any c c' sa sc sz da dc dz sa' sc' sz' da' dc' dz' HA.1.h1 HA.1.h2 HA.2.h1 HA.2.h2 _ (HA.1.go hb.out).1.1 (HA.1.go hb.out).2.1.1 (HA.2.go hb.out).1.1 (HA.2.go hb.out).2.1.1).mono ?_;intro e w'' k;rw[h'.out,show flawsE c sz dz c' sz' dz'=0 by unfold flawsE;rw[if_pos HA.1.2.2.2];exact HA.2.2.2.2] at k;exact k
 refine (HM.out).mono ?_
 rintro e v1 ⟨rfl,hB⟩
 have hz1:=hB.size
 replace pr:=goA16 pr hB
 replace hb:=goB16 hb hB
 clear hB
 clear HM pa pb
 clear a0 a1 a2
 clear b0 b1 b2
 go_wp2_with fail
 refine (psingle_any (1) _).mono ?_
 rintro e' v9 ⟨ga',rfl,hY,hB⟩
 have HY:Hid (NewC _ v9 ga' [1] 1):=hY
 have hlt9:=pr.lt
 have hz9:=hB.size
 replace pr:=goA16 pr hB
 replace hb:=goB16 hb hB
 clear hY hB
 have r0:=pr.c0
 have r1:=pr.c1
 have r2:=pr.c2
 have f0:=pr.fr 0
 have f1:=pr.fr 1
 have f2:=pr.fr 2
 go_wp2_with fail
 have FF:=pr.set3 (.bool false) (.slice none 0 0) (.slice ga' 1 1)
 have q0:=FF.c0
 have q1:=FF.c1
 have q2:=FF.c2
 exact bodyPost_ret (v:=.tuple #[.agg #[.bool false,.slice none 0 0,.slice ga' 1 1],.nilIface]) (by simp[results,Tryz.results76,go_sem,q0,q1,q2]) rfl (ok16 (S:=[]) (D:=[1]) rfl rfl rfl (by omega) hlt9 (by omega) ⟨.inl rfl,Nat.le_refl _⟩ HY.out hb.out _ _ _)
theorem pmatch_f  (c:Bool)(sa:Option Addr)(sc:Nat)(sz:List Int)(da:Option Addr)(dc:Nat)(dz:List Int)(c':Bool)(sa':Option Addr)(sc':Nat)(sz':List Int)(da':Option Addr)(dc':Nat)(dz':List Int)(w:World)(hA:ArF w c sa sc sz da dc dz)(hA':ArF w c' sa' sc' sz' da' dc' dz')(h:mtB c sz dz c' sz' dz'=false):
  Calls Tryz.prog 76 #[.agg #[.bool c,.slice sa sz.length sc,.slice da dz.length dc],.agg #[.bool c',.slice sa' sz'.length sc',.slice da' dz'.length dc']] w (AnP (anA false [] [0]) w):=by
 have HA:Hid (ArF w c sa sc sz da dc dz/\ArF w c' sa' sc' sz' da' dc' dz'):=⟨hA,hA'⟩
 have h6:=hA.s6.1
 have h6':=hA'.s6.1
 clear hA hA'
 have h':Hid (mtB c sz dz c' sz' dz'=false):=h
 clear h
 obtain⟨hb,pa,pb,pr⟩:=ent2 w (.bool c) (.slice sa sz.length sc) (.slice da dz.length dc) (.bool c') (.slice sa' sz'.length sc') (.slice da' dz'.length dc')
 have a0:=pa.c0
 have a1:=pa.c1
 have a2:=pa.c2
 have b0:=pb.c0
 have b1:=pb.c1
 have b2:=pb.c2
 have hz0:=hb.size
 have hlt0:=pr.lt
 go_enter Tryz.func76,Tryz.ntmps76
 go_wp2_with fail
 have HM:Hid (Calls Tryz.prog 139 #[.agg #[.bool c,.slice sa sz.length sc,.slice da dz.length dc],.agg #[.bool c',.slice sa' sz'.length sc',.slice da' dz'.length dc']] (((w.alloc (.cells #[.bool c,.slice sa sz.length sc,.slice da dz.length dc] 24)).alloc (.cells #[.bool c',.slice sa' sz'.length sc',.slice da' dz'.length dc'] 24)).alloc (.cells #[.bool false,.slice none 0 0,.slice none 0 0] 24)) (fun e w''=>e=.returned (.tuple #[.bool false,.nilIface])/\Below ((((w.alloc (.cells #[.bool c,.slice sa sz.length sc,.slice da dz.length dc] 24)).alloc (.cells #[.bool c',.slice sa' sz'.length sc',.slice da' dz'.length dc'] 24)).alloc (.cells #[.bool false,.slice none 0 0,.slice none 0 0] 24))).heap.size (((w.alloc (.cells #[.bool c,.slice sa sz.length sc,.slice da dz.length dc] 24)).alloc (.cells #[.bool c',.slice sa' sz'.length sc',.slice da' dz'.length dc'] 24)).alloc (.cells #[.bool false,.slice none 0 0,.slice none 0 0] 24)) w'')):=by show Calls _ _ _ _ _;refine (match_any c c' sa sc sz da dc dz sa' sc' sz' da' dc' dz' HA.1.h1 HA.1.h2 HA.2.h1 HA.2.h2 _ (HA.1.go hb.out).1.1 (HA.1.go hb.out).2.1.1 (HA.2.go hb.out).1.1 (HA.2.go hb.out).2.1.1).mono ?_;intro e w'' k;rw[h'.out,show flawsE c sz dz c' sz' dz'=0 by unfold flawsE;rw[if_pos HA.1.2.2.2];exact HA.2.2.2.2] at k;exact k
 refine (HM.out).mono ?_
 rintro e v1 ⟨rfl,hB⟩
 have hz1:=hB.size
 replace pr:=goA16 pr hB
 replace hb:=goB16 hb hB
 clear hB
 clear HM pa pb
 clear a0 a1 a2
 clear b0 b1 b2
 go_wp2_with fail
 refine (psingle_any (0) _).mono ?_
 rintro e' v9 ⟨ga',rfl,hY,hB⟩
 have HY:Hid (NewC _ v9 ga' [0] 1):=hY
 have hlt9:=pr.lt
 have hz9:=hB.size
 replace pr:=goA16 pr hB
 replace hb:=goB16 hb hB
 clear hY hB
 have r0:=pr.c0
 have r1:=pr.c1
 have r2:=pr.c2
 have f0:=pr.fr 0
 have f1:=pr.fr 1
 have f2:=pr.fr 2
 go_wp2_with fail
 have FF:=pr.set3 (.bool false) (.slice none 0 0) (.slice ga' 1 1)
 have q0:=FF.c0
 have q1:=FF.c1
 have q2:=FF.c2
 exact bodyPost_ret (v:=.tuple #[.agg #[.bool false,.slice none 0 0,.slice ga' 1 1],.nilIface]) (by simp[results,Tryz.results76,go_sem,q0,q1,q2]) rfl (ok16 (S:=[]) (D:=[0]) rfl rfl rfl (by omega) hlt9 (by omega) ⟨.inl rfl,Nat.le_refl _⟩ HY.out hb.out _ _ _)
theorem pmatch_any (c:Bool)(sa:Option Addr)(sc:Nat)(sz:List Int)(da:Option Addr)(dc:Nat)(dz:List Int)(c':Bool)(sa':Option Addr)(sc':Nat)(sz':List Int)(da':Option Addr)(dc':Nat)(dz':List Int)(w:World)(hA:ArF w c sa sc sz da dc dz)(hA':ArF w c' sa' sc' sz' da' dc' dz'):Calls Tryz.prog 76 #[.agg #[.bool c,.slice sa sz.length sc,.slice da dz.length dc],.agg #[.bool c',.slice sa' sz'.length sc',.slice da' dz'.length dc']] w (AnP (anA false [] [if mtB c sz dz c' sz' dz'=true then 1 else 0]) w):=by
 cases h:mtB c sz dz c' sz' dz'
 ·rw[if_neg (by decide)];exact pmatch_f c sa sc sz da dc dz c' sa' sc' sz' da' dc' dz' w hA hA' h
 ·rw[if_pos rfl];exact pmatch_t c sa sc sz da dc dz c' sa' sc' sz' da' dc' dz' w hA hA' h
theorem fresh_c (a:Option Addr)(cap:Nat)(zs:List Int)(h1:zs.length<=100000)(w:World)(hI:IsInts w.heap.size w a zs):
  Calls Tryz.prog 98 #[.slice a zs.length cap] w fun e w'=>∃ g c,e=.returned (.slice g zs.length c)/\NewC w.heap.size w' g zs c/\Below w.heap.size w w':=by
 obtain⟨i0,hi,hz0,hz1,hz2⟩:=info_parts Tryz.infoInt
 have H0:=World.ownsRow_nil w w.heap.size 3 1
 cases a with
 | none=>
  have hz:zs=[]:=by
   rcases hI with h | ⟨_,_,h,_⟩
   ·exact h
   ·cases h
  subst hz
  go_enter Tryz.func98,Tryz.ntmps98
  go_wp2_with fail
  go_ret
  exact⟨none,0,rfl,⟨.inl rfl,Nat.le_refl _⟩,Below.refl _ _⟩
 | some ad=>
  have hnews:∀ j u,(zs.map (Value.int .i64))[j]?=some u->w.cell? (ad.add j)=some u:=by
   intro j u hj
   rw[List.getElem?_map] at hj
   by_cases hl:j<zs.length
   ·obtain⟨b,off,e,hb,hc⟩:=hI.at hl
    cases e
    rw[List.getElem?_eq_getElem hl] at hj
    simp only[Option.map_some] at hj
    obtain rfl:=Option.some.inj hj
    rw[<-nth_get zs j hl]
    have e:(⟨b,off,none⟩:Addr).add j=⟨b,off+j,none⟩:=by
     unfold Addr.add;split
     ·rename_i h0;subst h0;rfl
     ·rfl
    rw[e];exact hc j hl
   ·rw[List.getElem?_eq_none (by omega)] at hj;cases hj
  go_enter Tryz.func98,Tryz.ntmps98
  go_wp2_with (at_builtin;refine wpList_append_own _ rfl _ _ 22 rfl w.heap.size 3 i0 (.int .i64 0) 1 8 Tryz.underlying22 hi hz0 hz1 hz2 rfl (by decide) _ _ _ rfl H0 ad zs.length cap (zs.map (Value.int .i64)) rfl (by simp) hnews (fun x hx=>by obtain⟨y,_,rfl⟩:=List.mem_map.1 hx;rfl) (by unfold maxLen;omega) (by omega) (Nat.le_refl _) ?_;intro v' w3 hown' hgrow3 hnil3)
  rw[List.nil_append,Nat.zero_add] at hown'
  have hB:Below w.heap.size w w3:=(Below.refl _ w).grown hgrow3 (Nat.le_refl _) (fun j hj=>by cases hj)
  obtain⟨g,c,rfl,hIJ⟩:=own_cap hown'
  go_wp2_with fail
  go_ret
  exact⟨g,c,rfl,hIJ,hB⟩
theorem fill_any (c:Bool)(w:World):Calls Tryz.prog 120 #[.bool c] w fun e w'=>e=.returned (.int .i64 (fillE c))/\w'=w:=by
 cases c
 all_goals
  go_enter Tryz.func120,Tryz.ntmps120
  go_wp2_with fail
  go_ret
  exact⟨rfl,rfl⟩
theorem cycle_ne (a:Option Addr)(cap:Nat)(zs:List Int)(n:Nat)(d:Int)(h1:zs.length<=9223372036854775807)(hn:n<=4096)(h0:0<zs.length)(w:World)(hI:IsInts w.heap.size w a zs):
  Calls Tryz.prog 119 #[.slice a zs.length cap,.int .i64 (n:Int),.int .i64 d] w fun e w'=>∃ g c,e=.returned (.slice g (cyc zs n d).length c)/\NewC w.heap.size w' g (cyc zs n d) c/\Below w.heap.size w w':=by
 have hmk:=run_make_row' (P:=Tryz.prog) 22 3 (.int .i64 0) 8 Tryz.underlying22 Tryz.infoInt rfl .i64 .i64 n (by omega) (by omega)
 have t0:((zs.length:Int) == 0)=false:=by rw[beq_eq_false_iff_ne];omega
 have hne:(zs.length:Int)≠0:=by omega
 go_enter Tryz.func119,Tryz.ntmps119
 go_wp2_with fail
 clear hmk
 go_loopw [18] (fun i wr=>∃ k:Nat,k<=n/\i=.int .i64 k/\wr.rowIs w.heap.size 3 n (upTo (cyA zs d) k)/\Below w.heap.size w wr) (fun i _=>n-(intOf i).toNat)
 case atStart=>exact⟨0,Nat.zero_le _,rfl,(World.rowIs_made w (.int .i64 0) n 3).congr (fun j _=>by simp[upTo]),(Below.refl _ w).alloc (Nat.le_refl _) _⟩
 case round=>
  obtain⟨k,hk,rfl,hrow,hB⟩:=hrel
  by_cases hlt:k<n
  ·have hm:k%zs.length<zs.length:=Nat.mod_lt _ h0
   obtain⟨b,off,rfl,hb,hcell⟩:=(hI.below hB).at hm
   have hc:=hcell _ hm
   clear hcell
   have c2:=hrow.cell hlt
   have f2:=hrow.frozen k
   have e1:((k:Int)%(zs.length:Int))=((k%zs.length:Nat):Int):=rfl
   have HV:Hid (nth zs (k%zs.length)=cyA zs d k):=by show _=_;unfold cyA;rw[if_neg (by omega)]
   obtain⟨m,hme⟩:∃ m,m=k%zs.length:=⟨_,rfl⟩
   rw[<-hme] at hm hc e1 HV
   have HM:Hid (m=k%zs.length):=hme
   clear hme
   go_wp2_with fail
   exact⟨⟨k+1,by omega,by go_num,upTo_set hrow _ HV.out,hB.setCell (p:=⟨w.heap.size,k,none⟩) (Nat.le_refl _) _⟩,by simp[intOf];omega⟩
  ·obtain rfl:k=n:=by omega
   go_wp2_with fail
   go_ret
   exact⟨some ⟨w.heap.size,0,none⟩,k,ret_slice' (cyc_length zs k d).symm,⟨upTo_new hrow (Nat.le_refl _) _ (cyc_length zs k d) (fun j hj=>cyc_nth zs k d hj),Nat.le_of_eq (cyc_length zs k d)⟩,hB⟩
theorem cycle_no (a:Option Addr)(cap:Nat)(n:Nat)(d:Int)(hn:n<=4096)(w:World):
  Calls Tryz.prog 119 #[.slice a 0 cap,.int .i64 (n:Int),.int .i64 d] w fun e w'=>∃ g c,e=.returned (.slice g (cyc [] n d).length c)/\NewC w.heap.size w' g (cyc [] n d) c/\Below w.heap.size w w':=by
 have hmk:=run_make_row' (P:=Tryz.prog) 22 3 (.int .i64 0) 8 Tryz.underlying22 Tryz.infoInt rfl .i64 .i64 n (by omega) (by omega)
 go_enter Tryz.func119,Tryz.ntmps119
 go_wp2_with fail
 clear hmk
 go_loopw [18] (fun i wr=>∃ k:Nat,k<=n/\i=.int .i64 k/\wr.rowIs (w.heap.size+1) 3 n (upTo (cyA [] d) k)/\wr.cell? ⟨w.heap.size,0,none⟩=some (.int .i64 d)/\Below w.heap.size w wr) (fun i _=>n-(intOf i).toNat)
 case atStart=>
  refine⟨0,Nat.zero_le _,rfl,?_,?_,((Below.refl _ w).alloc (Nat.le_refl _) _).alloc (by simp) _⟩
  ·have:=World.rowIs_made (w.alloc (.cells #[.int .i64 d] 3)) (.int .i64 0) n 3
   rw[World.size_alloc] at this
   exact this.congr (fun j _=>by simp[upTo])
  ·rw[World.cell?_alloc_lt _ _ ⟨w.heap.size,0,none⟩ (by simp)]
   simp
 case round=>
  obtain⟨k,hk,rfl,hrow,hcd,hB⟩:=hrel
  by_cases hlt:k<n
  ·have c2:=hrow.cell hlt
   have f2:=hrow.frozen k
   have e1:((k:Int)%1)=0:=Int.emod_one _
   have HV:Hid (d=cyA [] d k):=rfl
   go_wp2_with fail
   refine⟨⟨k+1,by omega,by go_num,upTo_set hrow _ HV.out,?_,hB.setCell (p:=⟨w.heap.size+1,k,none⟩) (by show w.heap.size<=w.heap.size+1;omega) _⟩,by simp[intOf];omega⟩
   rw[World.cell?_of_block (Below.heap_setCell wr ⟨w.heap.size+1,k,none⟩ _ w.heap.size (by simp))]
   exact hcd
  ·obtain rfl:k=n:=by omega
   go_wp2_with fail
   go_ret
   exact⟨some ⟨w.heap.size+1,0,none⟩,k,ret_slice' (cyc_length [] k d).symm,⟨upTo_new hrow (by omega) _ (cyc_length [] k d) (fun j hj=>cyc_nth [] k d hj),Nat.le_of_eq (cyc_length [] k d)⟩,hB⟩
theorem cycle_c (a:Option Addr)(cap:Nat)(zs:List Int)(n:Nat)(d:Int)(h1:zs.length<=9223372036854775807)(hn:n<=4096)(w:World)(hI:IsInts w.heap.size w a zs):
  Calls Tryz.prog 119 #[.slice a zs.length cap,.int .i64 (n:Int),.int .i64 d] w fun e w'=>∃ g c,e=.returned (.slice g (cyc zs n d).length c)/\NewC w.heap.size w' g (cyc zs n d) c/\Below w.heap.size w w':=by
 by_cases h0:zs=[]
 ·subst h0;exact cycle_no a cap n d hn w
 ·exact cycle_ne a cap zs n d h1 hn (List.length_pos_iff.2 h0) w hI
theorem count_n (a:Option Addr)(cap:Nat)(zs:List Int)(n:Nat)(hreach:zs.length<=9223372036854775807)(w:World)(hI:IsInts w.heap.size w a zs)(he:errOf zs=0)(hn:(n:Int)=prod zs):
  Calls Tryz.prog 14 #[.slice a zs.length cap] w fun e w'=>e=.returned (.tuple #[.int .i64 (n:Int),.nilIface])/\Below w.heap.size w w':=
 (count_ok a cap zs hreach w hI he).mono fun e w' ⟨h1,h2⟩=>⟨by rw[h1,hn],h2⟩
theorem reshape_c (a:Option Addr)(cap:Nat)(zs:List Int)(n:Nat)(c:Bool)(sa:Option Addr)(sc:Nat)(sz:List Int)(da:Option Addr)(dc:Nat)(dz:List Int)(h0:zs.length<=9223372036854775807)(h1:sz.length<=9223372036854775807)(h2:dz.length<=9223372036854775807)(w:World)
  (hz:IsInts w.heap.size w a zs)(hs:IsInts w.heap.size w sa sz)(hd:IsInts w.heap.size w da dz)(he:errOf zs=0)(hn:(n:Int)=prod zs)(hf:flawE c sz dz=0):
  Calls Tryz.prog 63 #[.slice a zs.length cap,.agg #[.bool c,.slice sa sz.length sc,.slice da dz.length dc]] w fun e w'=>∃ xa xc ya yc,e=.returned (.tuple #[.agg #[.bool c,.slice xa zs.length xc,.slice ya (cyc dz n (fillE c)).length yc],.nilIface])/\NewC w.heap.size w' xa zs xc/\NewC w.heap.size w' ya (cyc dz n (fillE c)) yc/\Below w.heap.size w w':=by
 have HB0:Hid (Below w.heap.size w ((w.alloc (.cells #[.bool c,.slice sa sz.length sc,.slice da dz.length dc] 24)).alloc (.cells #[.bool false,.slice none 0 0,.slice none 0 0] 24))):=((Below.refl _ w).alloc (Nat.le_refl _) _).alloc (by simp) _
 have HI:Hid (IsInts w.heap.size w a zs/\IsInts w.heap.size w sa sz/\IsInts w.heap.size w da dz):=⟨hz,hs,hd⟩
 have HF:Hid (flawE c sz dz=0/\errOf zs=0/\(n:Int)=prod zs):=⟨hf,he,hn⟩
 have HD:Hid (n<=4096/\zs.length<=6):=by have:=errOf_zero.1 he;exact⟨by omega,this.1⟩
 clear hz hs hd hf he hn
 go_enter Tryz.func63,Tryz.ntmps63
 go_wp2_with fail
 refine (count_n a cap zs n h0 _ ((HI.1.below HB0.out).mono HB0.size) HF.2.1 HF.2.2).mono ?_
 rintro e w0 ⟨rfl,hC0⟩
 have HB0':Hid (Below w.heap.size w w0):=HB0.trans (hC0.mono HB0.size)
 have P0:Hid (Abx w0 w.heap.size (.bool c) (.slice sa sz.length sc) (.slice da dz.length dc)):=((Abx.new w _ _ _).al _).go hC0
 have R0:Hid (Abx w0 (w.heap.size+1) (.bool false) (.slice none 0 0) (.slice none 0 0)):=(Abx.new1 w _ _ _ _).go hC0
 clear hC0
 have b0:=P0.c0
 have b1:=P0.c1
 have b2:=P0.c2
 go_wp2_with fail
 refine (check_ok c sa sc sz da dc dz h1 h2 w0 ((HI.2.1.below HB0'.out).mono HB0'.size) ((HI.2.2.below HB0'.out).mono HB0'.size) HF.1).mono ?_
 rintro e w1 ⟨rfl,hC1⟩
 have HB1:Hid (Below w.heap.size w w1):=HB0'.trans (hC1.mono HB0'.size)
 have P1:Hid (Abx w1 w.heap.size (.bool c) (.slice sa sz.length sc) (.slice da dz.length dc)):=P0.go hC1
 have R1:Hid (Abx w1 (w.heap.size+1) (.bool false) (.slice none 0 0) (.slice none 0 0)):=R0.go hC1
 clear hC1 b0 b1 b2
 have c0:=P1.c0
 have c2:=P1.c2
 go_wp2_with fail
 have HBd:Hid (Below w.heap.size w w1.drew):=HB1.drew
 refine bT 7 (fun w'=>w'.cell? ⟨w.heap.size,0,none⟩=some (.bool c)/\w'.cell? ⟨w.heap.size,2,none⟩=some (.slice da dz.length dc)) 8 (⟨c0,c2⟩) fun hq0=>?_
 refine pT 0 hq0 ?_;refine lT 1 hq0 ?_;refine pT 2 hq0 ?_;refine pT 3 hq0 ?_;refine lT 4 hq0 ?_
 clear hq0
 refine oT 5 fun K hK=>?_
 go_simp
 go_wp2_with (go_at_call 120;refine (fill_any c w1.drew).mono ?_;rintro e w2 ⟨rfl,hw2⟩;subst hw2)
 refine hK.out _ _ (fun _=>⟨c0,c2⟩) ?_
 clear hK K
 refine oT 6 fun K hK=>?_
 go_simp
 go_wp2_with (go_at_call 119;refine (cycle_c da dc dz n (fillE c) h2 HD.1 w1.drew ((HI.2.2.below HBd.out).mono HBd.size)).mono ?_;rintro e w3 ⟨ya,yc,rfl,hY,hB3⟩)
 have P3:=P1.dr.go hB3
 have R3:=R1.dr.go hB3
 refine hK.out _ _ (fun _=>⟨P3.c0,P3.c2⟩) ?_
 clear hK K
 refine oT 7 fun K hK=>?_
 go_simp
 refine hK.out _ _ (fun h=>absurd h (by decide)) ?_
 clear hK K
 refine dT ?_
 have HB3:Hid (Below w.heap.size w w3):=HBd.trans (hB3.mono HBd.size)
 have e0:=P3.c0
 go_wp2_with fail
 have HBe:Hid (Below w.heap.size w w3.drew):=HB3.drew
 refine bT 6 (fun w'=>w'.cell? ⟨w.heap.size,0,none⟩=some (.bool c)) 8 (e0) fun hq9=>?_
 refine pT 0 hq9 ?_;refine lT 1 hq9 ?_;refine pT 2 hq9 ?_;refine pT 4 hq9 ?_
 clear hq9
 refine oT 3 fun K hK=>?_
 go_simp
 go_wp2_with (go_at_call 98;refine (fresh_c a cap zs (by have:=HD.2;omega) w3.drew ((HI.1.below HBe.out).mono HBe.size)).mono ?_;rintro e w4 ⟨xa,xc,rfl,hX,hB4⟩)
 have P4:=P3.dr.go hB4
 have R4:=R3.dr.go hB4
 have r0:=R4.c0
 have r1:=R4.c1
 have r2:=R4.c2
 have f0:=R4.fr 0
 have f1:=R4.fr 1
 have f2:=R4.fr 2
 refine hK.out _ _ (fun _=>P4.c0) ?_
 clear hK K
 refine pT 5 (P4.c0) ?_
 refine oT 6 fun K hK=>?_
 go_simp
 refine hK.out _ _ (fun h=>absurd h (by decide)) ?_
 clear hK K
 refine oT 7 fun K hK=>?_
 go_simp
 refine hK.out _ _ (fun h=>absurd h (by decide)) ?_
 clear hK K
 refine dT ?_
 go_wp2_with fail
 have F:=R4.set3 (.bool c) (.slice xa zs.length xc) (.slice ya (cyc dz n (fillE c)).length yc)
 have q0:=F.c0
 have q1:=F.c1
 have q2:=F.c2
 have z1:=R1.lt
 have z3:=R3.lt
 have z4:=HB3.size
 refine bodyPost_ret (v:=.tuple #[.agg #[.bool c,.slice xa zs.length xc,.slice ya (cyc dz n (fillE c)).length yc],.nilIface]) (by simp[results,Tryz.results63,go_sem,q0,q1,q2]) rfl ⟨xa,xc,ya,yc,rfl,?_,?_,?_⟩
 ·exact (hX.set3 (by simpa using z3) _ _ _).low (by simpa using z4)
 ·exact (((hY.go ((Below.refl _ w3).drew)).go hB4).set3 (by simpa using z1) _ _ _).low (by have:=HB1.size;simpa using this)
 ·exact bel_set3 (HBe.trans (hB4.mono HBe.size)) (by omega) _ _ _
theorem reshape_no1 (a:Option Addr)(cap:Nat)(zs:List Int)(c:Bool)(sa:Option Addr)(sc:Nat)(sz:List Int)(da:Option Addr)(dc:Nat)(dz:List Int)(h0:zs.length<=9223372036854775807)(w:World)
  (hz:IsInts w.heap.size w a zs)(he:errOf zs≠0):
  Calls Tryz.prog 63 #[.slice a zs.length cap,.agg #[.bool c,.slice sa sz.length sc,.slice da dz.length dc]] w fun e w'=>e=.returned (.tuple #[.agg #[.bool false,.slice none 0 0,.slice none 0 0],.iface 43 (.int .i64 (errOf zs))])/\Below w.heap.size w w':=by
 have HB0:Hid (Below w.heap.size w ((w.alloc (.cells #[.bool c,.slice sa sz.length sc,.slice da dz.length dc] 24)).alloc (.cells #[.bool false,.slice none 0 0,.slice none 0 0] 24))):=((Below.refl _ w).alloc (Nat.le_refl _) _).alloc (by simp) _
 have HI:Hid (IsInts w.heap.size w a zs/\errOf zs≠0):=⟨hz,he⟩
 clear hz he
 go_enter Tryz.func63,Tryz.ntmps63
 go_wp2_with fail
 refine (count_no a cap zs h0 _ ((HI.1.below HB0.out).mono HB0.size) HI.2).mono ?_
 rintro e w0 ⟨rfl,hC0⟩
 have HB1:Hid (Below w.heap.size w w0):=HB0.trans (hC0.mono HB0.size)
 have R4:Hid (Abx w0 (w.heap.size+1) (.bool false) (.slice none 0 0) (.slice none 0 0)):=(Abx.new1 w _ _ _ _).go hC0
 clear hC0
 have r0:=R4.c0
 have r1:=R4.c1
 have r2:=R4.c2
 have f0:=R4.fr 0
 have f1:=R4.fr 1
 have f2:=R4.fr 2
 go_wp2_with fail
 have F:=R4.set3 (.bool false) (.slice none 0 0) (.slice none 0 0)
 have q0:=F.c0
 have q1:=F.c1
 have q2:=F.c2
 exact bodyPost_ret (v:=.tuple #[.agg #[.bool false,.slice none 0 0,.slice none 0 0],.iface 43 (.int .i64 (errOf zs))]) (by simp[results,Tryz.results63,go_sem,q0,q1,q2]) rfl ⟨rfl,bel_set3 HB1.out (by omega) _ _ _⟩
end Go.Proofs.YtkmmkcpfhnifhaaGreat
