/- What the program tells, in part. -/
import Derived.Test.YtkmmkcpfhnifhaaGreatDoorJ12
set_option linter.unusedVariables false
set_option maxHeartbeats 2000000
set_option maxRecDepth 100000
namespace Go.Proofs.YtkmmkcpfhnifhaaGreatDoor
open Go.RowKit
theorem in_one16 {f:Int}(h:In64 f)(j:Nat):In64 (nth [f] j):=by
 match j with
 | 0=>exact h
 | j+1=>rw[show nth [f] (j+1)=0 by simp[nth]];unfold In64;decide
theorem in_two16 {f g:Int}(h:In64 f)(h':In64 g)(j:Nat):In64 (nth [f,g] j):=by
 match j with
 | 0=>exact h
 | 1=>exact h'
 | j+2=>rw[show nth [f,g] (j+2)=0 by simp[nth]];unfold In64;decide
def e2A (f:Int):A2:=fun c sz dz c' sz' dz'=>anE (e2E f c sz dz c' sz' dz') false (shp sz sz') (e2V f c sz dz c' sz' dz')
theorem c2an (H:C2d)(f:Int)(hf:In64 f)(c:Bool)(sa:Option Addr)(sc:Nat)(sz:List Int)(da:Option Addr)(dc:Nat)(dz:List Int)(c':Bool)(sa':Option Addr)(sc':Nat)(sz':List Int)(da':Option Addr)(dc':Nat)(dz':List Int)(w:World)(hA:ArF w c sa sc sz da dc dz)(hA':ArF w c' sa' sc' sz' da' dc' dz'):Calls Tryz.prog 213 #[.int .i64 f,.agg #[.bool c,.slice sa sz.length sc,.slice da dz.length dc],.agg #[.bool c',.slice sa' sz'.length sc',.slice da' dz'.length dc']] w (AnP (e2A f c sz dz c' sz' dz') w):=
 (H f c sa sc sz da dc dz c' sa' sc' sz' da' dc' dz' w hf hA.h1 hA.h2 hA'.h1 hA'.h2 hA.1.1 hA.2.1.1 hA'.1.1 hA'.2.1.1 hA.2.2.1 hA'.2.2.1).mono fun _ _ k=>k.elim (fun q=>anp_no q.1 q.2) (fun q=>anp_ok q.1 q.2)
theorem fu_cells2 (H:C2d){p:Nat}{f:Int}{W:World}(hf:In64 f)(hc:W.cell? ⟨p,0,none⟩=some (.int .i64 f)):Fu2 (.func (.func 212) #[] #[.pointer (some ⟨p,0,none⟩)]) W (e2A f):=
 ⟨212,[.pointer (some ⟨p,0,none⟩)],rfl,(enters_of Tryz.func212 (by kernel_rfl) rfl),fun c sa sc sz da dc dz c' sa' sc' sz' da' dc' dz' w hB hA hA'=>b_cells2 _ f p c sa sc sz da dc dz c' sa' sc' sz' da' dc' dz' w (cell_to16 hB hc) fun w' hB'=>c2an H f hf c sa sc sz da dc dz c' sa' sc' sz' da' dc' dz' w' (hA.go hB') (hA'.go hB')⟩
theorem mk_cells2_t (f:Int)(hf:In64 f)(h:(six f)=true)(w:World)(H:C2d):
  Calls Tryz.prog 135 #[.int .i64 f] w (Mk2 (e2A f) w):=by
 have HT:Hid (In64 f):=hf
 clear hf
 obtain⟨W0,hW⟩:∃ W0,W0=((w.alloc (.cells #[.int .i64 f] 22)).alloc (.cells #[.int .i64 f] 22)):=⟨_,rfl⟩
 have hb:Hid (Below w.heap.size w W0):=by rw[hW];exact (((Below.refl _ w).alloc (Nat.le_refl _) _).alloc (by simp) _)
 have hc0:W0.cell? ⟨w.heap.size,0,none⟩=some (.int .i64 f):=by
  have q:=cell_to16 ((Below.refl _ _).alloc (Nat.le_refl _) (.cells #[.int .i64 f] 22)) (box16 w (.int .i64 f) 22)
  rw[hW]
  exact q
 have hs:Hid (w.heap.size+1<W0.heap.size/\∀ j,j<1->W0.cell? ⟨w.heap.size+1,j,none⟩=some (.int .i64 (nth [f] j))):=by
  rw[hW]
  refine⟨by simp,fun j hj=>?_⟩
  have q:((w.alloc (.cells #[.int .i64 f] 22)).alloc (.cells #[.int .i64 f] 22)).heap[w.heap.size+1]?=some (.cells #[.int .i64 f] 22 (0,0)):=by have:=(MapKept.heap_alloc (w.alloc (.cells #[.int .i64 f] 22)) (.cells #[.int .i64 f] 22)).1;simpa only[World.size_alloc] using this
  match j,hj with
  | 0,_=>simp only[World.cell?];rw[q];rfl
 have h':Hid ([f].all six=true):=by show _=_;simpa using h
 clear h
 go_enter Tryz.func135,Tryz.ntmps135
 go_wp2_with fail
 rw[<-hW]
 clear hW
 refine (are_any [f] 1 (w.heap.size+1) 1 rfl (by decide) (fun j=>in_one16 HT.out j) W0 hs.1 hs.2).mono ?_
 rintro e v1 ⟨rfl,hB⟩
 rw[h'.out]
 replace hb:=goB16 hb hB
 replace hc0:=cell_to16 hB hc0
 clear hB hs
 go_wp2_with fail
 go_ret
 exact⟨_,rfl,fu_cells2 H HT.out hc0,hb.out⟩
theorem mk_cells2_f (f:Int)(hf:In64 f)(h:(six f)=false)(w:World):
  Calls Tryz.prog 135 #[.int .i64 f] w (fun r w'=>r=.returned .nilFunc/\Below w.heap.size w w'):=by
 have HT:Hid (In64 f):=hf
 clear hf
 obtain⟨W0,hW⟩:∃ W0,W0=((w.alloc (.cells #[.int .i64 f] 22)).alloc (.cells #[.int .i64 f] 22)):=⟨_,rfl⟩
 have hb:Hid (Below w.heap.size w W0):=by rw[hW];exact (((Below.refl _ w).alloc (Nat.le_refl _) _).alloc (by simp) _)
 have hc0:W0.cell? ⟨w.heap.size,0,none⟩=some (.int .i64 f):=by
  have q:=cell_to16 ((Below.refl _ _).alloc (Nat.le_refl _) (.cells #[.int .i64 f] 22)) (box16 w (.int .i64 f) 22)
  rw[hW]
  exact q
 have hs:Hid (w.heap.size+1<W0.heap.size/\∀ j,j<1->W0.cell? ⟨w.heap.size+1,j,none⟩=some (.int .i64 (nth [f] j))):=by
  rw[hW]
  refine⟨by simp,fun j hj=>?_⟩
  have q:((w.alloc (.cells #[.int .i64 f] 22)).alloc (.cells #[.int .i64 f] 22)).heap[w.heap.size+1]?=some (.cells #[.int .i64 f] 22 (0,0)):=by have:=(MapKept.heap_alloc (w.alloc (.cells #[.int .i64 f] 22)) (.cells #[.int .i64 f] 22)).1;simpa only[World.size_alloc] using this
  match j,hj with
  | 0,_=>simp only[World.cell?];rw[q];rfl
 have h':Hid ([f].all six=false):=by show _=_;simpa using h
 clear h
 go_enter Tryz.func135,Tryz.ntmps135
 go_wp2_with fail
 rw[<-hW]
 clear hW
 refine (are_any [f] 1 (w.heap.size+1) 1 rfl (by decide) (fun j=>in_one16 HT.out j) W0 hs.1 hs.2).mono ?_
 rintro e v1 ⟨rfl,hB⟩
 rw[h'.out]
 replace hb:=goB16 hb hB
 replace hc0:=cell_to16 hB hc0
 clear hB hs
 go_wp2_with fail
 go_ret
 exact⟨rfl,hb.out⟩
theorem fu_outer (H:COt){p:Nat}{f:Int}{W:World}(hf:In64 f)(hc:W.cell? ⟨p,0,none⟩=some (.int .i64 f)):Fu2 (.func (.func 142) #[] #[.pointer (some ⟨p,0,none⟩)]) W (otA f):=
 ⟨142,[.pointer (some ⟨p,0,none⟩)],rfl,(enters_of Tryz.func142 (by kernel_rfl) rfl),fun c sa sc sz da dc dz c' sa' sc' sz' da' dc' dz' w hB hA hA'=>b_outer _ f p c sa sc sz da dc dz c' sa' sc' sz' da' dc' dz' w (cell_to16 hB hc) fun w' hB'=>H f c sa sc sz da dc dz c' sa' sc' sz' da' dc' dz' w' hf hA.h1 hA.h2 hA'.h1 hA'.h2 (hA.go hB').1.1 (hA.go hB').2.1.1 (hA'.go hB').1.1 (hA'.go hB').2.1.1 hA.2.2.1 hA'.2.2.1⟩
theorem mk_outer_t (f:Int)(hf:In64 f)(h:(six f)=true)(w:World)(H:COt):
  Calls Tryz.prog 88 #[.int .i64 f] w (Mk2 (otA f) w):=by
 have HT:Hid (In64 f):=hf
 clear hf
 obtain⟨W0,hW⟩:∃ W0,W0=((w.alloc (.cells #[.int .i64 f] 22)).alloc (.cells #[.int .i64 f] 22)):=⟨_,rfl⟩
 have hb:Hid (Below w.heap.size w W0):=by rw[hW];exact (((Below.refl _ w).alloc (Nat.le_refl _) _).alloc (by simp) _)
 have hc0:W0.cell? ⟨w.heap.size,0,none⟩=some (.int .i64 f):=by
  have q:=cell_to16 ((Below.refl _ _).alloc (Nat.le_refl _) (.cells #[.int .i64 f] 22)) (box16 w (.int .i64 f) 22)
  rw[hW]
  exact q
 have hs:Hid (w.heap.size+1<W0.heap.size/\∀ j,j<1->W0.cell? ⟨w.heap.size+1,j,none⟩=some (.int .i64 (nth [f] j))):=by
  rw[hW]
  refine⟨by simp,fun j hj=>?_⟩
  have q:((w.alloc (.cells #[.int .i64 f] 22)).alloc (.cells #[.int .i64 f] 22)).heap[w.heap.size+1]?=some (.cells #[.int .i64 f] 22 (0,0)):=by have:=(MapKept.heap_alloc (w.alloc (.cells #[.int .i64 f] 22)) (.cells #[.int .i64 f] 22)).1;simpa only[World.size_alloc] using this
  match j,hj with
  | 0,_=>simp only[World.cell?];rw[q];rfl
 have h':Hid ([f].all six=true):=by show _=_;simpa using h
 clear h
 go_enter Tryz.func88,Tryz.ntmps88
 go_wp2_with fail
 rw[<-hW]
 clear hW
 refine (are_any [f] 1 (w.heap.size+1) 1 rfl (by decide) (fun j=>in_one16 HT.out j) W0 hs.1 hs.2).mono ?_
 rintro e v1 ⟨rfl,hB⟩
 rw[h'.out]
 replace hb:=goB16 hb hB
 replace hc0:=cell_to16 hB hc0
 clear hB hs
 go_wp2_with fail
 go_ret
 exact⟨_,rfl,fu_outer H HT.out hc0,hb.out⟩
theorem mk_outer_f (f:Int)(hf:In64 f)(h:(six f)=false)(w:World):
  Calls Tryz.prog 88 #[.int .i64 f] w (fun r w'=>r=.returned .nilFunc/\Below w.heap.size w w'):=by
 have HT:Hid (In64 f):=hf
 clear hf
 obtain⟨W0,hW⟩:∃ W0,W0=((w.alloc (.cells #[.int .i64 f] 22)).alloc (.cells #[.int .i64 f] 22)):=⟨_,rfl⟩
 have hb:Hid (Below w.heap.size w W0):=by rw[hW];exact (((Below.refl _ w).alloc (Nat.le_refl _) _).alloc (by simp) _)
 have hc0:W0.cell? ⟨w.heap.size,0,none⟩=some (.int .i64 f):=by
  have q:=cell_to16 ((Below.refl _ _).alloc (Nat.le_refl _) (.cells #[.int .i64 f] 22)) (box16 w (.int .i64 f) 22)
  rw[hW]
  exact q
 have hs:Hid (w.heap.size+1<W0.heap.size/\∀ j,j<1->W0.cell? ⟨w.heap.size+1,j,none⟩=some (.int .i64 (nth [f] j))):=by
  rw[hW]
  refine⟨by simp,fun j hj=>?_⟩
  have q:((w.alloc (.cells #[.int .i64 f] 22)).alloc (.cells #[.int .i64 f] 22)).heap[w.heap.size+1]?=some (.cells #[.int .i64 f] 22 (0,0)):=by have:=(MapKept.heap_alloc (w.alloc (.cells #[.int .i64 f] 22)) (.cells #[.int .i64 f] 22)).1;simpa only[World.size_alloc] using this
  match j,hj with
  | 0,_=>simp only[World.cell?];rw[q];rfl
 have h':Hid ([f].all six=false):=by show _=_;simpa using h
 clear h
 go_enter Tryz.func88,Tryz.ntmps88
 go_wp2_with fail
 rw[<-hW]
 clear hW
 refine (are_any [f] 1 (w.heap.size+1) 1 rfl (by decide) (fun j=>in_one16 HT.out j) W0 hs.1 hs.2).mono ?_
 rintro e v1 ⟨rfl,hB⟩
 rw[h'.out]
 replace hb:=goB16 hb hB
 replace hc0:=cell_to16 hB hc0
 clear hB hs
 go_wp2_with fail
 go_ret
 exact⟨rfl,hb.out⟩
theorem fu_inner (H:CNi){p q:Nat}{f g:Int}{W:World}(hf:In64 f)(hg:In64 g)(hc:W.cell? ⟨p,0,none⟩=some (.int .i64 f))(hq:W.cell? ⟨q,0,none⟩=some (.int .i64 g)):Fu2 (.func (.func 144) #[] #[.pointer (some ⟨p,0,none⟩),.pointer (some ⟨q,0,none⟩)]) W (niA f g):=
 ⟨144,[.pointer (some ⟨p,0,none⟩),.pointer (some ⟨q,0,none⟩)],rfl,(enters_of Tryz.func144 (by kernel_rfl) rfl),fun c sa sc sz da dc dz c' sa' sc' sz' da' dc' dz' w hB hA hA'=>b_inner _ f g p q c sa sc sz da dc dz c' sa' sc' sz' da' dc' dz' w (cell_to16 hB hc) (cell_to16 hB hq) fun w' hB'=>H f g c sa sc sz da dc dz c' sa' sc' sz' da' dc' dz' w' hf hg hA.h1 hA.h2 hA'.h1 hA'.h2 (hA.go hB').1 (hA.go hB').2.1.1 (hA'.go hB').1 (hA'.go hB').2.1.1 hA.2.2.1 hA'.2.2.1⟩
theorem mk_inner_t (f g:Int)(hf:In64 f)(hg:In64 g)(h:(six f && six g)=true)(w:World)(H:CNi):
  Calls Tryz.prog 89 #[.int .i64 f,.int .i64 g] w (Mk2 (niA f g) w):=by
 have HT:Hid (In64 f/\In64 g):=⟨hf,hg⟩
 clear hf hg
 obtain⟨W0,hW⟩:∃ W0,W0=(((w.alloc (.cells #[.int .i64 f] 22)).alloc (.cells #[.int .i64 g] 22)).alloc (.cells #[.int .i64 f,.int .i64 g] 22)):=⟨_,rfl⟩
 have hb:Hid (Below w.heap.size w W0):=by rw[hW];exact ((((Below.refl _ w).alloc (Nat.le_refl _) _).alloc (by simp) _).alloc (by simp;omega) _)
 have hc0:W0.cell? ⟨w.heap.size,0,none⟩=some (.int .i64 f):=by
  have q:=cell_to16 ((Below.refl _ _).alloc (Nat.le_refl _) (.cells #[.int .i64 f,.int .i64 g] 22)) (cell_to16 ((Below.refl _ _).alloc (Nat.le_refl _) (.cells #[.int .i64 g] 22)) (box16 w (.int .i64 f) 22))
  rw[hW]
  exact q
 have hc1:W0.cell? ⟨w.heap.size+1,0,none⟩=some (.int .i64 g):=by
  have q:=cell_to16 ((Below.refl _ _).alloc (Nat.le_refl _) (.cells #[.int .i64 f,.int .i64 g] 22)) (box16 (w.alloc (.cells #[.int .i64 f] 22)) (.int .i64 g) 22)
  simp only[World.size_alloc] at q
  rw[hW]
  exact q
 have hs:Hid (w.heap.size+1+1<W0.heap.size/\∀ j,j<2->W0.cell? ⟨w.heap.size+1+1,j,none⟩=some (.int .i64 (nth [f,g] j))):=by
  rw[hW]
  refine⟨by simp,fun j hj=>?_⟩
  have q:(((w.alloc (.cells #[.int .i64 f] 22)).alloc (.cells #[.int .i64 g] 22)).alloc (.cells #[.int .i64 f,.int .i64 g] 22)).heap[w.heap.size+1+1]?=some (.cells #[.int .i64 f,.int .i64 g] 22 (0,0)):=by have:=(MapKept.heap_alloc ((w.alloc (.cells #[.int .i64 f] 22)).alloc (.cells #[.int .i64 g] 22)) (.cells #[.int .i64 f,.int .i64 g] 22)).1;simpa only[World.size_alloc] using this
  match j,hj with
  | 0,_=>simp only[World.cell?];rw[q];rfl
  | 1,_=>simp only[World.cell?];rw[q];rfl
 have h':Hid ([f,g].all six=true):=by show _=_;simpa using h
 clear h
 go_enter Tryz.func89,Tryz.ntmps89
 go_wp2_with fail
 rw[<-hW]
 clear hW
 refine (are_any [f,g] 2 (w.heap.size+1+1) 2 rfl (by decide) (fun j=>in_two16 HT.1 HT.2 j) W0 hs.1 hs.2).mono ?_
 rintro e v1 ⟨rfl,hB⟩
 rw[h'.out]
 replace hb:=goB16 hb hB
 replace hc0:=cell_to16 hB hc0
 replace hc1:=cell_to16 hB hc1
 clear hB hs
 go_wp2_with fail
 go_ret
 exact⟨_,rfl,fu_inner H HT.1 HT.2 hc0 hc1,hb.out⟩
theorem mk_inner_f (f g:Int)(hf:In64 f)(hg:In64 g)(h:(six f && six g)=false)(w:World):
  Calls Tryz.prog 89 #[.int .i64 f,.int .i64 g] w (fun r w'=>r=.returned .nilFunc/\Below w.heap.size w w'):=by
 have HT:Hid (In64 f/\In64 g):=⟨hf,hg⟩
 clear hf hg
 obtain⟨W0,hW⟩:∃ W0,W0=(((w.alloc (.cells #[.int .i64 f] 22)).alloc (.cells #[.int .i64 g] 22)).alloc (.cells #[.int .i64 f,.int .i64 g] 22)):=⟨_,rfl⟩
 have hb:Hid (Below w.heap.size w W0):=by rw[hW];exact ((((Below.refl _ w).alloc (Nat.le_refl _) _).alloc (by simp) _).alloc (by simp;omega) _)
 have hc0:W0.cell? ⟨w.heap.size,0,none⟩=some (.int .i64 f):=by
  have q:=cell_to16 ((Below.refl _ _).alloc (Nat.le_refl _) (.cells #[.int .i64 f,.int .i64 g] 22)) (cell_to16 ((Below.refl _ _).alloc (Nat.le_refl _) (.cells #[.int .i64 g] 22)) (box16 w (.int .i64 f) 22))
  rw[hW]
  exact q
 have hc1:W0.cell? ⟨w.heap.size+1,0,none⟩=some (.int .i64 g):=by
  have q:=cell_to16 ((Below.refl _ _).alloc (Nat.le_refl _) (.cells #[.int .i64 f,.int .i64 g] 22)) (box16 (w.alloc (.cells #[.int .i64 f] 22)) (.int .i64 g) 22)
  simp only[World.size_alloc] at q
  rw[hW]
  exact q
 have hs:Hid (w.heap.size+1+1<W0.heap.size/\∀ j,j<2->W0.cell? ⟨w.heap.size+1+1,j,none⟩=some (.int .i64 (nth [f,g] j))):=by
  rw[hW]
  refine⟨by simp,fun j hj=>?_⟩
  have q:(((w.alloc (.cells #[.int .i64 f] 22)).alloc (.cells #[.int .i64 g] 22)).alloc (.cells #[.int .i64 f,.int .i64 g] 22)).heap[w.heap.size+1+1]?=some (.cells #[.int .i64 f,.int .i64 g] 22 (0,0)):=by have:=(MapKept.heap_alloc ((w.alloc (.cells #[.int .i64 f] 22)).alloc (.cells #[.int .i64 g] 22)) (.cells #[.int .i64 f,.int .i64 g] 22)).1;simpa only[World.size_alloc] using this
  match j,hj with
  | 0,_=>simp only[World.cell?];rw[q];rfl
  | 1,_=>simp only[World.cell?];rw[q];rfl
 have h':Hid ([f,g].all six=false):=by show _=_;simpa using h
 clear h
 go_enter Tryz.func89,Tryz.ntmps89
 go_wp2_with fail
 rw[<-hW]
 clear hW
 refine (are_any [f,g] 2 (w.heap.size+1+1) 2 rfl (by decide) (fun j=>in_two16 HT.1 HT.2 j) W0 hs.1 hs.2).mono ?_
 rintro e v1 ⟨rfl,hB⟩
 rw[h'.out]
 replace hb:=goB16 hb hB
 replace hc0:=cell_to16 hB hc0
 replace hc1:=cell_to16 hB hc1
 clear hB hs
 go_wp2_with fail
 go_ret
 exact⟨rfl,hb.out⟩
def wdB (f:Int):Int->Int->A1:=fun n x c sz dz=>anE (wdE f n x c sz dz) false (wdS n x.toNat sz) (wdD f n sz dz x.toNat)
theorem fu_wind (H:CWd){p:Nat}{f:Int}{W:World}(hf:In64 f)(hc:W.cell? ⟨p,0,none⟩=some (.int .i64 f)):FuN (.func (.func 140) #[] #[.pointer (some ⟨p,0,none⟩)]) W (wdB f):=by
 refine⟨140,[.pointer (some ⟨p,0,none⟩)],rfl,(enters_of Tryz.func140 (by kernel_rfl) rfl),fun n x c sa sc sz da dc dz w hB hn hx h0 hA=>b_wind _ f n x p c sa sc sz da dc dz w (cell_to16 hB hc) fun w' hB'=>?_⟩
 have h6:=hA.s6.1
 refine (H f n x c sa sc sz da dc dz w' hf hn (by unfold In64;omega) hA.h1 hA.h2 (hA.go hB').1 (hA.go hB').2.1.1 hA.2.2.1).mono fun _ _ k=>?_
 unfold AnP wdB anE
 rw[show onc (wdE f n x c sz dz) false=false by unfold onc;split<;>rfl]
 exact k
theorem mk_wind_t (f:Int)(hf:In64 f)(h:(six f)=true)(w:World)(H:CWd):
  Calls Tryz.prog 87 #[.int .i64 f] w (Mk2 (wdA f) w):=by
 have HT:Hid (In64 f):=hf
 clear hf
 obtain⟨W0,hW⟩:∃ W0,W0=((w.alloc (.cells #[.int .i64 f] 22)).alloc (.cells #[.int .i64 f] 22)):=⟨_,rfl⟩
 have hb:Hid (Below w.heap.size w W0):=by rw[hW];exact (((Below.refl _ w).alloc (Nat.le_refl _) _).alloc (by simp) _)
 have hc0:W0.cell? ⟨w.heap.size,0,none⟩=some (.int .i64 f):=by
  have q:=cell_to16 ((Below.refl _ _).alloc (Nat.le_refl _) (.cells #[.int .i64 f] 22)) (box16 w (.int .i64 f) 22)
  rw[hW]
  exact q
 have hs:Hid (w.heap.size+1<W0.heap.size/\∀ j,j<1->W0.cell? ⟨w.heap.size+1,j,none⟩=some (.int .i64 (nth [f] j))):=by
  rw[hW]
  refine⟨by simp,fun j hj=>?_⟩
  have q:((w.alloc (.cells #[.int .i64 f] 22)).alloc (.cells #[.int .i64 f] 22)).heap[w.heap.size+1]?=some (.cells #[.int .i64 f] 22 (0,0)):=by have:=(MapKept.heap_alloc (w.alloc (.cells #[.int .i64 f] 22)) (.cells #[.int .i64 f] 22)).1;simpa only[World.size_alloc] using this
  match j,hj with
  | 0,_=>simp only[World.cell?];rw[q];rfl
 have h':Hid ([f].all six=true):=by show _=_;simpa using h
 clear h
 go_enter Tryz.func87,Tryz.ntmps87
 go_wp2_with fail
 rw[<-hW]
 clear hW
 refine (are_any [f] 1 (w.heap.size+1) 1 rfl (by decide) (fun j=>in_one16 HT.out j) W0 hs.1 hs.2).mono ?_
 rintro e v1 ⟨rfl,hB⟩
 rw[h'.out]
 replace hb:=goB16 hb hB
 replace hc0:=cell_to16 hB hc0
 clear hB hs
 go_wp2_with fail
 refine (mk_num (wdB f) _ v1 (fu_wind H HT.out hc0)).mono ?_
 rintro e v2 ⟨u,rfl,hU,hB⟩
 have HU:Hid (Fu2 u v2 (wdA f)/\Below w.heap.size w v2):=⟨hU,hb.trans (hB.mono hb.size)⟩
 obtain⟨F2,cs2,rfl,_,_⟩:=hU
 clear hB
 go_wp2_with fail
 go_ret
 exact⟨_,rfl,HU.out⟩
theorem mk_wind_f (f:Int)(hf:In64 f)(h:(six f)=false)(w:World):
  Calls Tryz.prog 87 #[.int .i64 f] w (fun r w'=>r=.returned .nilFunc/\Below w.heap.size w w'):=by
 have HT:Hid (In64 f):=hf
 clear hf
 obtain⟨W0,hW⟩:∃ W0,W0=((w.alloc (.cells #[.int .i64 f] 22)).alloc (.cells #[.int .i64 f] 22)):=⟨_,rfl⟩
 have hb:Hid (Below w.heap.size w W0):=by rw[hW];exact (((Below.refl _ w).alloc (Nat.le_refl _) _).alloc (by simp) _)
 have hc0:W0.cell? ⟨w.heap.size,0,none⟩=some (.int .i64 f):=by
  have q:=cell_to16 ((Below.refl _ _).alloc (Nat.le_refl _) (.cells #[.int .i64 f] 22)) (box16 w (.int .i64 f) 22)
  rw[hW]
  exact q
 have hs:Hid (w.heap.size+1<W0.heap.size/\∀ j,j<1->W0.cell? ⟨w.heap.size+1,j,none⟩=some (.int .i64 (nth [f] j))):=by
  rw[hW]
  refine⟨by simp,fun j hj=>?_⟩
  have q:((w.alloc (.cells #[.int .i64 f] 22)).alloc (.cells #[.int .i64 f] 22)).heap[w.heap.size+1]?=some (.cells #[.int .i64 f] 22 (0,0)):=by have:=(MapKept.heap_alloc (w.alloc (.cells #[.int .i64 f] 22)) (.cells #[.int .i64 f] 22)).1;simpa only[World.size_alloc] using this
  match j,hj with
  | 0,_=>simp only[World.cell?];rw[q];rfl
 have h':Hid ([f].all six=false):=by show _=_;simpa using h
 clear h
 go_enter Tryz.func87,Tryz.ntmps87
 go_wp2_with fail
 rw[<-hW]
 clear hW
 refine (are_any [f] 1 (w.heap.size+1) 1 rfl (by decide) (fun j=>in_one16 HT.out j) W0 hs.1 hs.2).mono ?_
 rintro e v1 ⟨rfl,hB⟩
 rw[h'.out]
 replace hb:=goB16 hb hB
 replace hc0:=cell_to16 hB hc0
 clear hB hs
 go_wp2_with fail
 go_ret
 exact⟨rfl,hb.out⟩
theorem fu_fold {p q:Nat}{v:Value}{f:Int}{W:World}{B:Int->Int->A1}(hc:W.cell? ⟨p,0,none⟩=some v)(hq:W.cell? ⟨q,0,none⟩=some (.int .i64 f))(hf:In64 f)(h:FuN v W B):FuX (.func (.func 109) #[] #[.pointer (some ⟨p,0,none⟩),.pointer (some ⟨q,0,none⟩)]) W (B f):=by
 obtain⟨F,cs,rfl,hE,H⟩:=h
 exact⟨109,[.pointer (some ⟨p,0,none⟩),.pointer (some ⟨q,0,none⟩)],rfl,(enters_of Tryz.func109 (by kernel_rfl) rfl),fun x c sa sc sz da dc dz w hB hx h0 hA=>b_fold _ f x p q F cs hE c sa sc sz da dc dz w (cell_to16 hB hc) (cell_to16 hB hq) fun w' hB'=>H f x c sa sc sz da dc dz w' (hB.trans (hB'.mono hB.size)) hf hx h0 (hA.go hB')⟩
theorem mk_fold_t (f:Int)(F:Nat)(cs:Array Value)(hf:In64 f)(h:(six f)=true)(w:World)(B:Int->Int->A1)(H:FuN (.func (.func F) #[] cs) w B):
  Calls Tryz.prog 70 #[.int .i64 f,.func (.func F) #[] cs] w (Mk1 (lastA (B f)) w):=by
 have HT:Hid (In64 f):=hf
 clear hf
 obtain⟨W0,hW⟩:∃ W0,W0=(((w.alloc (.cells #[.int .i64 f] 22)).alloc (.cells #[.func (.func F) #[] cs] 98)).alloc (.cells #[.int .i64 f] 22)):=⟨_,rfl⟩
 have hb:Hid (Below w.heap.size w W0):=by rw[hW];exact ((((Below.refl _ w).alloc (Nat.le_refl _) _).alloc (by simp) _).alloc (by simp;omega) _)
 have hc0:W0.cell? ⟨w.heap.size,0,none⟩=some (.int .i64 f):=by
  have q:=cell_to16 ((Below.refl _ _).alloc (Nat.le_refl _) (.cells #[.int .i64 f] 22)) (cell_to16 ((Below.refl _ _).alloc (Nat.le_refl _) (.cells #[.func (.func F) #[] cs] 98)) (box16 w (.int .i64 f) 22))
  rw[hW]
  exact q
 have hc1:W0.cell? ⟨w.heap.size+1,0,none⟩=some (.func (.func F) #[] cs):=by
  have q:=cell_to16 ((Below.refl _ _).alloc (Nat.le_refl _) (.cells #[.int .i64 f] 22)) (box16 (w.alloc (.cells #[.int .i64 f] 22)) (.func (.func F) #[] cs) 98)
  simp only[World.size_alloc] at q
  rw[hW]
  exact q
 have hs:Hid (w.heap.size+1+1<W0.heap.size/\∀ j,j<1->W0.cell? ⟨w.heap.size+1+1,j,none⟩=some (.int .i64 (nth [f] j))):=by
  rw[hW]
  refine⟨by simp,fun j hj=>?_⟩
  have q:(((w.alloc (.cells #[.int .i64 f] 22)).alloc (.cells #[.func (.func F) #[] cs] 98)).alloc (.cells #[.int .i64 f] 22)).heap[w.heap.size+1+1]?=some (.cells #[.int .i64 f] 22 (0,0)):=by have:=(MapKept.heap_alloc ((w.alloc (.cells #[.int .i64 f] 22)).alloc (.cells #[.func (.func F) #[] cs] 98)) (.cells #[.int .i64 f] 22)).1;simpa only[World.size_alloc] using this
  match j,hj with
  | 0,_=>simp only[World.cell?];rw[q];rfl
 have h':Hid ([f].all six=true):=by show _=_;simpa using h
 clear h
 go_enter Tryz.func70,Tryz.ntmps70
 go_wp2_with fail
 rw[<-hW]
 clear hW
 refine (are_any [f] 1 (w.heap.size+1+1) 1 rfl (by decide) (fun j=>in_one16 HT.out j) W0 hs.1 hs.2).mono ?_
 rintro e v1 ⟨rfl,hB⟩
 rw[h'.out]
 replace hb:=goB16 hb hB
 replace hc0:=cell_to16 hB hc0
 replace hc1:=cell_to16 hB hc1
 clear hB hs
 go_wp2_with fail
 refine (mk_last (B f) _ v1 (fu_fold hc1 hc0 HT.out (H.go hb.out))).mono ?_
 rintro e v2 ⟨u,rfl,hU,hB⟩
 have HU:Hid (Fu1 u v2 (lastA (B f))/\Below w.heap.size w v2):=⟨hU,hb.trans (hB.mono hb.size)⟩
 obtain⟨F2,cs2,rfl,_,_⟩:=hU
 clear hB
 go_wp2_with fail
 go_ret
 exact⟨_,rfl,HU.out⟩
theorem mk_fold_f (f:Int)(F:Nat)(cs:Array Value)(hf:In64 f)(h:(six f)=false)(w:World):
  Calls Tryz.prog 70 #[.int .i64 f,.func (.func F) #[] cs] w (fun r w'=>r=.returned .nilFunc/\Below w.heap.size w w'):=by
 have HT:Hid (In64 f):=hf
 clear hf
 obtain⟨W0,hW⟩:∃ W0,W0=(((w.alloc (.cells #[.int .i64 f] 22)).alloc (.cells #[.func (.func F) #[] cs] 98)).alloc (.cells #[.int .i64 f] 22)):=⟨_,rfl⟩
 have hb:Hid (Below w.heap.size w W0):=by rw[hW];exact ((((Below.refl _ w).alloc (Nat.le_refl _) _).alloc (by simp) _).alloc (by simp;omega) _)
 have hc0:W0.cell? ⟨w.heap.size,0,none⟩=some (.int .i64 f):=by
  have q:=cell_to16 ((Below.refl _ _).alloc (Nat.le_refl _) (.cells #[.int .i64 f] 22)) (cell_to16 ((Below.refl _ _).alloc (Nat.le_refl _) (.cells #[.func (.func F) #[] cs] 98)) (box16 w (.int .i64 f) 22))
  rw[hW]
  exact q
 have hc1:W0.cell? ⟨w.heap.size+1,0,none⟩=some (.func (.func F) #[] cs):=by
  have q:=cell_to16 ((Below.refl _ _).alloc (Nat.le_refl _) (.cells #[.int .i64 f] 22)) (box16 (w.alloc (.cells #[.int .i64 f] 22)) (.func (.func F) #[] cs) 98)
  simp only[World.size_alloc] at q
  rw[hW]
  exact q
 have hs:Hid (w.heap.size+1+1<W0.heap.size/\∀ j,j<1->W0.cell? ⟨w.heap.size+1+1,j,none⟩=some (.int .i64 (nth [f] j))):=by
  rw[hW]
  refine⟨by simp,fun j hj=>?_⟩
  have q:(((w.alloc (.cells #[.int .i64 f] 22)).alloc (.cells #[.func (.func F) #[] cs] 98)).alloc (.cells #[.int .i64 f] 22)).heap[w.heap.size+1+1]?=some (.cells #[.int .i64 f] 22 (0,0)):=by have:=(MapKept.heap_alloc ((w.alloc (.cells #[.int .i64 f] 22)).alloc (.cells #[.func (.func F) #[] cs] 98)) (.cells #[.int .i64 f] 22)).1;simpa only[World.size_alloc] using this
  match j,hj with
  | 0,_=>simp only[World.cell?];rw[q];rfl
 have h':Hid ([f].all six=false):=by show _=_;simpa using h
 clear h
 go_enter Tryz.func70,Tryz.ntmps70
 go_wp2_with fail
 rw[<-hW]
 clear hW
 refine (are_any [f] 1 (w.heap.size+1+1) 1 rfl (by decide) (fun j=>in_one16 HT.out j) W0 hs.1 hs.2).mono ?_
 rintro e v1 ⟨rfl,hB⟩
 rw[h'.out]
 replace hb:=goB16 hb hB
 replace hc0:=cell_to16 hB hc0
 replace hc1:=cell_to16 hB hc1
 clear hB hs
 go_wp2_with fail
 go_ret
 exact⟨rfl,hb.out⟩
theorem mk_self_no (w:World):Calls Tryz.prog 73 #[.nilFunc] w fun r w'=>r=.returned .nilFunc/\Below w.heap.size w w':=by
 have hb:Hid (Below w.heap.size w (w.alloc (.cells #[.nilFunc] 70))):=(Below.refl _ w).alloc (Nat.le_refl _) _
 have hc:=box16 w .nilFunc 70
 have hq:=eqn_nil Tryz.underlying70
 go_enter Tryz.func73,Tryz.ntmps73
 go_wp2_with fail
 go_ret
 exact⟨rfl,hb.out⟩
theorem mk_self_k (F:Nat)(cs:Array Value)(w:World):Calls Tryz.prog 73 #[.func (.func F) #[] cs] w fun r w'=>r=.returned (.func (.func 116) #[] #[.pointer (some ⟨w.heap.size,0,none⟩)])/\w'.cell? ⟨w.heap.size,0,none⟩=some (.func (.func F) #[] cs)/\Below w.heap.size w w':=by
 have hb:Hid (Below w.heap.size w (w.alloc (.cells #[.func (.func F) #[] cs] 70))):=(Below.refl _ w).alloc (Nat.le_refl _) _
 have hc:=box16 w (.func (.func F) #[] cs) 70
 have hq:=eqn_fun Tryz.underlying70
 go_enter Tryz.func73,Tryz.ntmps73
 go_wp2_with fail
 go_ret
 exact⟨rfl,box16 w _ _,hb.out⟩
theorem mk_self (A:A2)(v:Value)(w:World)(h:Fu2 v w A):Calls Tryz.prog 73 #[v] w (Mk1 (fun c sz dz=>A c sz dz c sz dz) w):=by
 obtain⟨F,cs,rfl,hE,H⟩:=h
 refine (mk_self_k F _ w).mono fun _ _ ⟨e,hc,hB⟩=>⟨_,e,⟨116,[.pointer (some ⟨w.heap.size,0,none⟩)],rfl,(enters_of Tryz.func116 (by kernel_rfl) rfl),fun c sa sc sz da dc dz v hB' hA=>b_self _ w.heap.size F cs hE c sa sc sz da dc dz v (cell_to16 hB' hc) fun w' hB2=>H c sa sc sz da dc dz c sa sc sz da dc dz w' (hB.trans ((hB'.trans (hB2.mono hB'.size)).mono hB.size)) (hA.go hB2) (hA.go hB2)⟩,hB⟩
theorem mk_swap_no (w:World):Calls Tryz.prog 90 #[.nilFunc] w fun r w'=>r=.returned .nilFunc/\Below w.heap.size w w':=by
 have hb:Hid (Below w.heap.size w (w.alloc (.cells #[.nilFunc] 70))):=(Below.refl _ w).alloc (Nat.le_refl _) _
 have hc:=box16 w .nilFunc 70
 have hq:=eqn_nil Tryz.underlying70
 go_enter Tryz.func90,Tryz.ntmps90
 go_wp2_with fail
 go_ret
 exact⟨rfl,hb.out⟩
theorem mk_swap_k (F:Nat)(cs:Array Value)(w:World):Calls Tryz.prog 90 #[.func (.func F) #[] cs] w fun r w'=>r=.returned (.func (.func 146) #[] #[.pointer (some ⟨w.heap.size,0,none⟩)])/\w'.cell? ⟨w.heap.size,0,none⟩=some (.func (.func F) #[] cs)/\Below w.heap.size w w':=by
 have hb:Hid (Below w.heap.size w (w.alloc (.cells #[.func (.func F) #[] cs] 70))):=(Below.refl _ w).alloc (Nat.le_refl _) _
 have hc:=box16 w (.func (.func F) #[] cs) 70
 have hq:=eqn_fun Tryz.underlying70
 go_enter Tryz.func90,Tryz.ntmps90
 go_wp2_with fail
 go_ret
 exact⟨rfl,box16 w _ _,hb.out⟩
theorem mk_swap (A:A2)(v:Value)(w:World)(h:Fu2 v w A):Calls Tryz.prog 90 #[v] w (Mk2 (fun c sz dz c' sz' dz'=>A c' sz' dz' c sz dz) w):=by
 obtain⟨F,cs,rfl,hE,H⟩:=h
 refine (mk_swap_k F _ w).mono fun _ _ ⟨e,hc,hB⟩=>⟨_,e,⟨146,[.pointer (some ⟨w.heap.size,0,none⟩)],rfl,(enters_of Tryz.func146 (by kernel_rfl) rfl),fun c sa sc sz da dc dz c' sa' sc' sz' da' dc' dz' v hB' hA hA'=>b_swap _ w.heap.size F cs hE c sa sc sz da dc dz c' sa' sc' sz' da' dc' dz' v (cell_to16 hB' hc) fun w' hB2=>H c' sa' sc' sz' da' dc' dz' c sa sc sz da dc dz w' (hB.trans ((hB'.trans (hB2.mono hB'.size)).mono hB.size)) (hA'.go hB2) (hA.go hB2)⟩,hB⟩
end Go.Proofs.YtkmmkcpfhnifhaaGreatDoor
