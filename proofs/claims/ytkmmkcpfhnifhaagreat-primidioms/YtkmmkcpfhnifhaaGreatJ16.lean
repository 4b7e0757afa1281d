/- What the program tells, in part. -/
import Derived.Test.YtkmmkcpfhnifhaaGreatJ15
set_option linter.unusedVariables false
set_option maxHeartbeats 8000000
set_option maxRecDepth 100000
namespace Go.Proofs.YtkmmkcpfhnifhaaGreat
open Go.RowKit
theorem idioms_no (HR:CRvB)(HU:CUp)(HA:CAt)(HS:CSo)(c1:Bool)(sa1:Option Addr)(sc1:Nat)(sz1:List Int)(da1:Option Addr)(dc1:Nat)(dz1:List Int)(w:World)(w8:IsArrD w sa1 sz1 sc1 da1 dz1 dc1)(F1:Hid (flawE c1 sz1 dz1≠0)):
  Calls Tryz.prog 3 #[.agg #[.bool c1,.slice sa1 sz1.length sc1,.slice da1 dz1.length dc1]] w fun e w'=>e=.returned (.bool true)/\Below w.heap.size w w':=by
 obtain⟨x11,x12,x3,x4,s64,T⟩:=w8
 have HI1:Hid (IsC w.heap.size w sa1 sz1 sc1/\IsC w.heap.size w da1 dz1 dc1/\(∀ j,In64 (nth sz1 j))/\∀ j,In64 (nth dz1 j)):=⟨x3,x4,s64,T⟩
 clear x3 x4 T s64
 have n1:=Abx.new w (.bool c1) (.slice sa1 sz1.length sc1) (.slice da1 dz1.length dc1)
 have n2:=lit_mid (w.alloc (.cells #[.bool c1,.slice sa1 sz1.length sc1,.slice da1 dz1.length dc1] 24)) 3 [1,5] 2 rfl
 simp only[World.size_alloc,List.map_cons,List.map_nil] at n2
 go_enter Tryz.func3,Tryz.ntmps3
 go_wp2_with fail
 obtain⟨wo3,hwo3⟩:∃ wo3,wo3=((w.alloc (.cells #[.bool c1,.slice sa1 sz1.length sc1,.slice da1 dz1.length dc1] 24)).alloc (.cells #[.int .i64 1,.int .i64 5] 3)):=⟨_,rfl⟩
 rw[<-hwo3]
 have z4:w.heap.size+1+1<=wo3.heap.size:=by rw[hwo3];simp only[World.size_alloc];omega
 have B5:Hid (Abx wo3 (w.heap.size) (.bool c1) (.slice sa1 sz1.length sc1) (.slice da1 dz1.length dc1)):=by rw[hwo3];exact (n1.al (.cells #[.int .i64 1,.int .i64 5] 3))
 have L6:Hid (MidC (w.heap.size+1) (w.heap.size+1+1) wo3 (some ⟨w.heap.size+1,0,none⟩) ([1,5]) (2)):=by rw[hwo3];exact n2
 have hb7:Hid (Below w.heap.size w wo3):=by rw[hwo3];exact (((Below.refl w.heap.size w).alloc (by omega) (.cells #[.bool c1,.slice sa1 sz1.length sc1,.slice da1 dz1.length dc1] 24)).alloc (by simp only[World.size_alloc];omega) (.cells #[.int .i64 1,.int .i64 5] 3))
 have zwo3:w.heap.size<=wo3.heap.size:=hb7.size
 clear hwo3 n1 n2
 refine (vec_c (some ⟨w.heap.size+1,0,none⟩) 2 [1,5] (by simp) _ (L6.is (by omega)).1).mono ?_
 rintro e v1 ⟨vap,vcp,gap,gcp,rfl,hVp,hGp,hB⟩
 have z8:wo3.heap.size<=v1.heap.size:=hB.size
 have B9:Hid (Abx v1 (w.heap.size) (.bool c1) (.slice sa1 sz1.length sc1) (.slice da1 dz1.length dc1)):=B5.go hB
 have L10:Hid (MidC (w.heap.size+1) (w.heap.size+1+1) v1 (some ⟨w.heap.size+1,0,none⟩) ([1,5]) (2)):=L6.go (by omega) hB
 have hb11:Hid (Below w.heap.size w v1):=hb7.trans (hB.mono hb7.size)
 have L12:Hid (MidC (wo3.heap.size) (v1.heap.size) v1 (vap) ([(2:Int)]) (vcp)):=hVp.midc
 have L13:Hid (MidC (wo3.heap.size) (v1.heap.size) v1 (gap) ([1,5]) (gcp)):=hGp.midc
 clear hB hb7 B5 L6 hVp hGp
 clear L10
 go_wp2_with fail
 refine (one0 t1_18 (c:=false) (sz:=[(2:Int)]) (dz:=[1,5]) (c':=false) (S:=[(1:Int)]) (D:=[2]) (n:=1) (m:=1) rfl rfl rfl rfl rfl (by decide) (by decide) (L12.is (by omega)) (L13.is (by omega)) (by decide) (lit_all (by decide))).mono ?_
 rintro e v2 ⟨f1,g1,f2,g2,rfl,hX0,hY0,hB⟩
 have z14:v1.heap.size<=v2.heap.size:=hB.size
 have B15:Hid (Abx v2 (w.heap.size) (.bool c1) (.slice sa1 sz1.length sc1) (.slice da1 dz1.length dc1)):=B9.go hB
 have L16:Hid (MidC (wo3.heap.size) (v1.heap.size) v2 (vap) ([(2:Int)]) (vcp)):=L12.go (by omega) hB
 have L17:Hid (MidC (wo3.heap.size) (v1.heap.size) v2 (gap) ([1,5]) (gcp)):=L13.go (by omega) hB
 have hb18:Hid (Below w.heap.size w v2):=hb11.trans (hB.mono hb11.size)
 have L19:Hid (MidC (v1.heap.size) (v2.heap.size) v2 (f1) ([1]) (g1)):=hX0.midc
 have L20:Hid (MidC (v1.heap.size) (v2.heap.size) v2 (f2) ([2]) (g2)):=hY0.midc
 clear hB hb11 B9 L12 L13 hX0 hY0
 clear L16 L17
 have n21:=Abx.new v2 (.bool false) (.slice f1 1 g1) (.slice f2 1 g2)
 have l22:=(n21).c0
 have l23:=(n21).c1
 have l24:=(n21).c2
 have n25:=lit_mid (v2.alloc (.cells #[.bool false,.slice f1 1 g1,.slice f2 1 g2] 24)) 3 [2] 1 rfl
 simp only[World.size_alloc,List.map_cons,List.map_nil] at n25
 go_wp2_with fail
 obtain⟨wo26,hwo26⟩:∃ wo26,wo26=((v2.alloc (.cells #[.bool false,.slice f1 1 g1,.slice f2 1 g2] 24)).alloc (.cells #[.int .i64 2] 3)):=⟨_,rfl⟩
 rw[<-hwo26]
 have z27:v2.heap.size+1+1<=wo26.heap.size:=by rw[hwo26];simp only[World.size_alloc];omega
 have B28:Hid (Abx wo26 (w.heap.size) (.bool c1) (.slice sa1 sz1.length sc1) (.slice da1 dz1.length dc1)):=by rw[hwo26];exact ((B15.al (.cells #[.bool false,.slice f1 1 g1,.slice f2 1 g2] 24)).al (.cells #[.int .i64 2] 3))
 have B29:Hid (Abx wo26 (v2.heap.size) (.bool false) (.slice f1 1 g1) (.slice f2 1 g2)):=by rw[hwo26];exact (n21.al (.cells #[.int .i64 2] 3))
 have L30:Hid (MidC (v1.heap.size) (v2.heap.size) wo26 (f1) ([1]) (g1)):=by rw[hwo26];exact ((L19.al (by omega) (.cells #[.bool false,.slice f1 1 g1,.slice f2 1 g2] 24)).al (by simp only[World.size_alloc];omega) (.cells #[.int .i64 2] 3))
 have L31:Hid (MidC (v1.heap.size) (v2.heap.size) wo26 (f2) ([2]) (g2)):=by rw[hwo26];exact ((L20.al (by omega) (.cells #[.bool false,.slice f1 1 g1,.slice f2 1 g2] 24)).al (by simp only[World.size_alloc];omega) (.cells #[.int .i64 2] 3))
 have L32:Hid (MidC (v2.heap.size+1) (v2.heap.size+1+1) wo26 (some ⟨v2.heap.size+1,0,none⟩) ([2]) (1)):=by rw[hwo26];exact n25
 have hb33:Hid (Below w.heap.size w wo26):=by rw[hwo26];exact ((hb18.alloc (by omega) (.cells #[.bool false,.slice f1 1 g1,.slice f2 1 g2] 24)).alloc (by simp only[World.size_alloc];omega) (.cells #[.int .i64 2] 3))
 have zwo26:w.heap.size<=wo26.heap.size:=hb33.size
 clear hwo26 n21 l22 l23 l24 n25 hb18 B15 L19 L20
 refine (ints_any f2 g2 [2] (some ⟨v2.heap.size+1,0,none⟩) 1 [2] (by simp) _ _ (L31.is (by omega)).1 (L32.is (by omega)).1).mono ?_
 rintro e v3 ⟨rfl,hB⟩
 have z34:wo26.heap.size<=v3.heap.size:=hB.size
 have B35:Hid (Abx v3 (w.heap.size) (.bool c1) (.slice sa1 sz1.length sc1) (.slice da1 dz1.length dc1)):=B28.go hB
 have B36:Hid (Abx v3 (v2.heap.size) (.bool false) (.slice f1 1 g1) (.slice f2 1 g2)):=B29.go hB
 have L37:Hid (MidC (v1.heap.size) (v2.heap.size) v3 (f1) ([1]) (g1)):=L30.go (by omega) hB
 have L38:Hid (MidC (v1.heap.size) (v2.heap.size) v3 (f2) ([2]) (g2)):=L31.go (by omega) hB
 have L39:Hid (MidC (v2.heap.size+1) (v2.heap.size+1+1) v3 (some ⟨v2.heap.size+1,0,none⟩) ([2]) (1)):=L32.go (by omega) hB
 have hb40:Hid (Below w.heap.size w v3):=hb33.trans (hB.mono hb33.size)
 clear hB hb33 B28 B29 L30 L31 L32
 rw[eqB_true rfl]
 clear L37 L38 L39 B36
 have l41:=(B35.out).c0
 have l42:=(B35.out).c1
 have l43:=(B35.out).c2
 go_wp2_with fail
 clear l41 l42 l43
 refine (check_no c1 sa1 sc1 sz1 da1 dc1 dz1 x11 x12 _ ((HI1.1.1.below hb40.out).mono hb40.size) ((HI1.2.1.1.below hb40.out).mono hb40.size) F1.out).mono ?_
 rintro e v4 ⟨rfl,hB⟩
 have z44:v3.heap.size<=v4.heap.size:=hB.size
 have B45:Hid (Abx v4 (w.heap.size) (.bool c1) (.slice sa1 sz1.length sc1) (.slice da1 dz1.length dc1)):=B35.go hB
 have hb46:Hid (Below w.heap.size w v4):=hb40.trans (hB.mono hb40.size)
 clear hB hb40 B35
 go_wp2_with fail
 go_ret
 exact⟨rfl,hb46.out⟩
theorem idioms_many (HR:CRvB)(HU:CUp)(HA:CAt)(HS:CSo)(c1:Bool)(sa1:Option Addr)(sc1:Nat)(sz1:List Int)(da1:Option Addr)(dc1:Nat)(dz1:List Int)(w:World)(w8:IsArrD w sa1 sz1 sc1 da1 dz1 dc1)(F1:Hid (flawE c1 sz1 dz1=0))(HN:Hid (((sz1.length:Int) != 1)=true)):
  Calls Tryz.prog 3 #[.agg #[.bool c1,.slice sa1 sz1.length sc1,.slice da1 dz1.length dc1]] w fun e w'=>e=.returned (.bool true)/\Below w.heap.size w w':=by
 have HL:Hid (sz1.length<=6/\dz1.length<=4096):=flawE_short F1.out
 have HT:Hid (∀ j,In64 (nth sz1 j)):=in64_err (flawE_zero F1.out).1
 obtain⟨R,h1,h2,h3,h4,h5⟩:=turn_is F1.out w8.2.2.2.2.2
 have HR1:Hid (p1A 20 c1 sz1 dz1=anA c1 sz1 R/\p1A 20 c1 sz1 R=anA c1 sz1 dz1/\R.length=dz1.length/\flawE c1 sz1 R=0/\∀ j,In64 (nth R j)):=⟨h1,h2,h3,h4,h5⟩
 clear h1 h2 h3 h4 h5
 obtain⟨x11,x12,x3,x4,s64,T⟩:=w8
 have HI1:Hid (IsC w.heap.size w sa1 sz1 sc1/\IsC w.heap.size w da1 dz1 dc1/\(∀ j,In64 (nth sz1 j))/\∀ j,In64 (nth dz1 j)):=⟨x3,x4,s64,T⟩
 clear x3 x4 T s64
 have n1:=Abx.new w (.bool c1) (.slice sa1 sz1.length sc1) (.slice da1 dz1.length dc1)
 have n2:=lit_mid (w.alloc (.cells #[.bool c1,.slice sa1 sz1.length sc1,.slice da1 dz1.length dc1] 24)) 3 [1,5] 2 rfl
 simp only[World.size_alloc,List.map_cons,List.map_nil] at n2
 go_enter Tryz.func3,Tryz.ntmps3
 go_wp2_with fail
 obtain⟨wo3,hwo3⟩:∃ wo3,wo3=((w.alloc (.cells #[.bool c1,.slice sa1 sz1.length sc1,.slice da1 dz1.length dc1] 24)).alloc (.cells #[.int .i64 1,.int .i64 5] 3)):=⟨_,rfl⟩
 rw[<-hwo3]
 have z4:w.heap.size+1+1<=wo3.heap.size:=by rw[hwo3];simp only[World.size_alloc];omega
 have B5:Hid (Abx wo3 (w.heap.size) (.bool c1) (.slice sa1 sz1.length sc1) (.slice da1 dz1.length dc1)):=by rw[hwo3];exact (n1.al (.cells #[.int .i64 1,.int .i64 5] 3))
 have L6:Hid (MidC (w.heap.size+1) (w.heap.size+1+1) wo3 (some ⟨w.heap.size+1,0,none⟩) ([1,5]) (2)):=by rw[hwo3];exact n2
 have hb7:Hid (Below w.heap.size w wo3):=by rw[hwo3];exact (((Below.refl w.heap.size w).alloc (by omega) (.cells #[.bool c1,.slice sa1 sz1.length sc1,.slice da1 dz1.length dc1] 24)).alloc (by simp only[World.size_alloc];omega) (.cells #[.int .i64 1,.int .i64 5] 3))
 have zwo3:w.heap.size<=wo3.heap.size:=hb7.size
 clear hwo3 n1 n2
 refine (vec_c (some ⟨w.heap.size+1,0,none⟩) 2 [1,5] (by simp) _ (L6.is (by omega)).1).mono ?_
 rintro e v1 ⟨vap,vcp,gap,gcp,rfl,hVp,hGp,hB⟩
 have z8:wo3.heap.size<=v1.heap.size:=hB.size
 have B9:Hid (Abx v1 (w.heap.size) (.bool c1) (.slice sa1 sz1.length sc1) (.slice da1 dz1.length dc1)):=B5.go hB
 have L10:Hid (MidC (w.heap.size+1) (w.heap.size+1+1) v1 (some ⟨w.heap.size+1,0,none⟩) ([1,5]) (2)):=L6.go (by omega) hB
 have hb11:Hid (Below w.heap.size w v1):=hb7.trans (hB.mono hb7.size)
 have L12:Hid (MidC (wo3.heap.size) (v1.heap.size) v1 (vap) ([(2:Int)]) (vcp)):=hVp.midc
 have L13:Hid (MidC (wo3.heap.size) (v1.heap.size) v1 (gap) ([1,5]) (gcp)):=hGp.midc
 clear hB hb7 B5 L6 hVp hGp
 clear L10
 go_wp2_with fail
 refine (one0 t1_18 (c:=false) (sz:=[(2:Int)]) (dz:=[1,5]) (c':=false) (S:=[(1:Int)]) (D:=[2]) (n:=1) (m:=1) rfl rfl rfl rfl rfl (by decide) (by decide) (L12.is (by omega)) (L13.is (by omega)) (by decide) (lit_all (by decide))).mono ?_
 rintro e v2 ⟨f1,g1,f2,g2,rfl,hX0,hY0,hB⟩
 have z14:v1.heap.size<=v2.heap.size:=hB.size
 have B15:Hid (Abx v2 (w.heap.size) (.bool c1) (.slice sa1 sz1.length sc1) (.slice da1 dz1.length dc1)):=B9.go hB
 have L16:Hid (MidC (wo3.heap.size) (v1.heap.size) v2 (vap) ([(2:Int)]) (vcp)):=L12.go (by omega) hB
 have L17:Hid (MidC (wo3.heap.size) (v1.heap.size) v2 (gap) ([1,5]) (gcp)):=L13.go (by omega) hB
 have hb18:Hid (Below w.heap.size w v2):=hb11.trans (hB.mono hb11.size)
 have L19:Hid (MidC (v1.heap.size) (v2.heap.size) v2 (f1) ([1]) (g1)):=hX0.midc
 have L20:Hid (MidC (v1.heap.size) (v2.heap.size) v2 (f2) ([2]) (g2)):=hY0.midc
 clear hB hb11 B9 L12 L13 hX0 hY0
 clear L16 L17
 have n21:=Abx.new v2 (.bool false) (.slice f1 1 g1) (.slice f2 1 g2)
 have l22:=(n21).c0
 have l23:=(n21).c1
 have l24:=(n21).c2
 have n25:=lit_mid (v2.alloc (.cells #[.bool false,.slice f1 1 g1,.slice f2 1 g2] 24)) 3 [2] 1 rfl
 simp only[World.size_alloc,List.map_cons,List.map_nil] at n25
 go_wp2_with fail
 obtain⟨wo26,hwo26⟩:∃ wo26,wo26=((v2.alloc (.cells #[.bool false,.slice f1 1 g1,.slice f2 1 g2] 24)).alloc (.cells #[.int .i64 2] 3)):=⟨_,rfl⟩
 rw[<-hwo26]
 have z27:v2.heap.size+1+1<=wo26.heap.size:=by rw[hwo26];simp only[World.size_alloc];omega
 have B28:Hid (Abx wo26 (w.heap.size) (.bool c1) (.slice sa1 sz1.length sc1) (.slice da1 dz1.length dc1)):=by rw[hwo26];exact ((B15.al (.cells #[.bool false,.slice f1 1 g1,.slice f2 1 g2] 24)).al (.cells #[.int .i64 2] 3))
 have B29:Hid (Abx wo26 (v2.heap.size) (.bool false) (.slice f1 1 g1) (.slice f2 1 g2)):=by rw[hwo26];exact (n21.al (.cells #[.int .i64 2] 3))
 have L30:Hid (MidC (v1.heap.size) (v2.heap.size) wo26 (f1) ([1]) (g1)):=by rw[hwo26];exact ((L19.al (by omega) (.cells #[.bool false,.slice f1 1 g1,.slice f2 1 g2] 24)).al (by simp only[World.size_alloc];omega) (.cells #[.int .i64 2] 3))
 have L31:Hid (MidC (v1.heap.size) (v2.heap.size) wo26 (f2) ([2]) (g2)):=by rw[hwo26];exact ((L20.al (by omega) (.cells #[.bool false,.slice f1 1 g1,.slice f2 1 g2] 24)).al (by simp only[World.size_alloc];omega) (.cells #[.int .i64 2] 3))
 have L32:Hid (MidC (v2.heap.size+1) (v2.heap.size+1+1) wo26 (some ⟨v2.heap.size+1,0,none⟩) ([2]) (1)):=by rw[hwo26];exact n25
 have hb33:Hid (Below w.heap.size w wo26):=by rw[hwo26];exact ((hb18.alloc (by omega) (.cells #[.bool false,.slice f1 1 g1,.slice f2 1 g2] 24)).alloc (by simp only[World.size_alloc];omega) (.cells #[.int .i64 2] 3))
 have zwo26:w.heap.size<=wo26.heap.size:=hb33.size
 clear hwo26 n21 l22 l23 l24 n25 hb18 B15 L19 L20
 refine (ints_any f2 g2 [2] (some ⟨v2.heap.size+1,0,none⟩) 1 [2] (by simp) _ _ (L31.is (by omega)).1 (L32.is (by omega)).1).mono ?_
 rintro e v3 ⟨rfl,hB⟩
 have z34:wo26.heap.size<=v3.heap.size:=hB.size
 have B35:Hid (Abx v3 (w.heap.size) (.bool c1) (.slice sa1 sz1.length sc1) (.slice da1 dz1.length dc1)):=B28.go hB
 have B36:Hid (Abx v3 (v2.heap.size) (.bool false) (.slice f1 1 g1) (.slice f2 1 g2)):=B29.go hB
 have L37:Hid (MidC (v1.heap.size) (v2.heap.size) v3 (f1) ([1]) (g1)):=L30.go (by omega) hB
 have L38:Hid (MidC (v1.heap.size) (v2.heap.size) v3 (f2) ([2]) (g2)):=L31.go (by omega) hB
 have L39:Hid (MidC (v2.heap.size+1) (v2.heap.size+1+1) v3 (some ⟨v2.heap.size+1,0,none⟩) ([2]) (1)):=L32.go (by omega) hB
 have hb40:Hid (Below w.heap.size w v3):=hb33.trans (hB.mono hb33.size)
 clear hB hb33 B28 B29 L30 L31 L32
 rw[eqB_true rfl]
 clear L37 L38 L39 B36
 have l41:=(B35.out).c0
 have l42:=(B35.out).c1
 have l43:=(B35.out).c2
 go_wp2_with fail
 clear l41 l42 l43
 refine (check_ok c1 sa1 sc1 sz1 da1 dc1 dz1 x11 x12 _ ((HI1.1.1.below hb40.out).mono hb40.size) ((HI1.2.1.1.below hb40.out).mono hb40.size) F1.out).mono ?_
 rintro e v4 ⟨rfl,hB⟩
 have z44:v3.heap.size<=v4.heap.size:=hB.size
 have B45:Hid (Abx v4 (w.heap.size) (.bool c1) (.slice sa1 sz1.length sc1) (.slice da1 dz1.length dc1)):=B35.go hB
 have hb46:Hid (Below w.heap.size w v4):=hb40.trans (hB.mono hb40.size)
 clear hB hb40 B35
 have l47:=(B45.out).c0
 have l48:=(B45.out).c1
 have l49:=(B45.out).c2
 go_wp2_with fail
 clear l47 l48 l49
 refine (one0 t1_18 (c':=false) (S:=[(sz1.length:Int)]) (D:=sz1) rfl rfl rfl rfl rfl x11 x12 ((HI1.1.below hb46.out).mono hb46.size) ((HI1.2.1.below hb46.out).mono hb46.size) F1.out HI1.2.2.2).mono ?_
 rintro e v5 ⟨xa1,xc1,ya1,yc1,rfl,hX1,hY1,hB⟩
 have z50:v4.heap.size<=v5.heap.size:=hB.size
 have B51:Hid (Abx v5 (w.heap.size) (.bool c1) (.slice sa1 sz1.length sc1) (.slice da1 dz1.length dc1)):=B45.go hB
 have hb52:Hid (Below w.heap.size w v5):=hb46.trans (hB.mono hb46.size)
 have L53:Hid (MidC (v4.heap.size) (v5.heap.size) v5 (xa1) ([(sz1.length:Int)]) (xc1)):=hX1.midc
 have L54:Hid (MidC (v4.heap.size) (v5.heap.size) v5 (ya1) (sz1) (yc1)):=hY1.midc
 clear hB hb46 B45 hX1 hY1
 have n55:=Abx.new v5 (.bool false) (.slice xa1 1 xc1) (.slice ya1 sz1.length yc1)
 have l56:=((B51.al (.cells #[.bool false,.slice xa1 1 xc1,.slice ya1 sz1.length yc1] 24))).c0
 have l57:=((B51.al (.cells #[.bool false,.slice xa1 1 xc1,.slice ya1 sz1.length yc1] 24))).c1
 have l58:=((B51.al (.cells #[.bool false,.slice xa1 1 xc1,.slice ya1 sz1.length yc1] 24))).c2
 go_wp2_with fail
 obtain⟨wo59,hwo59⟩:∃ wo59,wo59=(v5.alloc (.cells #[.bool false,.slice xa1 1 xc1,.slice ya1 sz1.length yc1] 24)):=⟨_,rfl⟩
 rw[<-hwo59]
 have z60:v5.heap.size+1<=wo59.heap.size:=by rw[hwo59];simp only[World.size_alloc];omega
 have B61:Hid (Abx wo59 (w.heap.size) (.bool c1) (.slice sa1 sz1.length sc1) (.slice da1 dz1.length dc1)):=by rw[hwo59];exact (B51.al (.cells #[.bool false,.slice xa1 1 xc1,.slice ya1 sz1.length yc1] 24))
 have B62:Hid (Abx wo59 (v5.heap.size) (.bool false) (.slice xa1 1 xc1) (.slice ya1 sz1.length yc1)):=by rw[hwo59];exact n55
 have L63:Hid (MidC (v4.heap.size) (v5.heap.size) wo59 (xa1) ([(sz1.length:Int)]) (xc1)):=by rw[hwo59];exact (L53.al (by omega) (.cells #[.bool false,.slice xa1 1 xc1,.slice ya1 sz1.length yc1] 24))
 have L64:Hid (MidC (v4.heap.size) (v5.heap.size) wo59 (ya1) (sz1) (yc1)):=by rw[hwo59];exact (L54.al (by omega) (.cells #[.bool false,.slice xa1 1 xc1,.slice ya1 sz1.length yc1] 24))
 have hb65:Hid (Below w.heap.size w wo59):=by rw[hwo59];exact (hb52.alloc (by omega) (.cells #[.bool false,.slice xa1 1 xc1,.slice ya1 sz1.length yc1] 24))
 have zwo59:w.heap.size<=wo59.heap.size:=hb65.size
 clear hwo59 n55 l56 l57 l58 hb52 B51 L53 L54
 refine (one0 t1_19 (c':=c1) (S:=[(dz1.length:Int)]) (D:=dz1) rfl rfl rfl rfl rfl x11 x12 ((HI1.1.below hb65.out).mono hb65.size) ((HI1.2.1.below hb65.out).mono hb65.size) F1.out HI1.2.2.2).mono ?_
 rintro e v6 ⟨xa2,xc2,ya2,yc2,rfl,hX2,hY2,hB⟩
 have z66:wo59.heap.size<=v6.heap.size:=hB.size
 have B67:Hid (Abx v6 (w.heap.size) (.bool c1) (.slice sa1 sz1.length sc1) (.slice da1 dz1.length dc1)):=B61.go hB
 have B68:Hid (Abx v6 (v5.heap.size) (.bool false) (.slice xa1 1 xc1) (.slice ya1 sz1.length yc1)):=B62.go hB
 have L69:Hid (MidC (v4.heap.size) (v5.heap.size) v6 (xa1) ([(sz1.length:Int)]) (xc1)):=L63.go (by omega) hB
 have L70:Hid (MidC (v4.heap.size) (v5.heap.size) v6 (ya1) (sz1) (yc1)):=L64.go (by omega) hB
 have hb71:Hid (Below w.heap.size w v6):=hb65.trans (hB.mono hb65.size)
 have L72:Hid (MidC (wo59.heap.size) (v6.heap.size) v6 (xa2) ([(dz1.length:Int)]) (xc2)):=hX2.midc
 have L73:Hid (MidC (wo59.heap.size) (v6.heap.size) v6 (ya2) (dz1) (yc2)):=hY2.midc
 clear hB hb65 B61 B62 L63 L64 hX2 hY2
 have n74:=Abx.new v6 (.bool c1) (.slice xa2 1 xc2) (.slice ya2 dz1.length yc2)
 have l75:=((B68.al (.cells #[.bool c1,.slice xa2 1 xc2,.slice ya2 dz1.length yc2] 24))).c0
 have l76:=((B68.al (.cells #[.bool c1,.slice xa2 1 xc2,.slice ya2 dz1.length yc2] 24))).c1
 have l77:=((B68.al (.cells #[.bool c1,.slice xa2 1 xc2,.slice ya2 dz1.length yc2] 24))).c2
 have l78:=(n74).c0
 have l79:=(n74).c1
 have l80:=(n74).c2
 go_wp2_with fail
 obtain⟨wo81,hwo81⟩:∃ wo81,wo81=(v6.alloc (.cells #[.bool c1,.slice xa2 1 xc2,.slice ya2 dz1.length yc2] 24)):=⟨_,rfl⟩
 rw[<-hwo81]
 have z82:v6.heap.size+1<=wo81.heap.size:=by rw[hwo81];simp only[World.size_alloc];omega
 have B83:Hid (Abx wo81 (w.heap.size) (.bool c1) (.slice sa1 sz1.length sc1) (.slice da1 dz1.length dc1)):=by rw[hwo81];exact (B67.al (.cells #[.bool c1,.slice xa2 1 xc2,.slice ya2 dz1.length yc2] 24))
 have B84:Hid (Abx wo81 (v5.heap.size) (.bool false) (.slice xa1 1 xc1) (.slice ya1 sz1.length yc1)):=by rw[hwo81];exact (B68.al (.cells #[.bool c1,.slice xa2 1 xc2,.slice ya2 dz1.length yc2] 24))
 have B85:Hid (Abx wo81 (v6.heap.size) (.bool c1) (.slice xa2 1 xc2) (.slice ya2 dz1.length yc2)):=by rw[hwo81];exact n74
 have L86:Hid (MidC (v4.heap.size) (v5.heap.size) wo81 (xa1) ([(sz1.length:Int)]) (xc1)):=by rw[hwo81];exact (L69.al (by omega) (.cells #[.bool c1,.slice xa2 1 xc2,.slice ya2 dz1.length yc2] 24))
 have L87:Hid (MidC (v4.heap.size) (v5.heap.size) wo81 (ya1) (sz1) (yc1)):=by rw[hwo81];exact (L70.al (by omega) (.cells #[.bool c1,.slice xa2 1 xc2,.slice ya2 dz1.length yc2] 24))
 have L88:Hid (MidC (wo59.heap.size) (v6.heap.size) wo81 (xa2) ([(dz1.length:Int)]) (xc2)):=by rw[hwo81];exact (L72.al (by omega) (.cells #[.bool c1,.slice xa2 1 xc2,.slice ya2 dz1.length yc2] 24))
 have L89:Hid (MidC (wo59.heap.size) (v6.heap.size) wo81 (ya2) (dz1) (yc2)):=by rw[hwo81];exact (L73.al (by omega) (.cells #[.bool c1,.slice xa2 1 xc2,.slice ya2 dz1.length yc2] 24))
 have hb90:Hid (Below w.heap.size w wo81):=by rw[hwo81];exact (hb71.alloc (by omega) (.cells #[.bool c1,.slice xa2 1 xc2,.slice ya2 dz1.length yc2] 24))
 have zwo81:w.heap.size<=wo81.heap.size:=hb90.size
 clear hwo81 n74 l75 l76 l77 l78 l79 l80 hb71 B67 B68 L69 L70 L72 L73
 refine (two0 t2_18 (sz:=[(sz1.length:Int)]) (dz:=sz1) (sz2:=[(dz1.length:Int)]) (dz2:=dz1) (c':=c1) (S:=sz1) (D:=dz1) rfl rfl rfl rfl (rho_is F1.out) rfl rfl (by simp) x11 (L86.is (by omega)) (L87.is (by omega)) (by simp) x12 (L88.is (by omega)) (L89.is (by omega)) (shape_flaw F1.out) HT.out (flaw_line F1.out) HI1.2.2.2).mono ?_
 rintro e v7 ⟨xa3,xc3,ya3,yc3,rfl,hX3,hY3,hB⟩
 have z91:wo81.heap.size<=v7.heap.size:=hB.size
 have B92:Hid (Abx v7 (w.heap.size) (.bool c1) (.slice sa1 sz1.length sc1) (.slice da1 dz1.length dc1)):=B83.go hB
 have B93:Hid (Abx v7 (v5.heap.size) (.bool false) (.slice xa1 1 xc1) (.slice ya1 sz1.length yc1)):=B84.go hB
 have B94:Hid (Abx v7 (v6.heap.size) (.bool c1) (.slice xa2 1 xc2) (.slice ya2 dz1.length yc2)):=B85.go hB
 have L95:Hid (MidC (v4.heap.size) (v5.heap.size) v7 (xa1) ([(sz1.length:Int)]) (xc1)):=L86.go (by omega) hB
 have L96:Hid (MidC (v4.heap.size) (v5.heap.size) v7 (ya1) (sz1) (yc1)):=L87.go (by omega) hB
 have L97:Hid (MidC (wo59.heap.size) (v6.heap.size) v7 (xa2) ([(dz1.length:Int)]) (xc2)):=L88.go (by omega) hB
 have L98:Hid (MidC (wo59.heap.size) (v6.heap.size) v7 (ya2) (dz1) (yc2)):=L89.go (by omega) hB
 have hb99:Hid (Below w.heap.size w v7):=hb90.trans (hB.mono hb90.size)
 have L100:Hid (MidC (wo81.heap.size) (v7.heap.size) v7 (xa3) (sz1) (xc3)):=hX3.midc
 have L101:Hid (MidC (wo81.heap.size) (v7.heap.size) v7 (ya3) (dz1) (yc3)):=hY3.midc
 clear hB hb90 B83 B84 B85 L86 L87 L88 L89 hX3 hY3
 clear L97 L98 B94
 have n102:=Abx.new v7 (.bool c1) (.slice xa3 sz1.length xc3) (.slice ya3 dz1.length yc3)
 have l103:=(n102).c0
 have l104:=(n102).c1
 have l105:=(n102).c2
 have l106:=((B92.al (.cells #[.bool c1,.slice xa3 sz1.length xc3,.slice ya3 dz1.length yc3] 24))).c0
 have l107:=((B92.al (.cells #[.bool c1,.slice xa3 sz1.length xc3,.slice ya3 dz1.length yc3] 24))).c1
 have l108:=((B92.al (.cells #[.bool c1,.slice xa3 sz1.length xc3,.slice ya3 dz1.length yc3] 24))).c2
 go_wp2_with fail
 obtain⟨wo109,hwo109⟩:∃ wo109,wo109=(v7.alloc (.cells #[.bool c1,.slice xa3 sz1.length xc3,.slice ya3 dz1.length yc3] 24)):=⟨_,rfl⟩
 rw[<-hwo109]
 have z110:v7.heap.size+1<=wo109.heap.size:=by rw[hwo109];simp only[World.size_alloc];omega
 have B111:Hid (Abx wo109 (w.heap.size) (.bool c1) (.slice sa1 sz1.length sc1) (.slice da1 dz1.length dc1)):=by rw[hwo109];exact (B92.al (.cells #[.bool c1,.slice xa3 sz1.length xc3,.slice ya3 dz1.length yc3] 24))
 have B112:Hid (Abx wo109 (v5.heap.size) (.bool false) (.slice xa1 1 xc1) (.slice ya1 sz1.length yc1)):=by rw[hwo109];exact (B93.al (.cells #[.bool c1,.slice xa3 sz1.length xc3,.slice ya3 dz1.length yc3] 24))
 have B113:Hid (Abx wo109 (v7.heap.size) (.bool c1) (.slice xa3 sz1.length xc3) (.slice ya3 dz1.length yc3)):=by rw[hwo109];exact n102
 have L114:Hid (MidC (v4.heap.size) (v5.heap.size) wo109 (xa1) ([(sz1.length:Int)]) (xc1)):=by rw[hwo109];exact (L95.al (by omega) (.cells #[.bool c1,.slice xa3 sz1.length xc3,.slice ya3 dz1.length yc3] 24))
 have L115:Hid (MidC (v4.heap.size) (v5.heap.size) wo109 (ya1) (sz1) (yc1)):=by rw[hwo109];exact (L96.al (by omega) (.cells #[.bool c1,.slice xa3 sz1.length xc3,.slice ya3 dz1.length yc3] 24))
 have L116:Hid (MidC (wo81.heap.size) (v7.heap.size) wo109 (xa3) (sz1) (xc3)):=by rw[hwo109];exact (L100.al (by omega) (.cells #[.bool c1,.slice xa3 sz1.length xc3,.slice ya3 dz1.length yc3] 24))
 have L117:Hid (MidC (wo81.heap.size) (v7.heap.size) wo109 (ya3) (dz1) (yc3)):=by rw[hwo109];exact (L101.al (by omega) (.cells #[.bool c1,.slice xa3 sz1.length xc3,.slice ya3 dz1.length yc3] 24))
 have hb118:Hid (Below w.heap.size w wo109):=by rw[hwo109];exact (hb99.alloc (by omega) (.cells #[.bool c1,.slice xa3 sz1.length xc3,.slice ya3 dz1.length yc3] 24))
 have zwo109:w.heap.size<=wo109.heap.size:=hb118.size
 clear hwo109 n102 l103 l104 l105 l106 l107 l108 hb99 B92 B93 L95 L96 L100 L101
 refine (alike5 c1 xa3 xc3 sz1 ya3 yc3 dz1 sa1 sc1 da1 dc1 _ rfl x11 x12 _ (L116.is (by omega)).1 (L117.is (by omega)).1 ((HI1.1.1.below hb118.out).mono hb118.size) ((HI1.2.1.1.below hb118.out).mono hb118.size)).mono ?_
 rintro e v8 ⟨rfl,hB⟩
 have z119:wo109.heap.size<=v8.heap.size:=hB.size
 have B120:Hid (Abx v8 (w.heap.size) (.bool c1) (.slice sa1 sz1.length sc1) (.slice da1 dz1.length dc1)):=B111.go hB
 have B121:Hid (Abx v8 (v5.heap.size) (.bool false) (.slice xa1 1 xc1) (.slice ya1 sz1.length yc1)):=B112.go hB
 have B122:Hid (Abx v8 (v7.heap.size) (.bool c1) (.slice xa3 sz1.length xc3) (.slice ya3 dz1.length yc3)):=B113.go hB
 have L123:Hid (MidC (v4.heap.size) (v5.heap.size) v8 (xa1) ([(sz1.length:Int)]) (xc1)):=L114.go (by omega) hB
 have L124:Hid (MidC (v4.heap.size) (v5.heap.size) v8 (ya1) (sz1) (yc1)):=L115.go (by omega) hB
 have L125:Hid (MidC (wo81.heap.size) (v7.heap.size) v8 (xa3) (sz1) (xc3)):=L116.go (by omega) hB
 have L126:Hid (MidC (wo81.heap.size) (v7.heap.size) v8 (ya3) (dz1) (yc3)):=L117.go (by omega) hB
 have hb127:Hid (Below w.heap.size w v8):=hb118.trans (hB.mono hb118.size)
 clear hB hb118 B111 B112 B113 L114 L115 L116 L117
 clear L125 L126 B122
 have l128:=(B121.out).c0
 have l129:=(B121.out).c1
 have l130:=(B121.out).c2
 go_wp2_with fail
 clear l128 l129 l130
 refine (one0 t1_18 (c:=false) (sz:=[(sz1.length:Int)]) (dz:=sz1) (c':=false) (S:=[(1:Int)]) (D:=[(sz1.length:Int)]) rfl rfl rfl rfl rfl (by simp) x11 (L123.is (by omega)) (L124.is (by omega)) (shape_flaw F1.out) HT.out).mono ?_
 rintro e v9 ⟨xa4,xc4,ya4,yc4,rfl,hX4,hY4,hB⟩
 have z131:v8.heap.size<=v9.heap.size:=hB.size
 have B132:Hid (Abx v9 (w.heap.size) (.bool c1) (.slice sa1 sz1.length sc1) (.slice da1 dz1.length dc1)):=B120.go hB
 have B133:Hid (Abx v9 (v5.heap.size) (.bool false) (.slice xa1 1 xc1) (.slice ya1 sz1.length yc1)):=B121.go hB
 have L134:Hid (MidC (v4.heap.size) (v5.heap.size) v9 (xa1) ([(sz1.length:Int)]) (xc1)):=L123.go (by omega) hB
 have L135:Hid (MidC (v4.heap.size) (v5.heap.size) v9 (ya1) (sz1) (yc1)):=L124.go (by omega) hB
 have hb136:Hid (Below w.heap.size w v9):=hb127.trans (hB.mono hb127.size)
 have L137:Hid (MidC (v8.heap.size) (v9.heap.size) v9 (xa4) ([(1:Int)]) (xc4)):=hX4.midc
 have L138:Hid (MidC (v8.heap.size) (v9.heap.size) v9 (ya4) ([(sz1.length:Int)]) (yc4)):=hY4.midc
 clear hB hb127 B120 B121 L123 L124 hX4 hY4
 clear L134 L135 B133
 have n139:=Abx.new v9 (.bool false) (.slice xa4 1 xc4) (.slice ya4 1 yc4)
 have l140:=(n139).c0
 have l141:=(n139).c1
 have l142:=(n139).c2
 have l143:=((B132.al (.cells #[.bool false,.slice xa4 1 xc4,.slice ya4 1 yc4] 24))).c0
 have l144:=((B132.al (.cells #[.bool false,.slice xa4 1 xc4,.slice ya4 1 yc4] 24))).c1
 have l145:=((B132.al (.cells #[.bool false,.slice xa4 1 xc4,.slice ya4 1 yc4] 24))).c2
 have n146:=lit_mid (v9.alloc (.cells #[.bool false,.slice xa4 1 xc4,.slice ya4 1 yc4] 24)) 3 [(sz1.length:Int)] 1 rfl
 simp only[World.size_alloc,List.map_cons,List.map_nil] at n146
 go_wp2_with fail
 obtain⟨wo147,hwo147⟩:∃ wo147,wo147=((v9.alloc (.cells #[.bool false,.slice xa4 1 xc4,.slice ya4 1 yc4] 24)).alloc (.cells #[.int .i64 ((sz1.length:Int))] 3)):=⟨_,rfl⟩
 rw[<-hwo147]
 have z148:v9.heap.size+1+1<=wo147.heap.size:=by rw[hwo147];simp only[World.size_alloc];omega
 have B149:Hid (Abx wo147 (w.heap.size) (.bool c1) (.slice sa1 sz1.length sc1) (.slice da1 dz1.length dc1)):=by rw[hwo147];exact ((B132.al (.cells #[.bool false,.slice xa4 1 xc4,.slice ya4 1 yc4] 24)).al (.cells #[.int .i64 ((sz1.length:Int))] 3))
 have B150:Hid (Abx wo147 (v9.heap.size) (.bool false) (.slice xa4 1 xc4) (.slice ya4 1 yc4)):=by rw[hwo147];exact (n139.al (.cells #[.int .i64 ((sz1.length:Int))] 3))
 have L151:Hid (MidC (v8.heap.size) (v9.heap.size) wo147 (xa4) ([(1:Int)]) (xc4)):=by rw[hwo147];exact ((L137.al (by omega) (.cells #[.bool false,.slice xa4 1 xc4,.slice ya4 1 yc4] 24)).al (by simp only[World.size_alloc];omega) (.cells #[.int .i64 ((sz1.length:Int))] 3))
 have L152:Hid (MidC (v8.heap.size) (v9.heap.size) wo147 (ya4) ([(sz1.length:Int)]) (yc4)):=by rw[hwo147];exact ((L138.al (by omega) (.cells #[.bool false,.slice xa4 1 xc4,.slice ya4 1 yc4] 24)).al (by simp only[World.size_alloc];omega) (.cells #[.int .i64 ((sz1.length:Int))] 3))
 have L153:Hid (MidC (v9.heap.size+1) (v9.heap.size+1+1) wo147 (some ⟨v9.heap.size+1,0,none⟩) ([(sz1.length:Int)]) (1)):=by rw[hwo147];exact n146
 have hb154:Hid (Below w.heap.size w wo147):=by rw[hwo147];exact ((hb136.alloc (by omega) (.cells #[.bool false,.slice xa4 1 xc4,.slice ya4 1 yc4] 24)).alloc (by simp only[World.size_alloc];omega) (.cells #[.int .i64 ((sz1.length:Int))] 3))
 have zwo147:w.heap.size<=wo147.heap.size:=hb154.size
 clear hwo147 n139 l140 l141 l142 l143 l144 l145 n146 hb136 B132 L137 L138
 refine (ints_any ya4 yc4 [(sz1.length:Int)] (some ⟨v9.heap.size+1,0,none⟩) 1 [(sz1.length:Int)] (by simp) _ _ (L152.is (by omega)).1 (L153.is (by omega)).1).mono ?_
 rintro e v10 ⟨rfl,hB⟩
 have z155:wo147.heap.size<=v10.heap.size:=hB.size
 have B156:Hid (Abx v10 (w.heap.size) (.bool c1) (.slice sa1 sz1.length sc1) (.slice da1 dz1.length dc1)):=B149.go hB
 have B157:Hid (Abx v10 (v9.heap.size) (.bool false) (.slice xa4 1 xc4) (.slice ya4 1 yc4)):=B150.go hB
 have L158:Hid (MidC (v8.heap.size) (v9.heap.size) v10 (xa4) ([(1:Int)]) (xc4)):=L151.go (by omega) hB
 have L159:Hid (MidC (v8.heap.size) (v9.heap.size) v10 (ya4) ([(sz1.length:Int)]) (yc4)):=L152.go (by omega) hB
 have L160:Hid (MidC (v9.heap.size+1) (v9.heap.size+1+1) v10 (some ⟨v9.heap.size+1,0,none⟩) ([(sz1.length:Int)]) (1)):=L153.go (by omega) hB
 have hb161:Hid (Below w.heap.size w v10):=hb154.trans (hB.mono hb154.size)
 clear hB hb154 B149 B150 L151 L152 L153
 rw[eqB_true rfl]
 clear L158 L159 B157 L160
 have l162:=(B156.out).c0
 have l163:=(B156.out).c1
 have l164:=(B156.out).c2
 go_wp2_with fail
 clear l162 l163 l164
 refine (two0 t2_32 (c':=false) (S:=[]) (D:=[1]) rfl rfl rfl rfl (same_is F1.out) rfl rfl x11 x12 ((HI1.1.below hb161.out).mono hb161.size) ((HI1.2.1.below hb161.out).mono hb161.size) x11 x12 ((HI1.1.below hb161.out).mono hb161.size) ((HI1.2.1.below hb161.out).mono hb161.size) F1.out HI1.2.2.2 F1.out HI1.2.2.2).mono ?_
 rintro e v11 ⟨xa5,xc5,ya5,yc5,rfl,hX5,hY5,hB⟩
 have z165:v10.heap.size<=v11.heap.size:=hB.size
 have B166:Hid (Abx v11 (w.heap.size) (.bool c1) (.slice sa1 sz1.length sc1) (.slice da1 dz1.length dc1)):=B156.go hB
 have hb167:Hid (Below w.heap.size w v11):=hb161.trans (hB.mono hb161.size)
 have L168:Hid (MidC (v10.heap.size) (v11.heap.size) v11 (xa5) ([]) (xc5)):=hX5.midc
 have L169:Hid (MidC (v10.heap.size) (v11.heap.size) v11 (ya5) ([1]) (yc5)):=hY5.midc
 clear hB hb161 B156 hX5 hY5
 have n170:=Abx.new v11 (.bool false) (.slice xa5 0 xc5) (.slice ya5 1 yc5)
 have l171:=(n170).c0
 have l172:=(n170).c1
 have l173:=(n170).c2
 have n174:=lit_mid (v11.alloc (.cells #[.bool false,.slice xa5 0 xc5,.slice ya5 1 yc5] 24)) 3 [1] 1 rfl
 simp only[World.size_alloc,List.map_cons,List.map_nil] at n174
 go_wp2_with fail
 obtain⟨wo175,hwo175⟩:∃ wo175,wo175=((v11.alloc (.cells #[.bool false,.slice xa5 0 xc5,.slice ya5 1 yc5] 24)).alloc (.cells #[.int .i64 1] 3)):=⟨_,rfl⟩
 rw[<-hwo175]
 have z176:v11.heap.size+1+1<=wo175.heap.size:=by rw[hwo175];simp only[World.size_alloc];omega
 have B177:Hid (Abx wo175 (w.heap.size) (.bool c1) (.slice sa1 sz1.length sc1) (.slice da1 dz1.length dc1)):=by rw[hwo175];exact ((B166.al (.cells #[.bool false,.slice xa5 0 xc5,.slice ya5 1 yc5] 24)).al (.cells #[.int .i64 1] 3))
 have B178:Hid (Abx wo175 (v11.heap.size) (.bool false) (.slice xa5 0 xc5) (.slice ya5 1 yc5)):=by rw[hwo175];exact (n170.al (.cells #[.int .i64 1] 3))
 have L179:Hid (MidC (v10.heap.size) (v11.heap.size) wo175 (xa5) ([]) (xc5)):=by rw[hwo175];exact ((L168.al (by omega) (.cells #[.bool false,.slice xa5 0 xc5,.slice ya5 1 yc5] 24)).al (by simp only[World.size_alloc];omega) (.cells #[.int .i64 1] 3))
 have L180:Hid (MidC (v10.heap.size) (v11.heap.size) wo175 (ya5) ([1]) (yc5)):=by rw[hwo175];exact ((L169.al (by omega) (.cells #[.bool false,.slice xa5 0 xc5,.slice ya5 1 yc5] 24)).al (by simp only[World.size_alloc];omega) (.cells #[.int .i64 1] 3))
 have L181:Hid (MidC (v11.heap.size+1) (v11.heap.size+1+1) wo175 (some ⟨v11.heap.size+1,0,none⟩) ([1]) (1)):=by rw[hwo175];exact n174
 have hb182:Hid (Below w.heap.size w wo175):=by rw[hwo175];exact ((hb167.alloc (by omega) (.cells #[.bool false,.slice xa5 0 xc5,.slice ya5 1 yc5] 24)).alloc (by simp only[World.size_alloc];omega) (.cells #[.int .i64 1] 3))
 have zwo175:w.heap.size<=wo175.heap.size:=hb182.size
 clear hwo175 n170 l171 l172 l173 n174 hb167 B166 L168 L169
 refine (ints_any ya5 yc5 [1] (some ⟨v11.heap.size+1,0,none⟩) 1 [1] (by simp) _ _ (L180.is (by omega)).1 (L181.is (by omega)).1).mono ?_
 rintro e v12 ⟨rfl,hB⟩
 have z183:wo175.heap.size<=v12.heap.size:=hB.size
 have B184:Hid (Abx v12 (w.heap.size) (.bool c1) (.slice sa1 sz1.length sc1) (.slice da1 dz1.length dc1)):=B177.go hB
 have B185:Hid (Abx v12 (v11.heap.size) (.bool false) (.slice xa5 0 xc5) (.slice ya5 1 yc5)):=B178.go hB
 have L186:Hid (MidC (v10.heap.size) (v11.heap.size) v12 (xa5) ([]) (xc5)):=L179.go (by omega) hB
 have L187:Hid (MidC (v10.heap.size) (v11.heap.size) v12 (ya5) ([1]) (yc5)):=L180.go (by omega) hB
 have L188:Hid (MidC (v11.heap.size+1) (v11.heap.size+1+1) v12 (some ⟨v11.heap.size+1,0,none⟩) ([1]) (1)):=L181.go (by omega) hB
 have hb189:Hid (Below w.heap.size w v12):=hb182.trans (hB.mono hb182.size)
 clear hB hb182 B177 B178 L179 L180 L181
 rw[eqB_true rfl]
 clear L186 L187 B185 L188
 have l190:=(B184.out).c0
 have l191:=(B184.out).c1
 have l192:=(B184.out).c2
 go_wp2_with fail
 clear l190 l191 l192
 refine (one0 (t1_20 HR) (c':=c1) (S:=sz1) (D:=R) rfl rfl HR1.1 rfl HR1.2.2.1 x11 x12 ((HI1.1.below hb189.out).mono hb189.size) ((HI1.2.1.below hb189.out).mono hb189.size) F1.out HI1.2.2.2).mono ?_
 rintro e v13 ⟨xa6,xc6,ya6,yc6,rfl,hX6,hY6,hB⟩
 have z193:v12.heap.size<=v13.heap.size:=hB.size
 have B194:Hid (Abx v13 (w.heap.size) (.bool c1) (.slice sa1 sz1.length sc1) (.slice da1 dz1.length dc1)):=B184.go hB
 have hb195:Hid (Below w.heap.size w v13):=hb189.trans (hB.mono hb189.size)
 have L196:Hid (MidC (v12.heap.size) (v13.heap.size) v13 (xa6) (sz1) (xc6)):=hX6.midc
 have L197:Hid (MidC (v12.heap.size) (v13.heap.size) v13 (ya6) (R) (yc6)):=hY6.midc
 clear hB hb189 B184 hX6 hY6
 have n198:=Abx.new v13 (.bool c1) (.slice xa6 sz1.length xc6) (.slice ya6 dz1.length yc6)
 have l199:=(n198).c0
 have l200:=(n198).c1
 have l201:=(n198).c2
 go_wp2_with fail
 obtain⟨wo202,hwo202⟩:∃ wo202,wo202=(v13.alloc (.cells #[.bool c1,.slice xa6 sz1.length xc6,.slice ya6 dz1.length yc6] 24)):=⟨_,rfl⟩
 rw[<-hwo202]
 have z203:v13.heap.size+1<=wo202.heap.size:=by rw[hwo202];simp only[World.size_alloc];omega
 have B204:Hid (Abx wo202 (w.heap.size) (.bool c1) (.slice sa1 sz1.length sc1) (.slice da1 dz1.length dc1)):=by rw[hwo202];exact (B194.al (.cells #[.bool c1,.slice xa6 sz1.length xc6,.slice ya6 dz1.length yc6] 24))
 have B205:Hid (Abx wo202 (v13.heap.size) (.bool c1) (.slice xa6 sz1.length xc6) (.slice ya6 dz1.length yc6)):=by rw[hwo202];exact n198
 have L206:Hid (MidC (v12.heap.size) (v13.heap.size) wo202 (xa6) (sz1) (xc6)):=by rw[hwo202];exact (L196.al (by omega) (.cells #[.bool c1,.slice xa6 sz1.length xc6,.slice ya6 dz1.length yc6] 24))
 have L207:Hid (MidC (v12.heap.size) (v13.heap.size) wo202 (ya6) (R) (yc6)):=by rw[hwo202];exact (L197.al (by omega) (.cells #[.bool c1,.slice xa6 sz1.length xc6,.slice ya6 dz1.length yc6] 24))
 have hb208:Hid (Below w.heap.size w wo202):=by rw[hwo202];exact (hb195.alloc (by omega) (.cells #[.bool c1,.slice xa6 sz1.length xc6,.slice ya6 dz1.length yc6] 24))
 have zwo202:w.heap.size<=wo202.heap.size:=hb208.size
 clear hwo202 n198 l199 l200 l201 hb195 B194 L196 L197
 refine (one0 (t1_20 HR) (c:=c1) (sz:=sz1) (dz:=R) (c':=c1) (S:=sz1) (D:=dz1) rfl HR1.2.2.1 HR1.2.1 rfl rfl x11 (by rw[HR1.2.2.1];exact x12) (L206.is (by omega)) (L207.is (by omega)) HR1.2.2.2.1 HR1.2.2.2.2).mono ?_
 rintro e v14 ⟨xa7,xc7,ya7,yc7,rfl,hX7,hY7,hB⟩
 have z209:wo202.heap.size<=v14.heap.size:=hB.size
 have B210:Hid (Abx v14 (w.heap.size) (.bool c1) (.slice sa1 sz1.length sc1) (.slice da1 dz1.length dc1)):=B204.go hB
 have B211:Hid (Abx v14 (v13.heap.size) (.bool c1) (.slice xa6 sz1.length xc6) (.slice ya6 dz1.length yc6)):=B205.go hB
 have L212:Hid (MidC (v12.heap.size) (v13.heap.size) v14 (xa6) (sz1) (xc6)):=L206.go (by omega) hB
 have L213:Hid (MidC (v12.heap.size) (v13.heap.size) v14 (ya6) (R) (yc6)):=L207.go (by omega) hB
 have hb214:Hid (Below w.heap.size w v14):=hb208.trans (hB.mono hb208.size)
 have L215:Hid (MidC (wo202.heap.size) (v14.heap.size) v14 (xa7) (sz1) (xc7)):=hX7.midc
 have L216:Hid (MidC (wo202.heap.size) (v14.heap.size) v14 (ya7) (dz1) (yc7)):=hY7.midc
 clear hB hb208 B204 B205 L206 L207 hX7 hY7
 clear L212 L213
 have l217:=(B211.out).fr 0
 have l218:=(B211.out).c0
 have l219:=(B211.out).fr 1
 have l220:=(B211.out).c1
 have l221:=(B211.out).fr 2
 have l222:=(B211.out).c2
 have l223:=((B211.set3 (.bool c1) (.slice xa7 sz1.length xc7) (.slice ya7 dz1.length yc7))).c0
 have l224:=((B211.set3 (.bool c1) (.slice xa7 sz1.length xc7) (.slice ya7 dz1.length yc7))).c1
 have l225:=((B211.set3 (.bool c1) (.slice xa7 sz1.length xc7) (.slice ya7 dz1.length yc7))).c2
 have l226:=((abx_o3 B210.out (B:=v13.heap.size) (by omega) (.bool c1) (.slice xa7 sz1.length xc7) (.slice ya7 dz1.length yc7))).c0
 have l227:=((abx_o3 B210.out (B:=v13.heap.size) (by omega) (.bool c1) (.slice xa7 sz1.length xc7) (.slice ya7 dz1.length yc7))).c1
 have l228:=((abx_o3 B210.out (B:=v13.heap.size) (by omega) (.bool c1) (.slice xa7 sz1.length xc7) (.slice ya7 dz1.length yc7))).c2
 go_wp2_with fail
 obtain⟨wo229,hwo229⟩:∃ wo229,wo229=(((v14.setCell ⟨v13.heap.size,0,none⟩ (.bool c1)).setCell ⟨v13.heap.size,1,none⟩ (.slice xa7 sz1.length xc7)).setCell ⟨v13.heap.size,2,none⟩ (.slice ya7 dz1.length yc7)):=⟨_,rfl⟩
 rw[<-hwo229]
 have z230:v14.heap.size<=wo229.heap.size:=by rw[hwo229];simp only[World.size_setCell];omega
 have B231:Hid (Abx wo229 (w.heap.size) (.bool c1) (.slice sa1 sz1.length sc1) (.slice da1 dz1.length dc1)):=by rw[hwo229];exact (abx_o3 B210.out (B:=v13.heap.size) (by omega) (.bool c1) (.slice xa7 sz1.length xc7) (.slice ya7 dz1.length yc7))
 have B232:Hid (Abx wo229 (v13.heap.size) (.bool c1) (.slice xa7 sz1.length xc7) (.slice ya7 dz1.length yc7)):=by rw[hwo229];exact (B211.set3 (.bool c1) (.slice xa7 sz1.length xc7) (.slice ya7 dz1.length yc7))
 have L233:Hid (MidC (wo202.heap.size) (v14.heap.size) wo229 (xa7) (sz1) (xc7)):=by rw[hwo229];exact (L215.s3 (b:=v13.heap.size) (by omega) (.bool c1) (.slice xa7 sz1.length xc7) (.slice ya7 dz1.length yc7))
 have L234:Hid (MidC (wo202.heap.size) (v14.heap.size) wo229 (ya7) (dz1) (yc7)):=by rw[hwo229];exact (L216.s3 (b:=v13.heap.size) (by omega) (.bool c1) (.slice xa7 sz1.length xc7) (.slice ya7 dz1.length yc7))
 have hb235:Hid (Below w.heap.size w wo229):=by rw[hwo229];exact (bel_s3 hb214.out (B:=v13.heap.size) (by omega) (.bool c1) (.slice xa7 sz1.length xc7) (.slice ya7 dz1.length yc7))
 have zwo229:w.heap.size<=wo229.heap.size:=hb235.size
 clear hwo229 l217 l218 l219 l220 l221 l222 l223 l224 l225 l226 l227 l228 hb214 B210 B211 L215 L216
 refine (alike5 c1 xa7 xc7 sz1 ya7 yc7 dz1 sa1 sc1 da1 dc1 _ rfl x11 x12 _ (L233.is (by omega)).1 (L234.is (by omega)).1 ((HI1.1.1.below hb235.out).mono hb235.size) ((HI1.2.1.1.below hb235.out).mono hb235.size)).mono ?_
 rintro e v15 ⟨rfl,hB⟩
 have z236:wo229.heap.size<=v15.heap.size:=hB.size
 have B237:Hid (Abx v15 (w.heap.size) (.bool c1) (.slice sa1 sz1.length sc1) (.slice da1 dz1.length dc1)):=B231.go hB
 have B238:Hid (Abx v15 (v13.heap.size) (.bool c1) (.slice xa7 sz1.length xc7) (.slice ya7 dz1.length yc7)):=B232.go hB
 have L239:Hid (MidC (wo202.heap.size) (v14.heap.size) v15 (xa7) (sz1) (xc7)):=L233.go (by omega) hB
 have L240:Hid (MidC (wo202.heap.size) (v14.heap.size) v15 (ya7) (dz1) (yc7)):=L234.go (by omega) hB
 have hb241:Hid (Below w.heap.size w v15):=hb235.trans (hB.mono hb235.size)
 clear hB hb235 B231 B232 L233 L234
 clear L239 L240 B238
 have hq:=HN.out
 have l242:=(B237.out).c0
 have l243:=(B237.out).c1
 have l244:=(B237.out).c2
 go_wp2_with fail
 clear hq l242 l243 l244
 go_ret
 exact⟨rfl,hb241.out⟩
theorem idioms_one (HR:CRvB)(HU:CUp)(HA:CAt)(HS:CSo)(c1:Bool)(sa1:Option Addr)(sc1:Nat)(sz1:List Int)(da1:Option Addr)(dc1:Nat)(dz1:List Int)(w:World)(w8:IsArrD w sa1 sz1 sc1 da1 dz1 dc1)(F1:Hid (flawE c1 sz1 dz1=0))(H1:Hid (sz1.length=1)):
  Calls Tryz.prog 3 #[.agg #[.bool c1,.slice sa1 sz1.length sc1,.slice da1 dz1.length dc1]] w fun e w'=>e=.returned (.bool true)/\Below w.heap.size w w':=by
 obtain⟨O,hO⟩:∃ O,gdO false sz1 dz1=O:=⟨_,rfl⟩
 obtain⟨G,hG⟩:∃ G,gdD sz1 dz1=G:=⟨_,rfl⟩
 have HO:Hid (gdO false sz1 dz1=O/\sz1.length=1):=⟨hO,H1.out⟩
 have HO2:Hid ((∀ j,In64 (nth [(O.length:Int)] j))/\(∀ j,In64 (nth O j))/\O.length<=4096):=by rw[<-hO];exact gdO_64 F1.out H1.out
 have HO3:Hid ((pkE c1 sz1 dz1 [(false,([(O.length:Int)],O))]=0/\pkS [(false,([(O.length:Int)],O))]=sz1/\pkD sz1 dz1 [(false,([(O.length:Int)],O))]=G)/\(gdE c1 sz1 dz1=0/\gdD sz1 dz1=G)/\G.length<=4096):=by
  rw[<-hO,<-hG]
  exact⟨at_up F1.out H1.out,⟨(up_is F1.out H1.out).1,rfl⟩,by rw[gdD_len F1.out H1.out];exact (flawE_short F1.out).2⟩
 clear hO hG
 have HN:Hid (((sz1.length:Int) != 1)=false):=by show _=_;rw[H1.out];rfl
 have HL:Hid (sz1.length<=6/\dz1.length<=4096):=flawE_short F1.out
 have HT:Hid (∀ j,In64 (nth sz1 j)):=in64_err (flawE_zero F1.out).1
 obtain⟨R,h1,h2,h3,h4,h5⟩:=turn_is F1.out w8.2.2.2.2.2
 have HR1:Hid (p1A 20 c1 sz1 dz1=anA c1 sz1 R/\p1A 20 c1 sz1 R=anA c1 sz1 dz1/\R.length=dz1.length/\flawE c1 sz1 R=0/\∀ j,In64 (nth R j)):=⟨h1,h2,h3,h4,h5⟩
 clear h1 h2 h3 h4 h5
 obtain⟨x11,x12,x3,x4,s64,T⟩:=w8
 have HI1:Hid (IsC w.heap.size w sa1 sz1 sc1/\IsC w.heap.size w da1 dz1 dc1/\(∀ j,In64 (nth sz1 j))/\∀ j,In64 (nth dz1 j)):=⟨x3,x4,s64,T⟩
 clear x3 x4 T s64
 have n1:=Abx.new w (.bool c1) (.slice sa1 sz1.length sc1) (.slice da1 dz1.length dc1)
 have n2:=lit_mid (w.alloc (.cells #[.bool c1,.slice sa1 sz1.length sc1,.slice da1 dz1.length dc1] 24)) 3 [1,5] 2 rfl
 simp only[World.size_alloc,List.map_cons,List.map_nil] at n2
 go_enter Tryz.func3,Tryz.ntmps3
 go_wp2_with fail
 obtain⟨wo3,hwo3⟩:∃ wo3,wo3=((w.alloc (.cells #[.bool c1,.slice sa1 sz1.length sc1,.slice da1 dz1.length dc1] 24)).alloc (.cells #[.int .i64 1,.int .i64 5] 3)):=⟨_,rfl⟩
 rw[<-hwo3]
 have z4:w.heap.size+1+1<=wo3.heap.size:=by rw[hwo3];simp only[World.size_alloc];omega
 have B5:Hid (Abx wo3 (w.heap.size) (.bool c1) (.slice sa1 sz1.length sc1) (.slice da1 dz1.length dc1)):=by rw[hwo3];exact (n1.al (.cells #[.int .i64 1,.int .i64 5] 3))
 have L6:Hid (MidC (w.heap.size+1) (w.heap.size+1+1) wo3 (some ⟨w.heap.size+1,0,none⟩) ([1,5]) (2)):=by rw[hwo3];exact n2
 have hb7:Hid (Below w.heap.size w wo3):=by rw[hwo3];exact (((Below.refl w.heap.size w).alloc (by omega) (.cells #[.bool c1,.slice sa1 sz1.length sc1,.slice da1 dz1.length dc1] 24)).alloc (by simp only[World.size_alloc];omega) (.cells #[.int .i64 1,.int .i64 5] 3))
 have zwo3:w.heap.size<=wo3.heap.size:=hb7.size
 clear hwo3 n1 n2
 refine (vec_c (some ⟨w.heap.size+1,0,none⟩) 2 [1,5] (by simp) _ (L6.is (by omega)).1).mono ?_
 rintro e v1 ⟨vap,vcp,gap,gcp,rfl,hVp,hGp,hB⟩
 have z8:wo3.heap.size<=v1.heap.size:=hB.size
 have B9:Hid (Abx v1 (w.heap.size) (.bool c1) (.slice sa1 sz1.length sc1) (.slice da1 dz1.length dc1)):=B5.go hB
 have L10:Hid (MidC (w.heap.size+1) (w.heap.size+1+1) v1 (some ⟨w.heap.size+1,0,none⟩) ([1,5]) (2)):=L6.go (by omega) hB
 have hb11:Hid (Below w.heap.size w v1):=hb7.trans (hB.mono hb7.size)
 have L12:Hid (MidC (wo3.heap.size) (v1.heap.size) v1 (vap) ([(2:Int)]) (vcp)):=hVp.midc
 have L13:Hid (MidC (wo3.heap.size) (v1.heap.size) v1 (gap) ([1,5]) (gcp)):=hGp.midc
 clear hB hb7 B5 L6 hVp hGp
 clear L10
 go_wp2_with fail
 refine (one0 t1_18 (c:=false) (sz:=[(2:Int)]) (dz:=[1,5]) (c':=false) (S:=[(1:Int)]) (D:=[2]) (n:=1) (m:=1) rfl rfl rfl rfl rfl (by decide) (by decide) (L12.is (by omega)) (L13.is (by omega)) (by decide) (lit_all (by decide))).mono ?_
 rintro e v2 ⟨f1,g1,f2,g2,rfl,hX0,hY0,hB⟩
 have z14:v1.heap.size<=v2.heap.size:=hB.size
 have B15:Hid (Abx v2 (w.heap.size) (.bool c1) (.slice sa1 sz1.length sc1) (.slice da1 dz1.length dc1)):=B9.go hB
 have L16:Hid (MidC (wo3.heap.size) (v1.heap.size) v2 (vap) ([(2:Int)]) (vcp)):=L12.go (by omega) hB
 have L17:Hid (MidC (wo3.heap.size) (v1.heap.size) v2 (gap) ([1,5]) (gcp)):=L13.go (by omega) hB
 have hb18:Hid (Below w.heap.size w v2):=hb11.trans (hB.mono hb11.size)
 have L19:Hid (MidC (v1.heap.size) (v2.heap.size) v2 (f1) ([1]) (g1)):=hX0.midc
 have L20:Hid (MidC (v1.heap.size) (v2.heap.size) v2 (f2) ([2]) (g2)):=hY0.midc
 clear hB hb11 B9 L12 L13 hX0 hY0
 clear L16 L17
 have n21:=Abx.new v2 (.bool false) (.slice f1 1 g1) (.slice f2 1 g2)
 have l22:=(n21).c0
 have l23:=(n21).c1
 have l24:=(n21).c2
 have n25:=lit_mid (v2.alloc (.cells #[.bool false,.slice f1 1 g1,.slice f2 1 g2] 24)) 3 [2] 1 rfl
 simp only[World.size_alloc,List.map_cons,List.map_nil] at n25
 go_wp2_with fail
 obtain⟨wo26,hwo26⟩:∃ wo26,wo26=((v2.alloc (.cells #[.bool false,.slice f1 1 g1,.slice f2 1 g2] 24)).alloc (.cells #[.int .i64 2] 3)):=⟨_,rfl⟩
 rw[<-hwo26]
 have z27:v2.heap.size+1+1<=wo26.heap.size:=by rw[hwo26];simp only[World.size_alloc];omega
 have B28:Hid (Abx wo26 (w.heap.size) (.bool c1) (.slice sa1 sz1.length sc1) (.slice da1 dz1.length dc1)):=by rw[hwo26];exact ((B15.al (.cells #[.bool false,.slice f1 1 g1,.slice f2 1 g2] 24)).al (.cells #[.int .i64 2] 3))
 have B29:Hid (Abx wo26 (v2.heap.size) (.bool false) (.slice f1 1 g1) (.slice f2 1 g2)):=by rw[hwo26];exact (n21.al (.cells #[.int .i64 2] 3))
 have L30:Hid (MidC (v1.heap.size) (v2.heap.size) wo26 (f1) ([1]) (g1)):=by rw[hwo26];exact ((L19.al (by omega) (.cells #[.bool false,.slice f1 1 g1,.slice f2 1 g2] 24)).al (by simp only[World.size_alloc];omega) (.cells #[.int .i64 2] 3))
 have L31:Hid (MidC (v1.heap.size) (v2.heap.size) wo26 (f2) ([2]) (g2)):=by rw[hwo26];exact ((L20.al (by omega) (.cells #[.bool false,.slice f1 1 g1,.slice f2 1 g2] 24)).al (by simp only[World.size_alloc];omega) (.cells #[.int .i64 2] 3))
 have L32:Hid (MidC (v2.heap.size+1) (v2.heap.size+1+1) wo26 (some ⟨v2.heap.size+1,0,none⟩) ([2]) (1)):=by rw[hwo26];exact n25
 have hb33:Hid (Below w.heap.size w wo26):=by rw[hwo26];exact ((hb18.alloc (by omega) (.cells #[.bool false,.slice f1 1 g1,.slice f2 1 g2] 24)).alloc (by simp only[World.size_alloc];omega) (.cells #[.int .i64 2] 3))
 have zwo26:w.heap.size<=wo26.heap.size:=hb33.size
 clear hwo26 n21 l22 l23 l24 n25 hb18 B15 L19 L20
 refine (ints_any f2 g2 [2] (some ⟨v2.heap.size+1,0,none⟩) 1 [2] (by simp) _ _ (L31.is (by omega)).1 (L32.is (by omega)).1).mono ?_
 rintro e v3 ⟨rfl,hB⟩
 have z34:wo26.heap.size<=v3.heap.size:=hB.size
 have B35:Hid (Abx v3 (w.heap.size) (.bool c1) (.slice sa1 sz1.length sc1) (.slice da1 dz1.length dc1)):=B28.go hB
 have B36:Hid (Abx v3 (v2.heap.size) (.bool false) (.slice f1 1 g1) (.slice f2 1 g2)):=B29.go hB
 have L37:Hid (MidC (v1.heap.size) (v2.heap.size) v3 (f1) ([1]) (g1)):=L30.go (by omega) hB
 have L38:Hid (MidC (v1.heap.size) (v2.heap.size) v3 (f2) ([2]) (g2)):=L31.go (by omega) hB
 have L39:Hid (MidC (v2.heap.size+1) (v2.heap.size+1+1) v3 (some ⟨v2.heap.size+1,0,none⟩) ([2]) (1)):=L32.go (by omega) hB
 have hb40:Hid (Below w.heap.size w v3):=hb33.trans (hB.mono hb33.size)
 clear hB hb33 B28 B29 L30 L31 L32
 rw[eqB_true rfl]
 clear L37 L38 L39 B36
 have l41:=(B35.out).c0
 have l42:=(B35.out).c1
 have l43:=(B35.out).c2
 go_wp2_with fail
 clear l41 l42 l43
 refine (check_ok c1 sa1 sc1 sz1 da1 dc1 dz1 x11 x12 _ ((HI1.1.1.below hb40.out).mono hb40.size) ((HI1.2.1.1.below hb40.out).mono hb40.size) F1.out).mono ?_
 rintro e v4 ⟨rfl,hB⟩
 have z44:v3.heap.size<=v4.heap.size:=hB.size
 have B45:Hid (Abx v4 (w.heap.size) (.bool c1) (.slice sa1 sz1.length sc1) (.slice da1 dz1.length dc1)):=B35.go hB
 have hb46:Hid (Below w.heap.size w v4):=hb40.trans (hB.mono hb40.size)
 clear hB hb40 B35
 have l47:=(B45.out).c0
 have l48:=(B45.out).c1
 have l49:=(B45.out).c2
 go_wp2_with fail
 clear l47 l48 l49
 refine (one0 t1_18 (c':=false) (S:=[(sz1.length:Int)]) (D:=sz1) rfl rfl rfl rfl rfl x11 x12 ((HI1.1.below hb46.out).mono hb46.size) ((HI1.2.1.below hb46.out).mono hb46.size) F1.out HI1.2.2.2).mono ?_
 rintro e v5 ⟨xa1,xc1,ya1,yc1,rfl,hX1,hY1,hB⟩
 have z50:v4.heap.size<=v5.heap.size:=hB.size
 have B51:Hid (Abx v5 (w.heap.size) (.bool c1) (.slice sa1 sz1.length sc1) (.slice da1 dz1.length dc1)):=B45.go hB
 have hb52:Hid (Below w.heap.size w v5):=hb46.trans (hB.mono hb46.size)
 have L53:Hid (MidC (v4.heap.size) (v5.heap.size) v5 (xa1) ([(sz1.length:Int)]) (xc1)):=hX1.midc
 have L54:Hid (MidC (v4.heap.size) (v5.heap.size) v5 (ya1) (sz1) (yc1)):=hY1.midc
 clear hB hb46 B45 hX1 hY1
 have n55:=Abx.new v5 (.bool false) (.slice xa1 1 xc1) (.slice ya1 sz1.length yc1)
 have l56:=((B51.al (.cells #[.bool false,.slice xa1 1 xc1,.slice ya1 sz1.length yc1] 24))).c0
 have l57:=((B51.al (.cells #[.bool false,.slice xa1 1 xc1,.slice ya1 sz1.length yc1] 24))).c1
 have l58:=((B51.al (.cells #[.bool false,.slice xa1 1 xc1,.slice ya1 sz1.length yc1] 24))).c2
 go_wp2_with fail
 obtain⟨wo59,hwo59⟩:∃ wo59,wo59=(v5.alloc (.cells #[.bool false,.slice xa1 1 xc1,.slice ya1 sz1.length yc1] 24)):=⟨_,rfl⟩
 rw[<-hwo59]
 have z60:v5.heap.size+1<=wo59.heap.size:=by rw[hwo59];simp only[World.size_alloc];omega
 have B61:Hid (Abx wo59 (w.heap.size) (.bool c1) (.slice sa1 sz1.length sc1) (.slice da1 dz1.length dc1)):=by rw[hwo59];exact (B51.al (.cells #[.bool false,.slice xa1 1 xc1,.slice ya1 sz1.length yc1] 24))
 have B62:Hid (Abx wo59 (v5.heap.size) (.bool false) (.slice xa1 1 xc1) (.slice ya1 sz1.length yc1)):=by rw[hwo59];exact n55
 have L63:Hid (MidC (v4.heap.size) (v5.heap.size) wo59 (xa1) ([(sz1.length:Int)]) (xc1)):=by rw[hwo59];exact (L53.al (by omega) (.cells #[.bool false,.slice xa1 1 xc1,.slice ya1 sz1.length yc1] 24))
 have L64:Hid (MidC (v4.heap.size) (v5.heap.size) wo59 (ya1) (sz1) (yc1)):=by rw[hwo59];exact (L54.al (by omega) (.cells #[.bool false,.slice xa1 1 xc1,.slice ya1 sz1.length yc1] 24))
 have hb65:Hid (Below w.heap.size w wo59):=by rw[hwo59];exact (hb52.alloc (by omega) (.cells #[.bool false,.slice xa1 1 xc1,.slice ya1 sz1.length yc1] 24))
 have zwo59:w.heap.size<=wo59.heap.size:=hb65.size
 clear hwo59 n55 l56 l57 l58 hb52 B51 L53 L54
 refine (one0 t1_19 (c':=c1) (S:=[(dz1.length:Int)]) (D:=dz1) rfl rfl rfl rfl rfl x11 x12 ((HI1.1.below hb65.out).mono hb65.size) ((HI1.2.1.below hb65.out).mono hb65.size) F1.out HI1.2.2.2).mono ?_
 rintro e v6 ⟨xa2,xc2,ya2,yc2,rfl,hX2,hY2,hB⟩
 have z66:wo59.heap.size<=v6.heap.size:=hB.size
 have B67:Hid (Abx v6 (w.heap.size) (.bool c1) (.slice sa1 sz1.length sc1) (.slice da1 dz1.length dc1)):=B61.go hB
 have B68:Hid (Abx v6 (v5.heap.size) (.bool false) (.slice xa1 1 xc1) (.slice ya1 sz1.length yc1)):=B62.go hB
 have L69:Hid (MidC (v4.heap.size) (v5.heap.size) v6 (xa1) ([(sz1.length:Int)]) (xc1)):=L63.go (by omega) hB
 have L70:Hid (MidC (v4.heap.size) (v5.heap.size) v6 (ya1) (sz1) (yc1)):=L64.go (by omega) hB
 have hb71:Hid (Below w.heap.size w v6):=hb65.trans (hB.mono hb65.size)
 have L72:Hid (MidC (wo59.heap.size) (v6.heap.size) v6 (xa2) ([(dz1.length:Int)]) (xc2)):=hX2.midc
 have L73:Hid (MidC (wo59.heap.size) (v6.heap.size) v6 (ya2) (dz1) (yc2)):=hY2.midc
 clear hB hb65 B61 B62 L63 L64 hX2 hY2
 have n74:=Abx.new v6 (.bool c1) (.slice xa2 1 xc2) (.slice ya2 dz1.length yc2)
 have l75:=((B68.al (.cells #[.bool c1,.slice xa2 1 xc2,.slice ya2 dz1.length yc2] 24))).c0
 have l76:=((B68.al (.cells #[.bool c1,.slice xa2 1 xc2,.slice ya2 dz1.length yc2] 24))).c1
 have l77:=((B68.al (.cells #[.bool c1,.slice xa2 1 xc2,.slice ya2 dz1.length yc2] 24))).c2
 have l78:=(n74).c0
 have l79:=(n74).c1
 have l80:=(n74).c2
 go_wp2_with fail
 obtain⟨wo81,hwo81⟩:∃ wo81,wo81=(v6.alloc (.cells #[.bool c1,.slice xa2 1 xc2,.slice ya2 dz1.length yc2] 24)):=⟨_,rfl⟩
 rw[<-hwo81]
 have z82:v6.heap.size+1<=wo81.heap.size:=by rw[hwo81];simp only[World.size_alloc];omega
 have B83:Hid (Abx wo81 (w.heap.size) (.bool c1) (.slice sa1 sz1.length sc1) (.slice da1 dz1.length dc1)):=by rw[hwo81];exact (B67.al (.cells #[.bool c1,.slice xa2 1 xc2,.slice ya2 dz1.length yc2] 24))
 have B84:Hid (Abx wo81 (v5.heap.size) (.bool false) (.slice xa1 1 xc1) (.slice ya1 sz1.length yc1)):=by rw[hwo81];exact (B68.al (.cells #[.bool c1,.slice xa2 1 xc2,.slice ya2 dz1.length yc2] 24))
 have B85:Hid (Abx wo81 (v6.heap.size) (.bool c1) (.slice xa2 1 xc2) (.slice ya2 dz1.length yc2)):=by rw[hwo81];exact n74
 have L86:Hid (MidC (v4.heap.size) (v5.heap.size) wo81 (xa1) ([(sz1.length:Int)]) (xc1)):=by rw[hwo81];exact (L69.al (by omega) (.cells #[.bool c1,.slice xa2 1 xc2,.slice ya2 dz1.length yc2] 24))
 have L87:Hid (MidC (v4.heap.size) (v5.heap.size) wo81 (ya1) (sz1) (yc1)):=by rw[hwo81];exact (L70.al (by omega) (.cells #[.bool c1,.slice xa2 1 xc2,.slice ya2 dz1.length yc2] 24))
 have L88:Hid (MidC (wo59.heap.size) (v6.heap.size) wo81 (xa2) ([(dz1.length:Int)]) (xc2)):=by rw[hwo81];exact (L72.al (by omega) (.cells #[.bool c1,.slice xa2 1 xc2,.slice ya2 dz1.length yc2] 24))
 have L89:Hid (MidC (wo59.heap.size) (v6.heap.size) wo81 (ya2) (dz1) (yc2)):=by rw[hwo81];exact (L73.al (by omega) (.cells #[.bool c1,.slice xa2 1 xc2,.slice ya2 dz1.length yc2] 24))
 have hb90:Hid (Below w.heap.size w wo81):=by rw[hwo81];exact (hb71.alloc (by omega) (.cells #[.bool c1,.slice xa2 1 xc2,.slice ya2 dz1.length yc2] 24))
 have zwo81:w.heap.size<=wo81.heap.size:=hb90.size
 clear hwo81 n74 l75 l76 l77 l78 l79 l80 hb71 B67 B68 L69 L70 L72 L73
 refine (two0 t2_18 (sz:=[(sz1.length:Int)]) (dz:=sz1) (sz2:=[(dz1.length:Int)]) (dz2:=dz1) (c':=c1) (S:=sz1) (D:=dz1) rfl rfl rfl rfl (rho_is F1.out) rfl rfl (by simp) x11 (L86.is (by omega)) (L87.is (by omega)) (by simp) x12 (L88.is (by omega)) (L89.is (by omega)) (shape_flaw F1.out) HT.out (flaw_line F1.out) HI1.2.2.2).mono ?_
 rintro e v7 ⟨xa3,xc3,ya3,yc3,rfl,hX3,hY3,hB⟩
 have z91:wo81.heap.size<=v7.heap.size:=hB.size
 have B92:Hid (Abx v7 (w.heap.size) (.bool c1) (.slice sa1 sz1.length sc1) (.slice da1 dz1.length dc1)):=B83.go hB
 have B93:Hid (Abx v7 (v5.heap.size) (.bool false) (.slice xa1 1 xc1) (.slice ya1 sz1.length yc1)):=B84.go hB
 have B94:Hid (Abx v7 (v6.heap.size) (.bool c1) (.slice xa2 1 xc2) (.slice ya2 dz1.length yc2)):=B85.go hB
 have L95:Hid (MidC (v4.heap.size) (v5.heap.size) v7 (xa1) ([(sz1.length:Int)]) (xc1)):=L86.go (by omega) hB
 have L96:Hid (MidC (v4.heap.size) (v5.heap.size) v7 (ya1) (sz1) (yc1)):=L87.go (by omega) hB
 have L97:Hid (MidC (wo59.heap.size) (v6.heap.size) v7 (xa2) ([(dz1.length:Int)]) (xc2)):=L88.go (by omega) hB
 have L98:Hid (MidC (wo59.heap.size) (v6.heap.size) v7 (ya2) (dz1) (yc2)):=L89.go (by omega) hB
 have hb99:Hid (Below w.heap.size w v7):=hb90.trans (hB.mono hb90.size)
 have L100:Hid (MidC (wo81.heap.size) (v7.heap.size) v7 (xa3) (sz1) (xc3)):=hX3.midc
 have L101:Hid (MidC (wo81.heap.size) (v7.heap.size) v7 (ya3) (dz1) (yc3)):=hY3.midc
 clear hB hb90 B83 B84 B85 L86 L87 L88 L89 hX3 hY3
 clear L97 L98 B94
 have n102:=Abx.new v7 (.bool c1) (.slice xa3 sz1.length xc3) (.slice ya3 dz1.length yc3)
 have l103:=(n102).c0
 have l104:=(n102).c1
 have l105:=(n102).c2
 have l106:=((B92.al (.cells #[.bool c1,.slice xa3 sz1.length xc3,.slice ya3 dz1.length yc3] 24))).c0
 have l107:=((B92.al (.cells #[.bool c1,.slice xa3 sz1.length xc3,.slice ya3 dz1.length yc3] 24))).c1
 have l108:=((B92.al (.cells #[.bool c1,.slice xa3 sz1.length xc3,.slice ya3 dz1.length yc3] 24))).c2
 go_wp2_with fail
 obtain⟨wo109,hwo109⟩:∃ wo109,wo109=(v7.alloc (.cells #[.bool c1,.slice xa3 sz1.length xc3,.slice ya3 dz1.length yc3] 24)):=⟨_,rfl⟩
 rw[<-hwo109]
 have z110:v7.heap.size+1<=wo109.heap.size:=by rw[hwo109];simp only[World.size_alloc];omega
 have B111:Hid (Abx wo109 (w.heap.size) (.bool c1) (.slice sa1 sz1.length sc1) (.slice da1 dz1.length dc1)):=by rw[hwo109];exact (B92.al (.cells #[.bool c1,.slice xa3 sz1.length xc3,.slice ya3 dz1.length yc3] 24))
 have B112:Hid (Abx wo109 (v5.heap.size) (.bool false) (.slice xa1 1 xc1) (.slice ya1 sz1.length yc1)):=by rw[hwo109];exact (B93.al (.cells #[.bool c1,.slice xa3 sz1.length xc3,.slice ya3 dz1.length yc3] 24))
 have B113:Hid (Abx wo109 (v7.heap.size) (.bool c1) (.slice xa3 sz1.length xc3) (.slice ya3 dz1.length yc3)):=by rw[hwo109];exact n102
 have L114:Hid (MidC (v4.heap.size) (v5.heap.size) wo109 (xa1) ([(sz1.length:Int)]) (xc1)):=by rw[hwo109];exact (L95.al (by omega) (.cells #[.bool c1,.slice xa3 sz1.length xc3,.slice ya3 dz1.length yc3] 24))
 have L115:Hid (MidC (v4.heap.size) (v5.heap.size) wo109 (ya1) (sz1) (yc1)):=by rw[hwo109];exact (L96.al (by omega) (.cells #[.bool c1,.slice xa3 sz1.length xc3,.slice ya3 dz1.length yc3] 24))
 have L116:Hid (MidC (wo81.heap.size) (v7.heap.size) wo109 (xa3) (sz1) (xc3)):=by rw[hwo109];exact (L100.al (by omega) (.cells #[.bool c1,.slice xa3 sz1.length xc3,.slice ya3 dz1.length yc3] 24))
 have L117:Hid (MidC (wo81.heap.size) (v7.heap.size) wo109 (ya3) (dz1) (yc3)):=by rw[hwo109];exact (L101.al (by omega) (.cells #[.bool c1,.slice xa3 sz1.length xc3,.slice ya3 dz1.length yc3] 24))
 have hb118:Hid (Below w.heap.size w wo109):=by rw[hwo109];exact (hb99.alloc (by omega) (.cells #[.bool c1,.slice xa3 sz1.length xc3,.slice ya3 dz1.length yc3] 24))
 have zwo109:w.heap.size<=wo109.heap.size:=hb118.size
 clear hwo109 n102 l103 l104 l105 l106 l107 l108 hb99 B92 B93 L95 L96 L100 L101
 refine (alike5 c1 xa3 xc3 sz1 ya3 yc3 dz1 sa1 sc1 da1 dc1 _ rfl x11 x12 _ (L116.is (by omega)).1 (L117.is (by omega)).1 ((HI1.1.1.below hb118.out).mono hb118.size) ((HI1.2.1.1.below hb118.out).mono hb118.size)).mono ?_
 rintro e v8 ⟨rfl,hB⟩
 have z119:wo109.heap.size<=v8.heap.size:=hB.size
 have B120:Hid (Abx v8 (w.heap.size) (.bool c1) (.slice sa1 sz1.length sc1) (.slice da1 dz1.length dc1)):=B111.go hB
 have B121:Hid (Abx v8 (v5.heap.size) (.bool false) (.slice xa1 1 xc1) (.slice ya1 sz1.length yc1)):=B112.go hB
 have B122:Hid (Abx v8 (v7.heap.size) (.bool c1) (.slice xa3 sz1.length xc3) (.slice ya3 dz1.length yc3)):=B113.go hB
 have L123:Hid (MidC (v4.heap.size) (v5.heap.size) v8 (xa1) ([(sz1.length:Int)]) (xc1)):=L114.go (by omega) hB
 have L124:Hid (MidC (v4.heap.size) (v5.heap.size) v8 (ya1) (sz1) (yc1)):=L115.go (by omega) hB
 have L125:Hid (MidC (wo81.heap.size) (v7.heap.size) v8 (xa3) (sz1) (xc3)):=L116.go (by omega) hB
 have L126:Hid (MidC (wo81.heap.size) (v7.heap.size) v8 (ya3) (dz1) (yc3)):=L117.go (by omega) hB
 have hb127:Hid (Below w.heap.size w v8):=hb118.trans (hB.mono hb118.size)
 clear hB hb118 B111 B112 B113 L114 L115 L116 L117
 clear L125 L126 B122
 have l128:=(B121.out).c0
 have l129:=(B121.out).c1
 have l130:=(B121.out).c2
 go_wp2_with fail
 clear l128 l129 l130
 refine (one0 t1_18 (c:=false) (sz:=[(sz1.length:Int)]) (dz:=sz1) (c':=false) (S:=[(1:Int)]) (D:=[(sz1.length:Int)]) rfl rfl rfl rfl rfl (by simp) x11 (L123.is (by omega)) (L124.is (by omega)) (shape_flaw F1.out) HT.out).mono ?_
 rintro e v9 ⟨xa4,xc4,ya4,yc4,rfl,hX4,hY4,hB⟩
 have z131:v8.heap.size<=v9.heap.size:=hB.size
 have B132:Hid (Abx v9 (w.heap.size) (.bool c1) (.slice sa1 sz1.length sc1) (.slice da1 dz1.length dc1)):=B120.go hB
 have B133:Hid (Abx v9 (v5.heap.size) (.bool false) (.slice xa1 1 xc1) (.slice ya1 sz1.length yc1)):=B121.go hB
 have L134:Hid (MidC (v4.heap.size) (v5.heap.size) v9 (xa1) ([(sz1.length:Int)]) (xc1)):=L123.go (by omega) hB
 have L135:Hid (MidC (v4.heap.size) (v5.heap.size) v9 (ya1) (sz1) (yc1)):=L124.go (by omega) hB
 have hb136:Hid (Below w.heap.size w v9):=hb127.trans (hB.mono hb127.size)
 have L137:Hid (MidC (v8.heap.size) (v9.heap.size) v9 (xa4) ([(1:Int)]) (xc4)):=hX4.midc
 have L138:Hid (MidC (v8.heap.size) (v9.heap.size) v9 (ya4) ([(sz1.length:Int)]) (yc4)):=hY4.midc
 clear hB hb127 B120 B121 L123 L124 hX4 hY4
 clear L134 L135 B133
 have n139:=Abx.new v9 (.bool false) (.slice xa4 1 xc4) (.slice ya4 1 yc4)
 have l140:=(n139).c0
 have l141:=(n139).c1
 have l142:=(n139).c2
 have l143:=((B132.al (.cells #[.bool false,.slice xa4 1 xc4,.slice ya4 1 yc4] 24))).c0
 have l144:=((B132.al (.cells #[.bool false,.slice xa4 1 xc4,.slice ya4 1 yc4] 24))).c1
 have l145:=((B132.al (.cells #[.bool false,.slice xa4 1 xc4,.slice ya4 1 yc4] 24))).c2
 have n146:=lit_mid (v9.alloc (.cells #[.bool false,.slice xa4 1 xc4,.slice ya4 1 yc4] 24)) 3 [(sz1.length:Int)] 1 rfl
 simp only[World.size_alloc,List.map_cons,List.map_nil] at n146
 go_wp2_with fail
 obtain⟨wo147,hwo147⟩:∃ wo147,wo147=((v9.alloc (.cells #[.bool false,.slice xa4 1 xc4,.slice ya4 1 yc4] 24)).alloc (.cells #[.int .i64 ((sz1.length:Int))] 3)):=⟨_,rfl⟩
 rw[<-hwo147]
 have z148:v9.heap.size+1+1<=wo147.heap.size:=by rw[hwo147];simp only[World.size_alloc];omega
 have B149:Hid (Abx wo147 (w.heap.size) (.bool c1) (.slice sa1 sz1.length sc1) (.slice da1 dz1.length dc1)):=by rw[hwo147];exact ((B132.al (.cells #[.bool false,.slice xa4 1 xc4,.slice ya4 1 yc4] 24)).al (.cells #[.int .i64 ((sz1.length:Int))] 3))
 have B150:Hid (Abx wo147 (v9.heap.size) (.bool false) (.slice xa4 1 xc4) (.slice ya4 1 yc4)):=by rw[hwo147];exact (n139.al (.cells #[.int .i64 ((sz1.length:Int))] 3))
 have L151:Hid (MidC (v8.heap.size) (v9.heap.size) wo147 (xa4) ([(1:Int)]) (xc4)):=by rw[hwo147];exact ((L137.al (by omega) (.cells #[.bool false,.slice xa4 1 xc4,.slice ya4 1 yc4] 24)).al (by simp only[World.size_alloc];omega) (.cells #[.int .i64 ((sz1.length:Int))] 3))
 have L152:Hid (MidC (v8.heap.size) (v9.heap.size) wo147 (ya4) ([(sz1.length:Int)]) (yc4)):=by rw[hwo147];exact ((L138.al (by omega) (.cells #[.bool false,.slice xa4 1 xc4,.slice ya4 1 yc4] 24)).al (by simp only[World.size_alloc];omega) (.cells #[.int .i64 ((sz1.length:Int))] 3))
 have L153:Hid (MidC (v9.heap.size+1) (v9.heap.size+1+1) wo147 (some ⟨v9.heap.size+1,0,none⟩) ([(sz1.length:Int)]) (1)):=by rw[hwo147];exact n146
 have hb154:Hid (Below w.heap.size w wo147):=by rw[hwo147];exact ((hb136.alloc (by omega) (.cells #[.bool false,.slice xa4 1 xc4,.slice ya4 1 yc4] 24)).alloc (by simp only[World.size_alloc];omega) (.cells #[.int .i64 ((sz1.length:Int))] 3))
 have zwo147:w.heap.size<=wo147.heap.size:=hb154.size
 clear hwo147 n139 l140 l141 l142 l143 l144 l145 n146 hb136 B132 L137 L138
 refine (ints_any ya4 yc4 [(sz1.length:Int)] (some ⟨v9.heap.size+1,0,none⟩) 1 [(sz1.length:Int)] (by simp) _ _ (L152.is (by omega)).1 (L153.is (by omega)).1).mono ?_
 rintro e v10 ⟨rfl,hB⟩
 have z155:wo147.heap.size<=v10.heap.size:=hB.size
 have B156:Hid (Abx v10 (w.heap.size) (.bool c1) (.slice sa1 sz1.length sc1) (.slice da1 dz1.length dc1)):=B149.go hB
 have B157:Hid (Abx v10 (v9.heap.size) (.bool false) (.slice xa4 1 xc4) (.slice ya4 1 yc4)):=B150.go hB
 have L158:Hid (MidC (v8.heap.size) (v9.heap.size) v10 (xa4) ([(1:Int)]) (xc4)):=L151.go (by omega) hB
 have L159:Hid (MidC (v8.heap.size) (v9.heap.size) v10 (ya4) ([(sz1.length:Int)]) (yc4)):=L152.go (by omega) hB
 have L160:Hid (MidC (v9.heap.size+1) (v9.heap.size+1+1) v10 (some ⟨v9.heap.size+1,0,none⟩) ([(sz1.length:Int)]) (1)):=L153.go (by omega) hB
 have hb161:Hid (Below w.heap.size w v10):=hb154.trans (hB.mono hb154.size)
 clear hB hb154 B149 B150 L151 L152 L153
 rw[eqB_true rfl]
 clear L158 L159 B157 L160
 have l162:=(B156.out).c0
 have l163:=(B156.out).c1
 have l164:=(B156.out).c2
 go_wp2_with fail
 clear l162 l163 l164
 refine (two0 t2_32 (c':=false) (S:=[]) (D:=[1]) rfl rfl rfl rfl (same_is F1.out) rfl rfl x11 x12 ((HI1.1.below hb161.out).mono hb161.size) ((HI1.2.1.below hb161.out).mono hb161.size) x11 x12 ((HI1.1.below hb161.out).mono hb161.size) ((HI1.2.1.below hb161.out).mono hb161.size) F1.out HI1.2.2.2 F1.out HI1.2.2.2).mono ?_
 rintro e v11 ⟨xa5,xc5,ya5,yc5,rfl,hX5,hY5,hB⟩
 have z165:v10.heap.size<=v11.heap.size:=hB.size
 have B166:Hid (Abx v11 (w.heap.size) (.bool c1) (.slice sa1 sz1.length sc1) (.slice da1 dz1.length dc1)):=B156.go hB
 have hb167:Hid (Below w.heap.size w v11):=hb161.trans (hB.mono hb161.size)
 have L168:Hid (MidC (v10.heap.size) (v11.heap.size) v11 (xa5) ([]) (xc5)):=hX5.midc
 have L169:Hid (MidC (v10.heap.size) (v11.heap.size) v11 (ya5) ([1]) (yc5)):=hY5.midc
 clear hB hb161 B156 hX5 hY5
 have n170:=Abx.new v11 (.bool false) (.slice xa5 0 xc5) (.slice ya5 1 yc5)
 have l171:=(n170).c0
 have l172:=(n170).c1
 have l173:=(n170).c2
 have n174:=lit_mid (v11.alloc (.cells #[.bool false,.slice xa5 0 xc5,.slice ya5 1 yc5] 24)) 3 [1] 1 rfl
 simp only[World.size_alloc,List.map_cons,List.map_nil] at n174
 go_wp2_with fail
 obtain⟨wo175,hwo175⟩:∃ wo175,wo175=((v11.alloc (.cells #[.bool false,.slice xa5 0 xc5,.slice ya5 1 yc5] 24)).alloc (.cells #[.int .i64 1] 3)):=⟨_,rfl⟩
 rw[<-hwo175]
 have z176:v11.heap.size+1+1<=wo175.heap.size:=by rw[hwo175];simp only[World.size_alloc];omega
 have B177:Hid (Abx wo175 (w.heap.size) (.bool c1) (.slice sa1 sz1.length sc1) (.slice da1 dz1.length dc1)):=by rw[hwo175];exact ((B166.al (.cells #[.bool false,.slice xa5 0 xc5,.slice ya5 1 yc5] 24)).al (.cells #[.int .i64 1] 3))
 have B178:Hid (Abx wo175 (v11.heap.size) (.bool false) (.slice xa5 0 xc5) (.slice ya5 1 yc5)):=by rw[hwo175];exact (n170.al (.cells #[.int .i64 1] 3))
 have L179:Hid (MidC (v10.heap.size) (v11.heap.size) wo175 (xa5) ([]) (xc5)):=by rw[hwo175];exact ((L168.al (by omega) (.cells #[.bool false,.slice xa5 0 xc5,.slice ya5 1 yc5] 24)).al (by simp only[World.size_alloc];omega) (.cells #[.int .i64 1] 3))
 have L180:Hid (MidC (v10.heap.size) (v11.heap.size) wo175 (ya5) ([1]) (yc5)):=by rw[hwo175];exact ((L169.al (by omega) (.cells #[.bool false,.slice xa5 0 xc5,.slice ya5 1 yc5] 24)).al (by simp only[World.size_alloc];omega) (.cells #[.int .i64 1] 3))
 have L181:Hid (MidC (v11.heap.size+1) (v11.heap.size+1+1) wo175 (some ⟨v11.heap.size+1,0,none⟩) ([1]) (1)):=by rw[hwo175];exact n174
 have hb182:Hid (Below w.heap.size w wo175):=by rw[hwo175];exact ((hb167.alloc (by omega) (.cells #[.bool false,.slice xa5 0 xc5,.slice ya5 1 yc5] 24)).alloc (by simp only[World.size_alloc];omega) (.cells #[.int .i64 1] 3))
 have zwo175:w.heap.size<=wo175.heap.size:=hb182.size
 clear hwo175 n170 l171 l172 l173 n174 hb167 B166 L168 L169
 refine (ints_any ya5 yc5 [1] (some ⟨v11.heap.size+1,0,none⟩) 1 [1] (by simp) _ _ (L180.is (by omega)).1 (L181.is (by omega)).1).mono ?_
 rintro e v12 ⟨rfl,hB⟩
 have z183:wo175.heap.size<=v12.heap.size:=hB.size
 have B184:Hid (Abx v12 (w.heap.size) (.bool c1) (.slice sa1 sz1.length sc1) (.slice da1 dz1.length dc1)):=B177.go hB
 have B185:Hid (Abx v12 (v11.heap.size) (.bool false) (.slice xa5 0 xc5) (.slice ya5 1 yc5)):=B178.go hB
 have L186:Hid (MidC (v10.heap.size) (v11.heap.size) v12 (xa5) ([]) (xc5)):=L179.go (by omega) hB
 have L187:Hid (MidC (v10.heap.size) (v11.heap.size) v12 (ya5) ([1]) (yc5)):=L180.go (by omega) hB
 have L188:Hid (MidC (v11.heap.size+1) (v11.heap.size+1+1) v12 (some ⟨v11.heap.size+1,0,none⟩) ([1]) (1)):=L181.go (by omega) hB
 have hb189:Hid (Below w.heap.size w v12):=hb182.trans (hB.mono hb182.size)
 clear hB hb182 B177 B178 L179 L180 L181
 rw[eqB_true rfl]
 clear L186 L187 B185 L188
 have l190:=(B184.out).c0
 have l191:=(B184.out).c1
 have l192:=(B184.out).c2
 go_wp2_with fail
 clear l190 l191 l192
 refine (one0 (t1_20 HR) (c':=c1) (S:=sz1) (D:=R) rfl rfl HR1.1 rfl HR1.2.2.1 x11 x12 ((HI1.1.below hb189.out).mono hb189.size) ((HI1.2.1.below hb189.out).mono hb189.size) F1.out HI1.2.2.2).mono ?_
 rintro e v13 ⟨xa6,xc6,ya6,yc6,rfl,hX6,hY6,hB⟩
 have z193:v12.heap.size<=v13.heap.size:=hB.size
 have B194:Hid (Abx v13 (w.heap.size) (.bool c1) (.slice sa1 sz1.length sc1) (.slice da1 dz1.length dc1)):=B184.go hB
 have hb195:Hid (Below w.heap.size w v13):=hb189.trans (hB.mono hb189.size)
 have L196:Hid (MidC (v12.heap.size) (v13.heap.size) v13 (xa6) (sz1) (xc6)):=hX6.midc
 have L197:Hid (MidC (v12.heap.size) (v13.heap.size) v13 (ya6) (R) (yc6)):=hY6.midc
 clear hB hb189 B184 hX6 hY6
 have n198:=Abx.new v13 (.bool c1) (.slice xa6 sz1.length xc6) (.slice ya6 dz1.length yc6)
 have l199:=(n198).c0
 have l200:=(n198).c1
 have l201:=(n198).c2
 go_wp2_with fail
 obtain⟨wo202,hwo202⟩:∃ wo202,wo202=(v13.alloc (.cells #[.bool c1,.slice xa6 sz1.length xc6,.slice ya6 dz1.length yc6] 24)):=⟨_,rfl⟩
 rw[<-hwo202]
 have z203:v13.heap.size+1<=wo202.heap.size:=by rw[hwo202];simp only[World.size_alloc];omega
 have B204:Hid (Abx wo202 (w.heap.size) (.bool c1) (.slice sa1 sz1.length sc1) (.slice da1 dz1.length dc1)):=by rw[hwo202];exact (B194.al (.cells #[.bool c1,.slice xa6 sz1.length xc6,.slice ya6 dz1.length yc6] 24))
 have B205:Hid (Abx wo202 (v13.heap.size) (.bool c1) (.slice xa6 sz1.length xc6) (.slice ya6 dz1.length yc6)):=by rw[hwo202];exact n198
 have L206:Hid (MidC (v12.heap.size) (v13.heap.size) wo202 (xa6) (sz1) (xc6)):=by rw[hwo202];exact (L196.al (by omega) (.cells #[.bool c1,.slice xa6 sz1.length xc6,.slice ya6 dz1.length yc6] 24))
 have L207:Hid (MidC (v12.heap.size) (v13.heap.size) wo202 (ya6) (R) (yc6)):=by rw[hwo202];exact (L197.al (by omega) (.cells #[.bool c1,.slice xa6 sz1.length xc6,.slice ya6 dz1.length yc6] 24))
 have hb208:Hid (Below w.heap.size w wo202):=by rw[hwo202];exact (hb195.alloc (by omega) (.cells #[.bool c1,.slice xa6 sz1.length xc6,.slice ya6 dz1.length yc6] 24))
 have zwo202:w.heap.size<=wo202.heap.size:=hb208.size
 clear hwo202 n198 l199 l200 l201 hb195 B194 L196 L197
 refine (one0 (t1_20 HR) (c:=c1) (sz:=sz1) (dz:=R) (c':=c1) (S:=sz1) (D:=dz1) rfl HR1.2.2.1 HR1.2.1 rfl rfl x11 (by rw[HR1.2.2.1];exact x12) (L206.is (by omega)) (L207.is (by omega)) HR1.2.2.2.1 HR1.2.2.2.2).mono ?_
 rintro e v14 ⟨xa7,xc7,ya7,yc7,rfl,hX7,hY7,hB⟩
 have z209:wo202.heap.size<=v14.heap.size:=hB.size
 have B210:Hid (Abx v14 (w.heap.size) (.bool c1) (.slice sa1 sz1.length sc1) (.slice da1 dz1.length dc1)):=B204.go hB
 have B211:Hid (Abx v14 (v13.heap.size) (.bool c1) (.slice xa6 sz1.length xc6) (.slice ya6 dz1.length yc6)):=B205.go hB
 have L212:Hid (MidC (v12.heap.size) (v13.heap.size) v14 (xa6) (sz1) (xc6)):=L206.go (by omega) hB
 have L213:Hid (MidC (v12.heap.size) (v13.heap.size) v14 (ya6) (R) (yc6)):=L207.go (by omega) hB
 have hb214:Hid (Below w.heap.size w v14):=hb208.trans (hB.mono hb208.size)
 have L215:Hid (MidC (wo202.heap.size) (v14.heap.size) v14 (xa7) (sz1) (xc7)):=hX7.midc
 have L216:Hid (MidC (wo202.heap.size) (v14.heap.size) v14 (ya7) (dz1) (yc7)):=hY7.midc
 clear hB hb208 B204 B205 L206 L207 hX7 hY7
 clear L212 L213
 have l217:=(B211.out).fr 0
 have l218:=(B211.out).c0
 have l219:=(B211.out).fr 1
 have l220:=(B211.out).c1
 have l221:=(B211.out).fr 2
 have l222:=(B211.out).c2
 have l223:=((B211.set3 (.bool c1) (.slice xa7 sz1.length xc7) (.slice ya7 dz1.length yc7))).c0
 have l224:=((B211.set3 (.bool c1) (.slice xa7 sz1.length xc7) (.slice ya7 dz1.length yc7))).c1
 have l225:=((B211.set3 (.bool c1) (.slice xa7 sz1.length xc7) (.slice ya7 dz1.length yc7))).c2
 have l226:=((abx_o3 B210.out (B:=v13.heap.size) (by omega) (.bool c1) (.slice xa7 sz1.length xc7) (.slice ya7 dz1.length yc7))).c0
 have l227:=((abx_o3 B210.out (B:=v13.heap.size) (by omega) (.bool c1) (.slice xa7 sz1.length xc7) (.slice ya7 dz1.length yc7))).c1
 have l228:=((abx_o3 B210.out (B:=v13.heap.size) (by omega) (.bool c1) (.slice xa7 sz1.length xc7) (.slice ya7 dz1.length yc7))).c2
 go_wp2_with fail
 obtain⟨wo229,hwo229⟩:∃ wo229,wo229=(((v14.setCell ⟨v13.heap.size,0,none⟩ (.bool c1)).setCell ⟨v13.heap.size,1,none⟩ (.slice xa7 sz1.length xc7)).setCell ⟨v13.heap.size,2,none⟩ (.slice ya7 dz1.length yc7)):=⟨_,rfl⟩
 rw[<-hwo229]
 have z230:v14.heap.size<=wo229.heap.size:=by rw[hwo229];simp only[World.size_setCell];omega
 have B231:Hid (Abx wo229 (w.heap.size) (.bool c1) (.slice sa1 sz1.length sc1) (.slice da1 dz1.length dc1)):=by rw[hwo229];exact (abx_o3 B210.out (B:=v13.heap.size) (by omega) (.bool c1) (.slice xa7 sz1.length xc7) (.slice ya7 dz1.length yc7))
 have B232:Hid (Abx wo229 (v13.heap.size) (.bool c1) (.slice xa7 sz1.length xc7) (.slice ya7 dz1.length yc7)):=by rw[hwo229];exact (B211.set3 (.bool c1) (.slice xa7 sz1.length xc7) (.slice ya7 dz1.length yc7))
 have L233:Hid (MidC (wo202.heap.size) (v14.heap.size) wo229 (xa7) (sz1) (xc7)):=by rw[hwo229];exact (L215.s3 (b:=v13.heap.size) (by omega) (.bool c1) (.slice xa7 sz1.length xc7) (.slice ya7 dz1.length yc7))
 have L234:Hid (MidC (wo202.heap.size) (v14.heap.size) wo229 (ya7) (dz1) (yc7)):=by rw[hwo229];exact (L216.s3 (b:=v13.heap.size) (by omega) (.bool c1) (.slice xa7 sz1.length xc7) (.slice ya7 dz1.length yc7))
 have hb235:Hid (Below w.heap.size w wo229):=by rw[hwo229];exact (bel_s3 hb214.out (B:=v13.heap.size) (by omega) (.bool c1) (.slice xa7 sz1.length xc7) (.slice ya7 dz1.length yc7))
 have zwo229:w.heap.size<=wo229.heap.size:=hb235.size
 clear hwo229 l217 l218 l219 l220 l221 l222 l223 l224 l225 l226 l227 l228 hb214 B210 B211 L215 L216
 refine (alike5 c1 xa7 xc7 sz1 ya7 yc7 dz1 sa1 sc1 da1 dc1 _ rfl x11 x12 _ (L233.is (by omega)).1 (L234.is (by omega)).1 ((HI1.1.1.below hb235.out).mono hb235.size) ((HI1.2.1.1.below hb235.out).mono hb235.size)).mono ?_
 rintro e v15 ⟨rfl,hB⟩
 have z236:wo229.heap.size<=v15.heap.size:=hB.size
 have B237:Hid (Abx v15 (w.heap.size) (.bool c1) (.slice sa1 sz1.length sc1) (.slice da1 dz1.length dc1)):=B231.go hB
 have B238:Hid (Abx v15 (v13.heap.size) (.bool c1) (.slice xa7 sz1.length xc7) (.slice ya7 dz1.length yc7)):=B232.go hB
 have L239:Hid (MidC (wo202.heap.size) (v14.heap.size) v15 (xa7) (sz1) (xc7)):=L233.go (by omega) hB
 have L240:Hid (MidC (wo202.heap.size) (v14.heap.size) v15 (ya7) (dz1) (yc7)):=L234.go (by omega) hB
 have hb241:Hid (Below w.heap.size w v15):=hb235.trans (hB.mono hb235.size)
 clear hB hb235 B231 B232 L233 L234
 clear L239 L240 B238
 have hq:=HN.out
 have l242:=(B237.out).c0
 have l243:=(B237.out).c1
 have l244:=(B237.out).c2
 go_wp2_with fail
 clear hq l242 l243 l244
 refine (one0 (t1_26 HU) (c':=false) (S:=[(O.length:Int)]) (D:=O) rfl rfl (by rw[<-HO.1];exact (up_is F1.out HO.2).2) rfl rfl x11 x12 ((HI1.1.below hb241.out).mono hb241.size) ((HI1.2.1.below hb241.out).mono hb241.size) F1.out HI1.2.2.2).mono ?_
 rintro e v16 ⟨xa8,xc8,ya8,yc8,rfl,hX8,hY8,hB⟩
 have z245:v15.heap.size<=v16.heap.size:=hB.size
 have B246:Hid (Abx v16 (w.heap.size) (.bool c1) (.slice sa1 sz1.length sc1) (.slice da1 dz1.length dc1)):=B237.go hB
 have hb247:Hid (Below w.heap.size w v16):=hb241.trans (hB.mono hb241.size)
 have L248:Hid (MidC (v15.heap.size) (v16.heap.size) v16 (xa8) ([(O.length:Int)]) (xc8)):=hX8.midc
 have L249:Hid (MidC (v15.heap.size) (v16.heap.size) v16 (ya8) (O) (yc8)):=hY8.midc
 clear hB hb241 B237 hX8 hY8
 have n250:=Abx.new v16 (.bool false) (.slice xa8 1 xc8) (.slice ya8 O.length yc8)
 have l251:=((B246.al (.cells #[.bool false,.slice xa8 1 xc8,.slice ya8 O.length yc8] 24))).c0
 have l252:=((B246.al (.cells #[.bool false,.slice xa8 1 xc8,.slice ya8 O.length yc8] 24))).c1
 have l253:=((B246.al (.cells #[.bool false,.slice xa8 1 xc8,.slice ya8 O.length yc8] 24))).c2
 have l254:=(n250).c0
 have l255:=(n250).c1
 have l256:=(n250).c2
 have n257:=Abx.new (v16.alloc (.cells #[.bool false,.slice xa8 1 xc8,.slice ya8 O.length yc8] 24)) (.bool false) (.slice xa8 1 xc8) (.slice ya8 O.length yc8)
 simp only[World.size_alloc] at n257
 go_wp2_with fail
 obtain⟨wo258,hwo258⟩:∃ wo258,wo258=((v16.alloc (.cells #[.bool false,.slice xa8 1 xc8,.slice ya8 O.length yc8] 24)).alloc (.cells #[.bool false,.slice xa8 1 xc8,.slice ya8 O.length yc8] 24)):=⟨_,rfl⟩
 rw[<-hwo258]
 have z259:v16.heap.size+1+1<=wo258.heap.size:=by rw[hwo258];simp only[World.size_alloc];omega
 have B260:Hid (Abx wo258 (w.heap.size) (.bool c1) (.slice sa1 sz1.length sc1) (.slice da1 dz1.length dc1)):=by rw[hwo258];exact ((B246.al (.cells #[.bool false,.slice xa8 1 xc8,.slice ya8 O.length yc8] 24)).al (.cells #[.bool false,.slice xa8 1 xc8,.slice ya8 O.length yc8] 24))
 have B261:Hid (Abx wo258 (v16.heap.size) (.bool false) (.slice xa8 1 xc8) (.slice ya8 O.length yc8)):=by rw[hwo258];exact (n250.al (.cells #[.bool false,.slice xa8 1 xc8,.slice ya8 O.length yc8] 24))
 have B262:Hid (Abx wo258 (v16.heap.size+1) (.bool false) (.slice xa8 1 xc8) (.slice ya8 O.length yc8)):=by rw[hwo258];exact n257
 have L263:Hid (MidC (v15.heap.size) (v16.heap.size) wo258 (xa8) ([(O.length:Int)]) (xc8)):=by rw[hwo258];exact ((L248.al (by omega) (.cells #[.bool false,.slice xa8 1 xc8,.slice ya8 O.length yc8] 24)).al (by simp only[World.size_alloc];omega) (.cells #[.bool false,.slice xa8 1 xc8,.slice ya8 O.length yc8] 24))
 have L264:Hid (MidC (v15.heap.size) (v16.heap.size) wo258 (ya8) (O) (yc8)):=by rw[hwo258];exact ((L249.al (by omega) (.cells #[.bool false,.slice xa8 1 xc8,.slice ya8 O.length yc8] 24)).al (by simp only[World.size_alloc];omega) (.cells #[.bool false,.slice xa8 1 xc8,.slice ya8 O.length yc8] 24))
 have hb265:Hid (Below w.heap.size w wo258):=by rw[hwo258];exact ((hb247.alloc (by omega) (.cells #[.bool false,.slice xa8 1 xc8,.slice ya8 O.length yc8] 24)).alloc (by simp only[World.size_alloc];omega) (.cells #[.bool false,.slice xa8 1 xc8,.slice ya8 O.length yc8] 24))
 have zwo258:w.heap.size<=wo258.heap.size:=hb265.size
 clear hwo258 n250 l251 l252 l253 l254 l255 l256 n257 hb247 B246 L248 L249
 refine (at_ok c1 sa1 sc1 sz1 da1 dc1 dz1 (some ⟨v16.heap.size+1,0,none⟩) 1 [(false,(((xa8,xc8),[(O.length:Int)]),((ya8,yc8),O)))] 1 rfl _ x11 x12 (by decide) ((HI1.1.1.below hb265.out).mono hb265.size) ((HI1.2.1.1.below hb265.out).mono hb265.size) (as_one (c:=false) (sa:=xa8) (sc:=xc8) (sz:=[(O.length:Int)]) (da:=ya8) (dc:=yc8) (dz:=O) B262.out (by simp) (by have:=HO2.2.2;omega) (L263.is (by omega)) (L264.is (by omega)) HO2.1 HO2.2.1) sz1 G HA HO3.1).mono ?_
 rintro e v17 ⟨xa9,xc9,ya9,yc9,rfl,hX9,hY9,hB⟩
 have z266:wo258.heap.size<=v17.heap.size:=hB.size
 have B267:Hid (Abx v17 (w.heap.size) (.bool c1) (.slice sa1 sz1.length sc1) (.slice da1 dz1.length dc1)):=B260.go hB
 have B268:Hid (Abx v17 (v16.heap.size) (.bool false) (.slice xa8 1 xc8) (.slice ya8 O.length yc8)):=B261.go hB
 have B269:Hid (Abx v17 (v16.heap.size+1) (.bool false) (.slice xa8 1 xc8) (.slice ya8 O.length yc8)):=B262.go hB
 have L270:Hid (MidC (v15.heap.size) (v16.heap.size) v17 (xa8) ([(O.length:Int)]) (xc8)):=L263.go (by omega) hB
 have L271:Hid (MidC (v15.heap.size) (v16.heap.size) v17 (ya8) (O) (yc8)):=L264.go (by omega) hB
 have hb272:Hid (Below w.heap.size w v17):=hb265.trans (hB.mono hb265.size)
 have L273:Hid (MidC (wo258.heap.size) (v17.heap.size) v17 (xa9) (sz1) (xc9)):=hX9.midc
 have L274:Hid (MidC (wo258.heap.size) (v17.heap.size) v17 (ya9) (G) (yc9)):=hY9.midc
 clear hB hb265 B260 B261 B262 L263 L264 hX9 hY9
 clear L270 L271 B268 B269
 have n275:=Abx.new v17 (.bool c1) (.slice xa9 sz1.length xc9) (.slice ya9 G.length yc9)
 have l276:=((B267.al (.cells #[.bool c1,.slice xa9 sz1.length xc9,.slice ya9 G.length yc9] 24))).c0
 have l277:=((B267.al (.cells #[.bool c1,.slice xa9 sz1.length xc9,.slice ya9 G.length yc9] 24))).c1
 have l278:=((B267.al (.cells #[.bool c1,.slice xa9 sz1.length xc9,.slice ya9 G.length yc9] 24))).c2
 go_wp2_with fail
 obtain⟨wo279,hwo279⟩:∃ wo279,wo279=(v17.alloc (.cells #[.bool c1,.slice xa9 sz1.length xc9,.slice ya9 G.length yc9] 24)):=⟨_,rfl⟩
 rw[<-hwo279]
 have z280:v17.heap.size+1<=wo279.heap.size:=by rw[hwo279];simp only[World.size_alloc];omega
 have B281:Hid (Abx wo279 (w.heap.size) (.bool c1) (.slice sa1 sz1.length sc1) (.slice da1 dz1.length dc1)):=by rw[hwo279];exact (B267.al (.cells #[.bool c1,.slice xa9 sz1.length xc9,.slice ya9 G.length yc9] 24))
 have B282:Hid (Abx wo279 (v17.heap.size) (.bool c1) (.slice xa9 sz1.length xc9) (.slice ya9 G.length yc9)):=by rw[hwo279];exact n275
 have L283:Hid (MidC (wo258.heap.size) (v17.heap.size) wo279 (xa9) (sz1) (xc9)):=by rw[hwo279];exact (L273.al (by omega) (.cells #[.bool c1,.slice xa9 sz1.length xc9,.slice ya9 G.length yc9] 24))
 have L284:Hid (MidC (wo258.heap.size) (v17.heap.size) wo279 (ya9) (G) (yc9)):=by rw[hwo279];exact (L274.al (by omega) (.cells #[.bool c1,.slice xa9 sz1.length xc9,.slice ya9 G.length yc9] 24))
 have hb285:Hid (Below w.heap.size w wo279):=by rw[hwo279];exact (hb272.alloc (by omega) (.cells #[.bool c1,.slice xa9 sz1.length xc9,.slice ya9 G.length yc9] 24))
 have zwo279:w.heap.size<=wo279.heap.size:=hb285.size
 clear hwo279 n275 l276 l277 l278 hb272 B267 L273 L274
 refine ((HS c1 sa1 sc1 sz1 da1 dc1 dz1 _ x11 x12 ((HI1.1.below hb285.out).mono hb285.size) ((HI1.2.1.below hb285.out).mono hb285.size)).mono fun r w' h'=>UB.ok (S':=sz1) (D':=G) ⟨HO3.2.1.1,rfl,HO3.2.1.2⟩ h').mono ?_
 rintro e v18 ⟨xa10,xc10,ya10,yc10,rfl,hX10,hY10,hB⟩
 have z286:wo279.heap.size<=v18.heap.size:=hB.size
 have B287:Hid (Abx v18 (w.heap.size) (.bool c1) (.slice sa1 sz1.length sc1) (.slice da1 dz1.length dc1)):=B281.go hB
 have B288:Hid (Abx v18 (v17.heap.size) (.bool c1) (.slice xa9 sz1.length xc9) (.slice ya9 G.length yc9)):=B282.go hB
 have L289:Hid (MidC (wo258.heap.size) (v17.heap.size) v18 (xa9) (sz1) (xc9)):=L283.go (by omega) hB
 have L290:Hid (MidC (wo258.heap.size) (v17.heap.size) v18 (ya9) (G) (yc9)):=L284.go (by omega) hB
 have hb291:Hid (Below w.heap.size w v18):=hb285.trans (hB.mono hb285.size)
 have L292:Hid (MidC (wo279.heap.size) (v18.heap.size) v18 (xa10) (sz1) (xc10)):=hX10.midc
 have L293:Hid (MidC (wo279.heap.size) (v18.heap.size) v18 (ya10) (G) (yc10)):=hY10.midc
 clear hB hb285 B281 B282 L283 L284 hX10 hY10
 have n294:=Abx.new v18 (.bool c1) (.slice xa10 sz1.length xc10) (.slice ya10 G.length yc10)
 have l295:=((B288.al (.cells #[.bool c1,.slice xa10 sz1.length xc10,.slice ya10 G.length yc10] 24))).c0
 have l296:=((B288.al (.cells #[.bool c1,.slice xa10 sz1.length xc10,.slice ya10 G.length yc10] 24))).c1
 have l297:=((B288.al (.cells #[.bool c1,.slice xa10 sz1.length xc10,.slice ya10 G.length yc10] 24))).c2
 have l298:=(n294).c0
 have l299:=(n294).c1
 have l300:=(n294).c2
 go_wp2_with fail
 obtain⟨wo301,hwo301⟩:∃ wo301,wo301=(v18.alloc (.cells #[.bool c1,.slice xa10 sz1.length xc10,.slice ya10 G.length yc10] 24)):=⟨_,rfl⟩
 rw[<-hwo301]
 have z302:v18.heap.size+1<=wo301.heap.size:=by rw[hwo301];simp only[World.size_alloc];omega
 have B303:Hid (Abx wo301 (w.heap.size) (.bool c1) (.slice sa1 sz1.length sc1) (.slice da1 dz1.length dc1)):=by rw[hwo301];exact (B287.al (.cells #[.bool c1,.slice xa10 sz1.length xc10,.slice ya10 G.length yc10] 24))
 have B304:Hid (Abx wo301 (v17.heap.size) (.bool c1) (.slice xa9 sz1.length xc9) (.slice ya9 G.length yc9)):=by rw[hwo301];exact (B288.al (.cells #[.bool c1,.slice xa10 sz1.length xc10,.slice ya10 G.length yc10] 24))
 have B305:Hid (Abx wo301 (v18.heap.size) (.bool c1) (.slice xa10 sz1.length xc10) (.slice ya10 G.length yc10)):=by rw[hwo301];exact n294
 have L306:Hid (MidC (wo258.heap.size) (v17.heap.size) wo301 (xa9) (sz1) (xc9)):=by rw[hwo301];exact (L289.al (by omega) (.cells #[.bool c1,.slice xa10 sz1.length xc10,.slice ya10 G.length yc10] 24))
 have L307:Hid (MidC (wo258.heap.size) (v17.heap.size) wo301 (ya9) (G) (yc9)):=by rw[hwo301];exact (L290.al (by omega) (.cells #[.bool c1,.slice xa10 sz1.length xc10,.slice ya10 G.length yc10] 24))
 have L308:Hid (MidC (wo279.heap.size) (v18.heap.size) wo301 (xa10) (sz1) (xc10)):=by rw[hwo301];exact (L292.al (by omega) (.cells #[.bool c1,.slice xa10 sz1.length xc10,.slice ya10 G.length yc10] 24))
 have L309:Hid (MidC (wo279.heap.size) (v18.heap.size) wo301 (ya10) (G) (yc10)):=by rw[hwo301];exact (L293.al (by omega) (.cells #[.bool c1,.slice xa10 sz1.length xc10,.slice ya10 G.length yc10] 24))
 have hb310:Hid (Below w.heap.size w wo301):=by rw[hwo301];exact (hb291.alloc (by omega) (.cells #[.bool c1,.slice xa10 sz1.length xc10,.slice ya10 G.length yc10] 24))
 have zwo301:w.heap.size<=wo301.heap.size:=hb310.size
 clear hwo301 n294 l295 l296 l297 l298 l299 l300 hb291 B287 B288 L289 L290 L292 L293
 refine (alike5 c1 xa9 xc9 sz1 ya9 yc9 G xa10 xc10 ya10 yc10 _ rfl x11 (by have:=HO3.2.2;omega) _ (L306.is (by omega)).1 (L307.is (by omega)).1 (L308.is (by omega)).1 (L309.is (by omega)).1).mono ?_
 rintro e v19 ⟨rfl,hB⟩
 have z311:wo301.heap.size<=v19.heap.size:=hB.size
 have B312:Hid (Abx v19 (w.heap.size) (.bool c1) (.slice sa1 sz1.length sc1) (.slice da1 dz1.length dc1)):=B303.go hB
 have B313:Hid (Abx v19 (v17.heap.size) (.bool c1) (.slice xa9 sz1.length xc9) (.slice ya9 G.length yc9)):=B304.go hB
 have B314:Hid (Abx v19 (v18.heap.size) (.bool c1) (.slice xa10 sz1.length xc10) (.slice ya10 G.length yc10)):=B305.go hB
 have L315:Hid (MidC (wo258.heap.size) (v17.heap.size) v19 (xa9) (sz1) (xc9)):=L306.go (by omega) hB
 have L316:Hid (MidC (wo258.heap.size) (v17.heap.size) v19 (ya9) (G) (yc9)):=L307.go (by omega) hB
 have L317:Hid (MidC (wo279.heap.size) (v18.heap.size) v19 (xa10) (sz1) (xc10)):=L308.go (by omega) hB
 have L318:Hid (MidC (wo279.heap.size) (v18.heap.size) v19 (ya10) (G) (yc10)):=L309.go (by omega) hB
 have hb319:Hid (Below w.heap.size w v19):=hb310.trans (hB.mono hb310.size)
 clear hB hb310 B303 B304 B305 L306 L307 L308 L309
 clear L315 L316 L317 L318 B313 B314
 go_wp2_with fail
 go_ret
 exact⟨rfl,hb319.out⟩
theorem pidioms_walk (HR:CRvB)(HU:CUp)(HA:CAt)(HS:CSo)(c1:Bool)(sa1:Option Addr)(sc1:Nat)(sz1:List Int)(da1:Option Addr)(dc1:Nat)(dz1:List Int)(w:World)(w8:IsArrD w sa1 sz1 sc1 da1 dz1 dc1):
  Calls Tryz.prog 3 #[.agg #[.bool c1,.slice sa1 sz1.length sc1,.slice da1 dz1.length dc1]] w fun e w'=>e=.returned (.bool true)/\Below w.heap.size w w':=by
 by_cases h1:flawE c1 sz1 dz1=0
 ·by_cases h2:sz1.length=1
  ·exact idioms_one HR HU HA HS c1 sa1 sc1 sz1 da1 dc1 dz1 w w8 h1 h2
  ·exact idioms_many HR HU HA HS c1 sa1 sc1 sz1 da1 dc1 dz1 w w8 h1 (by show _=_;simp;omega)
 ·exact idioms_no HR HU HA HS c1 sa1 sc1 sz1 da1 dc1 dz1 w w8 h1
end Go.Proofs.YtkmmkcpfhnifhaaGreat
