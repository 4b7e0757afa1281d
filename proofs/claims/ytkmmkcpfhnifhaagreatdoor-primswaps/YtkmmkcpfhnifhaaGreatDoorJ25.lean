/- What the program tells, in part. -/
import Derived.Test.YtkmmkcpfhnifhaaGreatDoorJ24
set_option linter.unusedVariables false
set_option maxHeartbeats 8000000
set_option maxRecDepth 100000
namespace Go.Proofs.YtkmmkcpfhnifhaaGreatDoor
open Go.RowKit
theorem swaps_1 (HT:CT2)(HO:CO1)(f:Int)(hf:In64 f)(c1:Bool)(sa1:Option Addr)(sc1:Nat)(sz1:List Int)(da1:Option Addr)(dc1:Nat)(dz1:List Int)(c2:Bool)(sa2:Option Addr)(sc2:Nat)(sz2:List Int)(da2:Option Addr)(dc2:Nat)(dz2:List Int)(w:World)(hg:HasErr w)(w8:IsArrD w sa1 sz1 sc1 da1 dz1 dc1)(w9:IsArrD w sa2 sz2 sc2 da2 dz2 dc2)(F1:Hid (flawE c1 sz1 dz1≠0)):
  Calls Tryz.prog 5 #[.int .i64 f,.agg #[.bool c1,.slice sa1 sz1.length sc1,.slice da1 dz1.length dc1],.agg #[.bool c2,.slice sa2 sz2.length sc2,.slice da2 dz2.length dc2]] w fun e w'=>e=.returned (.bool true)/\Below w.heap.size w w':=by
 obtain⟨x11,x12,x3,x4,s64,T⟩:=w8
 have HI1:Hid (IsC w.heap.size w sa1 sz1 sc1/\IsC w.heap.size w da1 dz1 dc1/\(∀ j,In64 (nth sz1 j))/\∀ j,In64 (nth dz1 j)):=⟨x3,x4,s64,T⟩
 clear x3 x4 T s64
 obtain⟨x21,x22,x3,x4,s64,T⟩:=w9
 have HI2:Hid (IsC w.heap.size w sa2 sz2 sc2/\IsC w.heap.size w da2 dz2 dc2/\(∀ j,In64 (nth sz2 j))/\∀ j,In64 (nth dz2 j)):=⟨x3,x4,s64,T⟩
 clear x3 x4 T s64
 have HG:Hid (HasErr w):=hg
 clear hg
 have n1:=Abx.new w (.bool c1) (.slice sa1 sz1.length sc1) (.slice da1 dz1.length dc1)
 have n2:=Abx.new (w.alloc (.cells #[.bool c1,.slice sa1 sz1.length sc1,.slice da1 dz1.length dc1] 27)) (.bool c2) (.slice sa2 sz2.length sc2) (.slice da2 dz2.length dc2)
 simp only[World.size_alloc] at n2
 have n3:=lit_mid ((w.alloc (.cells #[.bool c1,.slice sa1 sz1.length sc1,.slice da1 dz1.length dc1] 27)).alloc (.cells #[.bool c2,.slice sa2 sz2.length sc2,.slice da2 dz2.length dc2] 27)) 3 [1] 1 rfl
 simp only[World.size_alloc,List.map_cons,List.map_nil] at n3
 go_enter Tryz.func5,Tryz.ntmps5
 go_wp2_with fail
 obtain⟨wo4,hwo4⟩:∃ wo4,wo4=(((w.alloc (.cells #[.bool c1,.slice sa1 sz1.length sc1,.slice da1 dz1.length dc1] 27)).alloc (.cells #[.bool c2,.slice sa2 sz2.length sc2,.slice da2 dz2.length dc2] 27)).alloc (.cells #[.int .i64 1] 3)):=⟨_,rfl⟩
 rw[<-hwo4]
 have z5:w.heap.size+1+1+1<=wo4.heap.size:=by rw[hwo4];simp only[World.size_alloc];omega
 have B6:Hid (Abx wo4 (w.heap.size) (.bool c1) (.slice sa1 sz1.length sc1) (.slice da1 dz1.length dc1)):=by rw[hwo4];exact ((n1.al (.cells #[.bool c2,.slice sa2 sz2.length sc2,.slice da2 dz2.length dc2] 27)).al (.cells #[.int .i64 1] 3))
 have B7:Hid (Abx wo4 (w.heap.size+1) (.bool c2) (.slice sa2 sz2.length sc2) (.slice da2 dz2.length dc2)):=by rw[hwo4];exact (n2.al (.cells #[.int .i64 1] 3))
 have L8:Hid (MidC (w.heap.size+1+1) (w.heap.size+1+1+1) wo4 (some ⟨w.heap.size+1+1,0,none⟩) ([1]) (1)):=by rw[hwo4];exact n3
 have hb9:Hid (Below w.heap.size w wo4):=by rw[hwo4];exact ((((Below.refl w.heap.size w).alloc (by omega) (.cells #[.bool c1,.slice sa1 sz1.length sc1,.slice da1 dz1.length dc1] 27)).alloc (by simp only[World.size_alloc];omega) (.cells #[.bool c2,.slice sa2 sz2.length sc2,.slice da2 dz2.length dc2] 27)).alloc (by simp only[World.size_alloc];omega) (.cells #[.int .i64 1] 3))
 have zwo4:w.heap.size<=wo4.heap.size:=hb9.size
 clear hwo4 n1 n2 n3
 refine (vec_c (some ⟨w.heap.size+1+1,0,none⟩) 1 [1] (by simp) _ (L8.is (by omega)).1).mono ?_
 rintro e v1 ⟨vap,vcp,gap,gcp,rfl,hVp,hGp,hB⟩
 have z10:wo4.heap.size<=v1.heap.size:=hB.size
 have B11:Hid (Abx v1 (w.heap.size) (.bool c1) (.slice sa1 sz1.length sc1) (.slice da1 dz1.length dc1)):=B6.go hB
 have B12:Hid (Abx v1 (w.heap.size+1) (.bool c2) (.slice sa2 sz2.length sc2) (.slice da2 dz2.length dc2)):=B7.go hB
 have L13:Hid (MidC (w.heap.size+1+1) (w.heap.size+1+1+1) v1 (some ⟨w.heap.size+1+1,0,none⟩) ([1]) (1)):=L8.go (by omega) hB
 have hb14:Hid (Below w.heap.size w v1):=hb9.trans (hB.mono hb9.size)
 have L15:Hid (MidC (wo4.heap.size) (v1.heap.size) v1 (vap) ([(1:Int)]) (vcp)):=hVp.midc
 have L16:Hid (MidC (wo4.heap.size) (v1.heap.size) v1 (gap) ([1]) (gcp)):=hGp.midc
 clear hB hb9 B6 B7 L8 hVp hGp
 clear L13
 have n17:=lit_mid v1 3 [5] 1 rfl
 simp only[List.map_cons,List.map_nil] at n17
 go_wp2_with fail
 obtain⟨wo18,hwo18⟩:∃ wo18,wo18=(v1.alloc (.cells #[.int .i64 5] 3)):=⟨_,rfl⟩
 rw[<-hwo18]
 have z19:v1.heap.size+1<=wo18.heap.size:=by rw[hwo18];simp only[World.size_alloc];omega
 have B20:Hid (Abx wo18 (w.heap.size) (.bool c1) (.slice sa1 sz1.length sc1) (.slice da1 dz1.length dc1)):=by rw[hwo18];exact (B11.al (.cells #[.int .i64 5] 3))
 have B21:Hid (Abx wo18 (w.heap.size+1) (.bool c2) (.slice sa2 sz2.length sc2) (.slice da2 dz2.length dc2)):=by rw[hwo18];exact (B12.al (.cells #[.int .i64 5] 3))
 have L22:Hid (MidC (wo4.heap.size) (v1.heap.size) wo18 (vap) ([(1:Int)]) (vcp)):=by rw[hwo18];exact (L15.al (by omega) (.cells #[.int .i64 5] 3))
 have L23:Hid (MidC (wo4.heap.size) (v1.heap.size) wo18 (gap) ([1]) (gcp)):=by rw[hwo18];exact (L16.al (by omega) (.cells #[.int .i64 5] 3))
 have L24:Hid (MidC (v1.heap.size) (v1.heap.size+1) wo18 (some ⟨v1.heap.size,0,none⟩) ([5]) (1)):=by rw[hwo18];exact n17
 have hb25:Hid (Below w.heap.size w wo18):=by rw[hwo18];exact (hb14.alloc (by omega) (.cells #[.int .i64 5] 3))
 have zwo18:w.heap.size<=wo18.heap.size:=hb25.size
 clear hwo18 n17 hb14 B11 B12 L15 L16
 refine (vec_c (some ⟨v1.heap.size,0,none⟩) 1 [5] (by simp) _ (L24.is (by omega)).1).mono ?_
 rintro e v2 ⟨vaq,vcq,gaq,gcq,rfl,hVq,hGq,hB⟩
 have z26:wo18.heap.size<=v2.heap.size:=hB.size
 have B27:Hid (Abx v2 (w.heap.size) (.bool c1) (.slice sa1 sz1.length sc1) (.slice da1 dz1.length dc1)):=B20.go hB
 have B28:Hid (Abx v2 (w.heap.size+1) (.bool c2) (.slice sa2 sz2.length sc2) (.slice da2 dz2.length dc2)):=B21.go hB
 have L29:Hid (MidC (wo4.heap.size) (v1.heap.size) v2 (vap) ([(1:Int)]) (vcp)):=L22.go (by omega) hB
 have L30:Hid (MidC (wo4.heap.size) (v1.heap.size) v2 (gap) ([1]) (gcp)):=L23.go (by omega) hB
 have L31:Hid (MidC (v1.heap.size) (v1.heap.size+1) v2 (some ⟨v1.heap.size,0,none⟩) ([5]) (1)):=L24.go (by omega) hB
 have hb32:Hid (Below w.heap.size w v2):=hb25.trans (hB.mono hb25.size)
 have L33:Hid (MidC (wo18.heap.size) (v2.heap.size) v2 (vaq) ([(1:Int)]) (vcq)):=hVq.midc
 have L34:Hid (MidC (wo18.heap.size) (v2.heap.size) v2 (gaq) ([5]) (gcq)):=hGq.midc
 clear hB hb25 B20 B21 L22 L23 L24 hVq hGq
 clear L31
 go_wp2_with fail
 refine (fact_two HT vap vcp gap gcp vaq vcq gaq gcq _ (L29.is (by omega)) (L30.is (by omega)) (L33.is (by omega)) (L34.is (by omega))).mono ?_
 rintro e v3 ⟨f1,g1,f2,g2,rfl,hX0,hY0,hB⟩
 have z35:v2.heap.size<=v3.heap.size:=hB.size
 have B36:Hid (Abx v3 (w.heap.size) (.bool c1) (.slice sa1 sz1.length sc1) (.slice da1 dz1.length dc1)):=B27.go hB
 have B37:Hid (Abx v3 (w.heap.size+1) (.bool c2) (.slice sa2 sz2.length sc2) (.slice da2 dz2.length dc2)):=B28.go hB
 have L38:Hid (MidC (wo4.heap.size) (v1.heap.size) v3 (vap) ([(1:Int)]) (vcp)):=L29.go (by omega) hB
 have L39:Hid (MidC (wo4.heap.size) (v1.heap.size) v3 (gap) ([1]) (gcp)):=L30.go (by omega) hB
 have L40:Hid (MidC (wo18.heap.size) (v2.heap.size) v3 (vaq) ([(1:Int)]) (vcq)):=L33.go (by omega) hB
 have L41:Hid (MidC (wo18.heap.size) (v2.heap.size) v3 (gaq) ([5]) (gcq)):=L34.go (by omega) hB
 have hb42:Hid (Below w.heap.size w v3):=hb32.trans (hB.mono hb32.size)
 have L43:Hid (MidC (v2.heap.size) (v3.heap.size) v3 (f1) ([1]) (g1)):=hX0.midc
 have L44:Hid (MidC (v2.heap.size) (v3.heap.size) v3 (f2) ([4]) (g2)):=hY0.midc
 clear hB hb32 B27 B28 L29 L30 L33 L34 hX0 hY0
 clear L38 L39 L40 L41
 have n45:=Abx.new v3 (.bool false) (.slice f1 1 g1) (.slice f2 1 g2)
 have l46:=(n45).c0
 have l47:=(n45).c1
 have l48:=(n45).c2
 have n49:=lit_mid (v3.alloc (.cells #[.bool false,.slice f1 1 g1,.slice f2 1 g2] 27)) 3 [4] 1 rfl
 simp only[World.size_alloc,List.map_cons,List.map_nil] at n49
 go_wp2_with fail
 obtain⟨wo50,hwo50⟩:∃ wo50,wo50=((v3.alloc (.cells #[.bool false,.slice f1 1 g1,.slice f2 1 g2] 27)).alloc (.cells #[.int .i64 4] 3)):=⟨_,rfl⟩
 rw[<-hwo50]
 have z51:v3.heap.size+1+1<=wo50.heap.size:=by rw[hwo50];simp only[World.size_alloc];omega
 have B52:Hid (Abx wo50 (w.heap.size) (.bool c1) (.slice sa1 sz1.length sc1) (.slice da1 dz1.length dc1)):=by rw[hwo50];exact ((B36.al (.cells #[.bool false,.slice f1 1 g1,.slice f2 1 g2] 27)).al (.cells #[.int .i64 4] 3))
 have B53:Hid (Abx wo50 (w.heap.size+1) (.bool c2) (.slice sa2 sz2.length sc2) (.slice da2 dz2.length dc2)):=by rw[hwo50];exact ((B37.al (.cells #[.bool false,.slice f1 1 g1,.slice f2 1 g2] 27)).al (.cells #[.int .i64 4] 3))
 have B54:Hid (Abx wo50 (v3.heap.size) (.bool false) (.slice f1 1 g1) (.slice f2 1 g2)):=by rw[hwo50];exact (n45.al (.cells #[.int .i64 4] 3))
 have L55:Hid (MidC (v2.heap.size) (v3.heap.size) wo50 (f1) ([1]) (g1)):=by rw[hwo50];exact ((L43.al (by omega) (.cells #[.bool false,.slice f1 1 g1,.slice f2 1 g2] 27)).al (by simp only[World.size_alloc];omega) (.cells #[.int .i64 4] 3))
 have L56:Hid (MidC (v2.heap.size) (v3.heap.size) wo50 (f2) ([4]) (g2)):=by rw[hwo50];exact ((L44.al (by omega) (.cells #[.bool false,.slice f1 1 g1,.slice f2 1 g2] 27)).al (by simp only[World.size_alloc];omega) (.cells #[.int .i64 4] 3))
 have L57:Hid (MidC (v3.heap.size+1) (v3.heap.size+1+1) wo50 (some ⟨v3.heap.size+1,0,none⟩) ([4]) (1)):=by rw[hwo50];exact n49
 have hb58:Hid (Below w.heap.size w wo50):=by rw[hwo50];exact ((hb42.alloc (by omega) (.cells #[.bool false,.slice f1 1 g1,.slice f2 1 g2] 27)).alloc (by simp only[World.size_alloc];omega) (.cells #[.int .i64 4] 3))
 have zwo50:w.heap.size<=wo50.heap.size:=hb58.size
 clear hwo50 n45 l46 l47 l48 n49 hb42 B36 B37 L43 L44
 refine (ints_any f2 g2 [4] (some ⟨v3.heap.size+1,0,none⟩) 1 [4] (by simp) _ _ (L56.is (by omega)).1 (L57.is (by omega)).1).mono ?_
 rintro e v4 ⟨rfl,hB⟩
 have z59:wo50.heap.size<=v4.heap.size:=hB.size
 have B60:Hid (Abx v4 (w.heap.size) (.bool c1) (.slice sa1 sz1.length sc1) (.slice da1 dz1.length dc1)):=B52.go hB
 have B61:Hid (Abx v4 (w.heap.size+1) (.bool c2) (.slice sa2 sz2.length sc2) (.slice da2 dz2.length dc2)):=B53.go hB
 have B62:Hid (Abx v4 (v3.heap.size) (.bool false) (.slice f1 1 g1) (.slice f2 1 g2)):=B54.go hB
 have L63:Hid (MidC (v2.heap.size) (v3.heap.size) v4 (f1) ([1]) (g1)):=L55.go (by omega) hB
 have L64:Hid (MidC (v2.heap.size) (v3.heap.size) v4 (f2) ([4]) (g2)):=L56.go (by omega) hB
 have L65:Hid (MidC (v3.heap.size+1) (v3.heap.size+1+1) v4 (some ⟨v3.heap.size+1,0,none⟩) ([4]) (1)):=L57.go (by omega) hB
 have hb66:Hid (Below w.heap.size w v4):=hb58.trans (hB.mono hb58.size)
 clear hB hb58 B52 B53 B54 L55 L56 L57
 rw[eqB_true rfl]
 clear L63 L64 L65 B62
 have l67:=(B60.out).c0
 have l68:=(B60.out).c1
 have l69:=(B60.out).c2
 go_wp2_with fail
 clear l67 l68 l69
 refine (check_no c1 sa1 sc1 sz1 da1 dc1 dz1 x11 x12 _ ((HI1.1.1.below hb66.out).mono hb66.size) ((HI1.2.1.1.below hb66.out).mono hb66.size) F1.out).mono ?_
 rintro e v5 ⟨rfl,hB⟩
 have z70:v4.heap.size<=v5.heap.size:=hB.size
 have B71:Hid (Abx v5 (w.heap.size) (.bool c1) (.slice sa1 sz1.length sc1) (.slice da1 dz1.length dc1)):=B60.go hB
 have B72:Hid (Abx v5 (w.heap.size+1) (.bool c2) (.slice sa2 sz2.length sc2) (.slice da2 dz2.length dc2)):=B61.go hB
 have hb73:Hid (Below w.heap.size w v5):=hb66.trans (hB.mono hb66.size)
 clear hB hb66 B60 B61
 go_wp2_with fail
 go_ret
 exact⟨rfl,hb73.out⟩
theorem swaps_2 (HT:CT2)(HO:CO1)(f:Int)(hf:In64 f)(c1:Bool)(sa1:Option Addr)(sc1:Nat)(sz1:List Int)(da1:Option Addr)(dc1:Nat)(dz1:List Int)(c2:Bool)(sa2:Option Addr)(sc2:Nat)(sz2:List Int)(da2:Option Addr)(dc2:Nat)(dz2:List Int)(w:World)(hg:HasErr w)(w8:IsArrD w sa1 sz1 sc1 da1 dz1 dc1)(w9:IsArrD w sa2 sz2 sc2 da2 dz2 dc2)(F1:Hid (flawE c1 sz1 dz1=0))(F2:Hid (flawE c2 sz2 dz2≠0)):
  Calls Tryz.prog 5 #[.int .i64 f,.agg #[.bool c1,.slice sa1 sz1.length sc1,.slice da1 dz1.length dc1],.agg #[.bool c2,.slice sa2 sz2.length sc2,.slice da2 dz2.length dc2]] w fun e w'=>e=.returned (.bool true)/\Below w.heap.size w w':=by
 obtain⟨x11,x12,x3,x4,s64,T⟩:=w8
 have HI1:Hid (IsC w.heap.size w sa1 sz1 sc1/\IsC w.heap.size w da1 dz1 dc1/\(∀ j,In64 (nth sz1 j))/\∀ j,In64 (nth dz1 j)):=⟨x3,x4,s64,T⟩
 clear x3 x4 T s64
 obtain⟨x21,x22,x3,x4,s64,T⟩:=w9
 have HI2:Hid (IsC w.heap.size w sa2 sz2 sc2/\IsC w.heap.size w da2 dz2 dc2/\(∀ j,In64 (nth sz2 j))/\∀ j,In64 (nth dz2 j)):=⟨x3,x4,s64,T⟩
 clear x3 x4 T s64
 have HG:Hid (HasErr w):=hg
 clear hg
 have n1:=Abx.new w (.bool c1) (.slice sa1 sz1.length sc1) (.slice da1 dz1.length dc1)
 have n2:=Abx.new (w.alloc (.cells #[.bool c1,.slice sa1 sz1.length sc1,.slice da1 dz1.length dc1] 27)) (.bool c2) (.slice sa2 sz2.length sc2) (.slice da2 dz2.length dc2)
 simp only[World.size_alloc] at n2
 have n3:=lit_mid ((w.alloc (.cells #[.bool c1,.slice sa1 sz1.length sc1,.slice da1 dz1.length dc1] 27)).alloc (.cells #[.bool c2,.slice sa2 sz2.length sc2,.slice da2 dz2.length dc2] 27)) 3 [1] 1 rfl
 simp only[World.size_alloc,List.map_cons,List.map_nil] at n3
 go_enter Tryz.func5,Tryz.ntmps5
 go_wp2_with fail
 obtain⟨wo4,hwo4⟩:∃ wo4,wo4=(((w.alloc (.cells #[.bool c1,.slice sa1 sz1.length sc1,.slice da1 dz1.length dc1] 27)).alloc (.cells #[.bool c2,.slice sa2 sz2.length sc2,.slice da2 dz2.length dc2] 27)).alloc (.cells #[.int .i64 1] 3)):=⟨_,rfl⟩
 rw[<-hwo4]
 have z5:w.heap.size+1+1+1<=wo4.heap.size:=by rw[hwo4];simp only[World.size_alloc];omega
 have B6:Hid (Abx wo4 (w.heap.size) (.bool c1) (.slice sa1 sz1.length sc1) (.slice da1 dz1.length dc1)):=by rw[hwo4];exact ((n1.al (.cells #[.bool c2,.slice sa2 sz2.length sc2,.slice da2 dz2.length dc2] 27)).al (.cells #[.int .i64 1] 3))
 have B7:Hid (Abx wo4 (w.heap.size+1) (.bool c2) (.slice sa2 sz2.length sc2) (.slice da2 dz2.length dc2)):=by rw[hwo4];exact (n2.al (.cells #[.int .i64 1] 3))
 have L8:Hid (MidC (w.heap.size+1+1) (w.heap.size+1+1+1) wo4 (some ⟨w.heap.size+1+1,0,none⟩) ([1]) (1)):=by rw[hwo4];exact n3
 have hb9:Hid (Below w.heap.size w wo4):=by rw[hwo4];exact ((((Below.refl w.heap.size w).alloc (by omega) (.cells #[.bool c1,.slice sa1 sz1.length sc1,.slice da1 dz1.length dc1] 27)).alloc (by simp only[World.size_alloc];omega) (.cells #[.bool c2,.slice sa2 sz2.length sc2,.slice da2 dz2.length dc2] 27)).alloc (by simp only[World.size_alloc];omega) (.cells #[.int .i64 1] 3))
 have zwo4:w.heap.size<=wo4.heap.size:=hb9.size
 clear hwo4 n1 n2 n3
 refine (vec_c (some ⟨w.heap.size+1+1,0,none⟩) 1 [1] (by simp) _ (L8.is (by omega)).1).mono ?_
 rintro e v1 ⟨vap,vcp,gap,gcp,rfl,hVp,hGp,hB⟩
 have z10:wo4.heap.size<=v1.heap.size:=hB.size
 have B11:Hid (Abx v1 (w.heap.size) (.bool c1) (.slice sa1 sz1.length sc1) (.slice da1 dz1.length dc1)):=B6.go hB
 have B12:Hid (Abx v1 (w.heap.size+1) (.bool c2) (.slice sa2 sz2.length sc2) (.slice da2 dz2.length dc2)):=B7.go hB
 have L13:Hid (MidC (w.heap.size+1+1) (w.heap.size+1+1+1) v1 (some ⟨w.heap.size+1+1,0,none⟩) ([1]) (1)):=L8.go (by omega) hB
 have hb14:Hid (Below w.heap.size w v1):=hb9.trans (hB.mono hb9.size)
 have L15:Hid (MidC (wo4.heap.size) (v1.heap.size) v1 (vap) ([(1:Int)]) (vcp)):=hVp.midc
 have L16:Hid (MidC (wo4.heap.size) (v1.heap.size) v1 (gap) ([1]) (gcp)):=hGp.midc
 clear hB hb9 B6 B7 L8 hVp hGp
 clear L13
 have n17:=lit_mid v1 3 [5] 1 rfl
 simp only[List.map_cons,List.map_nil] at n17
 go_wp2_with fail
 obtain⟨wo18,hwo18⟩:∃ wo18,wo18=(v1.alloc (.cells #[.int .i64 5] 3)):=⟨_,rfl⟩
 rw[<-hwo18]
 have z19:v1.heap.size+1<=wo18.heap.size:=by rw[hwo18];simp only[World.size_alloc];omega
 have B20:Hid (Abx wo18 (w.heap.size) (.bool c1) (.slice sa1 sz1.length sc1) (.slice da1 dz1.length dc1)):=by rw[hwo18];exact (B11.al (.cells #[.int .i64 5] 3))
 have B21:Hid (Abx wo18 (w.heap.size+1) (.bool c2) (.slice sa2 sz2.length sc2) (.slice da2 dz2.length dc2)):=by rw[hwo18];exact (B12.al (.cells #[.int .i64 5] 3))
 have L22:Hid (MidC (wo4.heap.size) (v1.heap.size) wo18 (vap) ([(1:Int)]) (vcp)):=by rw[hwo18];exact (L15.al (by omega) (.cells #[.int .i64 5] 3))
 have L23:Hid (MidC (wo4.heap.size) (v1.heap.size) wo18 (gap) ([1]) (gcp)):=by rw[hwo18];exact (L16.al (by omega) (.cells #[.int .i64 5] 3))
 have L24:Hid (MidC (v1.heap.size) (v1.heap.size+1) wo18 (some ⟨v1.heap.size,0,none⟩) ([5]) (1)):=by rw[hwo18];exact n17
 have hb25:Hid (Below w.heap.size w wo18):=by rw[hwo18];exact (hb14.alloc (by omega) (.cells #[.int .i64 5] 3))
 have zwo18:w.heap.size<=wo18.heap.size:=hb25.size
 clear hwo18 n17 hb14 B11 B12 L15 L16
 refine (vec_c (some ⟨v1.heap.size,0,none⟩) 1 [5] (by simp) _ (L24.is (by omega)).1).mono ?_
 rintro e v2 ⟨vaq,vcq,gaq,gcq,rfl,hVq,hGq,hB⟩
 have z26:wo18.heap.size<=v2.heap.size:=hB.size
 have B27:Hid (Abx v2 (w.heap.size) (.bool c1) (.slice sa1 sz1.length sc1) (.slice da1 dz1.length dc1)):=B20.go hB
 have B28:Hid (Abx v2 (w.heap.size+1) (.bool c2) (.slice sa2 sz2.length sc2) (.slice da2 dz2.length dc2)):=B21.go hB
 have L29:Hid (MidC (wo4.heap.size) (v1.heap.size) v2 (vap) ([(1:Int)]) (vcp)):=L22.go (by omega) hB
 have L30:Hid (MidC (wo4.heap.size) (v1.heap.size) v2 (gap) ([1]) (gcp)):=L23.go (by omega) hB
 have L31:Hid (MidC (v1.heap.size) (v1.heap.size+1) v2 (some ⟨v1.heap.size,0,none⟩) ([5]) (1)):=L24.go (by omega) hB
 have hb32:Hid (Below w.heap.size w v2):=hb25.trans (hB.mono hb25.size)
 have L33:Hid (MidC (wo18.heap.size) (v2.heap.size) v2 (vaq) ([(1:Int)]) (vcq)):=hVq.midc
 have L34:Hid (MidC (wo18.heap.size) (v2.heap.size) v2 (gaq) ([5]) (gcq)):=hGq.midc
 clear hB hb25 B20 B21 L22 L23 L24 hVq hGq
 clear L31
 go_wp2_with fail
 refine (fact_two HT vap vcp gap gcp vaq vcq gaq gcq _ (L29.is (by omega)) (L30.is (by omega)) (L33.is (by omega)) (L34.is (by omega))).mono ?_
 rintro e v3 ⟨f1,g1,f2,g2,rfl,hX0,hY0,hB⟩
 have z35:v2.heap.size<=v3.heap.size:=hB.size
 have B36:Hid (Abx v3 (w.heap.size) (.bool c1) (.slice sa1 sz1.length sc1) (.slice da1 dz1.length dc1)):=B27.go hB
 have B37:Hid (Abx v3 (w.heap.size+1) (.bool c2) (.slice sa2 sz2.length sc2) (.slice da2 dz2.length dc2)):=B28.go hB
 have L38:Hid (MidC (wo4.heap.size) (v1.heap.size) v3 (vap) ([(1:Int)]) (vcp)):=L29.go (by omega) hB
 have L39:Hid (MidC (wo4.heap.size) (v1.heap.size) v3 (gap) ([1]) (gcp)):=L30.go (by omega) hB
 have L40:Hid (MidC (wo18.heap.size) (v2.heap.size) v3 (vaq) ([(1:Int)]) (vcq)):=L33.go (by omega) hB
 have L41:Hid (MidC (wo18.heap.size) (v2.heap.size) v3 (gaq) ([5]) (gcq)):=L34.go (by omega) hB
 have hb42:Hid (Below w.heap.size w v3):=hb32.trans (hB.mono hb32.size)
 have L43:Hid (MidC (v2.heap.size) (v3.heap.size) v3 (f1) ([1]) (g1)):=hX0.midc
 have L44:Hid (MidC (v2.heap.size) (v3.heap.size) v3 (f2) ([4]) (g2)):=hY0.midc
 clear hB hb32 B27 B28 L29 L30 L33 L34 hX0 hY0
 clear L38 L39 L40 L41
 have n45:=Abx.new v3 (.bool false) (.slice f1 1 g1) (.slice f2 1 g2)
 have l46:=(n45).c0
 have l47:=(n45).c1
 have l48:=(n45).c2
 have n49:=lit_mid (v3.alloc (.cells #[.bool false,.slice f1 1 g1,.slice f2 1 g2] 27)) 3 [4] 1 rfl
 simp only[World.size_alloc,List.map_cons,List.map_nil] at n49
 go_wp2_with fail
 obtain⟨wo50,hwo50⟩:∃ wo50,wo50=((v3.alloc (.cells #[.bool false,.slice f1 1 g1,.slice f2 1 g2] 27)).alloc (.cells #[.int .i64 4] 3)):=⟨_,rfl⟩
 rw[<-hwo50]
 have z51:v3.heap.size+1+1<=wo50.heap.size:=by rw[hwo50];simp only[World.size_alloc];omega
 have B52:Hid (Abx wo50 (w.heap.size) (.bool c1) (.slice sa1 sz1.length sc1) (.slice da1 dz1.length dc1)):=by rw[hwo50];exact ((B36.al (.cells #[.bool false,.slice f1 1 g1,.slice f2 1 g2] 27)).al (.cells #[.int .i64 4] 3))
 have B53:Hid (Abx wo50 (w.heap.size+1) (.bool c2) (.slice sa2 sz2.length sc2) (.slice da2 dz2.length dc2)):=by rw[hwo50];exact ((B37.al (.cells #[.bool false,.slice f1 1 g1,.slice f2 1 g2] 27)).al (.cells #[.int .i64 4] 3))
 have B54:Hid (Abx wo50 (v3.heap.size) (.bool false) (.slice f1 1 g1) (.slice f2 1 g2)):=by rw[hwo50];exact (n45.al (.cells #[.int .i64 4] 3))
 have L55:Hid (MidC (v2.heap.size) (v3.heap.size) wo50 (f1) ([1]) (g1)):=by rw[hwo50];exact ((L43.al (by omega) (.cells #[.bool false,.slice f1 1 g1,.slice f2 1 g2] 27)).al (by simp only[World.size_alloc];omega) (.cells #[.int .i64 4] 3))
 have L56:Hid (MidC (v2.heap.size) (v3.heap.size) wo50 (f2) ([4]) (g2)):=by rw[hwo50];exact ((L44.al (by omega) (.cells #[.bool false,.slice f1 1 g1,.slice f2 1 g2] 27)).al (by simp only[World.size_alloc];omega) (.cells #[.int .i64 4] 3))
 have L57:Hid (MidC (v3.heap.size+1) (v3.heap.size+1+1) wo50 (some ⟨v3.heap.size+1,0,none⟩) ([4]) (1)):=by rw[hwo50];exact n49
 have hb58:Hid (Below w.heap.size w wo50):=by rw[hwo50];exact ((hb42.alloc (by omega) (.cells #[.bool false,.slice f1 1 g1,.slice f2 1 g2] 27)).alloc (by simp only[World.size_alloc];omega) (.cells #[.int .i64 4] 3))
 have zwo50:w.heap.size<=wo50.heap.size:=hb58.size
 clear hwo50 n45 l46 l47 l48 n49 hb42 B36 B37 L43 L44
 refine (ints_any f2 g2 [4] (some ⟨v3.heap.size+1,0,none⟩) 1 [4] (by simp) _ _ (L56.is (by omega)).1 (L57.is (by omega)).1).mono ?_
 rintro e v4 ⟨rfl,hB⟩
 have z59:wo50.heap.size<=v4.heap.size:=hB.size
 have B60:Hid (Abx v4 (w.heap.size) (.bool c1) (.slice sa1 sz1.length sc1) (.slice da1 dz1.length dc1)):=B52.go hB
 have B61:Hid (Abx v4 (w.heap.size+1) (.bool c2) (.slice sa2 sz2.length sc2) (.slice da2 dz2.length dc2)):=B53.go hB
 have B62:Hid (Abx v4 (v3.heap.size) (.bool false) (.slice f1 1 g1) (.slice f2 1 g2)):=B54.go hB
 have L63:Hid (MidC (v2.heap.size) (v3.heap.size) v4 (f1) ([1]) (g1)):=L55.go (by omega) hB
 have L64:Hid (MidC (v2.heap.size) (v3.heap.size) v4 (f2) ([4]) (g2)):=L56.go (by omega) hB
 have L65:Hid (MidC (v3.heap.size+1) (v3.heap.size+1+1) v4 (some ⟨v3.heap.size+1,0,none⟩) ([4]) (1)):=L57.go (by omega) hB
 have hb66:Hid (Below w.heap.size w v4):=hb58.trans (hB.mono hb58.size)
 clear hB hb58 B52 B53 B54 L55 L56 L57
 rw[eqB_true rfl]
 clear L63 L64 L65 B62
 have l67:=(B60.out).c0
 have l68:=(B60.out).c1
 have l69:=(B60.out).c2
 go_wp2_with fail
 clear l67 l68 l69
 refine (check_ok c1 sa1 sc1 sz1 da1 dc1 dz1 x11 x12 _ ((HI1.1.1.below hb66.out).mono hb66.size) ((HI1.2.1.1.below hb66.out).mono hb66.size) F1.out).mono ?_
 rintro e v5 ⟨rfl,hB⟩
 have z70:v4.heap.size<=v5.heap.size:=hB.size
 have B71:Hid (Abx v5 (w.heap.size) (.bool c1) (.slice sa1 sz1.length sc1) (.slice da1 dz1.length dc1)):=B60.go hB
 have B72:Hid (Abx v5 (w.heap.size+1) (.bool c2) (.slice sa2 sz2.length sc2) (.slice da2 dz2.length dc2)):=B61.go hB
 have hb73:Hid (Below w.heap.size w v5):=hb66.trans (hB.mono hb66.size)
 clear hB hb66 B60 B61
 have l74:=(B72.out).c0
 have l75:=(B72.out).c1
 have l76:=(B72.out).c2
 go_wp2_with fail
 clear l74 l75 l76
 refine (check_no c2 sa2 sc2 sz2 da2 dc2 dz2 x21 x22 _ ((HI2.1.1.below hb73.out).mono hb73.size) ((HI2.2.1.1.below hb73.out).mono hb73.size) F2.out).mono ?_
 rintro e v6 ⟨rfl,hB⟩
 have z77:v5.heap.size<=v6.heap.size:=hB.size
 have B78:Hid (Abx v6 (w.heap.size) (.bool c1) (.slice sa1 sz1.length sc1) (.slice da1 dz1.length dc1)):=B71.go hB
 have B79:Hid (Abx v6 (w.heap.size+1) (.bool c2) (.slice sa2 sz2.length sc2) (.slice da2 dz2.length dc2)):=B72.go hB
 have hb80:Hid (Below w.heap.size w v6):=hb73.trans (hB.mono hb73.size)
 clear hB hb73 B71 B72
 go_wp2_with fail
 go_ret
 exact⟨rfl,hb80.out⟩
theorem swaps_ok (HT:CT2)(HO:CO1)(f:Int)(hf:In64 f)(c1:Bool)(sa1:Option Addr)(sc1:Nat)(sz1:List Int)(da1:Option Addr)(dc1:Nat)(dz1:List Int)(c2:Bool)(sa2:Option Addr)(sc2:Nat)(sz2:List Int)(da2:Option Addr)(dc2:Nat)(dz2:List Int)(w:World)(hg:HasErr w)(w8:IsArrD w sa1 sz1 sc1 da1 dz1 dc1)(w9:IsArrD w sa2 sz2 sc2 da2 dz2 dc2)(F1:Hid (flawE c1 sz1 dz1=0))(F2:Hid (flawE c2 sz2 dz2=0)):
  Calls Tryz.prog 5 #[.int .i64 f,.agg #[.bool c1,.slice sa1 sz1.length sc1,.slice da1 dz1.length dc1],.agg #[.bool c2,.slice sa2 sz2.length sc2,.slice da2 dz2.length dc2]] w fun e w'=>e=.returned (.bool true)/\Below w.heap.size w w':=by
 obtain⟨A,hA⟩:∃ A,A=twA 0 f 0 c2 sz2 dz2 c1 sz1 dz1:=⟨_,rfl⟩
 obtain⟨B,hB⟩:∃ B,B=twA 0 f 0 c1 sz1 dz1 c1 sz1 dz1:=⟨_,rfl⟩
 have HAB:Hid ((twA 0 f 0 c2 sz2 dz2 c1 sz1 dz1=A/\twA 5 f 0 c1 sz1 dz1 c2 sz2 dz2=A)/\twA 0 f 0 c1 sz1 dz1 c1 sz1 dz1=B/\onA 5 f 0 c1 sz1 dz1=B):=⟨⟨hA.symm,by rw[hA];exact sw_eq2 f F1.out F2.out⟩,hB.symm,by rw[hB];exact sw_eq1 f F1.out⟩
 have HL:Hid (Ls A/\Ls B):=by rw[hA,hB];exact⟨tw_len _ _ _ _ _ _ _ _ _,tw_len _ _ _ _ _ _ _ _ _⟩
 have hl1:=HL.1.1
 have hl2:=HL.1.2
 have hl3:=HL.2.1
 have hl4:=HL.2.2
 clear hA hB
 obtain⟨x11,x12,x3,x4,s64,T⟩:=w8
 have HI1:Hid (IsC w.heap.size w sa1 sz1 sc1/\IsC w.heap.size w da1 dz1 dc1/\(∀ j,In64 (nth sz1 j))/\∀ j,In64 (nth dz1 j)):=⟨x3,x4,s64,T⟩
 clear x3 x4 T s64
 obtain⟨x21,x22,x3,x4,s64,T⟩:=w9
 have HI2:Hid (IsC w.heap.size w sa2 sz2 sc2/\IsC w.heap.size w da2 dz2 dc2/\(∀ j,In64 (nth sz2 j))/\∀ j,In64 (nth dz2 j)):=⟨x3,x4,s64,T⟩
 clear x3 x4 T s64
 have HG:Hid (HasErr w):=hg
 clear hg
 have n1:=Abx.new w (.bool c1) (.slice sa1 sz1.length sc1) (.slice da1 dz1.length dc1)
 have n2:=Abx.new (w.alloc (.cells #[.bool c1,.slice sa1 sz1.length sc1,.slice da1 dz1.length dc1] 27)) (.bool c2) (.slice sa2 sz2.length sc2) (.slice da2 dz2.length dc2)
 simp only[World.size_alloc] at n2
 have n3:=lit_mid ((w.alloc (.cells #[.bool c1,.slice sa1 sz1.length sc1,.slice da1 dz1.length dc1] 27)).alloc (.cells #[.bool c2,.slice sa2 sz2.length sc2,.slice da2 dz2.length dc2] 27)) 3 [1] 1 rfl
 simp only[World.size_alloc,List.map_cons,List.map_nil] at n3
 go_enter Tryz.func5,Tryz.ntmps5
 go_wp2_with fail
 obtain⟨wo4,hwo4⟩:∃ wo4,wo4=(((w.alloc (.cells #[.bool c1,.slice sa1 sz1.length sc1,.slice da1 dz1.length dc1] 27)).alloc (.cells #[.bool c2,.slice sa2 sz2.length sc2,.slice da2 dz2.length dc2] 27)).alloc (.cells #[.int .i64 1] 3)):=⟨_,rfl⟩
 rw[<-hwo4]
 have z5:w.heap.size+1+1+1<=wo4.heap.size:=by rw[hwo4];simp only[World.size_alloc];omega
 have B6:Hid (Abx wo4 (w.heap.size) (.bool c1) (.slice sa1 sz1.length sc1) (.slice da1 dz1.length dc1)):=by rw[hwo4];exact ((n1.al (.cells #[.bool c2,.slice sa2 sz2.length sc2,.slice da2 dz2.length dc2] 27)).al (.cells #[.int .i64 1] 3))
 have B7:Hid (Abx wo4 (w.heap.size+1) (.bool c2) (.slice sa2 sz2.length sc2) (.slice da2 dz2.length dc2)):=by rw[hwo4];exact (n2.al (.cells #[.int .i64 1] 3))
 have L8:Hid (MidC (w.heap.size+1+1) (w.heap.size+1+1+1) wo4 (some ⟨w.heap.size+1+1,0,none⟩) ([1]) (1)):=by rw[hwo4];exact n3
 have hb9:Hid (Below w.heap.size w wo4):=by rw[hwo4];exact ((((Below.refl w.heap.size w).alloc (by omega) (.cells #[.bool c1,.slice sa1 sz1.length sc1,.slice da1 dz1.length dc1] 27)).alloc (by simp only[World.size_alloc];omega) (.cells #[.bool c2,.slice sa2 sz2.length sc2,.slice da2 dz2.length dc2] 27)).alloc (by simp only[World.size_alloc];omega) (.cells #[.int .i64 1] 3))
 have zwo4:w.heap.size<=wo4.heap.size:=hb9.size
 clear hwo4 n1 n2 n3
 refine (vec_c (some ⟨w.heap.size+1+1,0,none⟩) 1 [1] (by simp) _ (L8.is (by omega)).1).mono ?_
 rintro e v1 ⟨vap,vcp,gap,gcp,rfl,hVp,hGp,hB⟩
 have z10:wo4.heap.size<=v1.heap.size:=hB.size
 have B11:Hid (Abx v1 (w.heap.size) (.bool c1) (.slice sa1 sz1.length sc1) (.slice da1 dz1.length dc1)):=B6.go hB
 have B12:Hid (Abx v1 (w.heap.size+1) (.bool c2) (.slice sa2 sz2.length sc2) (.slice da2 dz2.length dc2)):=B7.go hB
 have L13:Hid (MidC (w.heap.size+1+1) (w.heap.size+1+1+1) v1 (some ⟨w.heap.size+1+1,0,none⟩) ([1]) (1)):=L8.go (by omega) hB
 have hb14:Hid (Below w.heap.size w v1):=hb9.trans (hB.mono hb9.size)
 have L15:Hid (MidC (wo4.heap.size) (v1.heap.size) v1 (vap) ([(1:Int)]) (vcp)):=hVp.midc
 have L16:Hid (MidC (wo4.heap.size) (v1.heap.size) v1 (gap) ([1]) (gcp)):=hGp.midc
 clear hB hb9 B6 B7 L8 hVp hGp
 clear L13
 have n17:=lit_mid v1 3 [5] 1 rfl
 simp only[List.map_cons,List.map_nil] at n17
 go_wp2_with fail
 obtain⟨wo18,hwo18⟩:∃ wo18,wo18=(v1.alloc (.cells #[.int .i64 5] 3)):=⟨_,rfl⟩
 rw[<-hwo18]
 have z19:v1.heap.size+1<=wo18.heap.size:=by rw[hwo18];simp only[World.size_alloc];omega
 have B20:Hid (Abx wo18 (w.heap.size) (.bool c1) (.slice sa1 sz1.length sc1) (.slice da1 dz1.length dc1)):=by rw[hwo18];exact (B11.al (.cells #[.int .i64 5] 3))
 have B21:Hid (Abx wo18 (w.heap.size+1) (.bool c2) (.slice sa2 sz2.length sc2) (.slice da2 dz2.length dc2)):=by rw[hwo18];exact (B12.al (.cells #[.int .i64 5] 3))
 have L22:Hid (MidC (wo4.heap.size) (v1.heap.size) wo18 (vap) ([(1:Int)]) (vcp)):=by rw[hwo18];exact (L15.al (by omega) (.cells #[.int .i64 5] 3))
 have L23:Hid (MidC (wo4.heap.size) (v1.heap.size) wo18 (gap) ([1]) (gcp)):=by rw[hwo18];exact (L16.al (by omega) (.cells #[.int .i64 5] 3))
 have L24:Hid (MidC (v1.heap.size) (v1.heap.size+1) wo18 (some ⟨v1.heap.size,0,none⟩) ([5]) (1)):=by rw[hwo18];exact n17
 have hb25:Hid (Below w.heap.size w wo18):=by rw[hwo18];exact (hb14.alloc (by omega) (.cells #[.int .i64 5] 3))
 have zwo18:w.heap.size<=wo18.heap.size:=hb25.size
 clear hwo18 n17 hb14 B11 B12 L15 L16
 refine (vec_c (some ⟨v1.heap.size,0,none⟩) 1 [5] (by simp) _ (L24.is (by omega)).1).mono ?_
 rintro e v2 ⟨vaq,vcq,gaq,gcq,rfl,hVq,hGq,hB⟩
 have z26:wo18.heap.size<=v2.heap.size:=hB.size
 have B27:Hid (Abx v2 (w.heap.size) (.bool c1) (.slice sa1 sz1.length sc1) (.slice da1 dz1.length dc1)):=B20.go hB
 have B28:Hid (Abx v2 (w.heap.size+1) (.bool c2) (.slice sa2 sz2.length sc2) (.slice da2 dz2.length dc2)):=B21.go hB
 have L29:Hid (MidC (wo4.heap.size) (v1.heap.size) v2 (vap) ([(1:Int)]) (vcp)):=L22.go (by omega) hB
 have L30:Hid (MidC (wo4.heap.size) (v1.heap.size) v2 (gap) ([1]) (gcp)):=L23.go (by omega) hB
 have L31:Hid (MidC (v1.heap.size) (v1.heap.size+1) v2 (some ⟨v1.heap.size,0,none⟩) ([5]) (1)):=L24.go (by omega) hB
 have hb32:Hid (Below w.heap.size w v2):=hb25.trans (hB.mono hb25.size)
 have L33:Hid (MidC (wo18.heap.size) (v2.heap.size) v2 (vaq) ([(1:Int)]) (vcq)):=hVq.midc
 have L34:Hid (MidC (wo18.heap.size) (v2.heap.size) v2 (gaq) ([5]) (gcq)):=hGq.midc
 clear hB hb25 B20 B21 L22 L23 L24 hVq hGq
 clear L31
 go_wp2_with fail
 refine (fact_two HT vap vcp gap gcp vaq vcq gaq gcq _ (L29.is (by omega)) (L30.is (by omega)) (L33.is (by omega)) (L34.is (by omega))).mono ?_
 rintro e v3 ⟨f1,g1,f2,g2,rfl,hX0,hY0,hB⟩
 have z35:v2.heap.size<=v3.heap.size:=hB.size
 have B36:Hid (Abx v3 (w.heap.size) (.bool c1) (.slice sa1 sz1.length sc1) (.slice da1 dz1.length dc1)):=B27.go hB
 have B37:Hid (Abx v3 (w.heap.size+1) (.bool c2) (.slice sa2 sz2.length sc2) (.slice da2 dz2.length dc2)):=B28.go hB
 have L38:Hid (MidC (wo4.heap.size) (v1.heap.size) v3 (vap) ([(1:Int)]) (vcp)):=L29.go (by omega) hB
 have L39:Hid (MidC (wo4.heap.size) (v1.heap.size) v3 (gap) ([1]) (gcp)):=L30.go (by omega) hB
 have L40:Hid (MidC (wo18.heap.size) (v2.heap.size) v3 (vaq) ([(1:Int)]) (vcq)):=L33.go (by omega) hB
 have L41:Hid (MidC (wo18.heap.size) (v2.heap.size) v3 (gaq) ([5]) (gcq)):=L34.go (by omega) hB
 have hb42:Hid (Below w.heap.size w v3):=hb32.trans (hB.mono hb32.size)
 have L43:Hid (MidC (v2.heap.size) (v3.heap.size) v3 (f1) ([1]) (g1)):=hX0.midc
 have L44:Hid (MidC (v2.heap.size) (v3.heap.size) v3 (f2) ([4]) (g2)):=hY0.midc
 clear hB hb32 B27 B28 L29 L30 L33 L34 hX0 hY0
 clear L38 L39 L40 L41
 have n45:=Abx.new v3 (.bool false) (.slice f1 1 g1) (.slice f2 1 g2)
 have l46:=(n45).c0
 have l47:=(n45).c1
 have l48:=(n45).c2
 have n49:=lit_mid (v3.alloc (.cells #[.bool false,.slice f1 1 g1,.slice f2 1 g2] 27)) 3 [4] 1 rfl
 simp only[World.size_alloc,List.map_cons,List.map_nil] at n49
 go_wp2_with fail
 obtain⟨wo50,hwo50⟩:∃ wo50,wo50=((v3.alloc (.cells #[.bool false,.slice f1 1 g1,.slice f2 1 g2] 27)).alloc (.cells #[.int .i64 4] 3)):=⟨_,rfl⟩
 rw[<-hwo50]
 have z51:v3.heap.size+1+1<=wo50.heap.size:=by rw[hwo50];simp only[World.size_alloc];omega
 have B52:Hid (Abx wo50 (w.heap.size) (.bool c1) (.slice sa1 sz1.length sc1) (.slice da1 dz1.length dc1)):=by rw[hwo50];exact ((B36.al (.cells #[.bool false,.slice f1 1 g1,.slice f2 1 g2] 27)).al (.cells #[.int .i64 4] 3))
 have B53:Hid (Abx wo50 (w.heap.size+1) (.bool c2) (.slice sa2 sz2.length sc2) (.slice da2 dz2.length dc2)):=by rw[hwo50];exact ((B37.al (.cells #[.bool false,.slice f1 1 g1,.slice f2 1 g2] 27)).al (.cells #[.int .i64 4] 3))
 have B54:Hid (Abx wo50 (v3.heap.size) (.bool false) (.slice f1 1 g1) (.slice f2 1 g2)):=by rw[hwo50];exact (n45.al (.cells #[.int .i64 4] 3))
 have L55:Hid (MidC (v2.heap.size) (v3.heap.size) wo50 (f1) ([1]) (g1)):=by rw[hwo50];exact ((L43.al (by omega) (.cells #[.bool false,.slice f1 1 g1,.slice f2 1 g2] 27)).al (by simp only[World.size_alloc];omega) (.cells #[.int .i64 4] 3))
 have L56:Hid (MidC (v2.heap.size) (v3.heap.size) wo50 (f2) ([4]) (g2)):=by rw[hwo50];exact ((L44.al (by omega) (.cells #[.bool false,.slice f1 1 g1,.slice f2 1 g2] 27)).al (by simp only[World.size_alloc];omega) (.cells #[.int .i64 4] 3))
 have L57:Hid (MidC (v3.heap.size+1) (v3.heap.size+1+1) wo50 (some ⟨v3.heap.size+1,0,none⟩) ([4]) (1)):=by rw[hwo50];exact n49
 have hb58:Hid (Below w.heap.size w wo50):=by rw[hwo50];exact ((hb42.alloc (by omega) (.cells #[.bool false,.slice f1 1 g1,.slice f2 1 g2] 27)).alloc (by simp only[World.size_alloc];omega) (.cells #[.int .i64 4] 3))
 have zwo50:w.heap.size<=wo50.heap.size:=hb58.size
 clear hwo50 n45 l46 l47 l48 n49 hb42 B36 B37 L43 L44
 refine (ints_any f2 g2 [4] (some ⟨v3.heap.size+1,0,none⟩) 1 [4] (by simp) _ _ (L56.is (by omega)).1 (L57.is (by omega)).1).mono ?_
 rintro e v4 ⟨rfl,hB⟩
 have z59:wo50.heap.size<=v4.heap.size:=hB.size
 have B60:Hid (Abx v4 (w.heap.size) (.bool c1) (.slice sa1 sz1.length sc1) (.slice da1 dz1.length dc1)):=B52.go hB
 have B61:Hid (Abx v4 (w.heap.size+1) (.bool c2) (.slice sa2 sz2.length sc2) (.slice da2 dz2.length dc2)):=B53.go hB
 have B62:Hid (Abx v4 (v3.heap.size) (.bool false) (.slice f1 1 g1) (.slice f2 1 g2)):=B54.go hB
 have L63:Hid (MidC (v2.heap.size) (v3.heap.size) v4 (f1) ([1]) (g1)):=L55.go (by omega) hB
 have L64:Hid (MidC (v2.heap.size) (v3.heap.size) v4 (f2) ([4]) (g2)):=L56.go (by omega) hB
 have L65:Hid (MidC (v3.heap.size+1) (v3.heap.size+1+1) v4 (some ⟨v3.heap.size+1,0,none⟩) ([4]) (1)):=L57.go (by omega) hB
 have hb66:Hid (Below w.heap.size w v4):=hb58.trans (hB.mono hb58.size)
 clear hB hb58 B52 B53 B54 L55 L56 L57
 rw[eqB_true rfl]
 clear L63 L64 L65 B62
 have l67:=(B60.out).c0
 have l68:=(B60.out).c1
 have l69:=(B60.out).c2
 go_wp2_with fail
 clear l67 l68 l69
 refine (check_ok c1 sa1 sc1 sz1 da1 dc1 dz1 x11 x12 _ ((HI1.1.1.below hb66.out).mono hb66.size) ((HI1.2.1.1.below hb66.out).mono hb66.size) F1.out).mono ?_
 rintro e v5 ⟨rfl,hB⟩
 have z70:v4.heap.size<=v5.heap.size:=hB.size
 have B71:Hid (Abx v5 (w.heap.size) (.bool c1) (.slice sa1 sz1.length sc1) (.slice da1 dz1.length dc1)):=B60.go hB
 have B72:Hid (Abx v5 (w.heap.size+1) (.bool c2) (.slice sa2 sz2.length sc2) (.slice da2 dz2.length dc2)):=B61.go hB
 have hb73:Hid (Below w.heap.size w v5):=hb66.trans (hB.mono hb66.size)
 clear hB hb66 B60 B61
 have l74:=(B72.out).c0
 have l75:=(B72.out).c1
 have l76:=(B72.out).c2
 go_wp2_with fail
 clear l74 l75 l76
 refine (check_ok c2 sa2 sc2 sz2 da2 dc2 dz2 x21 x22 _ ((HI2.1.1.below hb73.out).mono hb73.size) ((HI2.2.1.1.below hb73.out).mono hb73.size) F2.out).mono ?_
 rintro e v6 ⟨rfl,hB⟩
 have z77:v5.heap.size<=v6.heap.size:=hB.size
 have B78:Hid (Abx v6 (w.heap.size) (.bool c1) (.slice sa1 sz1.length sc1) (.slice da1 dz1.length dc1)):=B71.go hB
 have B79:Hid (Abx v6 (w.heap.size+1) (.bool c2) (.slice sa2 sz2.length sc2) (.slice da2 dz2.length dc2)):=B72.go hB
 have hb80:Hid (Below w.heap.size w v6):=hb73.trans (hB.mono hb73.size)
 clear hB hb73 B71 B72
 have l81:=(B78.out).c0
 have l82:=(B78.out).c1
 have l83:=(B78.out).c2
 have l84:=(B79.out).c0
 have l85:=(B79.out).c1
 have l86:=(B79.out).c2
 go_wp2_with fail
 clear l81 l82 l83 l84 l85 l86
 refine (an_calls (HAB.1.2) (HT 5 f 0 c1 sa1 sc1 sz1 da1 dc1 dz1 c2 sa2 sc2 sz2 da2 dc2 dz2 _ (by unfold In64;decide) hf (by unfold In64;decide) x11 x12 ((HI1.1.below hb80.out).mono hb80.size) ((HI1.2.1.below hb80.out).mono hb80.size) x21 x22 ((HI2.1.below hb80.out).mono hb80.size) ((HI2.2.1.below hb80.out).mono hb80.size) HI1.2.2.2 HI2.2.2.2)).mono ?_
 rintro e v7 ⟨xa1,xc1,ya1,yc1,rfl,hX1,hY1,hB⟩
 have z87:v6.heap.size<=v7.heap.size:=hB.size
 have B88:Hid (Abx v7 (w.heap.size) (.bool c1) (.slice sa1 sz1.length sc1) (.slice da1 dz1.length dc1)):=B78.go hB
 have B89:Hid (Abx v7 (w.heap.size+1) (.bool c2) (.slice sa2 sz2.length sc2) (.slice da2 dz2.length dc2)):=B79.go hB
 have hb90:Hid (Below w.heap.size w v7):=hb80.trans (hB.mono hb80.size)
 have L91:Hid (MidC (v6.heap.size) (v7.heap.size) v7 (xa1) (A.s) (xc1)):=hX1.midc
 have L92:Hid (MidC (v6.heap.size) (v7.heap.size) v7 (ya1) (A.d) (yc1)):=hY1.midc
 clear hB hb80 B78 B79 hX1 hY1
 have n93:=Abx.new v7 (.bool A.c) (.slice xa1 A.s.length xc1) (.slice ya1 A.d.length yc1)
 have l94:=((B89.al (.cells #[.bool A.c,.slice xa1 A.s.length xc1,.slice ya1 A.d.length yc1] 27))).c0
 have l95:=((B89.al (.cells #[.bool A.c,.slice xa1 A.s.length xc1,.slice ya1 A.d.length yc1] 27))).c1
 have l96:=((B89.al (.cells #[.bool A.c,.slice xa1 A.s.length xc1,.slice ya1 A.d.length yc1] 27))).c2
 have l97:=((B88.al (.cells #[.bool A.c,.slice xa1 A.s.length xc1,.slice ya1 A.d.length yc1] 27))).c0
 have l98:=((B88.al (.cells #[.bool A.c,.slice xa1 A.s.length xc1,.slice ya1 A.d.length yc1] 27))).c1
 have l99:=((B88.al (.cells #[.bool A.c,.slice xa1 A.s.length xc1,.slice ya1 A.d.length yc1] 27))).c2
 go_wp2_with fail
 obtain⟨wo100,hwo100⟩:∃ wo100,wo100=(v7.alloc (.cells #[.bool A.c,.slice xa1 A.s.length xc1,.slice ya1 A.d.length yc1] 27)):=⟨_,rfl⟩
 rw[<-hwo100]
 have z101:v7.heap.size+1<=wo100.heap.size:=by rw[hwo100];simp only[World.size_alloc];omega
 have B102:Hid (Abx wo100 (w.heap.size) (.bool c1) (.slice sa1 sz1.length sc1) (.slice da1 dz1.length dc1)):=by rw[hwo100];exact (B88.al (.cells #[.bool A.c,.slice xa1 A.s.length xc1,.slice ya1 A.d.length yc1] 27))
 have B103:Hid (Abx wo100 (w.heap.size+1) (.bool c2) (.slice sa2 sz2.length sc2) (.slice da2 dz2.length dc2)):=by rw[hwo100];exact (B89.al (.cells #[.bool A.c,.slice xa1 A.s.length xc1,.slice ya1 A.d.length yc1] 27))
 have B104:Hid (Abx wo100 (v7.heap.size) (.bool A.c) (.slice xa1 A.s.length xc1) (.slice ya1 A.d.length yc1)):=by rw[hwo100];exact n93
 have L105:Hid (MidC (v6.heap.size) (v7.heap.size) wo100 (xa1) (A.s) (xc1)):=by rw[hwo100];exact (L91.al (by omega) (.cells #[.bool A.c,.slice xa1 A.s.length xc1,.slice ya1 A.d.length yc1] 27))
 have L106:Hid (MidC (v6.heap.size) (v7.heap.size) wo100 (ya1) (A.d) (yc1)):=by rw[hwo100];exact (L92.al (by omega) (.cells #[.bool A.c,.slice xa1 A.s.length xc1,.slice ya1 A.d.length yc1] 27))
 have hb107:Hid (Below w.heap.size w wo100):=by rw[hwo100];exact (hb90.alloc (by omega) (.cells #[.bool A.c,.slice xa1 A.s.length xc1,.slice ya1 A.d.length yc1] 27))
 have zwo100:w.heap.size<=wo100.heap.size:=hb107.size
 clear hwo100 n93 l94 l95 l96 l97 l98 l99 hb90 B88 B89 L91 L92
 refine (an_calls (HAB.1.1) (HT 0 f 0 c2 sa2 sc2 sz2 da2 dc2 dz2 c1 sa1 sc1 sz1 da1 dc1 dz1 _ (by unfold In64;decide) hf (by unfold In64;decide) x21 x22 ((HI2.1.below hb107.out).mono hb107.size) ((HI2.2.1.below hb107.out).mono hb107.size) x11 x12 ((HI1.1.below hb107.out).mono hb107.size) ((HI1.2.1.below hb107.out).mono hb107.size) HI2.2.2.2 HI1.2.2.2)).mono ?_
 rintro e v8 ⟨xa2,xc2,ya2,yc2,rfl,hX2,hY2,hB⟩
 have z108:wo100.heap.size<=v8.heap.size:=hB.size
 have B109:Hid (Abx v8 (w.heap.size) (.bool c1) (.slice sa1 sz1.length sc1) (.slice da1 dz1.length dc1)):=B102.go hB
 have B110:Hid (Abx v8 (w.heap.size+1) (.bool c2) (.slice sa2 sz2.length sc2) (.slice da2 dz2.length dc2)):=B103.go hB
 have B111:Hid (Abx v8 (v7.heap.size) (.bool A.c) (.slice xa1 A.s.length xc1) (.slice ya1 A.d.length yc1)):=B104.go hB
 have L112:Hid (MidC (v6.heap.size) (v7.heap.size) v8 (xa1) (A.s) (xc1)):=L105.go (by omega) hB
 have L113:Hid (MidC (v6.heap.size) (v7.heap.size) v8 (ya1) (A.d) (yc1)):=L106.go (by omega) hB
 have hb114:Hid (Below w.heap.size w v8):=hb107.trans (hB.mono hb107.size)
 have L115:Hid (MidC (wo100.heap.size) (v8.heap.size) v8 (xa2) (A.s) (xc2)):=hX2.midc
 have L116:Hid (MidC (wo100.heap.size) (v8.heap.size) v8 (ya2) (A.d) (yc2)):=hY2.midc
 clear hB hb107 B102 B103 B104 L105 L106 hX2 hY2
 have n117:=Abx.new v8 (.bool A.c) (.slice xa2 A.s.length xc2) (.slice ya2 A.d.length yc2)
 have l118:=((B109.al (.cells #[.bool A.c,.slice xa2 A.s.length xc2,.slice ya2 A.d.length yc2] 27))).c0
 have l119:=((B109.al (.cells #[.bool A.c,.slice xa2 A.s.length xc2,.slice ya2 A.d.length yc2] 27))).c1
 have l120:=((B109.al (.cells #[.bool A.c,.slice xa2 A.s.length xc2,.slice ya2 A.d.length yc2] 27))).c2
 go_wp2_with fail
 obtain⟨wo121,hwo121⟩:∃ wo121,wo121=(v8.alloc (.cells #[.bool A.c,.slice xa2 A.s.length xc2,.slice ya2 A.d.length yc2] 27)):=⟨_,rfl⟩
 rw[<-hwo121]
 have z122:v8.heap.size+1<=wo121.heap.size:=by rw[hwo121];simp only[World.size_alloc];omega
 have B123:Hid (Abx wo121 (w.heap.size) (.bool c1) (.slice sa1 sz1.length sc1) (.slice da1 dz1.length dc1)):=by rw[hwo121];exact (B109.al (.cells #[.bool A.c,.slice xa2 A.s.length xc2,.slice ya2 A.d.length yc2] 27))
 have B124:Hid (Abx wo121 (w.heap.size+1) (.bool c2) (.slice sa2 sz2.length sc2) (.slice da2 dz2.length dc2)):=by rw[hwo121];exact (B110.al (.cells #[.bool A.c,.slice xa2 A.s.length xc2,.slice ya2 A.d.length yc2] 27))
 have B125:Hid (Abx wo121 (v7.heap.size) (.bool A.c) (.slice xa1 A.s.length xc1) (.slice ya1 A.d.length yc1)):=by rw[hwo121];exact (B111.al (.cells #[.bool A.c,.slice xa2 A.s.length xc2,.slice ya2 A.d.length yc2] 27))
 have B126:Hid (Abx wo121 (v8.heap.size) (.bool A.c) (.slice xa2 A.s.length xc2) (.slice ya2 A.d.length yc2)):=by rw[hwo121];exact n117
 have L127:Hid (MidC (v6.heap.size) (v7.heap.size) wo121 (xa1) (A.s) (xc1)):=by rw[hwo121];exact (L112.al (by omega) (.cells #[.bool A.c,.slice xa2 A.s.length xc2,.slice ya2 A.d.length yc2] 27))
 have L128:Hid (MidC (v6.heap.size) (v7.heap.size) wo121 (ya1) (A.d) (yc1)):=by rw[hwo121];exact (L113.al (by omega) (.cells #[.bool A.c,.slice xa2 A.s.length xc2,.slice ya2 A.d.length yc2] 27))
 have L129:Hid (MidC (wo100.heap.size) (v8.heap.size) wo121 (xa2) (A.s) (xc2)):=by rw[hwo121];exact (L115.al (by omega) (.cells #[.bool A.c,.slice xa2 A.s.length xc2,.slice ya2 A.d.length yc2] 27))
 have L130:Hid (MidC (wo100.heap.size) (v8.heap.size) wo121 (ya2) (A.d) (yc2)):=by rw[hwo121];exact (L116.al (by omega) (.cells #[.bool A.c,.slice xa2 A.s.length xc2,.slice ya2 A.d.length yc2] 27))
 have hb131:Hid (Below w.heap.size w wo121):=by rw[hwo121];exact (hb114.alloc (by omega) (.cells #[.bool A.c,.slice xa2 A.s.length xc2,.slice ya2 A.d.length yc2] 27))
 have zwo121:w.heap.size<=wo121.heap.size:=hb131.size
 clear hwo121 n117 l118 l119 l120 hb114 B109 B110 B111 L112 L113 L115 L116
 refine (an_calls (HAB.2.2) (HO 5 f 0 c1 sa1 sc1 sz1 da1 dc1 dz1 _ (by unfold In64;decide) hf (by unfold In64;decide) x11 x12 ((HI1.1.below hb131.out).mono hb131.size) ((HI1.2.1.below hb131.out).mono hb131.size) HI1.2.2.2)).mono ?_
 rintro e v9 ⟨xa3,xc3,ya3,yc3,rfl,hX3,hY3,hB⟩
 have z132:wo121.heap.size<=v9.heap.size:=hB.size
 have B133:Hid (Abx v9 (w.heap.size) (.bool c1) (.slice sa1 sz1.length sc1) (.slice da1 dz1.length dc1)):=B123.go hB
 have B134:Hid (Abx v9 (w.heap.size+1) (.bool c2) (.slice sa2 sz2.length sc2) (.slice da2 dz2.length dc2)):=B124.go hB
 have B135:Hid (Abx v9 (v7.heap.size) (.bool A.c) (.slice xa1 A.s.length xc1) (.slice ya1 A.d.length yc1)):=B125.go hB
 have B136:Hid (Abx v9 (v8.heap.size) (.bool A.c) (.slice xa2 A.s.length xc2) (.slice ya2 A.d.length yc2)):=B126.go hB
 have L137:Hid (MidC (v6.heap.size) (v7.heap.size) v9 (xa1) (A.s) (xc1)):=L127.go (by omega) hB
 have L138:Hid (MidC (v6.heap.size) (v7.heap.size) v9 (ya1) (A.d) (yc1)):=L128.go (by omega) hB
 have L139:Hid (MidC (wo100.heap.size) (v8.heap.size) v9 (xa2) (A.s) (xc2)):=L129.go (by omega) hB
 have L140:Hid (MidC (wo100.heap.size) (v8.heap.size) v9 (ya2) (A.d) (yc2)):=L130.go (by omega) hB
 have hb141:Hid (Below w.heap.size w v9):=hb131.trans (hB.mono hb131.size)
 have L142:Hid (MidC (wo121.heap.size) (v9.heap.size) v9 (xa3) (B.s) (xc3)):=hX3.midc
 have L143:Hid (MidC (wo121.heap.size) (v9.heap.size) v9 (ya3) (B.d) (yc3)):=hY3.midc
 clear hB hb131 B123 B124 B125 B126 L127 L128 L129 L130 hX3 hY3
 have n144:=Abx.new v9 (.bool B.c) (.slice xa3 B.s.length xc3) (.slice ya3 B.d.length yc3)
 have l145:=((B133.al (.cells #[.bool B.c,.slice xa3 B.s.length xc3,.slice ya3 B.d.length yc3] 27))).c0
 have l146:=((B133.al (.cells #[.bool B.c,.slice xa3 B.s.length xc3,.slice ya3 B.d.length yc3] 27))).c1
 have l147:=((B133.al (.cells #[.bool B.c,.slice xa3 B.s.length xc3,.slice ya3 B.d.length yc3] 27))).c2
 go_wp2_with fail
 obtain⟨wo148,hwo148⟩:∃ wo148,wo148=(v9.alloc (.cells #[.bool B.c,.slice xa3 B.s.length xc3,.slice ya3 B.d.length yc3] 27)):=⟨_,rfl⟩
 rw[<-hwo148]
 have z149:v9.heap.size+1<=wo148.heap.size:=by rw[hwo148];simp only[World.size_alloc];omega
 have B150:Hid (Abx wo148 (w.heap.size) (.bool c1) (.slice sa1 sz1.length sc1) (.slice da1 dz1.length dc1)):=by rw[hwo148];exact (B133.al (.cells #[.bool B.c,.slice xa3 B.s.length xc3,.slice ya3 B.d.length yc3] 27))
 have B151:Hid (Abx wo148 (w.heap.size+1) (.bool c2) (.slice sa2 sz2.length sc2) (.slice da2 dz2.length dc2)):=by rw[hwo148];exact (B134.al (.cells #[.bool B.c,.slice xa3 B.s.length xc3,.slice ya3 B.d.length yc3] 27))
 have B152:Hid (Abx wo148 (v7.heap.size) (.bool A.c) (.slice xa1 A.s.length xc1) (.slice ya1 A.d.length yc1)):=by rw[hwo148];exact (B135.al (.cells #[.bool B.c,.slice xa3 B.s.length xc3,.slice ya3 B.d.length yc3] 27))
 have B153:Hid (Abx wo148 (v8.heap.size) (.bool A.c) (.slice xa2 A.s.length xc2) (.slice ya2 A.d.length yc2)):=by rw[hwo148];exact (B136.al (.cells #[.bool B.c,.slice xa3 B.s.length xc3,.slice ya3 B.d.length yc3] 27))
 have B154:Hid (Abx wo148 (v9.heap.size) (.bool B.c) (.slice xa3 B.s.length xc3) (.slice ya3 B.d.length yc3)):=by rw[hwo148];exact n144
 have L155:Hid (MidC (v6.heap.size) (v7.heap.size) wo148 (xa1) (A.s) (xc1)):=by rw[hwo148];exact (L137.al (by omega) (.cells #[.bool B.c,.slice xa3 B.s.length xc3,.slice ya3 B.d.length yc3] 27))
 have L156:Hid (MidC (v6.heap.size) (v7.heap.size) wo148 (ya1) (A.d) (yc1)):=by rw[hwo148];exact (L138.al (by omega) (.cells #[.bool B.c,.slice xa3 B.s.length xc3,.slice ya3 B.d.length yc3] 27))
 have L157:Hid (MidC (wo100.heap.size) (v8.heap.size) wo148 (xa2) (A.s) (xc2)):=by rw[hwo148];exact (L139.al (by omega) (.cells #[.bool B.c,.slice xa3 B.s.length xc3,.slice ya3 B.d.length yc3] 27))
 have L158:Hid (MidC (wo100.heap.size) (v8.heap.size) wo148 (ya2) (A.d) (yc2)):=by rw[hwo148];exact (L140.al (by omega) (.cells #[.bool B.c,.slice xa3 B.s.length xc3,.slice ya3 B.d.length yc3] 27))
 have L159:Hid (MidC (wo121.heap.size) (v9.heap.size) wo148 (xa3) (B.s) (xc3)):=by rw[hwo148];exact (L142.al (by omega) (.cells #[.bool B.c,.slice xa3 B.s.length xc3,.slice ya3 B.d.length yc3] 27))
 have L160:Hid (MidC (wo121.heap.size) (v9.heap.size) wo148 (ya3) (B.d) (yc3)):=by rw[hwo148];exact (L143.al (by omega) (.cells #[.bool B.c,.slice xa3 B.s.length xc3,.slice ya3 B.d.length yc3] 27))
 have hb161:Hid (Below w.heap.size w wo148):=by rw[hwo148];exact (hb141.alloc (by omega) (.cells #[.bool B.c,.slice xa3 B.s.length xc3,.slice ya3 B.d.length yc3] 27))
 have zwo148:w.heap.size<=wo148.heap.size:=hb161.size
 clear hwo148 n144 l145 l146 l147 hb141 B133 B134 B135 B136 L137 L138 L139 L140 L142 L143
 refine (an_calls (HAB.2.1) (HT 0 f 0 c1 sa1 sc1 sz1 da1 dc1 dz1 c1 sa1 sc1 sz1 da1 dc1 dz1 _ (by unfold In64;decide) hf (by unfold In64;decide) x11 x12 ((HI1.1.below hb161.out).mono hb161.size) ((HI1.2.1.below hb161.out).mono hb161.size) x11 x12 ((HI1.1.below hb161.out).mono hb161.size) ((HI1.2.1.below hb161.out).mono hb161.size) HI1.2.2.2 HI1.2.2.2)).mono ?_
 rintro e v10 ⟨xa4,xc4,ya4,yc4,rfl,hX4,hY4,hB⟩
 have z162:wo148.heap.size<=v10.heap.size:=hB.size
 have B163:Hid (Abx v10 (w.heap.size) (.bool c1) (.slice sa1 sz1.length sc1) (.slice da1 dz1.length dc1)):=B150.go hB
 have B164:Hid (Abx v10 (w.heap.size+1) (.bool c2) (.slice sa2 sz2.length sc2) (.slice da2 dz2.length dc2)):=B151.go hB
 have B165:Hid (Abx v10 (v7.heap.size) (.bool A.c) (.slice xa1 A.s.length xc1) (.slice ya1 A.d.length yc1)):=B152.go hB
 have B166:Hid (Abx v10 (v8.heap.size) (.bool A.c) (.slice xa2 A.s.length xc2) (.slice ya2 A.d.length yc2)):=B153.go hB
 have B167:Hid (Abx v10 (v9.heap.size) (.bool B.c) (.slice xa3 B.s.length xc3) (.slice ya3 B.d.length yc3)):=B154.go hB
 have L168:Hid (MidC (v6.heap.size) (v7.heap.size) v10 (xa1) (A.s) (xc1)):=L155.go (by omega) hB
 have L169:Hid (MidC (v6.heap.size) (v7.heap.size) v10 (ya1) (A.d) (yc1)):=L156.go (by omega) hB
 have L170:Hid (MidC (wo100.heap.size) (v8.heap.size) v10 (xa2) (A.s) (xc2)):=L157.go (by omega) hB
 have L171:Hid (MidC (wo100.heap.size) (v8.heap.size) v10 (ya2) (A.d) (yc2)):=L158.go (by omega) hB
 have L172:Hid (MidC (wo121.heap.size) (v9.heap.size) v10 (xa3) (B.s) (xc3)):=L159.go (by omega) hB
 have L173:Hid (MidC (wo121.heap.size) (v9.heap.size) v10 (ya3) (B.d) (yc3)):=L160.go (by omega) hB
 have hb174:Hid (Below w.heap.size w v10):=hb161.trans (hB.mono hb161.size)
 have L175:Hid (MidC (wo148.heap.size) (v10.heap.size) v10 (xa4) (B.s) (xc4)):=hX4.midc
 have L176:Hid (MidC (wo148.heap.size) (v10.heap.size) v10 (ya4) (B.d) (yc4)):=hY4.midc
 clear hB hb161 B150 B151 B152 B153 B154 L155 L156 L157 L158 L159 L160 hX4 hY4
 have n177:=Abx.new v10 (.bool B.c) (.slice xa4 B.s.length xc4) (.slice ya4 B.d.length yc4)
 go_wp2_with fail
 obtain⟨wo178,hwo178⟩:∃ wo178,wo178=(v10.alloc (.cells #[.bool B.c,.slice xa4 B.s.length xc4,.slice ya4 B.d.length yc4] 27)):=⟨_,rfl⟩
 rw[<-hwo178]
 have z179:v10.heap.size+1<=wo178.heap.size:=by rw[hwo178];simp only[World.size_alloc];omega
 have B180:Hid (Abx wo178 (w.heap.size) (.bool c1) (.slice sa1 sz1.length sc1) (.slice da1 dz1.length dc1)):=by rw[hwo178];exact (B163.al (.cells #[.bool B.c,.slice xa4 B.s.length xc4,.slice ya4 B.d.length yc4] 27))
 have B181:Hid (Abx wo178 (w.heap.size+1) (.bool c2) (.slice sa2 sz2.length sc2) (.slice da2 dz2.length dc2)):=by rw[hwo178];exact (B164.al (.cells #[.bool B.c,.slice xa4 B.s.length xc4,.slice ya4 B.d.length yc4] 27))
 have B182:Hid (Abx wo178 (v7.heap.size) (.bool A.c) (.slice xa1 A.s.length xc1) (.slice ya1 A.d.length yc1)):=by rw[hwo178];exact (B165.al (.cells #[.bool B.c,.slice xa4 B.s.length xc4,.slice ya4 B.d.length yc4] 27))
 have B183:Hid (Abx wo178 (v8.heap.size) (.bool A.c) (.slice xa2 A.s.length xc2) (.slice ya2 A.d.length yc2)):=by rw[hwo178];exact (B166.al (.cells #[.bool B.c,.slice xa4 B.s.length xc4,.slice ya4 B.d.length yc4] 27))
 have B184:Hid (Abx wo178 (v9.heap.size) (.bool B.c) (.slice xa3 B.s.length xc3) (.slice ya3 B.d.length yc3)):=by rw[hwo178];exact (B167.al (.cells #[.bool B.c,.slice xa4 B.s.length xc4,.slice ya4 B.d.length yc4] 27))
 have B185:Hid (Abx wo178 (v10.heap.size) (.bool B.c) (.slice xa4 B.s.length xc4) (.slice ya4 B.d.length yc4)):=by rw[hwo178];exact n177
 have L186:Hid (MidC (v6.heap.size) (v7.heap.size) wo178 (xa1) (A.s) (xc1)):=by rw[hwo178];exact (L168.al (by omega) (.cells #[.bool B.c,.slice xa4 B.s.length xc4,.slice ya4 B.d.length yc4] 27))
 have L187:Hid (MidC (v6.heap.size) (v7.heap.size) wo178 (ya1) (A.d) (yc1)):=by rw[hwo178];exact (L169.al (by omega) (.cells #[.bool B.c,.slice xa4 B.s.length xc4,.slice ya4 B.d.length yc4] 27))
 have L188:Hid (MidC (wo100.heap.size) (v8.heap.size) wo178 (xa2) (A.s) (xc2)):=by rw[hwo178];exact (L170.al (by omega) (.cells #[.bool B.c,.slice xa4 B.s.length xc4,.slice ya4 B.d.length yc4] 27))
 have L189:Hid (MidC (wo100.heap.size) (v8.heap.size) wo178 (ya2) (A.d) (yc2)):=by rw[hwo178];exact (L171.al (by omega) (.cells #[.bool B.c,.slice xa4 B.s.length xc4,.slice ya4 B.d.length yc4] 27))
 have L190:Hid (MidC (wo121.heap.size) (v9.heap.size) wo178 (xa3) (B.s) (xc3)):=by rw[hwo178];exact (L172.al (by omega) (.cells #[.bool B.c,.slice xa4 B.s.length xc4,.slice ya4 B.d.length yc4] 27))
 have L191:Hid (MidC (wo121.heap.size) (v9.heap.size) wo178 (ya3) (B.d) (yc3)):=by rw[hwo178];exact (L173.al (by omega) (.cells #[.bool B.c,.slice xa4 B.s.length xc4,.slice ya4 B.d.length yc4] 27))
 have L192:Hid (MidC (wo148.heap.size) (v10.heap.size) wo178 (xa4) (B.s) (xc4)):=by rw[hwo178];exact (L175.al (by omega) (.cells #[.bool B.c,.slice xa4 B.s.length xc4,.slice ya4 B.d.length yc4] 27))
 have L193:Hid (MidC (wo148.heap.size) (v10.heap.size) wo178 (ya4) (B.d) (yc4)):=by rw[hwo178];exact (L176.al (by omega) (.cells #[.bool B.c,.slice xa4 B.s.length xc4,.slice ya4 B.d.length yc4] 27))
 have hb194:Hid (Below w.heap.size w wo178):=by rw[hwo178];exact (hb174.alloc (by omega) (.cells #[.bool B.c,.slice xa4 B.s.length xc4,.slice ya4 B.d.length yc4] 27))
 have zwo178:w.heap.size<=wo178.heap.size:=hb194.size
 clear hwo178 n177 hb174 B163 B164 B165 B166 B167 L168 L169 L170 L171 L172 L173 L175 L176
 refine (told_same A.e _ (HG.below hb194.out HG.pos)).mono ?_
 rintro e v11 ⟨rfl,hB⟩
 have z195:wo178.heap.size<=v11.heap.size:=hB.size
 have B196:Hid (Abx v11 (w.heap.size) (.bool c1) (.slice sa1 sz1.length sc1) (.slice da1 dz1.length dc1)):=B180.go hB
 have B197:Hid (Abx v11 (w.heap.size+1) (.bool c2) (.slice sa2 sz2.length sc2) (.slice da2 dz2.length dc2)):=B181.go hB
 have B198:Hid (Abx v11 (v7.heap.size) (.bool A.c) (.slice xa1 A.s.length xc1) (.slice ya1 A.d.length yc1)):=B182.go hB
 have B199:Hid (Abx v11 (v8.heap.size) (.bool A.c) (.slice xa2 A.s.length xc2) (.slice ya2 A.d.length yc2)):=B183.go hB
 have B200:Hid (Abx v11 (v9.heap.size) (.bool B.c) (.slice xa3 B.s.length xc3) (.slice ya3 B.d.length yc3)):=B184.go hB
 have B201:Hid (Abx v11 (v10.heap.size) (.bool B.c) (.slice xa4 B.s.length xc4) (.slice ya4 B.d.length yc4)):=B185.go hB
 have L202:Hid (MidC (v6.heap.size) (v7.heap.size) v11 (xa1) (A.s) (xc1)):=L186.go (by omega) hB
 have L203:Hid (MidC (v6.heap.size) (v7.heap.size) v11 (ya1) (A.d) (yc1)):=L187.go (by omega) hB
 have L204:Hid (MidC (wo100.heap.size) (v8.heap.size) v11 (xa2) (A.s) (xc2)):=L188.go (by omega) hB
 have L205:Hid (MidC (wo100.heap.size) (v8.heap.size) v11 (ya2) (A.d) (yc2)):=L189.go (by omega) hB
 have L206:Hid (MidC (wo121.heap.size) (v9.heap.size) v11 (xa3) (B.s) (xc3)):=L190.go (by omega) hB
 have L207:Hid (MidC (wo121.heap.size) (v9.heap.size) v11 (ya3) (B.d) (yc3)):=L191.go (by omega) hB
 have L208:Hid (MidC (wo148.heap.size) (v10.heap.size) v11 (xa4) (B.s) (xc4)):=L192.go (by omega) hB
 have L209:Hid (MidC (wo148.heap.size) (v10.heap.size) v11 (ya4) (B.d) (yc4)):=L193.go (by omega) hB
 have hb210:Hid (Below w.heap.size w v11):=hb194.trans (hB.mono hb194.size)
 clear hB hb194 B180 B181 B182 B183 B184 B185 L186 L187 L188 L189 L190 L191 L192 L193
 go_wp2_with fail
 refine (told_same B.e _ (HG.below hb210.out HG.pos)).mono ?_
 rintro e v12 ⟨rfl,hB⟩
 have z211:v11.heap.size<=v12.heap.size:=hB.size
 have B212:Hid (Abx v12 (w.heap.size) (.bool c1) (.slice sa1 sz1.length sc1) (.slice da1 dz1.length dc1)):=B196.go hB
 have B213:Hid (Abx v12 (w.heap.size+1) (.bool c2) (.slice sa2 sz2.length sc2) (.slice da2 dz2.length dc2)):=B197.go hB
 have B214:Hid (Abx v12 (v7.heap.size) (.bool A.c) (.slice xa1 A.s.length xc1) (.slice ya1 A.d.length yc1)):=B198.go hB
 have B215:Hid (Abx v12 (v8.heap.size) (.bool A.c) (.slice xa2 A.s.length xc2) (.slice ya2 A.d.length yc2)):=B199.go hB
 have B216:Hid (Abx v12 (v9.heap.size) (.bool B.c) (.slice xa3 B.s.length xc3) (.slice ya3 B.d.length yc3)):=B200.go hB
 have B217:Hid (Abx v12 (v10.heap.size) (.bool B.c) (.slice xa4 B.s.length xc4) (.slice ya4 B.d.length yc4)):=B201.go hB
 have L218:Hid (MidC (v6.heap.size) (v7.heap.size) v12 (xa1) (A.s) (xc1)):=L202.go (by omega) hB
 have L219:Hid (MidC (v6.heap.size) (v7.heap.size) v12 (ya1) (A.d) (yc1)):=L203.go (by omega) hB
 have L220:Hid (MidC (wo100.heap.size) (v8.heap.size) v12 (xa2) (A.s) (xc2)):=L204.go (by omega) hB
 have L221:Hid (MidC (wo100.heap.size) (v8.heap.size) v12 (ya2) (A.d) (yc2)):=L205.go (by omega) hB
 have L222:Hid (MidC (wo121.heap.size) (v9.heap.size) v12 (xa3) (B.s) (xc3)):=L206.go (by omega) hB
 have L223:Hid (MidC (wo121.heap.size) (v9.heap.size) v12 (ya3) (B.d) (yc3)):=L207.go (by omega) hB
 have L224:Hid (MidC (wo148.heap.size) (v10.heap.size) v12 (xa4) (B.s) (xc4)):=L208.go (by omega) hB
 have L225:Hid (MidC (wo148.heap.size) (v10.heap.size) v12 (ya4) (B.d) (yc4)):=L209.go (by omega) hB
 have hb226:Hid (Below w.heap.size w v12):=hb210.trans (hB.mono hb210.size)
 clear hB hb210 B196 B197 B198 B199 B200 B201 L202 L203 L204 L205 L206 L207 L208 L209
 have l227:=(B214.out).c0
 have l228:=(B214.out).c1
 have l229:=(B214.out).c2
 have l230:=(B215.out).c0
 have l231:=(B215.out).c1
 have l232:=(B215.out).c2
 go_wp2_with fail
 clear l227 l228 l229 l230 l231 l232
 refine (sarr_any A.c A.c xa1 xc1 A.s ya1 yc1 A.d xa2 xc2 A.s ya2 yc2 A.d (by omega) (by omega) _ (L218.is (by omega)).1 (L219.is (by omega)).1 (L220.is (by omega)).1 (L221.is (by omega)).1).mono ?_
 rintro e v13 ⟨rfl,hB⟩
 have z233:v12.heap.size<=v13.heap.size:=hB.size
 have B234:Hid (Abx v13 (w.heap.size) (.bool c1) (.slice sa1 sz1.length sc1) (.slice da1 dz1.length dc1)):=B212.go hB
 have B235:Hid (Abx v13 (w.heap.size+1) (.bool c2) (.slice sa2 sz2.length sc2) (.slice da2 dz2.length dc2)):=B213.go hB
 have B236:Hid (Abx v13 (v7.heap.size) (.bool A.c) (.slice xa1 A.s.length xc1) (.slice ya1 A.d.length yc1)):=B214.go hB
 have B237:Hid (Abx v13 (v8.heap.size) (.bool A.c) (.slice xa2 A.s.length xc2) (.slice ya2 A.d.length yc2)):=B215.go hB
 have B238:Hid (Abx v13 (v9.heap.size) (.bool B.c) (.slice xa3 B.s.length xc3) (.slice ya3 B.d.length yc3)):=B216.go hB
 have B239:Hid (Abx v13 (v10.heap.size) (.bool B.c) (.slice xa4 B.s.length xc4) (.slice ya4 B.d.length yc4)):=B217.go hB
 have L240:Hid (MidC (v6.heap.size) (v7.heap.size) v13 (xa1) (A.s) (xc1)):=L218.go (by omega) hB
 have L241:Hid (MidC (v6.heap.size) (v7.heap.size) v13 (ya1) (A.d) (yc1)):=L219.go (by omega) hB
 have L242:Hid (MidC (wo100.heap.size) (v8.heap.size) v13 (xa2) (A.s) (xc2)):=L220.go (by omega) hB
 have L243:Hid (MidC (wo100.heap.size) (v8.heap.size) v13 (ya2) (A.d) (yc2)):=L221.go (by omega) hB
 have L244:Hid (MidC (wo121.heap.size) (v9.heap.size) v13 (xa3) (B.s) (xc3)):=L222.go (by omega) hB
 have L245:Hid (MidC (wo121.heap.size) (v9.heap.size) v13 (ya3) (B.d) (yc3)):=L223.go (by omega) hB
 have L246:Hid (MidC (wo148.heap.size) (v10.heap.size) v13 (xa4) (B.s) (xc4)):=L224.go (by omega) hB
 have L247:Hid (MidC (wo148.heap.size) (v10.heap.size) v13 (ya4) (B.d) (yc4)):=L225.go (by omega) hB
 have hb248:Hid (Below w.heap.size w v13):=hb226.trans (hB.mono hb226.size)
 clear hB hb226 B212 B213 B214 B215 B216 B217 L218 L219 L220 L221 L222 L223 L224 L225
 rw[arrB_self]
 clear L240 L241 L242 L243 B236 B237
 have l249:=(B238.out).c0
 have l250:=(B238.out).c1
 have l251:=(B238.out).c2
 have l252:=(B239.out).c0
 have l253:=(B239.out).c1
 have l254:=(B239.out).c2
 go_wp2_with fail
 clear l249 l250 l251 l252 l253 l254
 refine (sarr_any B.c B.c xa3 xc3 B.s ya3 yc3 B.d xa4 xc4 B.s ya4 yc4 B.d (by omega) (by omega) _ (L244.is (by omega)).1 (L245.is (by omega)).1 (L246.is (by omega)).1 (L247.is (by omega)).1).mono ?_
 rintro e v14 ⟨rfl,hB⟩
 have z255:v13.heap.size<=v14.heap.size:=hB.size
 have B256:Hid (Abx v14 (w.heap.size) (.bool c1) (.slice sa1 sz1.length sc1) (.slice da1 dz1.length dc1)):=B234.go hB
 have B257:Hid (Abx v14 (w.heap.size+1) (.bool c2) (.slice sa2 sz2.length sc2) (.slice da2 dz2.length dc2)):=B235.go hB
 have B258:Hid (Abx v14 (v9.heap.size) (.bool B.c) (.slice xa3 B.s.length xc3) (.slice ya3 B.d.length yc3)):=B238.go hB
 have B259:Hid (Abx v14 (v10.heap.size) (.bool B.c) (.slice xa4 B.s.length xc4) (.slice ya4 B.d.length yc4)):=B239.go hB
 have L260:Hid (MidC (wo121.heap.size) (v9.heap.size) v14 (xa3) (B.s) (xc3)):=L244.go (by omega) hB
 have L261:Hid (MidC (wo121.heap.size) (v9.heap.size) v14 (ya3) (B.d) (yc3)):=L245.go (by omega) hB
 have L262:Hid (MidC (wo148.heap.size) (v10.heap.size) v14 (xa4) (B.s) (xc4)):=L246.go (by omega) hB
 have L263:Hid (MidC (wo148.heap.size) (v10.heap.size) v14 (ya4) (B.d) (yc4)):=L247.go (by omega) hB
 have hb264:Hid (Below w.heap.size w v14):=hb248.trans (hB.mono hb248.size)
 clear hB hb248 B234 B235 B238 B239 L244 L245 L246 L247
 rw[arrB_self]
 clear L260 L261 L262 L263 B258 B259
 go_wp2_with fail
 go_ret
 exact⟨rfl,hb264.out⟩
theorem pswaps_walk (HT:CT2)(HO:CO1)(f:Int)(hf:In64 f)(c1:Bool)(sa1:Option Addr)(sc1:Nat)(sz1:List Int)(da1:Option Addr)(dc1:Nat)(dz1:List Int)(c2:Bool)(sa2:Option Addr)(sc2:Nat)(sz2:List Int)(da2:Option Addr)(dc2:Nat)(dz2:List Int)(w:World)(hg:HasErr w)(w8:IsArrD w sa1 sz1 sc1 da1 dz1 dc1)(w9:IsArrD w sa2 sz2 sc2 da2 dz2 dc2):
  Calls Tryz.prog 5 #[.int .i64 f,.agg #[.bool c1,.slice sa1 sz1.length sc1,.slice da1 dz1.length dc1],.agg #[.bool c2,.slice sa2 sz2.length sc2,.slice da2 dz2.length dc2]] w fun e w'=>e=.returned (.bool true)/\Below w.heap.size w w':=by
 by_cases h1:flawE c1 sz1 dz1=0
 ·by_cases h2:flawE c2 sz2 dz2=0
  ·exact swaps_ok HT HO f hf c1 sa1 sc1 sz1 da1 dc1 dz1 c2 sa2 sc2 sz2 da2 dc2 dz2 w hg w8 w9 h1 h2
  ·exact swaps_2 HT HO f hf c1 sa1 sc1 sz1 da1 dc1 dz1 c2 sa2 sc2 sz2 da2 dc2 dz2 w hg w8 w9 h1 h2
 ·exact swaps_1 HT HO f hf c1 sa1 sc1 sz1 da1 dc1 dz1 c2 sa2 sc2 sz2 da2 dc2 dz2 w hg w8 w9 h1
end Go.Proofs.YtkmmkcpfhnifhaaGreatDoor
