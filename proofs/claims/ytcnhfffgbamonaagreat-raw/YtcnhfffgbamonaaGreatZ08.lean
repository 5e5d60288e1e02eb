import Derived.Test.YtcnhfffgbamonaaGreatZ07
set_option maxRecDepth 100000
set_option maxHeartbeats 6400000
namespace Go.Proofs.YtcnhfffgbamonaaGreat
open Go.Proofs.Tryz
open Go.RowKit
theorem ajs(m:Nat)(md:M.Md)(o:M.Op)(ao:Option Addr)(p c:Nat)(w:World)(h:cN w m md)(hw:lO md)(_ho:mb o)(hk:o.af=4) :
  Calls prog 168 #[.pointer (some ⟨m,0,none⟩),.agg (aO o (.slice ao p c))] w fun e w'=>e=.returned (.bool (M.bT md o))/\w.grownBy w' none:=by
 have v0:=mf o (.slice ao p c);have v1:=xw o (.slice ao p c);rw[hk] at v0;have Hk:=ae hk;clear hk;have N0:aj (w.alloc (.cells (aO o (.slice ao p c)) 142)) w.heap.size 142 (aO o (.slice ao p c)):=aj.bA _ _ _;have gR:w.grownBy (w.alloc (.cells (aO o (.slice ao p c)) 142)) none:=aQ _ _ _;have gS:=h.Z gR;go_enter func168,ntmps168;go_wp2_with fail;refine(iW m md o.a _ gS hw.nt).mono ?_;rintro e w1⟨t1,dg,⟨eU,p1,c1,rfl⟩,aH⟩;have gT:aj w1 w.heap.size 142 (aO o (.slice ao p c)):=aj.kept N0 aH (by simp);have M1:=cN.Z gS aH;have G1:=aC gR aH;have mL:dZ t1:=by rw[<-dg.out];exact jW hw _
 clear aH N0 gR gS v1 v0;have N1:aj (w1.alloc (.cells (bg t1 (.slice eU p1 c1)) 158)) w1.heap.size 158 (bg t1 (.slice eU p1 c1)):=aj.bA _ _ _;have nG:w1.cell? ⟨w.heap.size,5,none⟩=some (.int .i64 o.to):=gT.cell 5;have gk:w.heap.size<w1.heap.size:=gT.lt;go_wp2_with fail;refine(iW m md o.to _ (M1.Z (aQ _ _ _)) hw.nt).mono ?_;rintro e w2⟨t2,dL,⟨dO,p2,c2,rfl⟩,aM⟩;clear nG gk;have fV:aj w2 (w.heap.size) 142 (aO o (.slice ao p c)):=aj.kept (gT.alloc _) aM (by simp);have mg:aj w2 (w1.heap.size) 158 (bg t1 (.slice eU p1 c1)):=aj.kept N1 aM (by simp);have M2:=cN.Z (M1.Z (aQ _ _ _)) aM;have G2:=aC (aC G1 (aQ _ _ _)) aM;have ub:dZ t2:=by rw[<-dL.out];exact jW hw _
 clear aM;have N2:aj (w2.alloc (.cells (bg t2 (.slice dO p2 c2)) 158)) w2.heap.size 158 (bg t2 (.slice dO p2 c2)):=aj.bA _ _ _;have oR:w2.cell? ⟨w.heap.size,0,none⟩=some (.int .i64 4):=by have q:=fV.cell 0;rw[mf,Hk.out] at q;exact q
 have gk:w.heap.size<w2.heap.size:=fV.lt;have QN:w2.cell? ⟨w.heap.size,2,none⟩=some (.int .i64 o.b):=fV.cell 2;go_wp2_with fail;refine(iW m md o.b _ (M2.Z (aQ _ _ _)) hw.nt).mono ?_;rintro e w3⟨t3,im,⟨mi,p3,c3,rfl⟩,aU⟩;clear oR gk QN;have sV:aj w3 (w.heap.size) 142 (aO o (.slice ao p c)):=aj.kept (fV.alloc _) aU (by simp);have uc:aj w3 (w1.heap.size) 158 (bg t1 (.slice eU p1 c1)):=aj.kept (mg.alloc _) aU (by simp);have ud:aj w3 (w2.heap.size) 158 (bg t2 (.slice dO p2 c2)):=aj.kept N2 aU (by simp);have M3:=cN.Z (M2.Z (aQ _ _ _)) aU;have G3:=aC (aC G2 (aQ _ _ _)) aU;have BV:dZ t3:=by rw[<-im.out];exact jW hw _
 clear aU;have N3:aj (w3.alloc (.cells (bg t3 (.slice mi p3 c3)) 158)) w3.heap.size 158 (bg t3 (.slice mi p3 c3)):=aj.bA _ _ _;have He:=ae (show M.bT md o=(M.kY t1 t2&&M.kY t3 t2) by unfold M.bT;simp only[Hk.out,dg.out,dL.out,im.out];rfl);go_wp2_with (first|(refine dj rfl 158 _ rfl (w1.heap.size) rfl 158 (bg t1 (.slice eU p1 c1)) (0,0) _ (uc.alloc _) underlying158 rfl Tryz.iI ?_)|(refine dj rfl 158 _ rfl (w2.heap.size) rfl 158 (bg t2 (.slice dO p2 c2)) (0,0) _ (ud.alloc _) underlying158 rfl Tryz.iI ?_));refine(QK t1 t2 _ _ _).mono ?_;rintro e w9⟨rfl,jX⟩;have Fo9:aj w9 (w.heap.size) 142 (aO o (.slice ao p c)):=aj.kept (sV.alloc _) jX (by simp);have Xe:aj w9 (w1.heap.size) 158 (bg t1 (.slice eU p1 c1)):=aj.kept (uc.alloc _) jX (by simp);have BW:aj w9 (w2.heap.size) 158 (bg t2 (.slice dO p2 c2)):=aj.kept (ud.alloc _) jX (by simp);have DQ:aj w9 (w3.heap.size) 158 (bg t3 (.slice mi p3 c3)):=aj.kept N3 jX (by simp);have M9:=cN.Z (M3.Z (aQ _ _ _)) jX;have G9:=aC (aC G3 (aQ _ _ _)) jX;have aw6:w9.cell? ⟨w3.heap.size,0,none⟩=some (.int .i64 t3.af):=DQ.cell 0;have aw7:w9.cell? ⟨w3.heap.size,1,none⟩=some (.int .i64 t3.h):=DQ.cell 1;have aw8:w9.cell? ⟨w3.heap.size,2,none⟩=some (.int .i64 t3.w):=DQ.cell 2;have aw9:w9.cell? ⟨w3.heap.size,3,none⟩=some (.int .i64 t3.c):=DQ.cell 3;have axa:w9.cell? ⟨w3.heap.size,4,none⟩=some (.int .i64 t3.zero):=DQ.cell 4;have axb:w9.cell? ⟨w3.heap.size,5,none⟩=some (.slice mi p3 c3):=DQ.cell 5;have axc:w3.heap.size<w9.heap.size:=DQ.lt;have axd:w9.cell? ⟨w2.heap.size,0,none⟩=some (.int .i64 t2.af):=BW.cell 0;have aju:w9.cell? ⟨w2.heap.size,1,none⟩=some (.int .i64 t2.h):=BW.cell 1;have ajv:w9.cell? ⟨w2.heap.size,2,none⟩=some (.int .i64 t2.w):=BW.cell 2;have ajw:w9.cell? ⟨w2.heap.size,3,none⟩=some (.int .i64 t2.c):=BW.cell 3
 have axe:w9.cell? ⟨w2.heap.size,4,none⟩=some (.int .i64 t2.zero):=BW.cell 4;have axf:w9.cell? ⟨w2.heap.size,5,none⟩=some (.slice dO p2 c2):=BW.cell 5;have ajx:w2.heap.size<w9.heap.size:=BW.lt
 cases h1:M.kY t1 t2 with
 | false=>
  have kD:=He.out;rw[h1] at kD;have xx:=ae kD;clear kD h1;go_wp2;go_ret;exact⟨bB xx.out.symm,G9⟩
 | true=>
  have kD:=He.out;rw[h1,Bool.true_and] at kD;have xx:=ae kD;clear kD h1;go_wp2_with fail;refine(QK t3 t2 (.slice mi p3 c3) (.slice dO p2 c2) _).mono ?_;rintro e Mq⟨rfl,Am⟩;go_wp2;go_ret;exact⟨bB xx.out.symm,aC G9 Am⟩
theorem ajy(m:Nat)(md:M.Md)(o:M.Op)(ao:Option Addr)(p c:Nat)(w:World)(h:cN w m md)(hw:lO md)(ho:mb o)(hk:o.af=5) :
  Calls prog 168 #[.pointer (some ⟨m,0,none⟩),.agg (aO o (.slice ao p c))] w fun e w'=>e=.returned (.bool (M.bT md o))/\w.grownBy w' none:=by
 have v0:=mf o (.slice ao p c);have v1:=xw o (.slice ao p c);rw[hk] at v0;have Hk:=ae hk;clear hk;have N0:aj (w.alloc (.cells (aO o (.slice ao p c)) 142)) w.heap.size 142 (aO o (.slice ao p c)):=aj.bA _ _ _;have gR:w.grownBy (w.alloc (.cells (aO o (.slice ao p c)) 142)) none:=aQ _ _ _;have gS:=h.Z gR;go_enter func168,ntmps168;go_wp2_with fail;refine(iW m md o.a _ gS hw.nt).mono ?_;rintro e w1⟨t1,dg,⟨eU,p1,c1,rfl⟩,aH⟩;have gT:aj w1 w.heap.size 142 (aO o (.slice ao p c)):=aj.kept N0 aH (by simp);have M1:=cN.Z gS aH;have G1:=aC gR aH;have mL:dZ t1:=by rw[<-dg.out];exact jW hw _
 clear aH N0 gR gS v1 v0;have N1:aj (w1.alloc (.cells (bg t1 (.slice eU p1 c1)) 158)) w1.heap.size 158 (bg t1 (.slice eU p1 c1)):=aj.bA _ _ _;have nG:w1.cell? ⟨w.heap.size,5,none⟩=some (.int .i64 o.to):=gT.cell 5;have gk:w.heap.size<w1.heap.size:=gT.lt;go_wp2_with fail;refine(iW m md o.to _ (M1.Z (aQ _ _ _)) hw.nt).mono ?_;rintro e w2⟨t2,dL,⟨dO,p2,c2,rfl⟩,aM⟩;clear nG gk;have fV:aj w2 (w.heap.size) 142 (aO o (.slice ao p c)):=aj.kept (gT.alloc _) aM (by simp);have mg:aj w2 (w1.heap.size) 158 (bg t1 (.slice eU p1 c1)):=aj.kept N1 aM (by simp);have M2:=cN.Z (M1.Z (aQ _ _ _)) aM;have G2:=aC (aC G1 (aQ _ _ _)) aM;have ub:dZ t2:=by rw[<-dL.out];exact jW hw _
 clear aM;have N2:aj (w2.alloc (.cells (bg t2 (.slice dO p2 c2)) 158)) w2.heap.size 158 (bg t2 (.slice dO p2 c2)):=aj.bA _ _ _;have oR:w2.cell? ⟨w.heap.size,0,none⟩=some (.int .i64 5):=by have q:=fV.cell 0;rw[mf,Hk.out] at q;exact q
 have gk:w.heap.size<w2.heap.size:=fV.lt;have He:=ae (show M.bT md o=M.rG o t1 t2 by unfold M.bT;simp only[Hk.out,dg.out,dL.out];rfl);go_wp2_with (first|(refine dj rfl 142 _ rfl (w.heap.size) rfl 142 (aO o (.slice ao p c)) (0,0) _ (fV.alloc _) underlying142 rfl Tryz.de ?_)|(refine dj rfl 158 _ rfl (w1.heap.size) rfl 158 (bg t1 (.slice eU p1 c1)) (0,0) _ (mg.alloc _) underlying158 rfl Tryz.iI ?_)|(refine dj rfl 158 _ rfl (w2.heap.size) rfl 158 (bg t2 (.slice dO p2 c2)) (0,0) _ N2 underlying158 rfl Tryz.iI ?_));refine(W9 o t1 t2 _ _ _ _ ho mL).mono ?_;rintro e w9⟨rfl,jX⟩;clear oR gk;have G9:=aC (aC G2 (aQ _ _ _)) jX;go_wp2;go_ret;exact⟨bB He.out.symm,G9⟩
theorem ajz(m:Nat)(md:M.Md)(o:M.Op)(ao:Option Addr)(p c:Nat)(w:World)(h:cN w m md)(hw:lO md)(ho:mb o)(hk:o.af=6) :
  Calls prog 168 #[.pointer (some ⟨m,0,none⟩),.agg (aO o (.slice ao p c))] w fun e w'=>e=.returned (.bool (M.bT md o))/\w.grownBy w' none:=by
 have v0:=mf o (.slice ao p c);have v1:=xw o (.slice ao p c);rw[hk] at v0;have Hk:=ae hk;clear hk;have N0:aj (w.alloc (.cells (aO o (.slice ao p c)) 142)) w.heap.size 142 (aO o (.slice ao p c)):=aj.bA _ _ _;have gR:w.grownBy (w.alloc (.cells (aO o (.slice ao p c)) 142)) none:=aQ _ _ _;have gS:=h.Z gR;go_enter func168,ntmps168;go_wp2_with fail;refine(iW m md o.a _ gS hw.nt).mono ?_;rintro e w1⟨t1,dg,⟨eU,p1,c1,rfl⟩,aH⟩;have gT:aj w1 w.heap.size 142 (aO o (.slice ao p c)):=aj.kept N0 aH (by simp);have M1:=cN.Z gS aH;have G1:=aC gR aH;have mL:dZ t1:=by rw[<-dg.out];exact jW hw _
 clear aH N0 gR gS v1 v0;have N1:aj (w1.alloc (.cells (bg t1 (.slice eU p1 c1)) 158)) w1.heap.size 158 (bg t1 (.slice eU p1 c1)):=aj.bA _ _ _;have nG:w1.cell? ⟨w.heap.size,5,none⟩=some (.int .i64 o.to):=gT.cell 5;have gk:w.heap.size<w1.heap.size:=gT.lt;go_wp2_with fail;refine(iW m md o.to _ (M1.Z (aQ _ _ _)) hw.nt).mono ?_;rintro e w2⟨t2,dL,⟨dO,p2,c2,rfl⟩,aM⟩;clear nG gk;have fV:aj w2 (w.heap.size) 142 (aO o (.slice ao p c)):=aj.kept (gT.alloc _) aM (by simp);have mg:aj w2 (w1.heap.size) 158 (bg t1 (.slice eU p1 c1)):=aj.kept N1 aM (by simp);have M2:=cN.Z (M1.Z (aQ _ _ _)) aM;have G2:=aC (aC G1 (aQ _ _ _)) aM;have ub:dZ t2:=by rw[<-dL.out];exact jW hw _
 clear aM;have N2:aj (w2.alloc (.cells (bg t2 (.slice dO p2 c2)) 158)) w2.heap.size 158 (bg t2 (.slice dO p2 c2)):=aj.bA _ _ _;have oR:w2.cell? ⟨w.heap.size,0,none⟩=some (.int .i64 6):=by have q:=fV.cell 0;rw[mf,Hk.out] at q;exact q
 have gk:w.heap.size<w2.heap.size:=fV.lt;have He:=ae (show M.bT md o=M.rG o t1 t2 by unfold M.bT;simp only[Hk.out,dg.out,dL.out];rfl);go_wp2_with (first|(refine dj rfl 142 _ rfl (w.heap.size) rfl 142 (aO o (.slice ao p c)) (0,0) _ (fV.alloc _) underlying142 rfl Tryz.de ?_)|(refine dj rfl 158 _ rfl (w1.heap.size) rfl 158 (bg t1 (.slice eU p1 c1)) (0,0) _ (mg.alloc _) underlying158 rfl Tryz.iI ?_)|(refine dj rfl 158 _ rfl (w2.heap.size) rfl 158 (bg t2 (.slice dO p2 c2)) (0,0) _ N2 underlying158 rfl Tryz.iI ?_));refine(W9 o t1 t2 _ _ _ _ ho mL).mono ?_;rintro e w9⟨rfl,jX⟩;clear oR gk;have G9:=aC (aC G2 (aQ _ _ _)) jX;go_wp2;go_ret;exact⟨bB He.out.symm,G9⟩
theorem ajA(m:Nat)(md:M.Md)(o:M.Op)(ao:Option Addr)(p c:Nat)(w:World)(h:cN w m md)(hw:lO md)(ho:mb o)(hk:o.af=8) :
  Calls prog 168 #[.pointer (some ⟨m,0,none⟩),.agg (aO o (.slice ao p c))] w fun e w'=>e=.returned (.bool (M.bT md o))/\w.grownBy w' none:=by
 have v0:=mf o (.slice ao p c);have v1:=xw o (.slice ao p c);rw[hk] at v0;have Hk:=ae hk;clear hk;have N0:aj (w.alloc (.cells (aO o (.slice ao p c)) 142)) w.heap.size 142 (aO o (.slice ao p c)):=aj.bA _ _ _;have gR:w.grownBy (w.alloc (.cells (aO o (.slice ao p c)) 142)) none:=aQ _ _ _;have gS:=h.Z gR;go_enter func168,ntmps168;go_wp2_with fail;refine(iW m md o.a _ gS hw.nt).mono ?_;rintro e w1⟨t1,dg,⟨eU,p1,c1,rfl⟩,aH⟩;have gT:aj w1 w.heap.size 142 (aO o (.slice ao p c)):=aj.kept N0 aH (by simp);have M1:=cN.Z gS aH;have G1:=aC gR aH;have mL:dZ t1:=by rw[<-dg.out];exact jW hw _
 clear aH N0 gR gS v1 v0;have N1:aj (w1.alloc (.cells (bg t1 (.slice eU p1 c1)) 158)) w1.heap.size 158 (bg t1 (.slice eU p1 c1)):=aj.bA _ _ _;have nG:w1.cell? ⟨w.heap.size,5,none⟩=some (.int .i64 o.to):=gT.cell 5;have gk:w.heap.size<w1.heap.size:=gT.lt;go_wp2_with fail;refine(iW m md o.to _ (M1.Z (aQ _ _ _)) hw.nt).mono ?_;rintro e w2⟨t2,dL,⟨dO,p2,c2,rfl⟩,aM⟩;clear nG gk;have fV:aj w2 (w.heap.size) 142 (aO o (.slice ao p c)):=aj.kept (gT.alloc _) aM (by simp);have mg:aj w2 (w1.heap.size) 158 (bg t1 (.slice eU p1 c1)):=aj.kept N1 aM (by simp);have M2:=cN.Z (M1.Z (aQ _ _ _)) aM;have G2:=aC (aC G1 (aQ _ _ _)) aM;have ub:dZ t2:=by rw[<-dL.out];exact jW hw _
 clear aM;have N2:aj (w2.alloc (.cells (bg t2 (.slice dO p2 c2)) 158)) w2.heap.size 158 (bg t2 (.slice dO p2 c2)):=aj.bA _ _ _;have oR:w2.cell? ⟨w.heap.size,0,none⟩=some (.int .i64 8):=by have q:=fV.cell 0;rw[mf,Hk.out] at q;exact q
 have gk:w.heap.size<w2.heap.size:=fV.lt;have axg:w2.cell? ⟨w.heap.size,12,none⟩=some (.int .i64 o.aT):=fV.cell 12;have axh:w2.cell? ⟨w.heap.size,13,none⟩=some (.int .i64 o.below):=fV.cell 13;have axi:w2.cell? ⟨w.heap.size,14,none⟩=some (.int .i64 o.left):=fV.cell 14;have axj:w2.cell? ⟨w.heap.size,15,none⟩=some (.int .i64 o.right):=fV.cell 15;have ajB:w2.cell? ⟨w1.heap.size,1,none⟩=some (.int .i64 t1.h):=mg.cell 1;have ajC:w2.cell? ⟨w1.heap.size,2,none⟩=some (.int .i64 t1.w):=mg.cell 2;have ajD:w2.cell? ⟨w1.heap.size,3,none⟩=some (.int .i64 t1.c):=mg.cell 3;have ajE:w1.heap.size<w2.heap.size:=mg.lt;have He:=ae (show M.bT md o=(t2.h==t1.h+o.aT+o.below&&t2.w==t1.w+o.left+o.right&&t2.c==t1.c) by unfold M.bT;simp only[Hk.out,dg.out,dL.out];rfl);obtain⟨ab0,ab1⟩:=ho.aT;obtain⟨be0,be1⟩:=ho.below;obtain⟨le0,le1⟩:=ho.left;obtain⟨ri0,ri1⟩:=ho.right;have th0:=mL.h0;have th1:=mL.h1;have tw0:=mL.w0;have tw1:=mL.w1
 cases h1:(t2.h==t1.h+o.aT+o.below) with
 | false=>
  go_wp2;go_ret;exact⟨bB (by rw[He.out,h1];rfl),(aC G2 (aQ _ _ _))⟩
 | true=>
  cases h2:(t2.w==t1.w+o.left+o.right) with
  | false=>
   go_wp2;go_ret;exact⟨bB (by rw[He.out,h1,h2];rfl),(aC G2 (aQ _ _ _))⟩
  | true=>
   go_wp2;go_ret;exact⟨bB (by rw[He.out,h1,h2];rfl),(aC G2 (aQ _ _ _))⟩
theorem ajF(m:Nat)(md:M.Md)(o:M.Op)(ao:Option Addr)(p c:Nat)(w:World)(h:cN w m md)(hw:lO md)(_ho:mb o)(hk:o.af=9) :
  Calls prog 168 #[.pointer (some ⟨m,0,none⟩),.agg (aO o (.slice ao p c))] w fun e w'=>e=.returned (.bool (M.bT md o))/\w.grownBy w' none:=by
 have v0:=mf o (.slice ao p c);have v1:=xw o (.slice ao p c);rw[hk] at v0;have Hk:=ae hk;clear hk;have N0:aj (w.alloc (.cells (aO o (.slice ao p c)) 142)) w.heap.size 142 (aO o (.slice ao p c)):=aj.bA _ _ _;have gR:w.grownBy (w.alloc (.cells (aO o (.slice ao p c)) 142)) none:=aQ _ _ _;have gS:=h.Z gR;go_enter func168,ntmps168;go_wp2_with fail;refine(iW m md o.a _ gS hw.nt).mono ?_;rintro e w1⟨t1,dg,⟨eU,p1,c1,rfl⟩,aH⟩;have gT:aj w1 w.heap.size 142 (aO o (.slice ao p c)):=aj.kept N0 aH (by simp);have M1:=cN.Z gS aH;have G1:=aC gR aH;have mL:dZ t1:=by rw[<-dg.out];exact jW hw _
 clear aH N0 gR gS v1 v0;have N1:aj (w1.alloc (.cells (bg t1 (.slice eU p1 c1)) 158)) w1.heap.size 158 (bg t1 (.slice eU p1 c1)):=aj.bA _ _ _;have nG:w1.cell? ⟨w.heap.size,5,none⟩=some (.int .i64 o.to):=gT.cell 5;have gk:w.heap.size<w1.heap.size:=gT.lt;go_wp2_with fail;refine(iW m md o.to _ (M1.Z (aQ _ _ _)) hw.nt).mono ?_;rintro e w2⟨t2,dL,⟨dO,p2,c2,rfl⟩,aM⟩;clear nG gk;have fV:aj w2 (w.heap.size) 142 (aO o (.slice ao p c)):=aj.kept (gT.alloc _) aM (by simp);have mg:aj w2 (w1.heap.size) 158 (bg t1 (.slice eU p1 c1)):=aj.kept N1 aM (by simp);have M2:=cN.Z (M1.Z (aQ _ _ _)) aM;have G2:=aC (aC G1 (aQ _ _ _)) aM;have ub:dZ t2:=by rw[<-dL.out];exact jW hw _
 clear aM;have N2:aj (w2.alloc (.cells (bg t2 (.slice dO p2 c2)) 158)) w2.heap.size 158 (bg t2 (.slice dO p2 c2)):=aj.bA _ _ _;have oR:w2.cell? ⟨w.heap.size,0,none⟩=some (.int .i64 9):=by have q:=fV.cell 0;rw[mf,Hk.out] at q;exact q
 have gk:w.heap.size<w2.heap.size:=fV.lt;have He:=ae (show M.bT md o=(M.cellsOf t1==M.cellsOf t2) by unfold M.bT;simp only[Hk.out,dg.out,dL.out];rfl);go_wp2_with (first|(refine dj rfl 158 _ rfl (w2.heap.size) rfl 158 (bg t2 (.slice dO p2 c2)) (0,0) _ N2 underlying158 rfl Tryz.iI ?_));refine(Mo t2 _ _ ub).mono ?_;rintro e w9⟨rfl,jX⟩;clear oR gk;have Fo9:aj w9 (w.heap.size) 142 (aO o (.slice ao p c)):=aj.kept (fV.alloc _) jX (by simp);have Xe:aj w9 (w1.heap.size) 158 (bg t1 (.slice eU p1 c1)):=aj.kept (mg.alloc _) jX (by simp);have BW:aj w9 (w2.heap.size) 158 (bg t2 (.slice dO p2 c2)):=aj.kept N2 jX (by simp);have M9:=cN.Z (M2.Z (aQ _ _ _)) jX;have G9:=aC (aC G2 (aQ _ _ _)) jX;go_wp2_with (first|(refine dj rfl 158 _ rfl (w1.heap.size) rfl 158 (bg t1 (.slice eU p1 c1)) (0,0) _ Xe underlying158 rfl Tryz.iI ?_));refine(Mo t1 _ _ mL).mono ?_;rintro e Mq⟨rfl,Am⟩;go_wp2;go_ret;exact⟨bB He.out.symm,aC G9 Am⟩
theorem ajG(m:Nat)(md:M.Md)(o:M.Op)(ao:Option Addr)(p c:Nat)(w:World)(h:cN w m md)(hw:lO md)(_ho:mb o)(hk:o.af=10) :
  Calls prog 168 #[.pointer (some ⟨m,0,none⟩),.agg (aO o (.slice ao p c))] w fun e w'=>e=.returned (.bool (M.bT md o))/\w.grownBy w' none:=by
 have v0:=mf o (.slice ao p c);have v1:=xw o (.slice ao p c);rw[hk] at v0;have Hk:=ae hk;clear hk;have N0:aj (w.alloc (.cells (aO o (.slice ao p c)) 142)) w.heap.size 142 (aO o (.slice ao p c)):=aj.bA _ _ _;have gR:w.grownBy (w.alloc (.cells (aO o (.slice ao p c)) 142)) none:=aQ _ _ _;have gS:=h.Z gR;go_enter func168,ntmps168;go_wp2_with fail;refine(iW m md o.a _ gS hw.nt).mono ?_;rintro e w1⟨t1,dg,⟨eU,p1,c1,rfl⟩,aH⟩;have gT:aj w1 w.heap.size 142 (aO o (.slice ao p c)):=aj.kept N0 aH (by simp);have M1:=cN.Z gS aH;have G1:=aC gR aH;have mL:dZ t1:=by rw[<-dg.out];exact jW hw _
 clear aH N0 gR gS v1 v0;have N1:aj (w1.alloc (.cells (bg t1 (.slice eU p1 c1)) 158)) w1.heap.size 158 (bg t1 (.slice eU p1 c1)):=aj.bA _ _ _;have nG:w1.cell? ⟨w.heap.size,5,none⟩=some (.int .i64 o.to):=gT.cell 5;have gk:w.heap.size<w1.heap.size:=gT.lt;go_wp2_with fail;refine(iW m md o.to _ (M1.Z (aQ _ _ _)) hw.nt).mono ?_;rintro e w2⟨t2,dL,⟨dO,p2,c2,rfl⟩,aM⟩;clear nG gk;have fV:aj w2 (w.heap.size) 142 (aO o (.slice ao p c)):=aj.kept (gT.alloc _) aM (by simp);have mg:aj w2 (w1.heap.size) 158 (bg t1 (.slice eU p1 c1)):=aj.kept N1 aM (by simp);have M2:=cN.Z (M1.Z (aQ _ _ _)) aM;have G2:=aC (aC G1 (aQ _ _ _)) aM;have ub:dZ t2:=by rw[<-dL.out];exact jW hw _
 clear aM;have N2:aj (w2.alloc (.cells (bg t2 (.slice dO p2 c2)) 158)) w2.heap.size 158 (bg t2 (.slice dO p2 c2)):=aj.bA _ _ _;have oR:w2.cell? ⟨w.heap.size,0,none⟩=some (.int .i64 10):=by have q:=fV.cell 0;rw[mf,Hk.out] at q;exact q
 have gk:w.heap.size<w2.heap.size:=fV.lt;have QN:w2.cell? ⟨w.heap.size,2,none⟩=some (.int .i64 o.b):=fV.cell 2;go_wp2_with fail;refine(iW m md o.b _ (M2.Z (aQ _ _ _)) hw.nt).mono ?_;rintro e w3⟨t3,im,⟨mi,p3,c3,rfl⟩,aU⟩;clear oR gk QN;have sV:aj w3 (w.heap.size) 142 (aO o (.slice ao p c)):=aj.kept (fV.alloc _) aU (by simp);have uc:aj w3 (w1.heap.size) 158 (bg t1 (.slice eU p1 c1)):=aj.kept (mg.alloc _) aU (by simp);have ud:aj w3 (w2.heap.size) 158 (bg t2 (.slice dO p2 c2)):=aj.kept N2 aU (by simp);have M3:=cN.Z (M2.Z (aQ _ _ _)) aU;have G3:=aC (aC G2 (aQ _ _ _)) aU;have BV:dZ t3:=by rw[<-im.out];exact jW hw _
 clear aU;have N3:aj (w3.alloc (.cells (bg t3 (.slice mi p3 c3)) 158)) w3.heap.size 158 (bg t3 (.slice mi p3 c3)):=aj.bA _ _ _;have ajB:w3.cell? ⟨w1.heap.size,1,none⟩=some (.int .i64 t1.h):=uc.cell 1;have ajC:w3.cell? ⟨w1.heap.size,2,none⟩=some (.int .i64 t1.w):=uc.cell 2;have ajD:w3.cell? ⟨w1.heap.size,3,none⟩=some (.int .i64 t1.c):=uc.cell 3;have ajE:w1.heap.size<w3.heap.size:=uc.lt;have aju:w3.cell? ⟨w2.heap.size,1,none⟩=some (.int .i64 t2.h):=ud.cell 1;have ajv:w3.cell? ⟨w2.heap.size,2,none⟩=some (.int .i64 t2.w):=ud.cell 2;have ajw:w3.cell? ⟨w2.heap.size,3,none⟩=some (.int .i64 t2.c):=ud.cell 3;have ajx:w2.heap.size<w3.heap.size:=ud.lt;have He:=ae (show M.bT md o=(t1.h==t3.h&&t1.w==t3.w&&t2.h==t1.h&&t2.w==t1.w&&t2.c==t1.c+t3.c) by unfold M.bT;simp only[Hk.out,dg.out,dL.out,im.out];rfl);have tc0:=mL.c0;have tc1:=mL.c1;have sc0:=BV.c0;have sc1:=BV.c1
 cases q0:(t1.h==t3.h) with
 | false=>
  go_wp2;go_ret;exact⟨bB (by rw[He.out,q0];first|rfl|simp),(aC G3 (aQ _ _ _))⟩
 | true=>
  cases q1:(t1.w==t3.w) with
  | false=>
   go_wp2;go_ret;exact⟨bB (by rw[He.out,q0,q1];first|rfl|simp),(aC G3 (aQ _ _ _))⟩
  | true=>
   cases q2:(t2.h==t1.h) with
   | false=>
    go_wp2;go_ret;exact⟨bB (by rw[He.out,q0,q1,q2];first|rfl|simp),(aC G3 (aQ _ _ _))⟩
   | true=>
    cases q3:(t2.w==t1.w) with
    | false=>
     go_wp2;go_ret;exact⟨bB (by rw[He.out,q0,q1,q2,q3];first|rfl|simp),(aC G3 (aQ _ _ _))⟩
    | true=>
     go_wp2;go_ret;exact⟨bB (by rw[He.out,q0,q1,q2,q3];rfl),(aC G3 (aQ _ _ _))⟩
theorem ajH(m:Nat)(md:M.Md)(o:M.Op)(ao:Option Addr)(p c:Nat)(w:World)(h:cN w m md)(hw:lO md)(ho:mb o) :
  Calls prog 168 #[.pointer (some ⟨m,0,none⟩),.agg (aO o (.slice ao p c))] w fun e w'=>e=.returned (.bool (M.bT md o))/\w.grownBy w' none:=by
 have hk:=ho.af;rcases(show o.af=0\/o.af=1\/o.af=2\/o.af=3\/o.af=4\/o.af=5\/o.af=6\/o.af=7\/o.af=8\/o.af=9\/o.af=10 from by omega) with e|e|e|e|e|e|e|e|e|e|e
 ·exact ajn m md o ao p c w h hw ho e
 ·exact ajp m md o ao p c w h hw ho e
 ·exact ajq m md o ao p c w h hw ho e
 ·exact ajr m md o ao p c w h hw ho e
 ·exact ajs m md o ao p c w h hw ho e
 ·exact ajy m md o ao p c w h hw ho e
 ·exact ajz m md o ao p c w h hw ho e
 ·exact ajo m md o ao p c w h hw ho e
 ·exact ajA m md o ao p c w h hw ho e
 ·exact ajF m md o ao p c w h hw ho e
 ·exact ajG m md o ao p c w h hw ho e
def vG{α:Type}(f:α->Bool)(l:List α)(k:Nat):Prop:=∀j x,j<k->l[j]?=some x->f x=true
theorem vG.step{α:Type}{f:α->Bool}{l:List α}{k:Nat}{x:α}(h:vG f l k)(hx:l[k]?=some x)(hf:f x=true):vG f l (k+1):=by
 intro j y hj hy;rcases cE j k with h' | h'
 ·exact h j y h' hy
 ·obtain rfl:j=k:=by omega
  rw[hx] at hy;injection hy with e;rw[<-e];exact hf
theorem vG.all{α:Type}{f:α->Bool}{l:List α}(h:vG f l l.length):l.all f=true:=by
 rw[jn];intro x hx;obtain⟨j,hj,e⟩:=List.mem_iff_getElem.1 hx;exact h j x hj (by rw[aS hj,e])
theorem An{α:Type}{f:α->Bool}{l:List α}{k:Nat}{x:α}(hx:l[k]?=some x)(hf:f x=false):l.all f=false:=by
 rw[List.all_eq_false];exact⟨x,bU hx,by simp[hf]⟩
theorem ajI(m:Nat)(md:M.Md)(w:World)(h:cN w m md)(hw:lO md) :
  Calls prog 141 #[.pointer (some ⟨m,0,none⟩)] w fun e w'=>e=.returned (.bool (M.z6 md))/\w.grownBy w' none:=by
 have kl:=hw.no;have HM:=ae h;have hW:=ae hw;obtain⟨a1,c1,a2,c2,a3,c3,hB,hT,hO,hU⟩:=h;have q1:w.cell? ⟨m,1,none⟩=some (.slice a2 md.ag.length c2):=hB.cell 1;clear hT hU hw hB;go_enter func141,ntmps141;go_wp2;clear q1;go_loopw[10] (fun i wr=>∃k:Nat,k<=md.ag.length/\i=.int .i64 k/\vG (M.bT md) md.ag k/\w.grownBy wr none) (fun i _=>md.ag.length-(intOf i).toNat)
 case atStart=>exact⟨0,bK _,rfl,fun j x hj=>by omega,fZ _ _⟩
 case round=>
  obtain⟨k,hk,rfl,kL,aF⟩:=hrel;have jY:=ae kL;clear kL;by_cases aJ:k<md.ag.length
  ·obtain⟨o,ho⟩:∃o,md.ag[k]?=some o:=⟨_,aS aJ⟩
   obtain⟨g,ao,p,cp,rfl,gQ,-,-,hR⟩:=(hO.Z aF).get k o ho;have Ho:=ae ho;have wo:=ae (hW.out.os o (bU ho));have mK:cN (wr.alloc (.cells (aO o (.slice ao p cp)) 142)) m md:=(HM.out.Z aF).Z (aQ _ _ _);have aH:w.grownBy (wr.alloc (.cells (aO o (.slice ao p cp)) 142)) none:=aC aF (aQ _ _ _);have HB:=ae (aj.bA wr 142 (aO o (.slice ao p cp)));clear ho hO;go_wp2_with (first|(refine wpList_load_mid rfl 142 _ rfl g (k*16) rfl (aO o (.slice ao p cp)).toList _ hR underlying142 rfl Tryz.de ?_)|(refine aaY rfl 142 _ _ rfl wr.heap.size (aO o (.slice ao p cp)) rfl rfl 142 (aR 0 0 0 0 0 0 0 0 false (.slice none 0 0) 0 0 0 0 0 0) (aj.bA wr 142 _) Tryz.de rfl (oe ..) ?_;rw[World.setRow_alloc_new])|(refine dj rfl 142 _ rfl wr.heap.size rfl 142 (aO o (.slice ao p cp)) (0,0) _ HB.out underlying142 rfl Tryz.de ?_));refine(ajH m md o ao p cp _ mK hW.out wo.out).mono ?_;rintro e w3⟨rfl,aU⟩;have jC:=aC aH aU;clear aU aH mK hR aF
   cases hr:M.bT md o with
   | false=>
    have He:=ae (show M.z6 md=false from An Ho.out hr);clear hr;go_wp2;go_ret;exact⟨bB He.out.symm,jC⟩
   | true=>
    have fm:=ae (jY.out.step Ho.out hr);clear hr;go_wp2;go_roundw
    case rel=>exact⟨k+1,by omega,by go_num,fm.out,jC⟩
    case measure=>simp[intOf];omega
  ·obtain rfl:k=md.ag.length:=by omega
   have He:=ae (show M.z6 md=true from jY.out.all);clear hO;go_wp2;go_ret;exact⟨bB He.out.symm,aF⟩
def Ao(v:Int):Bool:=!(decide (1073741824<v)||decide (v < -1073741824))
theorem ajJ(t:M.Tn)(ad:Option Addr)(n c B:Nat)(w:World)(hI:aZ w B (.slice ad n c) t.data)(hl:n<=9223372036854775807) :
  Calls prog 169 #[.agg (bg t (.slice ad n c))] w fun e w'=>e=.returned (.bool (M.qM t))/\w.grownBy w' none:=by
 have hn:=hI.len;have v0:=W5 t (.slice ad n c);have v4:=W6 t (.slice ad n c);have v5:=Xa t (.slice ad n c);have aH:w.grownBy (w.alloc (.cells (bg t (.slice ad n c)) 158)) none:=aQ _ _ _;have lQ:=hI.Z aH;by_cases hk:t.af=2
 ·have rL:(t.af !=2)=false:=by simp[hk]
  have He:=ae (show M.qM t=(t.data.all Ao&&t.zero==0) by unfold M.qM Ao;rw[ak (by simp[hk])]);clear hk hI;subst hn;go_enter func169,ntmps169;go_wp2
  go_loop [11] (fun i=>∃k:Nat,k<=t.data.length/\i=.int .i64 k/\vG Ao t.data k) (fun i=>t.data.length-(intOf i).toNat)
  case atStart=>exact⟨0,bK _,rfl,fun j x hj=>by omega⟩
  case round=>
   obtain⟨k,hk,rfl,kL⟩:=hrel;have jY:=ae kL;clear kL;by_cases aJ:k<t.data.length
   ·obtain⟨x,hx⟩:∃x,t.data[k]?=some x:=⟨_,aS aJ⟩
    obtain⟨g,rfl,gQ,-,d0⟩:=lQ.get k x hx;have Hx:=ae hx;clear hx lQ;by_cases h1:1073741824<x
    ·have Hb:=ae (show Ao x=false by unfold Ao;rw[eG h1];rfl)
     go_wp2;go_ret;exact⟨bB (by rw[He.out,An Hx.out Hb.out];rfl),aH⟩
    ·by_cases h2:x < -1073741824
     ·have Hb:=ae (show Ao x=false by unfold Ao;rw[eG h2,Bool.or_true];rfl)
      go_wp2;go_ret;exact⟨bB (by rw[He.out,An Hx.out Hb.out];rfl),aH⟩
     ·have fm:=ae (jY.out.step Hx.out (show Ao x=true by unfold Ao;rw[eE h1,eE h2];rfl))
      go_wp2
      go_round
      case rel=>exact⟨k+1,by omega,by go_num,fm.out⟩
      case measure=>simp[intOf];omega
   ·obtain rfl:k=t.data.length:=by omega
    have yG:=ae jY.out.all;clear lQ;go_wp2;go_ret;exact⟨bB (by rw[He.out,yG.out];rfl),aH⟩
 ·have rL:(t.af !=2)=true:=by simp[hk]
  have He:=ae (show M.qM t=true by unfold M.qM;rw[ay hk]);clear hk hI hn lQ v4 v5;go_enter func169,ntmps169;go_wp2;go_ret;exact⟨bB He.out.symm,aH⟩
theorem gF.get{w:World}{base:Nat}{a:Option Addr}{n c:Nat}{xs:List M.Sc}(h:gF w base (.slice a n c) xs)(i:Nat)(x:M.Sc)(hi:xs[i]?=some x) :
  ∃g,a=some ⟨g,0,none⟩/\g<w.heap.size/\w.cell? ⟨g,i*2,none⟩=some (.int .i64 x.eF)/\w.cell? ⟨g,i*2+1,none⟩=some (.int .i64 x.shift):=by
 have aJ:i<xs.length:=by
  rcases cE i xs.length with h' | h'
  ·exact h'
  ·simp[db h'] at hi
 obtain⟨g,ha,hb,hn,hc⟩:=nE h (by omega);have cF:∀j,j<2->w.cell? ⟨g,i*2+j,none⟩=(DH x)[j]?:=by
  intro j hj;rw[hc _ (by omega)];exact lP DH 2 (fun a=>rfl) xs i j x hi hj
 have k0:w.cell? ⟨g,i*2+0,none⟩=some (.int .i64 x.eF):=cF 0 (by omega);exact⟨g,ha,ql w _ k0,k0,cF 1 (by omega)⟩
theorem gF.len{w:World}{base:Nat}{a:Option Addr}{n c:Nat}{xs:List M.Sc}(h:gF w base (.slice a n c) xs):n=xs.length:=by
 obtain⟨ao,c',e⟩:=gP h;injection e
theorem Mr{c:M.Sc}(h:c.eF<1073741824\/2147483647<c.eF\/c.shift < -31\/30<c.shift):M.rH c=false:=by
 unfold M.rH;rcases h with h|h|h|h<;>simp[h]
theorem ajK{c:M.Sc}(h1:¬c.eF<1073741824)(h2:¬2147483647<c.eF)(h3:¬c.shift < -31)(h4:¬30<c.shift):M.rH c=true:=by
 unfold M.rH;rw[eE h1,eE h2,eE h3,eE h4];rfl
theorem ajL(ad:Option Addr)(n c B:Nat)(xs:List M.Sc)(w:World)(hI:gF w B (.slice ad n c) xs)(hl:n<=9223372036854775807) :
  Calls prog 170 #[.slice ad n c] w fun e w'=>e=.returned (.bool (xs.all M.rH))/\w.grownBy w' none:=by
 have hn:=hI.len;subst hn;go_enter func170,ntmps170;go_wp2;go_loopw[7] (fun i wr=>∃k:Nat,k<=xs.length/\i=.int .i64 k/\vG M.rH xs k/\w.grownBy wr none) (fun i _=>xs.length-(intOf i).toNat)
 case atStart=>exact⟨0,bK _,rfl,fun j x hj=>by omega,fZ _ _⟩
 case round=>
  obtain⟨k,hk,rfl,kL,aF⟩:=hrel;have jY:=ae kL;clear kL;by_cases aJ:k<xs.length
  ·obtain⟨x,hx⟩:∃x,xs[k]?=some x:=⟨_,aS aJ⟩
   obtain⟨g,rfl,gQ,d0,d1⟩:=gF.get (eY hI aF) k x hx;have Hx:=ae hx;have gn:w.grownBy (wr.alloc (.cells #[.int .i64 x.eF,.int .i64 x.shift] 224)) none:=aC aF (aQ _ _ _);clear hx hI;by_cases h1:x.eF<1073741824
   ·have Hb:=ae (Mr (.inl h1))
    go_wp2;go_ret;exact⟨bB (by rw[An Hx.out Hb.out]),gn⟩
   ·by_cases h2:2147483647<x.eF
    ·have Hb:=ae (Mr (.inr (.inl h2)))
     go_wp2;go_ret;exact⟨bB (by rw[An Hx.out Hb.out]),gn⟩
    ·by_cases h3:x.shift < -31
     ·have Hb:=ae (Mr (.inr (.inr (.inl h3))))
      go_wp2;go_ret;exact⟨bB (by rw[An Hx.out Hb.out]),gn⟩
     ·by_cases h4:30<x.shift
      ·have Hb:=ae (Mr (.inr (.inr (.inr h4))))
       go_wp2;go_ret;exact⟨bB (by rw[An Hx.out Hb.out]),gn⟩
      ·have fm:=ae (jY.out.step Hx.out (ajK h1 h2 h3 h4))
       go_wp2;go_roundw
       case rel=>exact⟨k+1,by omega,by go_num,fm.out,gn⟩
       case measure=>simp[intOf];omega
  ·obtain rfl:k=xs.length:=by omega
   have yG:=ae jY.out.all;clear hI;go_wp2;go_ret;exact⟨bB yG.out.symm,aF⟩
theorem Ms{md:M.Md}{o:M.Op}(h:M.cm o.af=true):M.jV md o=((M.aq md o.aP).zero==0):=by simp[M.jV,h]
theorem ajM{md:M.Md}{o:M.Op}(h:M.cm o.af=false)(h4:o.af=4):M.jV md o=true:=by
 unfold M.jV;rw[ak (by simp[h]),ay h4]
theorem ajN{md:M.Md}{o:M.Op}(h:M.cm o.af=false)(h4:o.af≠4)(h2:M.dr o.af=true):M.jV md o=((M.aq md o.a).zero==(M.aq md o.to).zero&&(M.aq md o.b).zero==(M.aq md o.to).zero):=by
 unfold M.jV;rw[ak (by simp[h]),ak h4];simp only;rw[ay h2]
theorem ajO{md:M.Md}{o:M.Op}(h:M.cm o.af=false)(h4:o.af≠4)(h2:M.dr o.af=false):M.jV md o=((M.aq md o.a).zero==(M.aq md o.to).zero):=by
 unfold M.jV;rw[ak (by simp[h]),ak h4];simp only;rw[ak (by simp[h2])]
theorem ajP(m:Nat)(md:M.Md)(o:M.Op)(ao:Option Addr)(p c:Nat)(w:World)(h:cN w m md)(hw:lO md) :
  Calls prog 171 #[.pointer (some ⟨m,0,none⟩),.agg (aO o (.slice ao p c))] w fun e w'=>e=.returned (.bool (M.jV md o))/\w.grownBy w' none:=by
 have N0:aj (w.alloc (.cells (aO o (.slice ao p c)) 142)) w.heap.size 142 (aO o (.slice ao p c)):=aj.bA _ _ _;have G0:w.grownBy (w.alloc (.cells (aO o (.slice ao p c)) 142)) none:=aQ _ _ _;have M0:=h.Z G0;clear h;go_enter func171,ntmps171;go_wp2_with (refine dj rfl 142 _ rfl w.heap.size rfl 142 (aO o (.slice ao p c)) (0,0) _ N0 underlying142 rfl Tryz.de ?_)
 cases h1:M.cm o.af with
 | true=>
  refine(yI o (.slice ao p c) true _ h1).mono ?_;rintro e w1⟨rfl,aH⟩;have He:=ae (Ms (md:=md) h1);have N1:=N0.kept aH (by simp);have M1:=M0.Z aH;have G1:=aC G0 aH;have c3:w1.cell? ⟨w.heap.size,3,none⟩=some (.int .i64 o.aP):=N1.cell 3;clear h1 aH N0 M0 G0 N1;go_wp2_with fail;refine(iW m md o.aP _ M1 hw.nt).mono ?_;rintro e w2⟨t,hx,⟨a2,p2,c2,rfl⟩,aM⟩;have G2:=aC G1 aM;clear c3 aM M1 G1;go_wp2;go_ret;exact⟨bB (by rw[He.out,hx.out]),aC G2 (aQ _ _ _)⟩
 | false=>
  refine(yI o (.slice ao p c) false _ h1).mono ?_;rintro e w1⟨rfl,aH⟩;have H1:=ae h1;have N1:=N0.kept aH (by simp);have M1:=M0.Z aH;have G1:=aC G0 aH;clear h1 aH N0 M0 G0;have k0:w1.cell? ⟨w.heap.size,0,none⟩=some (.int .i64 o.af):=N1.cell 0;by_cases h4:o.af=4
  ·have He:=ae (ajM (md:=md) H1.out h4)
   have h4':(o.af==4)=true:=by simp[h4]
   clear h4 N1;go_wp2;go_ret;exact⟨bB He.out.symm,G1⟩
  ·have h4':(o.af==4)=false:=by simp[h4]
   have H4:=ae h4;have c1:w1.cell? ⟨w.heap.size,1,none⟩=some (.int .i64 o.a):=N1.cell 1;clear h4;go_wp2_with fail;refine(iW m md o.a _ M1 hw.nt).mono ?_;rintro e w2⟨ta,Xf,⟨a2,p2,c2,rfl⟩,aM⟩;have N2:=N1.kept aM (by simp);have M2:=M1.Z aM;have G2:=aC G1 aM;have c5:w2.cell? ⟨w.heap.size,5,none⟩=some (.int .i64 o.to):=N2.cell 5;have lo2:=N2.lt;clear c1 k0 aM N1 M1 G1;go_wp2_with fail;refine(iW m md o.to _ (M2.Z (aQ _ _ _)) hw.nt).mono ?_;rintro e w3⟨tz,Xg,⟨a3,p3,c3,rfl⟩,aU⟩;have N3:=(N2.alloc _).kept aU (by simp);have A3:aj w3 w2.heap.size 158 (bg ta (.slice a2 p2 c2)):=(aj.bA w2 158 (bg ta (.slice a2 p2 c2))).kept aU (by simp);have M3:=(M2.Z (aQ _ _ _)).Z aU;have G3:=aC (aC G2 (aQ _ _ _)) aU;clear c5 lo2 aU N2 M2 G2;go_wp2_with (refine dj rfl 142 _ rfl w.heap.size rfl 142 (aO o (.slice ao p c)) (0,0) _ (N3.alloc _) underlying142 rfl Tryz.de ?_)
   cases h2:M.dr o.af with
   | false=>
    refine(BO o (.slice ao p c) false _ h2).mono ?_;rintro e w4⟨rfl,bm⟩;have He:=ae (ajO (md:=md) H1.out H4.out h2);have A4:=(A3.alloc _).kept bm (by simp);have Z4:aj w4 w3.heap.size 158 (bg tz (.slice a3 p3 c3)):=(aj.bA w3 158 (bg tz (.slice a3 p3 c3))).kept bm (by simp);have G4:=aC (aC G3 (aQ _ _ _)) bm;have ca:w4.cell? ⟨w2.heap.size,4,none⟩=some (.int .i64 ta.zero):=A4.cell 4;have cz:w4.cell? ⟨w3.heap.size,4,none⟩=some (.int .i64 tz.zero):=Z4.cell 4;clear h2 bm A3 N3 M3 G3 A4 Z4;go_wp2;go_ret;exact⟨bB (by rw[He.out,Xf.out,Xg.out]),G4⟩
   | true=>
    refine(BO o (.slice ao p c) true _ h2).mono ?_;rintro e w4⟨rfl,bm⟩;have He:=ae (ajN (md:=md) H1.out H4.out h2);have N4:=(N3.alloc _).kept bm (by simp);have A4:=(A3.alloc _).kept bm (by simp);have Z4:aj w4 w3.heap.size 158 (bg tz (.slice a3 p3 c3)):=(aj.bA w3 158 (bg tz (.slice a3 p3 c3))).kept bm (by simp);have M4:=(M3.Z (aQ _ _ _)).Z bm;have G4:=aC (aC G3 (aQ _ _ _)) bm;have Af:w4.cell? ⟨w.heap.size,2,none⟩=some (.int .i64 o.b):=N4.cell 2;clear h2 bm A3 N3 M3 G3 N4;go_wp2_with fail;refine(iW m md o.b _ M4 hw.nt).mono ?_;rintro e w5⟨tb,hxb,⟨a5,p5,c5,rfl⟩,cK⟩;have A5:=A4.kept cK (by simp);have Z5:=Z4.kept cK (by simp);have G5:=aC G4 cK;have ca:w5.cell? ⟨w2.heap.size,4,none⟩=some (.int .i64 ta.zero):=A5.cell 4;have cz:w5.cell? ⟨w3.heap.size,4,none⟩=some (.int .i64 tz.zero):=Z5.cell 4;have la:=A5.lt;have lz:=Z5.lt;have kD:=He.out;rw[Xf.out,Xg.out,hxb.out] at kD;have xx:=ae kD;clear cK A4 Z4 M4 G4 A5 Z5 Af kD
    cases h5:(ta.zero==tz.zero) with
    | false=>
     go_wp2;go_ret;exact⟨bB (by rw[xx.out,h5];rfl),aC G5 (aQ _ _ _)⟩
    | true=>
     go_wp2;go_ret;exact⟨bB (by rw[xx.out,h5];rfl),aC G5 (aQ _ _ _)⟩
theorem Xh{w:World}{base:Nat}{e:TypeId}{size n:Nat}{a:Option Addr}{m c:Nat}{xs:List Value}(h:w.ownsRow base e size (.slice a m c) n xs):m<=9223372036854775807:=by
 rcases h.2 with⟨hv,_⟩|⟨g,cap,dY,hv,hb,hh,hr,hm,_⟩
 ·injection hv with h1 h2 h3;omega
 ·injection hv with h1 h2 h3
  unfold maxLen at hm;omega
theorem ajT{md:M.Md}{k:Nat}{t:M.Tn}(ht:md.au[k]?=some t)(h:M.qM t=false):M.sN md=false:=by
 unfold M.sN;rw[An ht h];rfl
theorem QO{md:M.Md}{k:Nat}{o:M.Op}(ho:md.ag[k]?=some o)(h:M.kB md o=false):M.sN md=false:=by
 unfold M.sN;rw[An ho h,Bool.and_false]
theorem ajU{md:M.Md}(h1:vG M.qM md.au md.au.length)(h2:vG (M.kB md) md.ag md.ag.length):M.sN md=true:=by
 unfold M.sN;rw[h1.all,h2.all];rfl
theorem ajV{md:M.Md}{o:M.Op}(h:o.hi<o.lo):M.kB md o=false:=by unfold M.kB;rw[eG h];rfl
theorem ajW{md:M.Md}{o:M.Op}(h:o.bM.all M.rH=false):M.kB md o=false:=by unfold M.kB;rw[h,Bool.and_false,Bool.false_and]
theorem ajX{md:M.Md}{o:M.Op}(h:¬o.hi<o.lo)(h2:o.bM.all M.rH=true):M.kB md o=M.jV md o:=by unfold M.kB;rw[eE h,h2];rfl
theorem ajY(m:Nat)(md:M.Md)(w:World)(h:cN w m md)(hw:lO md) :
  Calls prog 142 #[.pointer (some ⟨m,0,none⟩)] w fun e w'=>e=.returned (.bool (M.sN md))/\w.grownBy w' none:=by
 have iq:=hw.nt;have kl:=hw.no;have HM:=ae h;have hW:=ae hw;obtain⟨a1,c1,a2,c2,a3,c3,hB,hT,hO,hU⟩:=h;have q0:w.cell? ⟨m,0,none⟩=some (.slice a1 md.au.length c1):=hB.cell 0;clear hU hw;go_enter func142,ntmps142;go_wp2;clear q0;go_loopw[12] (fun i wr=>∃k:Nat,k<=md.au.length/\i=.int .i64 k/\vG M.qM md.au k/\w.grownBy wr none) (fun i _=>md.au.length-(intOf i).toNat)
 case atStart=>exact⟨0,bK _,rfl,fun j x hj=>by omega,fZ _ _⟩
 case round=>
  obtain⟨k,hk,rfl,kL,aF⟩:=hrel;have jY:=ae kL;clear kL;by_cases aJ:k<md.au.length
  ·obtain⟨t,ht⟩:∃t,md.au[k]?=some t:=⟨_,aS aJ⟩
   obtain⟨g,ao,n',cp,rfl,-,-,hI,d0,d1,d2,d3,d4,d5⟩:=(hT.Z aF).get k t ht;have gQ:g<wr.heap.size:=ql wr _ d0;have lQ:=hI.Z (aQ wr (.cells (bg t (.slice ao n' cp)) 158) none);have aH:w.grownBy (wr.alloc (.cells (bg t (.slice ao n' cp)) 158)) none:=aC aF (aQ _ _ _);have Ht:=ae ht;clear ht hT hO hB hI;go_wp2_with fail;refine(ajJ t ao n' cp _ _ lQ (Xh lQ)).mono ?_;rintro e w3⟨rfl,aU⟩;have jC:=aC aH aU;clear aU aH lQ aF d0 d1 d2 d3 d4 d5
   cases hr:M.qM t with
   | false=>
    have He:=ae (ajT Ht.out hr);clear hr;go_wp2;go_ret;exact⟨bB He.out.symm,jC⟩
   | true=>
    have fm:=ae (jY.out.step Ht.out hr);clear hr;go_wp2;go_roundw
    case rel=>exact⟨k+1,by omega,by go_num,fm.out,jC⟩
    case measure=>simp[intOf];omega
  ·obtain rfl:k=md.au.length:=by omega
   have q1:wr.cell? ⟨m,1,none⟩=some (.slice a2 md.ag.length c2):=(hB.kept aF (by simp)).cell 1;clear hT hB;go_wp2;clear q1;go_loopw[25] (fun i wr=>∃k:Nat,k<=md.ag.length/\i=.int .i64 k/\vG (M.kB md) md.ag k/\w.grownBy wr none) (fun i _=>md.ag.length-(intOf i).toNat)
   case atStart=>exact⟨0,bK _,rfl,fun j x hj=>by omega,aF⟩
   case round=>
    clear aF;obtain⟨k,qo,rfl,kL,aF⟩:=hrel;have Xi:=ae kL;clear kL;by_cases lk:k<md.ag.length
    ·obtain⟨o,ho⟩:∃o,md.ag[k]?=some o:=⟨_,aS lk⟩
     obtain⟨g,ao,p,cp,rfl,gQ,-,hS,hR⟩:=(hO.Z aF).get k o ho;have Ho:=ae ho;have mK:cN (wr.alloc (.cells (aO o (.slice ao p cp)) 142)) m md:=(HM.out.Z aF).Z (aQ _ _ _);have aH:w.grownBy (wr.alloc (.cells (aO o (.slice ao p cp)) 142)) none:=aC aF (aQ _ _ _);have Fx:gF (wr.alloc (.cells (aO o (.slice ao p cp)) 142)) (m+1) (.slice ao p cp) o.bM:=eY hS (aQ _ _ _);have HB:=ae (aj.bA wr 142 (aO o (.slice ao p cp)));have v9:=ov9 o (.slice ao p cp);have DK:=ajd o (.slice ao p cp);have DL:=aje o (.slice ao p cp);clear ho hO hS;by_cases h1:o.hi<o.lo
     ·have He:=ae (QO Ho.out (ajV h1))
      go_wp2_with (first|(refine wpList_load_mid rfl 142 _ rfl g (k*16) rfl (aO o (.slice ao p cp)).toList _ hR underlying142 rfl Tryz.de ?_)|(refine aaY rfl 142 _ _ rfl wr.heap.size (aO o (.slice ao p cp)) rfl rfl 142 (aR 0 0 0 0 0 0 0 0 false (.slice none 0 0) 0 0 0 0 0 0) (aj.bA wr 142 _) Tryz.de rfl (oe ..) ?_;rw[World.setRow_alloc_new]));go_ret;exact⟨bB He.out.symm,aH⟩
     ·go_wp2_with (first|(refine wpList_load_mid rfl 142 _ rfl g (k*16) rfl (aO o (.slice ao p cp)).toList _ hR underlying142 rfl Tryz.de ?_)|(refine aaY rfl 142 _ _ rfl wr.heap.size (aO o (.slice ao p cp)) rfl rfl 142 (aR 0 0 0 0 0 0 0 0 false (.slice none 0 0) 0 0 0 0 0 0) (aj.bA wr 142 _) Tryz.de rfl (oe ..) ?_;rw[World.setRow_alloc_new]))
      refine(ajL ao p cp (m+1) o.bM _ Fx (Xh Fx)).mono ?_;rintro e w3⟨rfl,aU⟩;have jC:=aC aH aU;have vD:=mK.Z aU;have iA:=HB.out.kept aU (by simp);have yL:¬o.hi<o.lo:=by omega
      clear aU aH mK hR aF Fx v9 DK DL
      cases hr:o.bM.all M.rH with
      | false=>
       have He:=ae (QO Ho.out (ajW hr));clear hr vD iA;go_wp2;go_ret;exact⟨bB He.out.symm,jC⟩
      | true=>
       have Hq:=ae (ajX (md:=md) yL hr);clear hr yL;go_wp2_with (refine dj rfl 142 _ rfl wr.heap.size rfl 142 (aO o (.slice ao p cp)) (0,0) _ iA underlying142 rfl Tryz.de ?_);refine(ajP m md o ao p cp _ vD hW.out).mono ?_;rintro e w4⟨rfl,bm⟩;have sS:=aC jC bm;clear bm jC vD iA
       cases hz:M.jV md o with
       | false=>
        have He:=ae (QO Ho.out (by rw[Hq.out];exact hz));clear hz;go_wp2;go_ret;exact⟨bB He.out.symm,sS⟩
       | true=>
        have fm:=ae (Xi.out.step Ho.out (by rw[Hq.out];exact hz));clear hz;go_wp2;go_roundw
        case rel=>exact⟨k+1,by omega,by go_num,fm.out,sS⟩
        case measure=>simp[intOf];omega
    ·obtain rfl:k=md.ag.length:=by omega
     have He:=ae (ajU jY.out Xi.out);clear hO;go_wp2;go_ret;exact⟨bB He.out.symm,aF⟩
theorem ajZ(m:Nat)(md:M.Md)(w:World)(h:cN w m md)(hw:lO md) :
  Calls prog 100 #[.pointer (some ⟨m,0,none⟩)] w fun e w'=>e=.returned (.int .i64 (M.check md))/\w.grownBy w' none:=by
 go_enter func100,ntmps100;go_wp2_with fail;refine(aiD m md w h hw).mono ?_;rintro e w1⟨rfl,aH⟩;have M1:=h.Z aH
 cases h1:M.nj md with
 | false=>
  have He:=ae (show M.check md=3 by unfold M.check;rw[ay h1]);clear h1;go_wp2;go_ret;exact⟨cH He.out.symm,aH⟩
 | true=>
  have H1:=ae h1;clear h1;go_wp2_with fail;refine(ai7 m md w1 M1 hw).mono ?_;rintro e w2⟨rfl,aM⟩;have M2:=M1.Z aM;have G2:=aC aH aM;clear aH aM M1
  cases h2:M.lJ md with
  | false=>
   have He:=ae (show M.check md=4 by unfold M.check;rw[ak (by simp[H1.out]),ay h2]);clear h2;go_wp2;go_ret;exact⟨cH He.out.symm,G2⟩
  | true=>
   have H2:=ae h2;clear h2;go_wp2_with fail;refine(ajI m md w2 M2 hw).mono ?_;rintro e w3⟨rfl,aU⟩;have M3:=M2.Z aU;have G3:=aC G2 aU;clear aU G2 M2
   cases h3:M.z6 md with
   | false=>
    have He:=ae (show M.check md=5 by unfold M.check;rw[ak (by simp[H1.out]),ak (by simp[H2.out]),ay h3]);clear h3;go_wp2;go_ret;exact⟨cH He.out.symm,G3⟩
   | true=>
    have H3:=ae h3;clear h3;go_wp2_with fail;refine(ajY m md w3 M3 hw).mono ?_;rintro e w4⟨rfl,bm⟩;have G4:=aC G3 bm;clear bm G3 M3
    cases h4:M.sN md with
    | false=>
     have He:=ae (show M.check md=6 by unfold M.check;rw[ak (by simp[H1.out]),ak (by simp[H2.out]),ak (by simp[H3.out]),ay h4]);clear h4;go_wp2;go_ret;exact⟨cH He.out.symm,G4⟩
    | true=>
     have He:=ae (show M.check md=0 by unfold M.check;rw[ak (by simp[H1.out]),ak (by simp[H2.out]),ak (by simp[H3.out]),ak (by simp[h4])]);clear h4;go_wp2;go_ret;exact⟨cH He.out.symm,G4⟩
end Go.Proofs.YtcnhfffgbamonaaGreat
