import Derived.Test.YtcnhfffgbamonabGreatZ07
set_option maxRecDepth 100000
set_option maxHeartbeats 6400000
namespace Go.Proofs.YtcnhfffgbamonabGreat
open Go.Proofs.Tryz
open Go.RowKit
theorem ais(m:Nat)(md:M.Md)(o:M.Op)(ao:Option Addr)(p c:Nat)(w:World)(h:cN w m md)(hw:lK md)(_ho:lW o)(hk:o.af=4) :
  Calls prog 131 #[.pointer (some ⟨m,0,none⟩),.agg (aO o (.slice ao p c))] w fun e w'=>e=.returned (.bool (M.bT md o))/\w.grownBy w' none:=by
 have v0:=lY o (.slice ao p c);have v1:=xb o (.slice ao p c);rw[hk] at v0;have Hk:=ae hk;clear hk;have N0:aj (w.alloc (.cells (aO o (.slice ao p c)) 93)) w.heap.size 93 (aO o (.slice ao p c)):=aj.bB _ _ _;have gO:w.grownBy (w.alloc (.cells (aO o (.slice ao p c)) 93)) none:=aQ _ _ _;have gP:=h.Z gO;go_enter func131,ntmps131;go_wp2_with fail;refine(iS m md o.a _ gP hw.nt).mono ?_;rintro e w1⟨t1,df,⟨eR,p1,c1,rfl⟩,aH⟩;have gQ:aj w1 w.heap.size 93 (aO o (.slice ao p c)):=aj.kept N0 aH (by simp);have M1:=cN.Z gP aH;have G1:=aC gO aH;have mG:dW t1:=by rw[<-df.out];exact jT hw _
 clear aH N0 gO gP v1 v0;have N1:aj (w1.alloc (.cells (bg t1 (.slice eR p1 c1)) 106)) w1.heap.size 106 (bg t1 (.slice eR p1 c1)):=aj.bB _ _ _;have ny:w1.cell? ⟨w.heap.size,5,none⟩=some (.int .i64 o.to):=gQ.cell 5;have gg:w.heap.size<w1.heap.size:=gQ.lt;go_wp2_with fail;refine(iS m md o.to _ (M1.Z (aQ _ _ _)) hw.nt).mono ?_;rintro e w2⟨t2,dL,⟨dO,p2,c2,rfl⟩,aM⟩;clear ny gg;have fS:aj w2 (w.heap.size) 93 (aO o (.slice ao p c)):=aj.kept (gQ.alloc _) aM (by simp);have lZ:aj w2 (w1.heap.size) 106 (bg t1 (.slice eR p1 c1)):=aj.kept N1 aM (by simp);have M2:=cN.Z (M1.Z (aQ _ _ _)) aM;have G2:=aC (aC G1 (aQ _ _ _)) aM;have tP:dW t2:=by rw[<-dL.out];exact jT hw _
 clear aM;have N2:aj (w2.alloc (.cells (bg t2 (.slice dO p2 c2)) 106)) w2.heap.size 106 (bg t2 (.slice dO p2 c2)):=aj.bB _ _ _;have oM:w2.cell? ⟨w.heap.size,0,none⟩=some (.int .i64 4):=by have q:=fS.cell 0;rw[lY,Hk.out] at q;exact q
 have gg:w.heap.size<w2.heap.size:=fS.lt;have Qf:w2.cell? ⟨w.heap.size,2,none⟩=some (.int .i64 o.b):=fS.cell 2;go_wp2_with fail;refine(iS m md o.b _ (M2.Z (aQ _ _ _)) hw.nt).mono ?_;rintro e w3⟨t3,im,⟨l8,p3,c3,rfl⟩,aU⟩;clear oM gg Qf;have sH:aj w3 (w.heap.size) 93 (aO o (.slice ao p c)):=aj.kept (fS.alloc _) aU (by simp);have tQ:aj w3 (w1.heap.size) 106 (bg t1 (.slice eR p1 c1)):=aj.kept (lZ.alloc _) aU (by simp);have tR:aj w3 (w2.heap.size) 106 (bg t2 (.slice dO p2 c2)):=aj.kept N2 aU (by simp);have M3:=cN.Z (M2.Z (aQ _ _ _)) aU;have G3:=aC (aC G2 (aQ _ _ _)) aU;have BG:dW t3:=by rw[<-im.out];exact jT hw _
 clear aU;have N3:aj (w3.alloc (.cells (bg t3 (.slice l8 p3 c3)) 106)) w3.heap.size 106 (bg t3 (.slice l8 p3 c3)):=aj.bB _ _ _;have He:=ae (show M.bT md o=(M.kV t1 t2&&M.kV t3 t2) by unfold M.bT;simp only[Hk.out,df.out,dL.out,im.out];rfl);go_wp2_with (first|(refine dj rfl 106 _ rfl (w1.heap.size) rfl 106 (bg t1 (.slice eR p1 c1)) (0,0) _ (tQ.alloc _) underlying106 rfl Tryz.iG ?_)|(refine dj rfl 106 _ rfl (w2.heap.size) rfl 106 (bg t2 (.slice dO p2 c2)) (0,0) _ (tR.alloc _) underlying106 rfl Tryz.iG ?_));refine(Qc t1 t2 _ _ _).mono ?_;rintro e w9⟨rfl,ky⟩;have Fo9:aj w9 (w.heap.size) 93 (aO o (.slice ao p c)):=aj.kept (sH.alloc _) ky (by simp);have Wl:aj w9 (w1.heap.size) 106 (bg t1 (.slice eR p1 c1)):=aj.kept (tQ.alloc _) ky (by simp);have BH:aj w9 (w2.heap.size) 106 (bg t2 (.slice dO p2 c2)):=aj.kept (tR.alloc _) ky (by simp);have DC:aj w9 (w3.heap.size) 106 (bg t3 (.slice l8 p3 c3)):=aj.kept N3 ky (by simp);have M9:=cN.Z (M3.Z (aQ _ _ _)) ky;have G9:=aC (aC G3 (aQ _ _ _)) ky;have avZ:w9.cell? ⟨w3.heap.size,0,none⟩=some (.int .i64 t3.af):=DC.cell 0;have av0:w9.cell? ⟨w3.heap.size,1,none⟩=some (.int .i64 t3.h):=DC.cell 1;have av1:w9.cell? ⟨w3.heap.size,2,none⟩=some (.int .i64 t3.w):=DC.cell 2;have av2:w9.cell? ⟨w3.heap.size,3,none⟩=some (.int .i64 t3.c):=DC.cell 3;have av3:w9.cell? ⟨w3.heap.size,4,none⟩=some (.int .i64 t3.zero):=DC.cell 4;have av4:w9.cell? ⟨w3.heap.size,5,none⟩=some (.slice l8 p3 c3):=DC.cell 5;have av5:w3.heap.size<w9.heap.size:=DC.lt;have av6:w9.cell? ⟨w2.heap.size,0,none⟩=some (.int .i64 t2.af):=BH.cell 0;have aiu:w9.cell? ⟨w2.heap.size,1,none⟩=some (.int .i64 t2.h):=BH.cell 1;have aiv:w9.cell? ⟨w2.heap.size,2,none⟩=some (.int .i64 t2.w):=BH.cell 2;have aiw:w9.cell? ⟨w2.heap.size,3,none⟩=some (.int .i64 t2.c):=BH.cell 3
 have av7:w9.cell? ⟨w2.heap.size,4,none⟩=some (.int .i64 t2.zero):=BH.cell 4;have av8:w9.cell? ⟨w2.heap.size,5,none⟩=some (.slice dO p2 c2):=BH.cell 5;have aix:w2.heap.size<w9.heap.size:=BH.lt
 cases h1:M.kV t1 t2 with
 | false=>
  have kx:=He.out;rw[h1] at kx;have xd:=ae kx;clear kx h1;go_wp2;go_ret;exact⟨bq xd.out.symm,G9⟩
 | true=>
  have kx:=He.out;rw[h1,Bool.true_and] at kx;have xd:=ae kx;clear kx h1;go_wp2_with fail;refine(Qc t3 t2 (.slice l8 p3 c3) (.slice dO p2 c2) _).mono ?_;rintro e LK⟨rfl,zU⟩;go_wp2;go_ret;exact⟨bq xd.out.symm,aC G9 zU⟩
theorem aiy(m:Nat)(md:M.Md)(o:M.Op)(ao:Option Addr)(p c:Nat)(w:World)(h:cN w m md)(hw:lK md)(ho:lW o)(hk:o.af=5) :
  Calls prog 131 #[.pointer (some ⟨m,0,none⟩),.agg (aO o (.slice ao p c))] w fun e w'=>e=.returned (.bool (M.bT md o))/\w.grownBy w' none:=by
 have v0:=lY o (.slice ao p c);have v1:=xb o (.slice ao p c);rw[hk] at v0;have Hk:=ae hk;clear hk;have N0:aj (w.alloc (.cells (aO o (.slice ao p c)) 93)) w.heap.size 93 (aO o (.slice ao p c)):=aj.bB _ _ _;have gO:w.grownBy (w.alloc (.cells (aO o (.slice ao p c)) 93)) none:=aQ _ _ _;have gP:=h.Z gO;go_enter func131,ntmps131;go_wp2_with fail;refine(iS m md o.a _ gP hw.nt).mono ?_;rintro e w1⟨t1,df,⟨eR,p1,c1,rfl⟩,aH⟩;have gQ:aj w1 w.heap.size 93 (aO o (.slice ao p c)):=aj.kept N0 aH (by simp);have M1:=cN.Z gP aH;have G1:=aC gO aH;have mG:dW t1:=by rw[<-df.out];exact jT hw _
 clear aH N0 gO gP v1 v0;have N1:aj (w1.alloc (.cells (bg t1 (.slice eR p1 c1)) 106)) w1.heap.size 106 (bg t1 (.slice eR p1 c1)):=aj.bB _ _ _;have ny:w1.cell? ⟨w.heap.size,5,none⟩=some (.int .i64 o.to):=gQ.cell 5;have gg:w.heap.size<w1.heap.size:=gQ.lt;go_wp2_with fail;refine(iS m md o.to _ (M1.Z (aQ _ _ _)) hw.nt).mono ?_;rintro e w2⟨t2,dL,⟨dO,p2,c2,rfl⟩,aM⟩;clear ny gg;have fS:aj w2 (w.heap.size) 93 (aO o (.slice ao p c)):=aj.kept (gQ.alloc _) aM (by simp);have lZ:aj w2 (w1.heap.size) 106 (bg t1 (.slice eR p1 c1)):=aj.kept N1 aM (by simp);have M2:=cN.Z (M1.Z (aQ _ _ _)) aM;have G2:=aC (aC G1 (aQ _ _ _)) aM;have tP:dW t2:=by rw[<-dL.out];exact jT hw _
 clear aM;have N2:aj (w2.alloc (.cells (bg t2 (.slice dO p2 c2)) 106)) w2.heap.size 106 (bg t2 (.slice dO p2 c2)):=aj.bB _ _ _;have oM:w2.cell? ⟨w.heap.size,0,none⟩=some (.int .i64 5):=by have q:=fS.cell 0;rw[lY,Hk.out] at q;exact q
 have gg:w.heap.size<w2.heap.size:=fS.lt;have He:=ae (show M.bT md o=M.ri o t1 t2 by unfold M.bT;simp only[Hk.out,df.out,dL.out];rfl);go_wp2_with (first|(refine dj rfl 93 _ rfl (w.heap.size) rfl 93 (aO o (.slice ao p c)) (0,0) _ (fS.alloc _) underlying93 rfl Tryz.db ?_)|(refine dj rfl 106 _ rfl (w1.heap.size) rfl 106 (bg t1 (.slice eR p1 c1)) (0,0) _ (lZ.alloc _) underlying106 rfl Tryz.iG ?_)|(refine dj rfl 106 _ rfl (w2.heap.size) rfl 106 (bg t2 (.slice dO p2 c2)) (0,0) _ N2 underlying106 rfl Tryz.iG ?_));refine(Wh o t1 t2 _ _ _ _ ho mG).mono ?_;rintro e w9⟨rfl,ky⟩;clear oM gg;have G9:=aC (aC G2 (aQ _ _ _)) ky;go_wp2;go_ret;exact⟨bq He.out.symm,G9⟩
theorem aiz(m:Nat)(md:M.Md)(o:M.Op)(ao:Option Addr)(p c:Nat)(w:World)(h:cN w m md)(hw:lK md)(ho:lW o)(hk:o.af=6) :
  Calls prog 131 #[.pointer (some ⟨m,0,none⟩),.agg (aO o (.slice ao p c))] w fun e w'=>e=.returned (.bool (M.bT md o))/\w.grownBy w' none:=by
 have v0:=lY o (.slice ao p c);have v1:=xb o (.slice ao p c);rw[hk] at v0;have Hk:=ae hk;clear hk;have N0:aj (w.alloc (.cells (aO o (.slice ao p c)) 93)) w.heap.size 93 (aO o (.slice ao p c)):=aj.bB _ _ _;have gO:w.grownBy (w.alloc (.cells (aO o (.slice ao p c)) 93)) none:=aQ _ _ _;have gP:=h.Z gO;go_enter func131,ntmps131;go_wp2_with fail;refine(iS m md o.a _ gP hw.nt).mono ?_;rintro e w1⟨t1,df,⟨eR,p1,c1,rfl⟩,aH⟩;have gQ:aj w1 w.heap.size 93 (aO o (.slice ao p c)):=aj.kept N0 aH (by simp);have M1:=cN.Z gP aH;have G1:=aC gO aH;have mG:dW t1:=by rw[<-df.out];exact jT hw _
 clear aH N0 gO gP v1 v0;have N1:aj (w1.alloc (.cells (bg t1 (.slice eR p1 c1)) 106)) w1.heap.size 106 (bg t1 (.slice eR p1 c1)):=aj.bB _ _ _;have ny:w1.cell? ⟨w.heap.size,5,none⟩=some (.int .i64 o.to):=gQ.cell 5;have gg:w.heap.size<w1.heap.size:=gQ.lt;go_wp2_with fail;refine(iS m md o.to _ (M1.Z (aQ _ _ _)) hw.nt).mono ?_;rintro e w2⟨t2,dL,⟨dO,p2,c2,rfl⟩,aM⟩;clear ny gg;have fS:aj w2 (w.heap.size) 93 (aO o (.slice ao p c)):=aj.kept (gQ.alloc _) aM (by simp);have lZ:aj w2 (w1.heap.size) 106 (bg t1 (.slice eR p1 c1)):=aj.kept N1 aM (by simp);have M2:=cN.Z (M1.Z (aQ _ _ _)) aM;have G2:=aC (aC G1 (aQ _ _ _)) aM;have tP:dW t2:=by rw[<-dL.out];exact jT hw _
 clear aM;have N2:aj (w2.alloc (.cells (bg t2 (.slice dO p2 c2)) 106)) w2.heap.size 106 (bg t2 (.slice dO p2 c2)):=aj.bB _ _ _;have oM:w2.cell? ⟨w.heap.size,0,none⟩=some (.int .i64 6):=by have q:=fS.cell 0;rw[lY,Hk.out] at q;exact q
 have gg:w.heap.size<w2.heap.size:=fS.lt;have He:=ae (show M.bT md o=M.ri o t1 t2 by unfold M.bT;simp only[Hk.out,df.out,dL.out];rfl);go_wp2_with (first|(refine dj rfl 93 _ rfl (w.heap.size) rfl 93 (aO o (.slice ao p c)) (0,0) _ (fS.alloc _) underlying93 rfl Tryz.db ?_)|(refine dj rfl 106 _ rfl (w1.heap.size) rfl 106 (bg t1 (.slice eR p1 c1)) (0,0) _ (lZ.alloc _) underlying106 rfl Tryz.iG ?_)|(refine dj rfl 106 _ rfl (w2.heap.size) rfl 106 (bg t2 (.slice dO p2 c2)) (0,0) _ N2 underlying106 rfl Tryz.iG ?_));refine(Wh o t1 t2 _ _ _ _ ho mG).mono ?_;rintro e w9⟨rfl,ky⟩;clear oM gg;have G9:=aC (aC G2 (aQ _ _ _)) ky;go_wp2;go_ret;exact⟨bq He.out.symm,G9⟩
theorem aiA(m:Nat)(md:M.Md)(o:M.Op)(ao:Option Addr)(p c:Nat)(w:World)(h:cN w m md)(hw:lK md)(ho:lW o)(hk:o.af=8) :
  Calls prog 131 #[.pointer (some ⟨m,0,none⟩),.agg (aO o (.slice ao p c))] w fun e w'=>e=.returned (.bool (M.bT md o))/\w.grownBy w' none:=by
 have v0:=lY o (.slice ao p c);have v1:=xb o (.slice ao p c);rw[hk] at v0;have Hk:=ae hk;clear hk;have N0:aj (w.alloc (.cells (aO o (.slice ao p c)) 93)) w.heap.size 93 (aO o (.slice ao p c)):=aj.bB _ _ _;have gO:w.grownBy (w.alloc (.cells (aO o (.slice ao p c)) 93)) none:=aQ _ _ _;have gP:=h.Z gO;go_enter func131,ntmps131;go_wp2_with fail;refine(iS m md o.a _ gP hw.nt).mono ?_;rintro e w1⟨t1,df,⟨eR,p1,c1,rfl⟩,aH⟩;have gQ:aj w1 w.heap.size 93 (aO o (.slice ao p c)):=aj.kept N0 aH (by simp);have M1:=cN.Z gP aH;have G1:=aC gO aH;have mG:dW t1:=by rw[<-df.out];exact jT hw _
 clear aH N0 gO gP v1 v0;have N1:aj (w1.alloc (.cells (bg t1 (.slice eR p1 c1)) 106)) w1.heap.size 106 (bg t1 (.slice eR p1 c1)):=aj.bB _ _ _;have ny:w1.cell? ⟨w.heap.size,5,none⟩=some (.int .i64 o.to):=gQ.cell 5;have gg:w.heap.size<w1.heap.size:=gQ.lt;go_wp2_with fail;refine(iS m md o.to _ (M1.Z (aQ _ _ _)) hw.nt).mono ?_;rintro e w2⟨t2,dL,⟨dO,p2,c2,rfl⟩,aM⟩;clear ny gg;have fS:aj w2 (w.heap.size) 93 (aO o (.slice ao p c)):=aj.kept (gQ.alloc _) aM (by simp);have lZ:aj w2 (w1.heap.size) 106 (bg t1 (.slice eR p1 c1)):=aj.kept N1 aM (by simp);have M2:=cN.Z (M1.Z (aQ _ _ _)) aM;have G2:=aC (aC G1 (aQ _ _ _)) aM;have tP:dW t2:=by rw[<-dL.out];exact jT hw _
 clear aM;have N2:aj (w2.alloc (.cells (bg t2 (.slice dO p2 c2)) 106)) w2.heap.size 106 (bg t2 (.slice dO p2 c2)):=aj.bB _ _ _;have oM:w2.cell? ⟨w.heap.size,0,none⟩=some (.int .i64 8):=by have q:=fS.cell 0;rw[lY,Hk.out] at q;exact q
 have gg:w.heap.size<w2.heap.size:=fS.lt;have av9:w2.cell? ⟨w.heap.size,12,none⟩=some (.int .i64 o.aS):=fS.cell 12;have awa:w2.cell? ⟨w.heap.size,13,none⟩=some (.int .i64 o.below):=fS.cell 13;have awb:w2.cell? ⟨w.heap.size,14,none⟩=some (.int .i64 o.left):=fS.cell 14;have awc:w2.cell? ⟨w.heap.size,15,none⟩=some (.int .i64 o.right):=fS.cell 15;have aiB:w2.cell? ⟨w1.heap.size,1,none⟩=some (.int .i64 t1.h):=lZ.cell 1;have aiC:w2.cell? ⟨w1.heap.size,2,none⟩=some (.int .i64 t1.w):=lZ.cell 2;have aiD:w2.cell? ⟨w1.heap.size,3,none⟩=some (.int .i64 t1.c):=lZ.cell 3;have aiE:w1.heap.size<w2.heap.size:=lZ.lt;have He:=ae (show M.bT md o=(t2.h==t1.h+o.aS+o.below&&t2.w==t1.w+o.left+o.right&&t2.c==t1.c) by unfold M.bT;simp only[Hk.out,df.out,dL.out];rfl);obtain⟨ab0,ab1⟩:=ho.aS;obtain⟨be0,be1⟩:=ho.below;obtain⟨le0,le1⟩:=ho.left;obtain⟨ri0,ri1⟩:=ho.right;have th0:=mG.h0;have th1:=mG.h1;have tw0:=mG.w0;have tw1:=mG.w1
 cases h1:(t2.h==t1.h+o.aS+o.below) with
 | false=>
  go_wp2;go_ret;exact⟨bq (by rw[He.out,h1];rfl),(aC G2 (aQ _ _ _))⟩
 | true=>
  cases h2:(t2.w==t1.w+o.left+o.right) with
  | false=>
   go_wp2;go_ret;exact⟨bq (by rw[He.out,h1,h2];rfl),(aC G2 (aQ _ _ _))⟩
  | true=>
   go_wp2;go_ret;exact⟨bq (by rw[He.out,h1,h2];rfl),(aC G2 (aQ _ _ _))⟩
theorem aiF(m:Nat)(md:M.Md)(o:M.Op)(ao:Option Addr)(p c:Nat)(w:World)(h:cN w m md)(hw:lK md)(_ho:lW o)(hk:o.af=9) :
  Calls prog 131 #[.pointer (some ⟨m,0,none⟩),.agg (aO o (.slice ao p c))] w fun e w'=>e=.returned (.bool (M.bT md o))/\w.grownBy w' none:=by
 have v0:=lY o (.slice ao p c);have v1:=xb o (.slice ao p c);rw[hk] at v0;have Hk:=ae hk;clear hk;have N0:aj (w.alloc (.cells (aO o (.slice ao p c)) 93)) w.heap.size 93 (aO o (.slice ao p c)):=aj.bB _ _ _;have gO:w.grownBy (w.alloc (.cells (aO o (.slice ao p c)) 93)) none:=aQ _ _ _;have gP:=h.Z gO;go_enter func131,ntmps131;go_wp2_with fail;refine(iS m md o.a _ gP hw.nt).mono ?_;rintro e w1⟨t1,df,⟨eR,p1,c1,rfl⟩,aH⟩;have gQ:aj w1 w.heap.size 93 (aO o (.slice ao p c)):=aj.kept N0 aH (by simp);have M1:=cN.Z gP aH;have G1:=aC gO aH;have mG:dW t1:=by rw[<-df.out];exact jT hw _
 clear aH N0 gO gP v1 v0;have N1:aj (w1.alloc (.cells (bg t1 (.slice eR p1 c1)) 106)) w1.heap.size 106 (bg t1 (.slice eR p1 c1)):=aj.bB _ _ _;have ny:w1.cell? ⟨w.heap.size,5,none⟩=some (.int .i64 o.to):=gQ.cell 5;have gg:w.heap.size<w1.heap.size:=gQ.lt;go_wp2_with fail;refine(iS m md o.to _ (M1.Z (aQ _ _ _)) hw.nt).mono ?_;rintro e w2⟨t2,dL,⟨dO,p2,c2,rfl⟩,aM⟩;clear ny gg;have fS:aj w2 (w.heap.size) 93 (aO o (.slice ao p c)):=aj.kept (gQ.alloc _) aM (by simp);have lZ:aj w2 (w1.heap.size) 106 (bg t1 (.slice eR p1 c1)):=aj.kept N1 aM (by simp);have M2:=cN.Z (M1.Z (aQ _ _ _)) aM;have G2:=aC (aC G1 (aQ _ _ _)) aM;have tP:dW t2:=by rw[<-dL.out];exact jT hw _
 clear aM;have N2:aj (w2.alloc (.cells (bg t2 (.slice dO p2 c2)) 106)) w2.heap.size 106 (bg t2 (.slice dO p2 c2)):=aj.bB _ _ _;have oM:w2.cell? ⟨w.heap.size,0,none⟩=some (.int .i64 9):=by have q:=fS.cell 0;rw[lY,Hk.out] at q;exact q
 have gg:w.heap.size<w2.heap.size:=fS.lt;have He:=ae (show M.bT md o=(M.cellsOf t1==M.cellsOf t2) by unfold M.bT;simp only[Hk.out,df.out,dL.out];rfl);go_wp2_with (first|(refine dj rfl 106 _ rfl (w2.heap.size) rfl 106 (bg t2 (.slice dO p2 c2)) (0,0) _ N2 underlying106 rfl Tryz.iG ?_));refine(LI t2 _ _ tP).mono ?_;rintro e w9⟨rfl,ky⟩;clear oM gg;have Fo9:aj w9 (w.heap.size) 93 (aO o (.slice ao p c)):=aj.kept (fS.alloc _) ky (by simp);have Wl:aj w9 (w1.heap.size) 106 (bg t1 (.slice eR p1 c1)):=aj.kept (lZ.alloc _) ky (by simp);have BH:aj w9 (w2.heap.size) 106 (bg t2 (.slice dO p2 c2)):=aj.kept N2 ky (by simp);have M9:=cN.Z (M2.Z (aQ _ _ _)) ky;have G9:=aC (aC G2 (aQ _ _ _)) ky;go_wp2_with (first|(refine dj rfl 106 _ rfl (w1.heap.size) rfl 106 (bg t1 (.slice eR p1 c1)) (0,0) _ Wl underlying106 rfl Tryz.iG ?_));refine(LI t1 _ _ mG).mono ?_;rintro e LK⟨rfl,zU⟩;go_wp2;go_ret;exact⟨bq He.out.symm,aC G9 zU⟩
theorem aiG(m:Nat)(md:M.Md)(o:M.Op)(ao:Option Addr)(p c:Nat)(w:World)(h:cN w m md)(hw:lK md)(_ho:lW o)(hk:o.af=10) :
  Calls prog 131 #[.pointer (some ⟨m,0,none⟩),.agg (aO o (.slice ao p c))] w fun e w'=>e=.returned (.bool (M.bT md o))/\w.grownBy w' none:=by
 have v0:=lY o (.slice ao p c);have v1:=xb o (.slice ao p c);rw[hk] at v0;have Hk:=ae hk;clear hk;have N0:aj (w.alloc (.cells (aO o (.slice ao p c)) 93)) w.heap.size 93 (aO o (.slice ao p c)):=aj.bB _ _ _;have gO:w.grownBy (w.alloc (.cells (aO o (.slice ao p c)) 93)) none:=aQ _ _ _;have gP:=h.Z gO;go_enter func131,ntmps131;go_wp2_with fail;refine(iS m md o.a _ gP hw.nt).mono ?_;rintro e w1⟨t1,df,⟨eR,p1,c1,rfl⟩,aH⟩;have gQ:aj w1 w.heap.size 93 (aO o (.slice ao p c)):=aj.kept N0 aH (by simp);have M1:=cN.Z gP aH;have G1:=aC gO aH;have mG:dW t1:=by rw[<-df.out];exact jT hw _
 clear aH N0 gO gP v1 v0;have N1:aj (w1.alloc (.cells (bg t1 (.slice eR p1 c1)) 106)) w1.heap.size 106 (bg t1 (.slice eR p1 c1)):=aj.bB _ _ _;have ny:w1.cell? ⟨w.heap.size,5,none⟩=some (.int .i64 o.to):=gQ.cell 5;have gg:w.heap.size<w1.heap.size:=gQ.lt;go_wp2_with fail;refine(iS m md o.to _ (M1.Z (aQ _ _ _)) hw.nt).mono ?_;rintro e w2⟨t2,dL,⟨dO,p2,c2,rfl⟩,aM⟩;clear ny gg;have fS:aj w2 (w.heap.size) 93 (aO o (.slice ao p c)):=aj.kept (gQ.alloc _) aM (by simp);have lZ:aj w2 (w1.heap.size) 106 (bg t1 (.slice eR p1 c1)):=aj.kept N1 aM (by simp);have M2:=cN.Z (M1.Z (aQ _ _ _)) aM;have G2:=aC (aC G1 (aQ _ _ _)) aM;have tP:dW t2:=by rw[<-dL.out];exact jT hw _
 clear aM;have N2:aj (w2.alloc (.cells (bg t2 (.slice dO p2 c2)) 106)) w2.heap.size 106 (bg t2 (.slice dO p2 c2)):=aj.bB _ _ _;have oM:w2.cell? ⟨w.heap.size,0,none⟩=some (.int .i64 10):=by have q:=fS.cell 0;rw[lY,Hk.out] at q;exact q
 have gg:w.heap.size<w2.heap.size:=fS.lt;have Qf:w2.cell? ⟨w.heap.size,2,none⟩=some (.int .i64 o.b):=fS.cell 2;go_wp2_with fail;refine(iS m md o.b _ (M2.Z (aQ _ _ _)) hw.nt).mono ?_;rintro e w3⟨t3,im,⟨l8,p3,c3,rfl⟩,aU⟩;clear oM gg Qf;have sH:aj w3 (w.heap.size) 93 (aO o (.slice ao p c)):=aj.kept (fS.alloc _) aU (by simp);have tQ:aj w3 (w1.heap.size) 106 (bg t1 (.slice eR p1 c1)):=aj.kept (lZ.alloc _) aU (by simp);have tR:aj w3 (w2.heap.size) 106 (bg t2 (.slice dO p2 c2)):=aj.kept N2 aU (by simp);have M3:=cN.Z (M2.Z (aQ _ _ _)) aU;have G3:=aC (aC G2 (aQ _ _ _)) aU;have BG:dW t3:=by rw[<-im.out];exact jT hw _
 clear aU;have N3:aj (w3.alloc (.cells (bg t3 (.slice l8 p3 c3)) 106)) w3.heap.size 106 (bg t3 (.slice l8 p3 c3)):=aj.bB _ _ _;have aiB:w3.cell? ⟨w1.heap.size,1,none⟩=some (.int .i64 t1.h):=tQ.cell 1;have aiC:w3.cell? ⟨w1.heap.size,2,none⟩=some (.int .i64 t1.w):=tQ.cell 2;have aiD:w3.cell? ⟨w1.heap.size,3,none⟩=some (.int .i64 t1.c):=tQ.cell 3;have aiE:w1.heap.size<w3.heap.size:=tQ.lt;have aiu:w3.cell? ⟨w2.heap.size,1,none⟩=some (.int .i64 t2.h):=tR.cell 1;have aiv:w3.cell? ⟨w2.heap.size,2,none⟩=some (.int .i64 t2.w):=tR.cell 2;have aiw:w3.cell? ⟨w2.heap.size,3,none⟩=some (.int .i64 t2.c):=tR.cell 3;have aix:w2.heap.size<w3.heap.size:=tR.lt;have He:=ae (show M.bT md o=(t1.h==t3.h&&t1.w==t3.w&&t2.h==t1.h&&t2.w==t1.w&&t2.c==t1.c+t3.c) by unfold M.bT;simp only[Hk.out,df.out,dL.out,im.out];rfl);have tc0:=mG.c0;have tc1:=mG.c1;have sc0:=BG.c0;have sc1:=BG.c1
 cases q0:(t1.h==t3.h) with
 | false=>
  go_wp2;go_ret;exact⟨bq (by rw[He.out,q0];first|rfl|simp),(aC G3 (aQ _ _ _))⟩
 | true=>
  cases q1:(t1.w==t3.w) with
  | false=>
   go_wp2;go_ret;exact⟨bq (by rw[He.out,q0,q1];first|rfl|simp),(aC G3 (aQ _ _ _))⟩
  | true=>
   cases q2:(t2.h==t1.h) with
   | false=>
    go_wp2;go_ret;exact⟨bq (by rw[He.out,q0,q1,q2];first|rfl|simp),(aC G3 (aQ _ _ _))⟩
   | true=>
    cases q3:(t2.w==t1.w) with
    | false=>
     go_wp2;go_ret;exact⟨bq (by rw[He.out,q0,q1,q2,q3];first|rfl|simp),(aC G3 (aQ _ _ _))⟩
    | true=>
     go_wp2;go_ret;exact⟨bq (by rw[He.out,q0,q1,q2,q3];rfl),(aC G3 (aQ _ _ _))⟩
theorem aiH(m:Nat)(md:M.Md)(o:M.Op)(ao:Option Addr)(p c:Nat)(w:World)(h:cN w m md)(hw:lK md)(ho:lW o) :
  Calls prog 131 #[.pointer (some ⟨m,0,none⟩),.agg (aO o (.slice ao p c))] w fun e w'=>e=.returned (.bool (M.bT md o))/\w.grownBy w' none:=by
 have hk:=ho.af;rcases(show o.af=0\/o.af=1\/o.af=2\/o.af=3\/o.af=4\/o.af=5\/o.af=6\/o.af=7\/o.af=8\/o.af=9\/o.af=10 from by omega) with e|e|e|e|e|e|e|e|e|e|e
 ·exact ain m md o ao p c w h hw ho e
 ·exact aip m md o ao p c w h hw ho e
 ·exact aiq m md o ao p c w h hw ho e
 ·exact air m md o ao p c w h hw ho e
 ·exact ais m md o ao p c w h hw ho e
 ·exact aiy m md o ao p c w h hw ho e
 ·exact aiz m md o ao p c w h hw ho e
 ·exact aio m md o ao p c w h hw ho e
 ·exact aiA m md o ao p c w h hw ho e
 ·exact aiF m md o ao p c w h hw ho e
 ·exact aiG m md o ao p c w h hw ho e
def vh{α:Type}(f:α->Bool)(l:List α)(k:Nat):Prop:=∀j x,j<k->l[j]?=some x->f x=true
theorem vh.step{α:Type}{f:α->Bool}{l:List α}{k:Nat}{x:α}(h:vh f l k)(hx:l[k]?=some x)(hf:f x=true):vh f l (k+1):=by
 intro j y hj hy;rcases cF j k with h' | h'
 ·exact h j y h' hy
 ·obtain rfl:j=k:=by omega
  rw[hx] at hy;injection hy with e;rw[<-e];exact hf
theorem vh.all{α:Type}{f:α->Bool}{l:List α}(h:vh f l l.length):l.all f=true:=by
 rw[jg];intro x hx;obtain⟨j,hj,e⟩:=List.mem_iff_getElem.1 hx;exact h j x hj (by rw[aT hj,e])
theorem zV{α:Type}{f:α->Bool}{l:List α}{k:Nat}{x:α}(hx:l[k]?=some x)(hf:f x=false):l.all f=false:=by
 rw[List.all_eq_false];exact⟨x,bV hx,by simp[hf]⟩
theorem aiI(m:Nat)(md:M.Md)(w:World)(h:cN w m md)(hw:lK md) :
  Calls prog 90 #[.pointer (some ⟨m,0,none⟩)] w fun e w'=>e=.returned (.bool (M.zI md))/\w.grownBy w' none:=by
 have j9:=hw.no;have HM:=ae h;have hW:=ae hw;obtain⟨a1,c1,a2,c2,a3,c3,hB,hT,hO,hU⟩:=h;have q1:w.cell? ⟨m,1,none⟩=some (.slice a2 md.ag.length c2):=hB.cell 1;clear hT hU hw hB;go_enter func90,ntmps90;go_wp2;clear q1;go_loopw[10] (fun i wr=>∃k:Nat,k<=md.ag.length/\i=.int .i64 k/\vh (M.bT md) md.ag k/\w.grownBy wr none) (fun i _=>md.ag.length-(intOf i).toNat)
 case atStart=>exact⟨0,bK _,rfl,fun j x hj=>by omega,gL _ _⟩
 case round=>
  obtain⟨k,hk,rfl,kH,aF⟩:=hrel;have jU:=ae kH;clear kH;by_cases aK:k<md.ag.length
  ·obtain⟨o,ho⟩:∃o,md.ag[k]?=some o:=⟨_,aT aK⟩
   obtain⟨g,ao,p,cp,rfl,gN,-,-,hR⟩:=(hO.Z aF).get k o ho;have Ho:=ae ho;have wo:=ae (hW.out.os o (bV ho));have mF:cN (wr.alloc (.cells (aO o (.slice ao p cp)) 93)) m md:=(HM.out.Z aF).Z (aQ _ _ _);have aH:w.grownBy (wr.alloc (.cells (aO o (.slice ao p cp)) 93)) none:=aC aF (aQ _ _ _);have HB:=ae (aj.bB wr 93 (aO o (.slice ao p cp)));clear ho hO;go_wp2_with (first|(refine wpList_load_mid rfl 93 _ rfl g (k*16) rfl (aO o (.slice ao p cp)).toList _ hR underlying93 rfl Tryz.db ?_)|(refine aaY rfl 93 _ _ rfl wr.heap.size (aO o (.slice ao p cp)) rfl rfl 93 (aR 0 0 0 0 0 0 0 0 false (.slice none 0 0) 0 0 0 0 0 0) (aj.bB wr 93 _) Tryz.db rfl (nY ..) ?_;rw[World.setRow_alloc_new])|(refine dj rfl 93 _ rfl wr.heap.size rfl 93 (aO o (.slice ao p cp)) (0,0) _ HB.out underlying93 rfl Tryz.db ?_));refine(aiH m md o ao p cp _ mF hW.out wo.out).mono ?_;rintro e w3⟨rfl,aU⟩;have jz:=aC aH aU;clear aU aH mF hR aF
   cases hr:M.bT md o with
   | false=>
    have He:=ae (show M.zI md=false from zV Ho.out hr);clear hr;go_wp2;go_ret;exact⟨bq He.out.symm,jz⟩
   | true=>
    have fg:=ae (jU.out.step Ho.out hr);clear hr;go_wp2;go_roundw
    case rel=>exact⟨k+1,by omega,by go_num,fg.out,jz⟩
    case measure=>simp[intOf];omega
  ·obtain rfl:k=md.ag.length:=by omega
   have He:=ae (show M.zI md=true from jU.out.all);clear hO;go_wp2;go_ret;exact⟨bq He.out.symm,aF⟩
def zW(v:Int):Bool:=!(decide (1073741824<v)||decide (v < -1073741824))
theorem aiJ(t:M.Tn)(ad:Option Addr)(n c B:Nat)(w:World)(hI:aZ w B (.slice ad n c) t.data)(hl:n<=9223372036854775807) :
  Calls prog 132 #[.agg (bg t (.slice ad n c))] w fun e w'=>e=.returned (.bool (M.qA t))/\w.grownBy w' none:=by
 have hn:=hI.len;have v0:=Wd t (.slice ad n c);have v4:=We t (.slice ad n c);have v5:=Wi t (.slice ad n c);have aH:w.grownBy (w.alloc (.cells (bg t (.slice ad n c)) 106)) none:=aQ _ _ _;have lM:=hI.Z aH;by_cases hk:t.af=2
 ·have rB:(t.af != 2)=false:=by simp[hk]
  have He:=ae (show M.qA t=(t.data.all zW&&t.zero==0) by unfold M.qA zW;rw[ak (by simp[hk])]);clear hk hI;subst hn;go_enter func132,ntmps132;go_wp2
  go_loop [11] (fun i=>∃k:Nat,k<=t.data.length/\i=.int .i64 k/\vh zW t.data k) (fun i=>t.data.length-(intOf i).toNat)
  case atStart=>exact⟨0,bK _,rfl,fun j x hj=>by omega⟩
  case round=>
   obtain⟨k,hk,rfl,kH⟩:=hrel;have jU:=ae kH;clear kH;by_cases aK:k<t.data.length
   ·obtain⟨x,hx⟩:∃x,t.data[k]?=some x:=⟨_,aT aK⟩
    obtain⟨g,rfl,gN,-,d0⟩:=lM.get k x hx;have Hx:=ae hx;clear hx lM;by_cases h1:1073741824<x
    ·have Hb:=ae (show zW x=false by unfold zW;rw[eG h1];rfl)
     go_wp2;go_ret;exact⟨bq (by rw[He.out,zV Hx.out Hb.out];rfl),aH⟩
    ·by_cases h2:x < -1073741824
     ·have Hb:=ae (show zW x=false by unfold zW;rw[eG h2,Bool.or_true];rfl)
      go_wp2;go_ret;exact⟨bq (by rw[He.out,zV Hx.out Hb.out];rfl),aH⟩
     ·have fg:=ae (jU.out.step Hx.out (show zW x=true by unfold zW;rw[eD h1,eD h2];rfl))
      go_wp2
      go_round
      case rel=>exact⟨k+1,by omega,by go_num,fg.out⟩
      case measure=>simp[intOf];omega
   ·obtain rfl:k=t.data.length:=by omega
    have yn:=ae jU.out.all;clear lM;go_wp2;go_ret;exact⟨bq (by rw[He.out,yn.out];rfl),aH⟩
 ·have rB:(t.af != 2)=true:=by simp[hk]
  have He:=ae (show M.qA t=true by unfold M.qA;rw[ay hk]);clear hk hI hn lM v4 v5;go_enter func132,ntmps132;go_wp2;go_ret;exact⟨bq He.out.symm,aH⟩
theorem gy.get{w:World}{base:Nat}{a:Option Addr}{n c:Nat}{xs:List M.Sc}(h:gy w base (.slice a n c) xs)(i:Nat)(x:M.Sc)(hi:xs[i]?=some x) :
  ∃g,a=some ⟨g,0,none⟩/\g<w.heap.size/\w.cell? ⟨g,i*2,none⟩=some (.int .i64 x.eE)/\w.cell? ⟨g,i*2+1,none⟩=some (.int .i64 x.shift):=by
 have aK:i<xs.length:=by
  rcases cF i xs.length with h' | h'
  ·exact h'
  ·simp[cX h'] at hi
 obtain⟨g,ha,hb,hn,hc⟩:=nZ h (by omega);have cK:∀j,j<2->w.cell? ⟨g,i*2+j,none⟩=(Ds x)[j]?:=by
  intro j hj;rw[hc _ (by omega)];exact lL Ds 2 (fun a=>rfl) xs i j x hi hj
 have k0:w.cell? ⟨g,i*2+0,none⟩=some (.int .i64 x.eE):=cK 0 (by omega);exact⟨g,ha,pY w _ k0,k0,cK 1 (by omega)⟩
theorem gy.len{w:World}{base:Nat}{a:Option Addr}{n c:Nat}{xs:List M.Sc}(h:gy w base (.slice a n c) xs):n=xs.length:=by
 obtain⟨ao,c',e⟩:=gY h;injection e
theorem LL{c:M.Sc}(h:c.eE<1073741824\/2147483647<c.eE\/c.shift < -31\/30<c.shift):M.rj c=false:=by
 unfold M.rj;rcases h with h|h|h|h<;>simp[h]
theorem aiK{c:M.Sc}(h1:¬c.eE<1073741824)(h2:¬2147483647<c.eE)(h3:¬c.shift < -31)(h4:¬30<c.shift):M.rj c=true:=by
 unfold M.rj;rw[eD h1,eD h2,eD h3,eD h4];rfl
theorem aiL(ad:Option Addr)(n c B:Nat)(xs:List M.Sc)(w:World)(hI:gy w B (.slice ad n c) xs)(hl:n<=9223372036854775807) :
  Calls prog 133 #[.slice ad n c] w fun e w'=>e=.returned (.bool (xs.all M.rj))/\w.grownBy w' none:=by
 have hn:=hI.len;subst hn;go_enter func133,ntmps133;go_wp2;go_loopw[7] (fun i wr=>∃k:Nat,k<=xs.length/\i=.int .i64 k/\vh M.rj xs k/\w.grownBy wr none) (fun i _=>xs.length-(intOf i).toNat)
 case atStart=>exact⟨0,bK _,rfl,fun j x hj=>by omega,gL _ _⟩
 case round=>
  obtain⟨k,hk,rfl,kH,aF⟩:=hrel;have jU:=ae kH;clear kH;by_cases aK:k<xs.length
  ·obtain⟨x,hx⟩:∃x,xs[k]?=some x:=⟨_,aT aK⟩
   obtain⟨g,rfl,gN,d0,d1⟩:=gy.get (eW hI aF) k x hx;have Hx:=ae hx;have gn:w.grownBy (wr.alloc (.cells #[.int .i64 x.eE,.int .i64 x.shift] 221)) none:=aC aF (aQ _ _ _);clear hx hI;by_cases h1:x.eE<1073741824
   ·have Hb:=ae (LL (.inl h1))
    go_wp2;go_ret;exact⟨bq (by rw[zV Hx.out Hb.out]),gn⟩
   ·by_cases h2:2147483647<x.eE
    ·have Hb:=ae (LL (.inr (.inl h2)))
     go_wp2;go_ret;exact⟨bq (by rw[zV Hx.out Hb.out]),gn⟩
    ·by_cases h3:x.shift < -31
     ·have Hb:=ae (LL (.inr (.inr (.inl h3))))
      go_wp2;go_ret;exact⟨bq (by rw[zV Hx.out Hb.out]),gn⟩
     ·by_cases h4:30<x.shift
      ·have Hb:=ae (LL (.inr (.inr (.inr h4))))
       go_wp2;go_ret;exact⟨bq (by rw[zV Hx.out Hb.out]),gn⟩
      ·have fg:=ae (jU.out.step Hx.out (aiK h1 h2 h3 h4))
       go_wp2;go_roundw
       case rel=>exact⟨k+1,by omega,by go_num,fg.out,gn⟩
       case measure=>simp[intOf];omega
  ·obtain rfl:k=xs.length:=by omega
   have yn:=ae jU.out.all;clear hI;go_wp2;go_ret;exact⟨bq yn.out.symm,aF⟩
theorem LM{md:M.Md}{o:M.Op}(h:M.cm o.af=true):M.jS md o=((M.aq md o.aP).zero==0):=by simp[M.jS,h]
theorem aiM{md:M.Md}{o:M.Op}(h:M.cm o.af=false)(h4:o.af=4):M.jS md o=true:=by
 unfold M.jS;rw[ak (by simp[h]),ay h4]
theorem aiN{md:M.Md}{o:M.Op}(h:M.cm o.af=false)(h4:o.af≠4)(h2:M.dr o.af=true):M.jS md o=((M.aq md o.a).zero==(M.aq md o.to).zero&&(M.aq md o.b).zero==(M.aq md o.to).zero):=by
 unfold M.jS;rw[ak (by simp[h]),ak h4];simp only;rw[ay h2]
theorem aiO{md:M.Md}{o:M.Op}(h:M.cm o.af=false)(h4:o.af≠4)(h2:M.dr o.af=false):M.jS md o=((M.aq md o.a).zero==(M.aq md o.to).zero):=by
 unfold M.jS;rw[ak (by simp[h]),ak h4];simp only;rw[ak (by simp[h2])]
theorem aiP(m:Nat)(md:M.Md)(o:M.Op)(ao:Option Addr)(p c:Nat)(w:World)(h:cN w m md)(hw:lK md) :
  Calls prog 134 #[.pointer (some ⟨m,0,none⟩),.agg (aO o (.slice ao p c))] w fun e w'=>e=.returned (.bool (M.jS md o))/\w.grownBy w' none:=by
 have N0:aj (w.alloc (.cells (aO o (.slice ao p c)) 93)) w.heap.size 93 (aO o (.slice ao p c)):=aj.bB _ _ _;have G0:w.grownBy (w.alloc (.cells (aO o (.slice ao p c)) 93)) none:=aQ _ _ _;have M0:=h.Z G0;clear h;go_enter func134,ntmps134;go_wp2_with (refine dj rfl 93 _ rfl w.heap.size rfl 93 (aO o (.slice ao p c)) (0,0) _ N0 underlying93 rfl Tryz.db ?_)
 cases h1:M.cm o.af with
 | true=>
  refine(yo o (.slice ao p c) true _ h1).mono ?_;rintro e w1⟨rfl,aH⟩;have He:=ae (LM (md:=md) h1);have N1:=N0.kept aH (by simp);have M1:=M0.Z aH;have G1:=aC G0 aH;have c3:w1.cell? ⟨w.heap.size,3,none⟩=some (.int .i64 o.aP):=N1.cell 3;clear h1 aH N0 M0 G0 N1;go_wp2_with fail;refine(iS m md o.aP _ M1 hw.nt).mono ?_;rintro e w2⟨t,hx,⟨a2,p2,c2,rfl⟩,aM⟩;have G2:=aC G1 aM;clear c3 aM M1 G1;go_wp2;go_ret;exact⟨bq (by rw[He.out,hx.out]),aC G2 (aQ _ _ _)⟩
 | false=>
  refine(yo o (.slice ao p c) false _ h1).mono ?_;rintro e w1⟨rfl,aH⟩;have H1:=ae h1;have N1:=N0.kept aH (by simp);have M1:=M0.Z aH;have G1:=aC G0 aH;clear h1 aH N0 M0 G0;have k0:w1.cell? ⟨w.heap.size,0,none⟩=some (.int .i64 o.af):=N1.cell 0;by_cases h4:o.af=4
  ·have He:=ae (aiM (md:=md) H1.out h4)
   have h4':(o.af==4)=true:=by simp[h4]
   clear h4 N1;go_wp2;go_ret;exact⟨bq He.out.symm,G1⟩
  ·have h4':(o.af==4)=false:=by simp[h4]
   have H4:=ae h4;have c1:w1.cell? ⟨w.heap.size,1,none⟩=some (.int .i64 o.a):=N1.cell 1;clear h4;go_wp2_with fail;refine(iS m md o.a _ M1 hw.nt).mono ?_;rintro e w2⟨ta,Wm,⟨a2,p2,c2,rfl⟩,aM⟩;have N2:=N1.kept aM (by simp);have M2:=M1.Z aM;have G2:=aC G1 aM;have c5:w2.cell? ⟨w.heap.size,5,none⟩=some (.int .i64 o.to):=N2.cell 5;have lo2:=N2.lt;clear c1 k0 aM N1 M1 G1;go_wp2_with fail;refine(iS m md o.to _ (M2.Z (aQ _ _ _)) hw.nt).mono ?_;rintro e w3⟨tz,Wo,⟨a3,p3,c3,rfl⟩,aU⟩;have N3:=(N2.alloc _).kept aU (by simp);have A3:aj w3 w2.heap.size 106 (bg ta (.slice a2 p2 c2)):=(aj.bB w2 106 (bg ta (.slice a2 p2 c2))).kept aU (by simp);have M3:=(M2.Z (aQ _ _ _)).Z aU;have G3:=aC (aC G2 (aQ _ _ _)) aU;clear c5 lo2 aU N2 M2 G2;go_wp2_with (refine dj rfl 93 _ rfl w.heap.size rfl 93 (aO o (.slice ao p c)) (0,0) _ (N3.alloc _) underlying93 rfl Tryz.db ?_)
   cases h2:M.dr o.af with
   | false=>
    refine(Bz o (.slice ao p c) false _ h2).mono ?_;rintro e w4⟨rfl,bm⟩;have He:=ae (aiO (md:=md) H1.out H4.out h2);have A4:=(A3.alloc _).kept bm (by simp);have Z4:aj w4 w3.heap.size 106 (bg tz (.slice a3 p3 c3)):=(aj.bB w3 106 (bg tz (.slice a3 p3 c3))).kept bm (by simp);have G4:=aC (aC G3 (aQ _ _ _)) bm;have ca:w4.cell? ⟨w2.heap.size,4,none⟩=some (.int .i64 ta.zero):=A4.cell 4;have cz:w4.cell? ⟨w3.heap.size,4,none⟩=some (.int .i64 tz.zero):=Z4.cell 4;clear h2 bm A3 N3 M3 G3 A4 Z4;go_wp2;go_ret;exact⟨bq (by rw[He.out,Wm.out,Wo.out]),G4⟩
   | true=>
    refine(Bz o (.slice ao p c) true _ h2).mono ?_;rintro e w4⟨rfl,bm⟩;have He:=ae (aiN (md:=md) H1.out H4.out h2);have N4:=(N3.alloc _).kept bm (by simp);have A4:=(A3.alloc _).kept bm (by simp);have Z4:aj w4 w3.heap.size 106 (bg tz (.slice a3 p3 c3)):=(aj.bB w3 106 (bg tz (.slice a3 p3 c3))).kept bm (by simp);have M4:=(M3.Z (aQ _ _ _)).Z bm;have G4:=aC (aC G3 (aQ _ _ _)) bm;have zP:w4.cell? ⟨w.heap.size,2,none⟩=some (.int .i64 o.b):=N4.cell 2;clear h2 bm A3 N3 M3 G3 N4;go_wp2_with fail;refine(iS m md o.b _ M4 hw.nt).mono ?_;rintro e w5⟨tb,hxb,⟨a5,p5,c5,rfl⟩,cJ⟩;have A5:=A4.kept cJ (by simp);have Z5:=Z4.kept cJ (by simp);have G5:=aC G4 cJ;have ca:w5.cell? ⟨w2.heap.size,4,none⟩=some (.int .i64 ta.zero):=A5.cell 4;have cz:w5.cell? ⟨w3.heap.size,4,none⟩=some (.int .i64 tz.zero):=Z5.cell 4;have la:=A5.lt;have lz:=Z5.lt;have kx:=He.out;rw[Wm.out,Wo.out,hxb.out] at kx;have xd:=ae kx;clear cJ A4 Z4 M4 G4 A5 Z5 zP kx
    cases h5:(ta.zero==tz.zero) with
    | false=>
     go_wp2;go_ret;exact⟨bq (by rw[xd.out,h5];rfl),aC G5 (aQ _ _ _)⟩
    | true=>
     go_wp2;go_ret;exact⟨bq (by rw[xd.out,h5];rfl),aC G5 (aQ _ _ _)⟩
theorem Wp{w:World}{base:Nat}{e:TypeId}{size n:Nat}{a:Option Addr}{m c:Nat}{xs:List Value}(h:w.ownsRow base e size (.slice a m c) n xs):m<=9223372036854775807:=by
 rcases h.2 with⟨hv,_⟩|⟨g,cap,dV,hv,hb,hh,hr,hm,_⟩
 ·injection hv with h1 h2 h3;omega
 ·injection hv with h1 h2 h3
  unfold maxLen at hm;omega
theorem aiT{md:M.Md}{k:Nat}{t:M.Tn}(ht:md.au[k]?=some t)(h:M.qA t=false):M.sC md=false:=by
 unfold M.sC;rw[zV ht h];rfl
theorem Qg{md:M.Md}{k:Nat}{o:M.Op}(ho:md.ag[k]?=some o)(h:M.lG md o=false):M.sC md=false:=by
 unfold M.sC;rw[zV ho h,Bool.and_false]
theorem aiU{md:M.Md}(h1:vh M.qA md.au md.au.length)(h2:vh (M.lG md) md.ag md.ag.length):M.sC md=true:=by
 unfold M.sC;rw[h1.all,h2.all];rfl
theorem aiV{md:M.Md}{o:M.Op}(h:o.hi<o.lo):M.lG md o=false:=by unfold M.lG;rw[eG h];rfl
theorem aiW{md:M.Md}{o:M.Op}(h:o.bM.all M.rj=false):M.lG md o=false:=by unfold M.lG;rw[h,Bool.and_false,Bool.false_and]
theorem aiX{md:M.Md}{o:M.Op}(h:¬o.hi<o.lo)(h2:o.bM.all M.rj=true):M.lG md o=M.jS md o:=by unfold M.lG;rw[eD h,h2];rfl
theorem aiY(m:Nat)(md:M.Md)(w:World)(h:cN w m md)(hw:lK md) :
  Calls prog 91 #[.pointer (some ⟨m,0,none⟩)] w fun e w'=>e=.returned (.bool (M.sC md))/\w.grownBy w' none:=by
 have iq:=hw.nt;have j9:=hw.no;have HM:=ae h;have hW:=ae hw;obtain⟨a1,c1,a2,c2,a3,c3,hB,hT,hO,hU⟩:=h;have q0:w.cell? ⟨m,0,none⟩=some (.slice a1 md.au.length c1):=hB.cell 0;clear hU hw;go_enter func91,ntmps91;go_wp2;clear q0;go_loopw[12] (fun i wr=>∃k:Nat,k<=md.au.length/\i=.int .i64 k/\vh M.qA md.au k/\w.grownBy wr none) (fun i _=>md.au.length-(intOf i).toNat)
 case atStart=>exact⟨0,bK _,rfl,fun j x hj=>by omega,gL _ _⟩
 case round=>
  obtain⟨k,hk,rfl,kH,aF⟩:=hrel;have jU:=ae kH;clear kH;by_cases aK:k<md.au.length
  ·obtain⟨t,ht⟩:∃t,md.au[k]?=some t:=⟨_,aT aK⟩
   obtain⟨g,ao,n',cp,rfl,-,-,hI,d0,d1,d2,d3,d4,d5⟩:=(hT.Z aF).get k t ht;have gN:g<wr.heap.size:=pY wr _ d0;have lM:=hI.Z (aQ wr (.cells (bg t (.slice ao n' cp)) 106) none);have aH:w.grownBy (wr.alloc (.cells (bg t (.slice ao n' cp)) 106)) none:=aC aF (aQ _ _ _);have Ht:=ae ht;clear ht hT hO hB hI;go_wp2_with fail;refine(aiJ t ao n' cp _ _ lM (Wp lM)).mono ?_;rintro e w3⟨rfl,aU⟩;have jz:=aC aH aU;clear aU aH lM aF d0 d1 d2 d3 d4 d5
   cases hr:M.qA t with
   | false=>
    have He:=ae (aiT Ht.out hr);clear hr;go_wp2;go_ret;exact⟨bq He.out.symm,jz⟩
   | true=>
    have fg:=ae (jU.out.step Ht.out hr);clear hr;go_wp2;go_roundw
    case rel=>exact⟨k+1,by omega,by go_num,fg.out,jz⟩
    case measure=>simp[intOf];omega
  ·obtain rfl:k=md.au.length:=by omega
   have q1:wr.cell? ⟨m,1,none⟩=some (.slice a2 md.ag.length c2):=(hB.kept aF (by simp)).cell 1;clear hT hB;go_wp2;clear q1;go_loopw[25] (fun i wr=>∃k:Nat,k<=md.ag.length/\i=.int .i64 k/\vh (M.lG md) md.ag k/\w.grownBy wr none) (fun i _=>md.ag.length-(intOf i).toNat)
   case atStart=>exact⟨0,bK _,rfl,fun j x hj=>by omega,aF⟩
   case round=>
    clear aF;obtain⟨k,rC,rfl,kH,aF⟩:=hrel;have Wq:=ae kH;clear kH;by_cases kZ:k<md.ag.length
    ·obtain⟨o,ho⟩:∃o,md.ag[k]?=some o:=⟨_,aT kZ⟩
     obtain⟨g,ao,p,cp,rfl,gN,-,hS,hR⟩:=(hO.Z aF).get k o ho;have Ho:=ae ho;have mF:cN (wr.alloc (.cells (aO o (.slice ao p cp)) 93)) m md:=(HM.out.Z aF).Z (aQ _ _ _);have aH:w.grownBy (wr.alloc (.cells (aO o (.slice ao p cp)) 93)) none:=aC aF (aQ _ _ _);have Qh:gy (wr.alloc (.cells (aO o (.slice ao p cp)) 93)) (m+1) (.slice ao p cp) o.bM:=eW hS (aQ _ _ _);have HB:=ae (aj.bB wr 93 (aO o (.slice ao p cp)));have v9:=ov9 o (.slice ao p cp);have Dw:=aic o (.slice ao p cp);have Dx:=aid o (.slice ao p cp);clear ho hO hS;by_cases h1:o.hi<o.lo
     ·have He:=ae (Qg Ho.out (aiV h1))
      go_wp2_with (first|(refine wpList_load_mid rfl 93 _ rfl g (k*16) rfl (aO o (.slice ao p cp)).toList _ hR underlying93 rfl Tryz.db ?_)|(refine aaY rfl 93 _ _ rfl wr.heap.size (aO o (.slice ao p cp)) rfl rfl 93 (aR 0 0 0 0 0 0 0 0 false (.slice none 0 0) 0 0 0 0 0 0) (aj.bB wr 93 _) Tryz.db rfl (nY ..) ?_;rw[World.setRow_alloc_new]));go_ret;exact⟨bq He.out.symm,aH⟩
     ·go_wp2_with (first|(refine wpList_load_mid rfl 93 _ rfl g (k*16) rfl (aO o (.slice ao p cp)).toList _ hR underlying93 rfl Tryz.db ?_)|(refine aaY rfl 93 _ _ rfl wr.heap.size (aO o (.slice ao p cp)) rfl rfl 93 (aR 0 0 0 0 0 0 0 0 false (.slice none 0 0) 0 0 0 0 0 0) (aj.bB wr 93 _) Tryz.db rfl (nY ..) ?_;rw[World.setRow_alloc_new]))
      refine(aiL ao p cp (m+1) o.bM _ Qh (Wp Qh)).mono ?_;rintro e w3⟨rfl,aU⟩;have jz:=aC aH aU;have vd:=mF.Z aU;have iA:=HB.out.kept aU (by simp);have yt:¬o.hi<o.lo:=by omega
      clear aU aH mF hR aF Qh v9 Dw Dx
      cases hr:o.bM.all M.rj with
      | false=>
       have He:=ae (Qg Ho.out (aiW hr));clear hr vd iA;go_wp2;go_ret;exact⟨bq He.out.symm,jz⟩
      | true=>
       have Hq:=ae (aiX (md:=md) yt hr);clear hr yt;go_wp2_with (refine dj rfl 93 _ rfl wr.heap.size rfl 93 (aO o (.slice ao p cp)) (0,0) _ iA underlying93 rfl Tryz.db ?_);refine(aiP m md o ao p cp _ vd hW.out).mono ?_;rintro e w4⟨rfl,bm⟩;have sF:=aC jz bm;clear bm jz vd iA
       cases hz:M.jS md o with
       | false=>
        have He:=ae (Qg Ho.out (by rw[Hq.out];exact hz));clear hz;go_wp2;go_ret;exact⟨bq He.out.symm,sF⟩
       | true=>
        have fg:=ae (Wq.out.step Ho.out (by rw[Hq.out];exact hz));clear hz;go_wp2;go_roundw
        case rel=>exact⟨k+1,by omega,by go_num,fg.out,sF⟩
        case measure=>simp[intOf];omega
    ·obtain rfl:k=md.ag.length:=by omega
     have He:=ae (aiU jU.out Wq.out);clear hO;go_wp2;go_ret;exact⟨bq He.out.symm,aF⟩
theorem aiZ(m:Nat)(md:M.Md)(w:World)(h:cN w m md)(hw:lK md) :
  Calls prog 51 #[.pointer (some ⟨m,0,none⟩)] w fun e w'=>e=.returned (.int .i64 (M.check md))/\w.grownBy w' none:=by
 go_enter func51,ntmps51;go_wp2_with fail;refine(ahA m md w h hw).mono ?_;rintro e w1⟨rfl,aH⟩;have M1:=h.Z aH
 cases h1:M.m6 md with
 | false=>
  have He:=ae (show M.check md=3 by unfold M.check;rw[ay h1]);clear h1;go_wp2;go_ret;exact⟨cE He.out.symm,aH⟩
 | true=>
  have H1:=ae h1;clear h1;go_wp2_with fail;refine(ah6 m md w1 M1 hw).mono ?_;rintro e w2⟨rfl,aM⟩;have M2:=M1.Z aM;have G2:=aC aH aM;clear aH aM M1
  cases h2:M.lF md with
  | false=>
   have He:=ae (show M.check md=4 by unfold M.check;rw[ak (by simp[H1.out]),ay h2]);clear h2;go_wp2;go_ret;exact⟨cE He.out.symm,G2⟩
  | true=>
   have H2:=ae h2;clear h2;go_wp2_with fail;refine(aiI m md w2 M2 hw).mono ?_;rintro e w3⟨rfl,aU⟩;have M3:=M2.Z aU;have G3:=aC G2 aU;clear aU G2 M2
   cases h3:M.zI md with
   | false=>
    have He:=ae (show M.check md=5 by unfold M.check;rw[ak (by simp[H1.out]),ak (by simp[H2.out]),ay h3]);clear h3;go_wp2;go_ret;exact⟨cE He.out.symm,G3⟩
   | true=>
    have H3:=ae h3;clear h3;go_wp2_with fail;refine(aiY m md w3 M3 hw).mono ?_;rintro e w4⟨rfl,bm⟩;have G4:=aC G3 bm;clear bm G3 M3
    cases h4:M.sC md with
    | false=>
     have He:=ae (show M.check md=6 by unfold M.check;rw[ak (by simp[H1.out]),ak (by simp[H2.out]),ak (by simp[H3.out]),ay h4]);clear h4;go_wp2;go_ret;exact⟨cE He.out.symm,G4⟩
    | true=>
     have He:=ae (show M.check md=0 by unfold M.check;rw[ak (by simp[H1.out]),ak (by simp[H2.out]),ak (by simp[H3.out]),ak (by simp[h4])]);clear h4;go_wp2;go_ret;exact⟨cE He.out.symm,G4⟩
end Go.Proofs.YtcnhfffgbamonabGreat
