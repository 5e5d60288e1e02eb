import Derived.Test.YtcnhfffgbamonabGreatZ54
set_option maxRecDepth 100000
set_option maxHeartbeats 6400000
namespace Go.Proofs.YtcnhfffgbamonabGreat
open Go.Proofs.Tryz
open Go.RowKit
structure ON(w:World)(r gb ga c1 p off gi ci gn cn pc:Nat)(na nw ni st sm af:Int)(a wt:M.Tn)(nA nW:Nat):Prop where
 q0:w.cell? ⟨r,0,none⟩=some (.pointer (some ⟨gb,0,none⟩))
 q2:w.cell? ⟨gb,0,none⟩=some (.slice (some ⟨ga,0,none⟩) pc c1)
 o0:w.cell? ⟨p,off,none⟩=some (.int .i64 af)
 o1:w.cell? ⟨p,off+1,none⟩=some (.slice (some ⟨gi,0,none⟩) 3 ci)
 o3:w.cell? ⟨p,off+3,none⟩=some (.slice (some ⟨gn,0,none⟩) 6 cn)
 i0:w.cell? ⟨gi,0,none⟩=some (.int .i64 na)
 i1:w.cell? ⟨gi,1,none⟩=some (.int .i64 nw)
 i2:w.cell? ⟨gi,2,none⟩=some (.int .i64 ni)
 n0:w.cell? ⟨gn,0,none⟩=some (.int .i64 st)
 n1:w.cell? ⟨gn,1,none⟩=some (.int .i64 sm)
 ah:w.cell? ⟨ga,nA*6+1,none⟩=some (.int .i64 a.h)
 aw:w.cell? ⟨ga,nA*6+2,none⟩=some (.int .i64 a.w)
 ac:w.cell? ⟨ga,nA*6+3,none⟩=some (.int .i64 a.c)
 az:w.cell? ⟨ga,nA*6+4,none⟩=some (.int .i64 a.zero)
 wh:w.cell? ⟨ga,nW*6+1,none⟩=some (.int .i64 wt.h)
 ww:w.cell? ⟨ga,nW*6+2,none⟩=some (.int .i64 wt.w)
theorem ON.Z{w w':World}{r gb ga c1 p off gi ci gn cn pc:Nat}{na nw ni st sm af:Int}{a wt:M.Tn}{nA nW:Nat}(h:ON w r gb ga c1 p off gi ci gn cn pc na nw ni st sm af a wt nA nW)(hg:w.grownBy w' none):ON w' r gb ga c1 p off gi ci gn cn pc na nw ni st sm af a wt nA nW:=
 ⟨aG hg h.q0,aG hg h.q2,aG hg h.o0,aG hg h.o1,aG hg h.o3,aG hg h.i0,aG hg h.i1,aG hg h.i2,aG hg h.n0,aG hg h.n1,aG hg h.ah,aG hg h.aw,aG hg h.ac,aG hg h.az,aG hg h.wh,aG hg h.ww⟩
theorem arE(r gb ga c1 cb p off:Nat)(g:R.bX)(E:List (List Int))(o:M.Op)(na nw ni:Nat)(tb:M.Tn)(rd:D.gD)(y x c:Int)(w:World)(hR:jy w r gb ga c1 cb g E)(hO:jY w p off (R.bJ o))
  (dd:(R.bJ o).ins=[(na:Int),(nw:Int),(ni:Int)]) (pQ:∃r4,(R.bJ o).cO=o.aE::(if o.same=true then 1 else 0)::r4/\r4.length=4)
  (ta:g.ts[na]?=some rd.a) (tw:g.ts[nw]?=some rd.w) (tbi:g.ts[ni]?=some tb) (ea:E[na]?=some rd.la) (ew:E[nw]?=some rd.lw) (eb:E[ni]?=some rd.mH) (hb:0<=tb.w/\tb.w<=255/\0<=tb.c/\tb.c<=255) (hW:R.Win o rd y x c) :
  Calls prog 148 #[.pointer (some ⟨r,0,none⟩),.pointer (some ⟨p,off,none⟩),.int .i64 y,.int .i64 x,.int .i64 c] w fun e w'=>e=.returned (.int .i64 (D.tS o rd y x c))/\w.grownBy w' none:=by
 obtain⟨r4,tA,vG⟩:=pQ;obtain⟨ai,ci,an,cn,o0,o1,o2,o3,hI,hN⟩:=hO;rw[dd] at hI o1;rw[tA] at hN o3;obtain⟨gi,e1,-,-,i0⟩:=hI.get 0 (na:Int) rfl;subst e1;obtain⟨_,e1,-,-,i1⟩:=hI.get 1 (nw:Int) rfl;injection e1 with e1;injection e1 with e1 _ _;subst e1;obtain⟨_,e1,-,-,i2⟩:=hI.get 2 (ni:Int) rfl;injection e1 with e1;injection e1 with e1 _ _;subst e1;obtain⟨gn,e1,-,-,n0⟩:=hN.get 0 o.aE rfl;subst e1;obtain⟨_,e1,-,-,n1⟩:=hN.get 1 (if o.same=true then 1 else 0) rfl;injection e1 with e1;injection e1 with e1 _ _;subst e1;have qh:(o.aE::(if o.same=true then (1:Int) else 0)::r4).length=6:=by simp[vG]
 rw[qh] at o3;have kY:([(na:Int),(nw:Int),(ni:Int)]:List Int).length=3:=rfl;rw[kY] at o1;have q0:=hR.p;have q2:=hR.t.q;have hA:=hR.t.t na rd.a ta;have TP:=hR.t.t nw rd.w tw;have hla:=M.bP ta;have hlw:=M.bP tw;have vU:=hR.oX;have PR:((if o.same=true then (1:Int) else 0)==1)=o.same:=by cases o.same<;>rfl
 have HR:=ae hR;have TQ:=ae hW;have DP:=ae ta;have MP:=ae tw;have Hea:=ae ea;have Hew:=ae ew;have Ky:((R.bJ o).af:Int)=o.af:=rfl;rw[Ky] at o0;have ah:=hA.h;have aw:=hA.v;have ac:=hA.c;have az:=hA.z;have wh:=TP.h;have ww:=TP.v;have L1:=D.Qm (length:=rd.a.h) (n:=rd.w.h) (s:=o.aE) o.same (by have:=hW.ah;omega) hW.st.1 hW.wh.1;have L2:=D.Qm (length:=rd.a.w) (n:=rd.w.w) (s:=o.aE) o.same (by have:=hW.aw;omega) hW.st.1 hW.ww.1;have R1:=R.adx (n:=rd.w.h) (s:=o.aE) o.same hW.ah.1 hW.ah.2 hW.wh.1 hW.wh.2 hW.st.1 hW.st.2;have R2:=R.adx (n:=rd.w.w) (s:=o.aE) o.same hW.aw.1 hW.aw.2 hW.ww.1 hW.ww.2 hW.st.1 hW.st.2;have jk:=ae (fun W=>acx rd.a.h rd.w.h o.aE o.same W (by have:=hW.ah;omega) (by have:=hW.ah;omega) (by have:=hW.wh;omega) (by have:=hW.wh;omega) hW.st.1 (by have:=hW.st;omega));have iW:=ae (fun W=>acx rd.a.w rd.w.w o.aE o.same W (by have:=hW.aw;omega) (by have:=hW.aw;omega) (by have:=hW.ww;omega) (by have:=hW.ww;omega) hW.st.1 (by have:=hW.st;omega));rw[L1] at jk;rw[L2] at iW;have rW:=ae (fun(W:World) (h:jy W r gb ga c1 cb g E)=>uN r gb ga c1 cb g E ni tb rd.mH 0 0 c W h tbi eb (by omega) (by omega) (by have:=hW.cr;omega) ⟨hb.1,hb.2.1⟩ hb.2.2 (by rw[Int.zero_mul,Int.zero_add,Int.zero_mul,Int.zero_add];exact hW.cr.1) (by rw[Int.zero_mul,Int.zero_add,Int.zero_mul,Int.zero_add];exact hW.bi) (by have:=hW.bl;omega));have eB:D.bN tb rd.mH 0 0 c=R.ws o rd y x c 0 0:=by rw[R.aqT];unfold D.bN;rw[Int.zero_mul,Int.zero_add,Int.zero_mul,Int.zero_add]
 rw[eB] at rW;obtain⟨tY,adC⟩:∃t,Hid (D.kI rd.a.h rd.w.h o.aE o.same=t):=⟨_,rfl⟩;obtain⟨left,adD⟩:∃t,Hid (D.kI rd.a.w rd.w.w o.aE o.same=t):=⟨_,rfl⟩;rw[adC.out] at jk R1;rw[adD.out] at iW R2;obtain⟨smv,arI⟩:∃n,Hid ((if o.same=true then (1:Int) else 0)=n):=⟨_,rfl⟩;rw[arI.out] at n1 PR;have HM:Hid (ON w r gb ga c1 p off gi ci gn cn g.ts.length na nw ni o.aE smv o.af rd.a rd.w na nw):=⟨q0,q2,o0,o1,o3,i0,i1,i2,n0,n1,ah,aw,ac,az,wh,ww⟩;obtain⟨pc,Kz⟩:∃n,Hid (g.ts.length=n):=⟨_,rfl⟩;rw[Kz.out] at q2 hla hlw vU HM;clear hI hN tA hR hA TP ta tw ea ew eb tbi L1 L2 dd hW hb eB kY qh vG Ky o0 o1 o2 o3 i0 i1 i2 n0 n1 ah aw ac az wh ww q0 q2;have q0:=HM.out.q0;have q2:=HM.out.q2;have o1:=HM.out.o1;have i0:=HM.out.i0;go_enter func148,ntmps148;go_wp2_with fail;go_quiet (fail);have G1:=ae (bF w nq none);have M1:=ae (HM.out.Z G1.out);clear q0 q2 o1 i0;generalize w.drewN nq=w1 at *;have q0:=M1.out.q0;have q2:=M1.out.q2;have o1:=M1.out.o1;have i1:=M1.out.i1;go_wp2_with fail;go_quiet (fail);have g2:=bF w1 nq none;have G2:=ae (aC G1.out g2);have M2:=ae (M1.out.Z g2);clear q0 q2 o1 i1 g2 M1 G1;generalize w1.drewN nq=w2 at *;have o3:=M2.out.o3;have n0:=M2.out.n0;have n1:=M2.out.n1;have ah:=M2.out.ah;have wh:=M2.out.wh;go_wp2_with fail;go_quiet (exact mQ (jk.out _));have g3:=bF w2 nq none;have G3:=ae (aC G2.out g3);have M3:=ae (M2.out.Z g3);clear o3 n0 n1 ah wh g3 M2 G2 jk;generalize w2.drewN nq=w3 at *;have o3:=M3.out.o3;have n1:=M3.out.n1;have aw:=M3.out.aw;have ww:=M3.out.ww;go_wp2_with fail;go_quiet (exact mQ (iW.out _));have g4:=bF w3 nq none;have G4:=ae (aC G3.out g4);have M4:=ae (M3.out.Z g4);clear o3 n1 aw ww g4 M3 G3;generalize w3.drewN nq=w4 at *;have o1:=M4.out.o1;have i2:=M4.out.i2;go_wp2_with fail;refine(rW.out w4 (HR.out.Z G4.out)).mono ?_;rintro e w5⟨rfl,nd5,rfl⟩
 have g5:=bF w4 nd5 none;have G5:=ae (aC G4.out g5);have M5:=ae (M4.out.Z g5);clear o1 i2 g5 M4 G4 iW rW;generalize w4.drewN nd5=w5 at *;have hW:=TQ.out;have mys:=O.kO (a:=y) (b:=o.aE) (A:=255) (B:=255) (by have:=hW.yr;omega) (by have:=hW.st;omega);have mxs:=O.kO (a:=x) (b:=o.aE) (A:=255) (B:=255) (by have:=hW.xr;omega) (by have:=hW.st;omega);have wy:IntKind.i64.wrap (y*o.aE)=y*o.aE:=by rw[cS];omega
 have wx:IntKind.i64.wrap (x*o.aE)=x*o.aE:=by rw[cS];omega
 have Hru:Hid (∀i:Nat,R.ru o rd y i=y*o.aE-tY+i):=fun i=>by unfold R.ru;rw[adC.out]
 have Hrv:Hid (∀j:Nat,R.rv o rd x j=x*o.aE-left+j):=fun j=>by unfold R.rv;rw[adD.out]
 obtain⟨ys,Hys⟩:∃v,Hid (y*o.aE=v):=⟨_,rfl⟩;obtain⟨xs,Hxs⟩:∃v,Hid (x*o.aE=v):=⟨_,rfl⟩;rw[Hys.out] at mys Hru;rw[Hxs.out] at mxs Hrv;have wy':IntKind.i64.wrap (y*o.aE)=ys:=by rw[wy];exact Hys.out
 have wx':IntKind.i64.wrap (x*o.aE)=xs:=by rw[wx];exact Hxs.out
 clear wy wx;have hwh:=hW.wh;have hww:=hW.ww;have TR:=hW.ac;have Gc:=hW.cr;obtain⟨nh,TS⟩:=fR (show 0<=rd.w.h by omega);obtain⟨nv,TT⟩:=fR (show 0<=rd.w.w by omega);obtain⟨nc,E9⟩:=fR (show 0<=rd.a.c by omega);have OP:=ae TS;have OQ:=ae TT;have KA:=ae E9;rw[TS] at hwh;rw[TT] at hww;rw[E9] at TR;have EF:=ae (fun(i j:Nat) (hi:i<=255) (hj:j<=255)=>R.aqX (o:=o) hW.wH y x c hi hj hW.ww.2);have haz:=hW.wH.za;clear hW TS TT E9;go_wp2;go_loopw[16,17] (fun s iv wr=>∃i:Nat,i<=nh/\s=.int .i64 (R.ws o rd y x c i 0)/\iv=.int .i64 i/\Hid (w5.grownBy wr none)) (fun _ iv _=>nh-(intOf iv).toNat)
 case atStart=>exact⟨0,bK _,rfl,rfl,gL _ _⟩
 case round=>
  obtain⟨i,hi,rfl,rfl,C6⟩:=hrel;have wh:wr.cell? ⟨ga,nw*6+1,none⟩=some (.int .i64 nh):=by rw[<-OP.out];exact(M5.out.Z C6.out).wh
  by_cases aK:i<nh
  ·go_wp2
   clear wh;go_loopw[16,18] (fun s jv wr=>∃j:Nat,j<=nv/\s=.int .i64 (R.ws o rd y x c i j)/\jv=.int .i64 j/\Hid (w5.grownBy wr none)) (fun _ jv _=>nv-(intOf jv).toNat)
   case atStart=>exact⟨0,bK _,rfl,rfl,C6.out⟩
   case round=>
    clear C6;obtain⟨j,hj,rfl,rfl,tr⟩:=hrel;have ww:wr.cell? ⟨ga,nw*6+2,none⟩=some (.int .i64 nv):=by rw[<-OQ.out];exact(M5.out.Z tr.out).ww
    by_cases FF:j<nv
    ·have Mj:=ae (M5.out.Z tr.out)
     have Rj:=ae (HR.out.Z (aC G5.out tr.out));have o1:=Mj.out.o1;have i0:=Mj.out.i0;obtain⟨u,Hu⟩:∃u,Hid (R.ru o rd y i=u):=⟨_,rfl⟩;obtain⟨v,Hv⟩:∃v,Hid (R.rv o rd x j=v):=⟨_,rfl⟩;have hu:ys-tY+(i:Int)=u:=by rw[<-Hu.out,Hru.out]
     have hv:xs-left+(j:Int)=v:=by rw[<-Hv.out,Hrv.out]
     have wu1:IntKind.i64.wrap (ys-tY)=ys-tY:=by rw[cS];omega
     have wu2:IntKind.i64.wrap (ys-tY+(i:Int))=u:=by rw[hu,cS];omega
     have wv1:IntKind.i64.wrap (xs-left)=xs-left:=by rw[cS];omega
     have wv2:IntKind.i64.wrap (xs-left+(j:Int))=v:=by rw[hv,cS];omega
     have ru1:-200000<=u/\u<=200000:=by omega
     have rv1:-200000<=v/\v<=200000:=by omega
     have TU:=ae (R.aqU o rd y x c i j);have xE:=EF.out i j (by omega) (by omega);have yQ:=EF.out i (j+1) (by omega) (by omega);have HCi:=ae (adt r gb ga c1 cb g E na rd.a u v wr Rj.out DP.out);clear hu hv;go_wp2_with fail;refine HCi.out.mono ?_;rintro e wz⟨rfl,KB⟩;subst KB;clear HCi o1 i0 ww wu1 wu2 wv1 wv2
     cases dd:D.oc rd.a u v with
     | false=>
      have He:=ae (show R.ws o rd y x c i (j+1)=R.ws o rd y x c i j by rw[TU.out,R.aqY (by rw[Hu.out,Hv.out];exact dd)];omega);clear dd;go_wp2;go_roundw
      case rel=>exact⟨j+1,by omega,by rw[He.out],by go_num,tr.out⟩
      case measure=>simp[intOf];omega
     | true=>
      have Gg:=ae dd;clear dd;have o0:=Mj.out.o0;have o1:=Mj.out.o1;have i0:=Mj.out.i0;have i1:=Mj.out.i1;have az:=Mj.out.az;have lU:=TQ.out;by_cases rC:o.af=2
      ·have b2:(o.af==2)=true:=by simp[rC]
       obtain⟨IU,IV⟩:=lU.arB rC;have ia:=R.wI lU.la Gg.out Gc.1 IV;have iw:=R.wI (y:=(i:Int)) (x:=(j:Int)) (c:=c) lU.lw ((O.sM _ _ _).mpr ⟨by omega,by rw[OP.out];omega,by omega,by rw[OQ.out];omega⟩) Gc.1 IU;have He:=ae (show R.ws o rd y x c i (j+1)=R.ws o rd y x c i j+(D.bN rd.a rd.la u v c-rd.a.zero)*D.bN rd.w rd.lw i j c by rw[TU.out,R.aqZ (by rw[Hu.out,Hv.out];exact Gg.out) rC,Hu.out,Hv.out]);obtain⟨u0,u1,v0,v1⟩:=(O.sM _ _ _).mp Gg.out;have hah:=lU.ah;have TV:=lU.aw;have tE:=ae (fun(W:World) (h:jy W r gb ga c1 cb g E)=>uN r gb ga c1 cb g E na rd.a rd.la u v c W h DP.out Hea.out (by omega) (by omega) (by omega) ⟨by omega,TV.2⟩ ⟨by have:=lU.ac;omega,lU.ac.2⟩ ia.1 ia.2 (by have:=lU.OM;omega));have rR:=ae (fun(W:World) (h:jy W r gb ga c1 cb g E)=>uN r gb ga c1 cb g E nw rd.w rd.lw i j c W h MP.out Hew.out (by omega) (by omega) (by omega) ⟨by have:=lU.ww;omega,lU.ww.2⟩ ⟨by have:=lU.wc;omega,lU.wc.2⟩ iw.1 iw.2 (by have:=lU.lw5;omega));have rp:=R.uK (t:=rd.a) lU.wH.ca u v c;have rq:=R.uK (t:=rd.w) lU.wH.cw (i:Int) (j:Int) c;obtain⟨pv,Gh⟩:∃v',Hid (D.bN rd.a rd.la u v c=v'):=⟨_,rfl⟩;obtain⟨qv,C7⟩:∃v',Hid (D.bN rd.w rd.lw i j c=v'):=⟨_,rfl⟩;rw[Gh.out] at rp tE He;rw[C7.out] at rq rR He;have mm:=O.yz rp haz rq;rw[He.out] at yQ;obtain⟨sv,mZ⟩:∃v',Hid (R.ws o rd y x c i j=v'):=⟨_,rfl⟩;rw[mZ.out] at xE yQ He ⊢;have k1:IntKind.i64.wrap (pv-rd.a.zero)=pv-rd.a.zero:=by rw[cS];omega
       have k2:IntKind.i64.wrap ((pv-rd.a.zero)*qv)=(pv-rd.a.zero)*qv:=by rw[cS];omega
       have k3:IntKind.i64.wrap (sv+(pv-rd.a.zero)*qv)=sv+(pv-rd.a.zero)*qv:=by rw[cS];omega
       clear lU ia iw IU IV u0 u1 v0 v1 hah TV rp rq mm xE yQ;go_wp2_with fail;refine(tE.out _ Rj.out).mono ?_;rintro e wa⟨rfl,TW,EG⟩;have wJ:=bF wz TW none;rw[<-EG] at wJ;have Ma:=ae (Mj.out.Z wJ);have Ra:=ae (Rj.out.Z wJ);have TX:=ae (aC tr.out wJ);clear EG wJ o0 o1 i0 i1 az;have o1:=Ma.out.o1;have i1:=Ma.out.i1;go_wp2_with fail;refine(rR.out _ Ra.out).mono ?_;rintro e wb⟨rfl,JP,A7⟩;have C8:=bF wa JP none;rw[<-A7] at C8;have Mb:=ae (Ma.out.Z C8);have TY:=ae (aC TX.out C8);clear A7 C8 o1 i1 tE rR;have az:=Mb.out.az;go_wp2;go_roundw
       case rel=>exact⟨j+1,by omega,by rw[He.out],by go_num,TY.out⟩
       case measure=>simp[intOf];omega
      ·have b2:(o.af==2)=false:=by simp[rC]
       obtain⟨u0,u1,v0,v1⟩:=(O.sM _ _ _).mp Gg.out;have hah:=lU.ah;have TV:=lU.aw;have He:=ae (show R.ws o rd y x c i (j+1)=R.ws o rd y x c i j+D.S (R.iM rd u v c i j) nc by rw[TU.out,R.aq0 (by rw[Hu.out,Hv.out];exact Gg.out) rC,Hu.out,Hv.out,show rd.a.c.toNat=nc by rw[KA.out];omega]);obtain⟨sv,mZ⟩:∃v',Hid (R.ws o rd y x c i j=v'):=⟨_,rfl⟩;rw[mZ.out] at xE He ⊢;have TZ:Hid (∀k:Nat,k<nc->0<=(u*rd.a.w+v)*rd.a.c+k/\(u*rd.a.w+v)*rd.a.c+k<rd.la.length):=fun k hk=>R.wI lU.la Gg.out (by omega) (by rw[KA.out];omega);have arP:Hid (∀k:Nat,k<nc->(0<=c*rd.a.c+k/\c*rd.a.c+k<=255)/\0<=((i:Int)*rd.w.w+j)*rd.w.c+(c*rd.a.c+k)/\((i:Int)*rd.w.w+j)*rd.w.c+(c*rd.a.c+k)<rd.lw.length):=fun k hk=>by
        have f:=lU.sN rC k (by omega) (by rw[KA.out];omega);have:=lU.wc;exact⟨⟨f.1,by omega⟩,R.wI (y:=(i:Int)) (x:=(j:Int)) (c:=c*rd.a.c+k) lU.lw ((O.sM _ _ _).mpr ⟨by omega,by rw[OP.out];omega,by omega,by rw[OQ.out];omega⟩) f.1 f.2⟩
       have adP:=ae (fun(n:Nat) (hn:n<=255)=>R.adm lU.wH u v c i j n hn);have mcc:=O.kO (a:=c) (b:=rd.a.c) (A:=255) (B:=255) (by omega) (by have:=lU.ac;omega);go_wp2;clear o0 o1 i0 i1 az;go_loopw[16,24] (fun s kv wr=>∃k:Nat,k<=nc/\s=.int .i64 (sv+D.S (R.iM rd u v c i j) k)/\kv=.int .i64 k/\Hid (w5.grownBy wr none)) (fun _ kv _=>nc-(intOf kv).toNat)
       case atStart=>exact⟨0,bK _,by show _=Value.int .i64 (sv+0);rw[Int.add_zero],rfl,tr.out⟩
       case round=>
        clear tr;obtain⟨k,rB,rfl,rfl,jH⟩:=hrel;have Mk:=ae (M5.out.Z jH.out);have Rk:=ae (HR.out.Z (aC G5.out jH.out));have ac:wr.cell? ⟨ga,na*6+3,none⟩=some (.int .i64 nc):=by rw[<-KA.out];exact Mk.out.ac
        by_cases yY:k<nc
        ·have lJ:=TQ.out
         have ia:=TZ.out k yY;obtain⟨icr,iw⟩:=arP.out k yY;have tE:=ae (fun(W:World) (h:jy W r gb ga c1 cb g E)=>uN r gb ga c1 cb g E na rd.a rd.la u v k W h DP.out Hea.out (by omega) (by omega) (by omega) ⟨by have:=lJ.aw;omega,lJ.aw.2⟩ ⟨by have:=lJ.ac;omega,lJ.ac.2⟩ ia.1 ia.2 (by have:=lJ.OM;omega));have rR:=ae (fun(W:World) (h:jy W r gb ga c1 cb g E)=>uN r gb ga c1 cb g E nw rd.w rd.lw i j (c*rd.a.c+k) W h MP.out Hew.out (by omega) (by omega) (by omega) ⟨by have:=lJ.ww;omega,lJ.ww.2⟩ ⟨by have:=lJ.wc;omega,lJ.wc.2⟩ iw.1 iw.2 (by have:=lJ.lw5;omega));have rp:=R.uK (t:=rd.a) lJ.wH.ca u v k;have rq:=R.uK (t:=rd.w) lJ.wH.cw (i:Int) (j:Int) (c*rd.a.c+k);have KC:Hid (D.S (R.iM rd u v c i j) (k+1)=D.S (R.iM rd u v c i j) k+(D.bN rd.a rd.la u v k-rd.a.zero)*D.bN rd.w rd.lw i j (c*rd.a.c+k)):=rfl;have t1:=adP.out k (by omega);have t2:=adP.out (k+1) (by omega);rw[KC.out] at t2;obtain⟨pv,Gh⟩:∃v',Hid (D.bN rd.a rd.la u v k=v'):=⟨_,rfl⟩;obtain⟨qv,C7⟩:∃v',Hid (D.bN rd.w rd.lw i j (c*rd.a.c+k)=v'):=⟨_,rfl⟩;rw[Gh.out] at rp tE KC t2;rw[C7.out] at rq rR KC t2;have mm:=O.yz rp haz rq;obtain⟨tv,T0⟩:∃v',Hid (D.S (R.iM rd u v c i j) k=v'):=⟨_,rfl⟩;rw[T0.out] at t1 t2 KC ⊢;rw[KA.out] at mcc icr rR;have k1:IntKind.i64.wrap (pv-rd.a.zero)=pv-rd.a.zero:=by rw[cS];omega
         have k2:IntKind.i64.wrap ((pv-rd.a.zero)*qv)=(pv-rd.a.zero)*qv:=by rw[cS];omega
         have k3:IntKind.i64.wrap (sv+tv+(pv-rd.a.zero)*qv)=sv+(tv+(pv-rd.a.zero)*qv):=by rw[cS];omega
         have k4:IntKind.i64.wrap (c*(nc:Int))=c*(nc:Int):=by rw[cS];omega
         have k5:IntKind.i64.wrap (c*(nc:Int)+(k:Int))=c*(nc:Int)+(k:Int):=by rw[cS];omega
         have o1:=Mk.out.o1;have i0:=Mk.out.i0;clear lJ ia icr iw rp rq mm t1 t2 mcc;go_wp2_with fail;refine(tE.out _ Rk.out).mono ?_;rintro e wa⟨rfl,TW,EG⟩;have wJ:=bF wr TW none;rw[<-EG] at wJ;have Ma:=ae (Mk.out.Z wJ);have Ra:=ae (Rk.out.Z wJ);have TX:=ae (aC jH.out wJ);have ac':=aG wJ ac;clear EG wJ o1 i0 ac tE;have o1:=Ma.out.o1;have i1:=Ma.out.i1;go_wp2_with fail;go_quiet (exact Calls.quiet_of (rR.out _ (Ra.out.Z (bF _ _ none))));have C8:=bF wa nq none;have Mb:=ae (Ma.out.Z C8);have TY:=ae (aC TX.out C8);clear C8 o1 i1 ac' rR;generalize wa.drewN nq=wb at *;have az:=Mb.out.az;go_wp2;go_roundw
         case rel=>exact⟨k+1,by omega,by rw[KC.out],by go_num,TY.out⟩
         case measure=>simp[intOf];omega
        ·obtain rfl:k=nc:=by omega
         go_wp2;go_roundw
         case rel=>exact⟨j+1,by omega,by rw[He.out],by go_num,jH.out⟩
         case measure=>simp[intOf];omega
    ·obtain rfl:j=nv:=by omega
     have He:=ae (show R.ws o rd y x c (i+1) 0=R.ws o rd y x c i j by rw[R.aqV,show rd.w.w.toNat=j by rw[OQ.out];omega]);go_wp2;go_roundw
     case rel=>exact⟨i+1,by omega,by rw[He.out],by go_num,tr.out⟩
     case measure=>simp[intOf];omega
  ·obtain rfl:i=nh:=by omega
   have He:=ae (show R.ws o rd y x c i 0=D.tS o rd y x c by rw[<-R.aqW,show rd.w.h.toNat=i by rw[OP.out];omega]);rw[He.out];go_wp2;go_ret;exact⟨rfl,aC G5.out C6.out⟩
end Go.Proofs.YtcnhfffgbamonabGreat
