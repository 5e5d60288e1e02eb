import Derived.Test.YtcnhfffgbamonaaGreatZ54
set_option maxRecDepth 100000
set_option maxHeartbeats 6400000
namespace Go.Proofs.YtcnhfffgbamonaaGreat
open Go.Proofs.Tryz
open RowKit
structure Pp(w:World)(r gb ga c1 p off gi ci gn cn pq:Nat)(na nw ni st sm af:Int)(a wt:M.Tn)(nA nW:Nat):Prop where
 q0:w.cell? ⟨r,0,none⟩=some (.pointer (some ⟨gb,0,none⟩))
 q2:w.cell? ⟨gb,0,none⟩=some (.slice (some ⟨ga,0,none⟩) pq c1)
 o0:w.cell? ⟨p,off,none⟩=some (.int .i64 af)
 o1:w.cell? ⟨p,off+1,none⟩=some (.slice (some ⟨gi,0,none⟩) 3 ci)
 o3:w.cell? ⟨p,off+3,none⟩=some (.slice (some ⟨gn,0,none⟩) 6 cn)
 i0:w.cell? ⟨gi,0,none⟩=some (.int .i64 na)
 i1:w.cell? ⟨gi,1,none⟩=some (.int .i64 nw)
 i2:w.cell? ⟨gi,2,none⟩=some (.int .i64 ni)
 n0:w.cell? ⟨gn,0,none⟩=some (.int .i64 st)
 n1:w.cell? ⟨gn,1,none⟩=some (.int .i64 sm)
 ah:w.cell? ⟨ga,nA*6+1,none⟩=some (.int .i64 a.h)
 aw:w.cell? ⟨ga,nA*6+2,none⟩=some (.int .i64 a.w)
 ac:w.cell? ⟨ga,nA*6+3,none⟩=some (.int .i64 a.c)
 az:w.cell? ⟨ga,nA*6+4,none⟩=some (.int .i64 a.zero)
 wh:w.cell? ⟨ga,nW*6+1,none⟩=some (.int .i64 wt.h)
 ww:w.cell? ⟨ga,nW*6+2,none⟩=some (.int .i64 wt.w)
theorem Pp.Z{w w':World}{r gb ga c1 p off gi ci gn cn pq:Nat}{na nw ni st sm af:Int}{a wt:M.Tn}{nA nW:Nat}(h:Pp w r gb ga c1 p off gi ci gn cn pq na nw ni st sm af a wt nA nW)(hg:w.grownBy w' none):Pp w' r gb ga c1 p off gi ci gn cn pq na nw ni st sm af a wt nA nW:=
 ⟨aG hg h.q0,aG hg h.q2,aG hg h.o0,aG hg h.o1,aG hg h.o3,aG hg h.i0,aG hg h.i1,aG hg h.i2,aG hg h.n0,aG hg h.n1,aG hg h.ah,aG hg h.aw,aG hg h.ac,aG hg h.az,aG hg h.wh,aG hg h.ww⟩
theorem asI(r gb ga c1 cb p off:Nat)(g:R.bX)(E:List (List Int))(o:M.Op)(na nw ni:Nat)(tb:M.Tn)(rd:D.gH)(y x c:Int)(w:World)(hR:jB w r gb ga c1 cb g E)(hO:j6 w p off (R.bJ o))
  (cY:(R.bJ o).ins=[(na:Int),(nw:Int),(ni:Int)]) (p8:∃r4,(R.bJ o).cO=o.aE::(if o.same=true then 1 else 0)::r4/\r4.length=4)
  (ta:g.ts[na]?=some rd.a) (tw:g.ts[nw]?=some rd.w) (tbi:g.ts[ni]?=some tb) (ea:E[na]?=some rd.la) (ew:E[nw]?=some rd.lw) (eb:E[ni]?=some rd.mM) (hb:0<=tb.w/\tb.w<=255/\0<=tb.c/\tb.c<=255) (hW:R.Win o rd y x c):
 Calls prog 125 #[.pointer (some ⟨r,0,none⟩),.pointer (some ⟨p,off,none⟩),.int .i64 y,.int .i64 x,.int .i64 c] w fun e w'=>e=.returned (.int .i64 (D.uf o rd y x c))/\w.grownBy w' none:=by
 obtain⟨r4,tN,vU⟩:=p8;obtain⟨ai,ci,an,cn,o0,o1,o2,o3,hI,hN⟩:=hO;rw[cY] at hI o1;rw[tN] at hN o3;obtain⟨gi,e1,-,-,i0⟩:=hI.get 0 (na:Int) rfl;subst e1;obtain⟨_,e1,-,-,i1⟩:=hI.get 1 (nw:Int) rfl;injection e1 with e1;injection e1 with e1 _ _;subst e1;obtain⟨_,e1,-,-,i2⟩:=hI.get 2 (ni:Int) rfl;injection e1 with e1;injection e1 with e1 _ _;subst e1;obtain⟨gn,e1,-,-,n0⟩:=hN.get 0 o.aE rfl;subst e1;obtain⟨_,e1,-,-,n1⟩:=hN.get 1 (if o.same=true then 1 else 0) rfl;injection e1 with e1;injection e1 with e1 _ _;subst e1;have pQ:(o.aE::(if o.same=true then (1:Int) else 0)::r4).length=6:=by simp[vU]
 rw[pQ] at o3;have lh:([(na:Int),(nw:Int),(ni:Int)]:List Int).length=3:=rfl;rw[lh] at o1;have q0:=hR.p;have q2:=hR.t.q;have hA:=hR.t.t na rd.a ta;have Us:=hR.t.t nw rd.w tw;have hla:=M.bP ta;have hlw:=M.bP tw;have wG:=hR.pd;have Qs:((if o.same=true then (1:Int) else 0)==1)=o.same:=by cases o.same<;>rfl
 have HR:=ae hR;have Ut:=ae hW;have Eb:=ae ta;have Ns:=ae tw;have Hea:=ae ea;have Hew:=ae ew;have KY:((R.bJ o).af:Int)=o.af:=rfl;rw[KY] at o0;have ah:=hA.h;have aw:=hA.v;have ac:=hA.c;have az:=hA.z;have wh:=Us.h;have ww:=Us.v;have L1:=D.QT (length:=rd.a.h) (n:=rd.w.h) (s:=o.aE) o.same (by have:=hW.ah;omega) hW.st.1 hW.wh.1;have L2:=D.QT (length:=rd.a.w) (n:=rd.w.w) (s:=o.aE) o.same (by have:=hW.aw;omega) hW.st.1 hW.ww.1;have R1:=R.aes (n:=rd.w.h) (s:=o.aE) o.same hW.ah.1 hW.ah.2 hW.wh.1 hW.wh.2 hW.st.1 hW.st.2;have R2:=R.aes (n:=rd.w.w) (s:=o.aE) o.same hW.aw.1 hW.aw.2 hW.ww.1 hW.ww.2 hW.st.1 hW.st.2;have jq:=ae (fun W=>adr rd.a.h rd.w.h o.aE o.same W (by have:=hW.ah;omega) (by have:=hW.ah;omega) (by have:=hW.wh;omega) (by have:=hW.wh;omega) hW.st.1 (by have:=hW.st;omega));have jd:=ae (fun W=>adr rd.a.w rd.w.w o.aE o.same W (by have:=hW.aw;omega) (by have:=hW.aw;omega) (by have:=hW.ww;omega) (by have:=hW.ww;omega) hW.st.1 (by have:=hW.st;omega));rw[L1] at jq;rw[L2] at jd;have sx:=ae (fun(W:World) (h:jB W r gb ga c1 cb g E)=>uZ r gb ga c1 cb g E ni tb rd.mM 0 0 c W h tbi eb (by omega) (by omega) (by have:=hW.cr;omega) ⟨hb.1,hb.2.1⟩ hb.2.2 (by rw[Int.zero_mul,Int.zero_add,Int.zero_mul,Int.zero_add];exact hW.cr.1) (by rw[Int.zero_mul,Int.zero_add,Int.zero_mul,Int.zero_add];exact hW.bi) (by have:=hW.bl;omega));have eB:D.bN tb rd.mM 0 0 c=R.ws o rd y x c 0 0:=by rw[R.arZ];unfold D.bN;rw[Int.zero_mul,Int.zero_add,Int.zero_mul,Int.zero_add]
 rw[eB] at sx;obtain⟨um,aew⟩:∃t,Hid (D.kM rd.a.h rd.w.h o.aE o.same=t):=⟨_,rfl⟩;obtain⟨left,aex⟩:∃t,Hid (D.kM rd.a.w rd.w.w o.aE o.same=t):=⟨_,rfl⟩;rw[aew.out] at jq R1;rw[aex.out] at jd R2;obtain⟨smv,asM⟩:∃n,Hid ((if o.same=true then (1:Int) else 0)=n):=⟨_,rfl⟩;rw[asM.out] at n1 Qs;have HM:Hid (Pp w r gb ga c1 p off gi ci gn cn g.ts.length na nw ni o.aE smv o.af rd.a rd.w na nw):=⟨q0,q2,o0,o1,o3,i0,i1,i2,n0,n1,ah,aw,ac,az,wh,ww⟩;obtain⟨pq,KZ⟩:∃n,Hid (g.ts.length=n):=⟨_,rfl⟩;rw[KZ.out] at q2 hla hlw wG HM;clear hI hN tN hR hA Us ta tw ea ew eb tbi L1 L2 cY hW hb eB lh pQ vU KY o0 o1 o2 o3 i0 i1 i2 n0 n1 ah aw ac az wh ww q0 q2;have q0:=HM.out.q0;have q2:=HM.out.q2;have o1:=HM.out.o1;have i0:=HM.out.i0;go_enter func125,ntmps125;go_wp2_with fail;go_quiet(fail);have G1:=ae (bE w nq none);have M1:=ae (HM.out.Z G1.out);clear q0 q2 o1 i0;generalize w.drewN nq=w1 at *;have q0:=M1.out.q0;have q2:=M1.out.q2;have o1:=M1.out.o1;have i1:=M1.out.i1;go_wp2_with fail;go_quiet(fail);have g2:=bE w1 nq none;have G2:=ae (aC G1.out g2);have M2:=ae (M1.out.Z g2);clear q0 q2 o1 i1 g2 M1 G1;generalize w1.drewN nq=w2 at *;have o3:=M2.out.o3;have n0:=M2.out.n0;have n1:=M2.out.n1;have ah:=M2.out.ah;have wh:=M2.out.wh;go_wp2_with fail;go_quiet(exact mU (jq.out _));have g3:=bE w2 nq none;have G3:=ae (aC G2.out g3);have M3:=ae (M2.out.Z g3);clear o3 n0 n1 ah wh g3 M2 G2 jq;generalize w2.drewN nq=w3 at *;have o3:=M3.out.o3;have n1:=M3.out.n1;have aw:=M3.out.aw;have ww:=M3.out.ww;go_wp2_with fail;go_quiet(exact mU (jd.out _));have g4:=bE w3 nq none;have G4:=ae (aC G3.out g4);have M4:=ae (M3.out.Z g4);clear o3 n1 aw ww g4 M3 G3;generalize w3.drewN nq=w4 at *;have o1:=M4.out.o1;have i2:=M4.out.i2;go_wp2_with fail;refine(sx.out w4 (HR.out.Z G4.out)).mono ?_;rintro e w5⟨rfl,nd5,rfl⟩
 have g5:=bE w4 nd5 none;have G5:=ae (aC G4.out g5);have M5:=ae (M4.out.Z g5);clear o1 i2 g5 M4 G4 jd sx;generalize w4.drewN nd5=w5 at *;have hW:=Ut.out;have mys:=O.kR (a:=y) (b:=o.aE) (A:=255) (B:=255) (by have:=hW.yr;omega) (by have:=hW.st;omega);have mxs:=O.kR (a:=x) (b:=o.aE) (A:=255) (B:=255) (by have:=hW.xr;omega) (by have:=hW.st;omega);have wy:IntKind.i64.wrap (y*o.aE)=y*o.aE:=by rw[cU];omega
 have wx:IntKind.i64.wrap (x*o.aE)=x*o.aE:=by rw[cU];omega
 have Hru:Hid (∀i:Nat,R.ru o rd y i=y*o.aE-um+i):=fun i=>by unfold R.ru;rw[aew.out]
 have Hrv:Hid (∀j:Nat,R.rv o rd x j=x*o.aE-left+j):=fun j=>by unfold R.rv;rw[aex.out]
 obtain⟨ys,Hys⟩:∃v,Hid (y*o.aE=v):=⟨_,rfl⟩;obtain⟨xs,Hxs⟩:∃v,Hid (x*o.aE=v):=⟨_,rfl⟩;rw[Hys.out] at mys Hru;rw[Hxs.out] at mxs Hrv;have wy':IntKind.i64.wrap (y*o.aE)=ys:=by rw[wy];exact Hys.out
 have wx':IntKind.i64.wrap (x*o.aE)=xs:=by rw[wx];exact Hxs.out
 clear wy wx;have hwh:=hW.wh;have hww:=hW.ww;have Uu:=hW.ac;have GF:=hW.cr;obtain⟨nh,Uv⟩:=fT (show 0<=rd.w.h by omega);obtain⟨nv,Uw⟩:=fT (show 0<=rd.w.w by omega);obtain⟨nc,FC⟩:=fT (show 0<=rd.a.c by omega);have Pq:=ae Uv;have Pr:=ae Uw;have K8:=ae FC;rw[Uv] at hwh;rw[Uw] at hww;rw[FC] at Uu;have E0:=ae (fun(i j:Nat) (hi:i<=255) (hj:j<=255)=>R.ar3 (o:=o) hW.wU y x c hi hj hW.ww.2);have haz:=hW.wU.za;clear hW Uv Uw FC;go_wp2;go_loopw[16,17] (fun s iv wr=>∃i:Nat,i<=nh/\s=.int .i64 (R.ws o rd y x c i 0)/\iv=.int .i64 i/\Hid (w5.grownBy wr none)) (fun _ iv _=>nh-(intOf iv).toNat)
 case atStart=>exact⟨0,bK _,rfl,rfl,fZ _ _⟩
 case round=>
  obtain⟨i,hi,rfl,rfl,Dn⟩:=hrel;have wh:wr.cell? ⟨ga,nw*6+1,none⟩=some (.int .i64 nh):=by rw[<-Pq.out];exact(M5.out.Z Dn.out).wh
  by_cases aJ:i<nh
  ·go_wp2
   clear wh;go_loopw[16,18] (fun s jv wr=>∃j:Nat,j<=nv/\s=.int .i64 (R.ws o rd y x c i j)/\jv=.int .i64 j/\Hid (w5.grownBy wr none)) (fun _ jv _=>nv-(intOf jv).toNat)
   case atStart=>exact⟨0,bK _,rfl,rfl,Dn.out⟩
   case round=>
    clear Dn;obtain⟨j,hj,rfl,rfl,tK⟩:=hrel;have ww:wr.cell? ⟨ga,nw*6+2,none⟩=some (.int .i64 nv):=by rw[<-Pr.out];exact(M5.out.Z tK.out).ww
    by_cases Gf:j<nv
    ·have Mj:=ae (M5.out.Z tK.out)
     have Rj:=ae (HR.out.Z (aC G5.out tK.out));have o1:=Mj.out.o1;have i0:=Mj.out.i0;obtain⟨u,Hu⟩:∃u,Hid (R.ru o rd y i=u):=⟨_,rfl⟩;obtain⟨v,Hv⟩:∃v,Hid (R.rv o rd x j=v):=⟨_,rfl⟩;have hu:ys-um+(i:Int)=u:=by rw[<-Hu.out,Hru.out]
     have hv:xs-left+(j:Int)=v:=by rw[<-Hv.out,Hrv.out]
     have wu1:IntKind.i64.wrap (ys-um)=ys-um:=by rw[cU];omega
     have wu2:IntKind.i64.wrap (ys-um+(i:Int))=u:=by rw[hu,cU];omega
     have wv1:IntKind.i64.wrap (xs-left)=xs-left:=by rw[cU];omega
     have wv2:IntKind.i64.wrap (xs-left+(j:Int))=v:=by rw[hv,cU];omega
     have ru1:-200000<=u/\u<=200000:=by omega
     have rv1:-200000<=v/\v<=200000:=by omega
     have Ux:=ae (R.ar0 o rd y x c i j);have xV:=E0.out i j (by omega) (by omega);have zt:=E0.out i (j+1) (by omega) (by omega);have HCi:=ae (aeo r gb ga c1 cb g E na rd.a u v wr Rj.out Eb.out);clear hu hv;go_wp2_with fail;refine HCi.out.mono ?_;rintro e wz⟨rfl,K9⟩;subst K9;clear HCi o1 i0 ww wu1 wu2 wv1 wv2
     cases cY:D.oq rd.a u v with
     |false=>
      have He:=ae (show R.ws o rd y x c i (j+1)=R.ws o rd y x c i j by rw[Ux.out,R.ar4 (by rw[Hu.out,Hv.out];exact cY)];omega);clear cY;go_wp2;go_roundw
      case rel=>exact⟨j+1,by omega,by rw[He.out],by go_num,tK.out⟩
      case measure=>simp[intOf];omega
     |true=>
      have GJ:=ae cY;clear cY;have o0:=Mj.out.o0;have o1:=Mj.out.o1;have i0:=Mj.out.i0;have i1:=Mj.out.i1;have az:=Mj.out.az;have lX:=Ut.out;by_cases qo:o.af=2
      ·have b2:(o.af==2)=true:=by simp[qo]
       obtain⟨Jx,Jy⟩:=lX.asF qo;have ia:=R.wV lX.la GJ.out GF.1 Jy;have iw:=R.wV (y:=(i:Int)) (x:=(j:Int)) (c:=c) lX.lw ((O.s8 _ _ _).mpr ⟨by omega,by rw[Pq.out];omega,by omega,by rw[Pr.out];omega⟩) GF.1 Jx;have He:=ae (show R.ws o rd y x c i (j+1)=R.ws o rd y x c i j+(D.bN rd.a rd.la u v c-rd.a.zero)*D.bN rd.w rd.lw i j c by rw[Ux.out,R.ar5 (by rw[Hu.out,Hv.out];exact GJ.out) qo,Hu.out,Hv.out]);obtain⟨u0,u1,v0,v1⟩:=(O.s8 _ _ _).mp GJ.out;have hah:=lX.ah;have Uy:=lX.aw;have tR:=ae (fun(W:World) (h:jB W r gb ga c1 cb g E)=>uZ r gb ga c1 cb g E na rd.a rd.la u v c W h Eb.out Hea.out (by omega) (by omega) (by omega) ⟨by omega,Uy.2⟩ ⟨by have:=lX.ac;omega,lX.ac.2⟩ ia.1 ia.2 (by have:=lX.Po;omega));have se:=ae (fun(W:World) (h:jB W r gb ga c1 cb g E)=>uZ r gb ga c1 cb g E nw rd.w rd.lw i j c W h Ns.out Hew.out (by omega) (by omega) (by omega) ⟨by have:=lX.ww;omega,lX.ww.2⟩ ⟨by have:=lX.wc;omega,lX.wc.2⟩ iw.1 iw.2 (by have:=lX.lw5;omega));have rp:=R.uW (t:=rd.a) lX.wU.ca u v c;have rq:=R.uW (t:=rd.w) lX.wU.cw (i:Int) (j:Int) c;obtain⟨pv,GK⟩:∃v',Hid (D.bN rd.a rd.la u v c=v'):=⟨_,rfl⟩;obtain⟨qv,Dp⟩:∃v',Hid (D.bN rd.w rd.lw i j c=v'):=⟨_,rfl⟩;rw[GK.out] at rp tR He;rw[Dp.out] at rq se He;have mm:=O.yS rp haz rq;rw[He.out] at zt;obtain⟨sv,m9⟩:∃v',Hid (R.ws o rd y x c i j=v'):=⟨_,rfl⟩;rw[m9.out] at xV zt He ⊢;have k1:IntKind.i64.wrap (pv-rd.a.zero)=pv-rd.a.zero:=by rw[cU];omega
       have k2:IntKind.i64.wrap ((pv-rd.a.zero)*qv)=(pv-rd.a.zero)*qv:=by rw[cU];omega
       have k3:IntKind.i64.wrap (sv+(pv-rd.a.zero)*qv)=sv+(pv-rd.a.zero)*qv:=by rw[cU];omega
       clear lX ia iw Jx Jy u0 u1 v0 v1 hah Uy rp rq mm xV zt;go_wp2_with fail;refine(tR.out _ Rj.out).mono ?_;rintro e wa⟨rfl,Uz,E1⟩;have wW:=bE wz Uz none;rw[<-E1] at wW;have Ma:=ae (Mj.out.Z wW);have Ra:=ae (Rj.out.Z wW);have UA:=ae (aC tK.out wW);clear E1 wW o0 o1 i0 i1 az;have o1:=Ma.out.o1;have i1:=Ma.out.i1;go_wp2_with fail;refine(se.out _ Ra.out).mono ?_;rintro e wb⟨rfl,Kn,Bs⟩;have Dq:=bE wa Kn none;rw[<-Bs] at Dq;have Mb:=ae (Ma.out.Z Dq);have UB:=ae (aC UA.out Dq);clear Bs Dq o1 i1 tR se;have az:=Mb.out.az;go_wp2;go_roundw
       case rel=>exact⟨j+1,by omega,by rw[He.out],by go_num,UB.out⟩
       case measure=>simp[intOf];omega
      ·have b2:(o.af==2)=false:=by simp[qo]
       obtain⟨u0,u1,v0,v1⟩:=(O.s8 _ _ _).mp GJ.out;have hah:=lX.ah;have Uy:=lX.aw;have He:=ae (show R.ws o rd y x c i (j+1)=R.ws o rd y x c i j+D.S (R.iO rd u v c i j) nc by rw[Ux.out,R.ar6 (by rw[Hu.out,Hv.out];exact GJ.out) qo,Hu.out,Hv.out,show rd.a.c.toNat=nc by rw[K8.out];omega]);obtain⟨sv,m9⟩:∃v',Hid (R.ws o rd y x c i j=v'):=⟨_,rfl⟩;rw[m9.out] at xV He ⊢;have UC:Hid (∀k:Nat,k<nc->0<=(u*rd.a.w+v)*rd.a.c+k/\(u*rd.a.w+v)*rd.a.c+k<rd.la.length):=fun k hk=>R.wV lX.la GJ.out (by omega) (by rw[K8.out];omega);have asT:Hid (∀k:Nat,k<nc->(0<=c*rd.a.c+k/\c*rd.a.c+k<=255)/\0<=((i:Int)*rd.w.w+j)*rd.w.c+(c*rd.a.c+k)/\((i:Int)*rd.w.w+j)*rd.w.c+(c*rd.a.c+k)<rd.lw.length):=fun k hk=>by
        have f:=lX.s9 qo k (by omega) (by rw[K8.out];omega);have:=lX.wc;exact⟨⟨f.1,by omega⟩,R.wV (y:=(i:Int)) (x:=(j:Int)) (c:=c*rd.a.c+k) lX.lw ((O.s8 _ _ _).mpr ⟨by omega,by rw[Pq.out];omega,by omega,by rw[Pr.out];omega⟩) f.1 f.2⟩
       have aeI:=ae (fun(n:Nat) (hn:n<=255)=>R.aeh lX.wU u v c i j n hn);have mcc:=O.kR (a:=c) (b:=rd.a.c) (A:=255) (B:=255) (by omega) (by have:=lX.ac;omega);go_wp2;clear o0 o1 i0 i1 az;go_loopw[16,24] (fun s kv wr=>∃k:Nat,k<=nc/\s=.int .i64 (sv+D.S (R.iO rd u v c i j) k)/\kv=.int .i64 k/\Hid (w5.grownBy wr none)) (fun _ kv _=>nc-(intOf kv).toNat)
       case atStart=>exact⟨0,bK _,by show _=Value.int .i64 (sv+0);rw[Int.add_zero],rfl,tK.out⟩
       case round=>
        clear tK;obtain⟨k,rL,rfl,rfl,jK⟩:=hrel;have Mk:=ae (M5.out.Z jK.out);have Rk:=ae (HR.out.Z (aC G5.out jK.out));have ac:wr.cell? ⟨ga,na*6+3,none⟩=some (.int .i64 nc):=by rw[<-K8.out];exact Mk.out.ac
        by_cases zE:k<nc
        ·have lM:=Ut.out
         have ia:=UC.out k zE;obtain⟨icr,iw⟩:=asT.out k zE;have tR:=ae (fun(W:World) (h:jB W r gb ga c1 cb g E)=>uZ r gb ga c1 cb g E na rd.a rd.la u v k W h Eb.out Hea.out (by omega) (by omega) (by omega) ⟨by have:=lM.aw;omega,lM.aw.2⟩ ⟨by have:=lM.ac;omega,lM.ac.2⟩ ia.1 ia.2 (by have:=lM.Po;omega));have se:=ae (fun(W:World) (h:jB W r gb ga c1 cb g E)=>uZ r gb ga c1 cb g E nw rd.w rd.lw i j (c*rd.a.c+k) W h Ns.out Hew.out (by omega) (by omega) (by omega) ⟨by have:=lM.ww;omega,lM.ww.2⟩ ⟨by have:=lM.wc;omega,lM.wc.2⟩ iw.1 iw.2 (by have:=lM.lw5;omega));have rp:=R.uW (t:=rd.a) lM.wU.ca u v k;have rq:=R.uW (t:=rd.w) lM.wU.cw (i:Int) (j:Int) (c*rd.a.c+k);have La:Hid (D.S (R.iO rd u v c i j) (k+1)=D.S (R.iO rd u v c i j) k+(D.bN rd.a rd.la u v k-rd.a.zero)*D.bN rd.w rd.lw i j (c*rd.a.c+k)):=rfl;have t1:=aeI.out k (by omega);have t2:=aeI.out (k+1) (by omega);rw[La.out] at t2;obtain⟨pv,GK⟩:∃v',Hid (D.bN rd.a rd.la u v k=v'):=⟨_,rfl⟩;obtain⟨qv,Dp⟩:∃v',Hid (D.bN rd.w rd.lw i j (c*rd.a.c+k)=v'):=⟨_,rfl⟩;rw[GK.out] at rp tR La t2;rw[Dp.out] at rq se La t2;have mm:=O.yS rp haz rq;obtain⟨tv,UD⟩:∃v',Hid (D.S (R.iO rd u v c i j) k=v'):=⟨_,rfl⟩;rw[UD.out] at t1 t2 La ⊢;rw[K8.out] at mcc icr se;have k1:IntKind.i64.wrap (pv-rd.a.zero)=pv-rd.a.zero:=by rw[cU];omega
         have k2:IntKind.i64.wrap ((pv-rd.a.zero)*qv)=(pv-rd.a.zero)*qv:=by rw[cU];omega
         have k3:IntKind.i64.wrap (sv+tv+(pv-rd.a.zero)*qv)=sv+(tv+(pv-rd.a.zero)*qv):=by rw[cU];omega
         have k4:IntKind.i64.wrap (c*(nc:Int))=c*(nc:Int):=by rw[cU];omega
         have k5:IntKind.i64.wrap (c*(nc:Int)+(k:Int))=c*(nc:Int)+(k:Int):=by rw[cU];omega
         have o1:=Mk.out.o1;have i0:=Mk.out.i0;clear lM ia icr iw rp rq mm t1 t2 mcc;go_wp2_with fail;refine(tR.out _ Rk.out).mono ?_;rintro e wa⟨rfl,Uz,E1⟩;have wW:=bE wr Uz none;rw[<-E1] at wW;have Ma:=ae (Mk.out.Z wW);have Ra:=ae (Rk.out.Z wW);have UA:=ae (aC jK.out wW);have ac':=aG wW ac;clear E1 wW o1 i0 ac tR;have o1:=Ma.out.o1;have i1:=Ma.out.i1;go_wp2_with fail;go_quiet(exact Calls.quiet_of (se.out _ (Ra.out.Z (bE _ _ none))));have Dq:=bE wa nq none;have Mb:=ae (Ma.out.Z Dq);have UB:=ae (aC UA.out Dq);clear Dq o1 i1 ac' se;generalize wa.drewN nq=wb at *;have az:=Mb.out.az;go_wp2;go_roundw
         case rel=>exact⟨k+1,by omega,by rw[La.out],by go_num,UB.out⟩
         case measure=>simp[intOf];omega
        ·obtain rfl:k=nc:=by omega
         go_wp2;go_roundw
         case rel=>exact⟨j+1,by omega,by rw[He.out],by go_num,jK.out⟩
         case measure=>simp[intOf];omega
    ·obtain rfl:j=nv:=by omega
     have He:=ae (show R.ws o rd y x c (i+1) 0=R.ws o rd y x c i j by rw[R.ar1,show rd.w.w.toNat=j by rw[Pr.out];omega]);go_wp2;go_roundw
     case rel=>exact⟨i+1,by omega,by rw[He.out],by go_num,tK.out⟩
     case measure=>simp[intOf];omega
  ·obtain rfl:i=nh:=by omega
   have He:=ae (show R.ws o rd y x c i 0=D.uf o rd y x c by rw[<-R.ar2,show rd.w.h.toNat=i by rw[Pq.out];omega]);rw[He.out];go_wp2;go_ret;exact⟨rfl,aC G5.out Dn.out⟩
end Go.Proofs.YtcnhfffgbamonaaGreat
